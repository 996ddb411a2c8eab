import PyProof.Rows.All
import Wide.All
import OpenK.AllK
import Wide.FinOn
import Lean
import PyProof.EqAt
import PyProof.EqKinds
import PyProof.TupleCall
import PyProof.P3Statements
import KE.KIntText
import KE.KRevIter
import KE.KSortTup
import KE.KDictSum
import KE.KIsAll
import PyProof.ExcAttrAll.ValueError
import PySem.Challenge.RW_penwright_k75_whole_steps_keep_the_pictu
open List(length_cons getElem?_eq_getElem append_assoc map_cons nil_append cons_append length_map getElem?_append_right length_nil mem_cons_of_mem map_nil append_nil length_append mem_append_right mem_singleton mem_cons_self getElem?_map take_append_drop set_cons_succ set_cons_zero getElem?_append_left mem_of_getElem? getD_eq_getElem?_getD replicate_succ flatten_cons take_of_length_le mem_append_left pairwise_singleton map_append map_map take_zero length_take getElem_mem length_drop getElem?_take_of_lt mem_cons length_range mem_of_mem_drop getElem?_cons_succ size_toArray drop_sublist getElem?_drop mem_of_mem_take mem_append take_sublist lookup_cons map_congr_left not_mem_nil ext_getElem? reverse_perm mem_map any_cons)
open Array(length_toList getElem?_toList toList_append toList_push)
set_option Elab.async false
set_option linter.all false
set_option maxRecDepth 100000
set_option maxHeartbeats 4000000
open PySem.W (fnOf fencedOpening topFrom LeftO xlAt recOk kHook openEnds methodObj findIn keepIn callWith_K cellsFrom_some codeIn nsIn kitOne kia_one mg_of KeysLit mapOf_K find_K mg_none_of)
open PySem.F (slot_tuple_add entry_tuple_add args_tuple_add_2)
noncomputable section
set_option compiler.extract_closed false
set_option hygiene false
local macro_rules|`([1])=>`(⟨rfl,rfl,rfl,by decide +kernel,rfl,by decide +kernel,by decide +kernel⟩)|`([2])=>`(by omega)|`([3])=>`(c3 (.int 0))|`([4])=>`(c3 (.int 1))|`([5])=>`(model prog w)|`([6])=>`(@xb0 P w K mg base)|`([7])=>`(.lst [.tup [.str "go",.int 0],.tup [.str "jump",.int 0],.tup [.str "turn",.int (4 * t - 4)],.tup [.str "times",.int 0,.tup [.tup [.str "go",.int 2]]]])|`([8])=>`(Value->Shared->Prop)
theorem Z0:3<=PySem.sizeLine:=by decide
theorem Z1:2<=PySem.sizeLine:=by decide
namespace L2
open PySem PySem.Spec PyProof.Rows
noncomputable def xj0 (s:Stmt):Arguments:=match s with
 | .FunctionDef _ a _ _ _ _ _ _ _ _=>a
 | _=>{ posonlyargs:=[],args:=[],vararg:=none,kwonlyargs:=[],kw_defaults:=[],kwarg:=none,defaults:=[] }
noncomputable def xe0 (s:Stmt):List Stmt:=match s with
 | .FunctionDef _ _ b _ _ _ _ _ _ _=>b
 | _=>[]
noncomputable def za0 (s:Stmt):Scope:=match s with
 | .FunctionDef _ _ _ _ _ _ sc _ _ _=>sc
 | _=>{ kind:=.function,names:=[],isGenerator:=false,isCoroutine:=false }
end L2
namespace Pv
open PySem PySem.Spec PyProof.Rows L2
noncomputable def top (i:Nat):Stmt:=PySem.Challenge.pw_penwright_k75_whole_steps_keep_the_pictu.main.body.getD i (.Pass ⟨0,0,0,0⟩)
noncomputable abbrev to2:Stmt:=top 14
noncomputable abbrev uo2:Stmt:=top 15
noncomputable abbrev vo2:Stmt:=top 16
noncomputable abbrev xp2:Stmt:=top 17
noncomputable abbrev xm2:Stmt:=top 18
noncomputable abbrev wp2:Stmt:=top 19
noncomputable abbrev vm2:Stmt:=top 20
noncomputable abbrev ul2:Stmt:=top 21
noncomputable abbrev vl2:Stmt:=top 22
noncomputable abbrev wl2:Stmt:=top 23
noncomputable abbrev wk2:Stmt:=top 24
noncomputable abbrev xo2:Stmt:=top 25
noncomputable abbrev sn2:Stmt:=top 26
noncomputable abbrev un2:Stmt:=top 27
noncomputable abbrev zo2:Stmt:=top 28
noncomputable abbrev yo2:Stmt:=top 29
noncomputable abbrev sm2:Stmt:=top 30
noncomputable abbrev xk2:Stmt:=top 34
noncomputable abbrev sj2:Stmt:=top 35
noncomputable abbrev yp2:Stmt:=top 36
noncomputable abbrev vn2:Stmt:=top 37
noncomputable abbrev yn2:Stmt:=top 38
noncomputable abbrev tm2:Stmt:=top 39
noncomputable abbrev ym2:Stmt:=top 40
noncomputable abbrev um2:Stmt:=top 41
noncomputable abbrev sk2:Stmt:=top 42
noncomputable abbrev xn2:Stmt:=top 43
noncomputable abbrev wm2:Stmt:=top 44
noncomputable abbrev wo2:Stmt:=top 45
noncomputable abbrev wn2:Stmt:=top 46
noncomputable abbrev zn2:Stmt:=top 47
noncomputable abbrev zp2:Stmt:=top 49
noncomputable abbrev uk2:Stmt:=top 51
noncomputable abbrev vk2:Stmt:=top 52
noncomputable abbrev yl2:Stmt:=top 53
noncomputable abbrev zl2:Stmt:=top 54
noncomputable abbrev zk2:Stmt:=top 55
noncomputable abbrev xl2:Stmt:=top 56
noncomputable abbrev yk2:Stmt:=top 57
noncomputable abbrev tp2:Stmt:=top 59
noncomputable abbrev tj2:Stmt:=top 60
noncomputable abbrev tn2:Stmt:=top 61
noncomputable abbrev up2:Stmt:=top 62
noncomputable abbrev zm2:Stmt:=top 63
noncomputable abbrev vp2:Stmt:=top 64
noncomputable abbrev sp2:Stmt:=top 65
noncomputable abbrev s_q8:Stmt:=top 67
noncomputable abbrev yq2:Stmt:=top 68
noncomputable abbrev s_q2:Stmt:=top 69
noncomputable abbrev s_q3:Stmt:=top 70
noncomputable abbrev s_q5:Stmt:=top 71
noncomputable abbrev s_q1:Stmt:=top 72
noncomputable abbrev s_q0:Stmt:=top 73
noncomputable abbrev s_q7:Stmt:=top 74
noncomputable abbrev s_q4:Stmt:=top 75
noncomputable abbrev xq2:Stmt:=top 76
noncomputable abbrev s_q9:Stmt:=top 77
noncomputable abbrev s_q6:Stmt:=top 78
noncomputable abbrev se1:Stmt:=top 79
noncomputable def en (P:Params) (x:Str) (t:Tok) (v:Value):DictEntry:=⟨PyData.keyHash P x,.str x t,v⟩
noncomputable def fo (x y:Str) (st:Stmt) (m c:Value):Obj:=⟨.type "function",none,.func (fnOf x y (xj0 st) (xe0 st) (za0 st) .none .none .none m none c .none),#[]⟩
noncomputable def co (x:Str) (a:Tok) (y:Str) (b c:Tok) (ns:List Int) (vs:List Value) (d e:Int) (f:Tok):Obj:=⟨.type "code",none,.fields (.str x a :: .str y b :: .str "/claim/cut.py" c :: (ns.map (λ n=>Value.int n 0) ++ (vs ++ [.int d 0,.int e 0,.str "/claim/cut.py" f]))).toArray,#[]⟩
noncomputable def fq (x:Str) (st:Stmt) (m c:Value):Obj:=fo x x st m c
noncomputable def cq (x:Str) (a:Tok) (ns:List Int) (vs:List Value) (d e:Int) (f:Tok):Obj:=co x a x (a + 1) (a + 2) ns vs d e f
noncomputable def tO (vs:List Value):Obj:=⟨.type "tuple",none,.seq vs.toArray 0,#[]⟩
noncomputable abbrev z6:Value:=.str "law_penwright_k75_whole_steps_keep_the_pictu" 722
noncomputable def z7 (x:Str) (s:Stmt) (c:Addr):Obj:=fo x x s z6 (.ref c)
noncomputable def z8 (x:Str) (a:Tok):=co x a x
noncomputable def z9 (P:Params) (x:Str) (t:Tok) (a:Addr):DictEntry:=en P x t (.ref a)
noncomputable def Z2 (x:Str):=fo x x
noncomputable abbrev Z3:Value:=.str "penwright.errors" 187
noncomputable abbrev Z4:Value:=.str "penwright.words" 255
noncomputable abbrev Z5:Value:=.str "penwright.steps" 419
noncomputable abbrev Z6:Value:=.str "penwright.pictures" 600
noncomputable abbrev Z7:Value:=.str "penwright.great" 657
noncomputable def KK:PySem.Params->PySem.W.Frag:=λ P=>(nat_lit 2,⟨.none,none,.dict #[] 0,#[]⟩) :: (nat_lit 3,⟨.type "dict",none,.dict #[en P "__name__" 165 z6,en P "__doc__" 166 (.none),en P "__package__" 167 (.none),en P "__loader__" 168 (.builtin "__main__.__loader__#opaque"),en P "__spec__" 169 (.none),z9 P "__annotations__" 170 6,z9 P "__builtins__" 171 4,en P "__file__" 173 (.str "/claim/cut.py" 172),en P "__cached__" 174 (.none),z9 P "PenError" 206 24,z9 P "NoWord" 222 37,z9 P "NoRoom" 238 49,z9 P "NoStep" 254 61,en P "MOST_DEEDS" 258 (.int 30 257),en P "MOST_DEEP" 260 (.int 4 259),en P "GREATEST_NUMBER" 262 (.int 99999999999999999999 261),en P "MOST_OF_SMALL" 264 (.int 400 263),z9 P "PLAIN_KINDS" 268 64,z9 P "KINDS_FROM_NOUGHT" 271 65,z9 P "START" 275 66,z9 P "AHEAD" 286 71,z9 P "check_word" 293 78,z9 P "checked_count" 303 85,z9 P "checked_deed_count" 311 92,z9 P "check_number" 319 99,z9 P "pen_after" 326 106,z9 P "carried" 334 113,z9 P "led" 345 120,z9 P "pen_behind" 354 127,z9 P "pen_behind_deed" 361 134,z9 P "pen_repeated" 371 141,z9 P "strokes_drawn" 378 148,z9 P "count_strokes" 384 153,z9 P "count_strokes_of_deed" 391 160,z9 P "deeds_done" 398 167,z9 P "count_done" 404 172,z9 P "count_done_of_deed" 411 179,z9 P "is_small" 418 186,z9 P "DEEDS_TAKEN" 442 187,z9 P "KINDS_WITH_NEED" 446 188,z9 P "walked" 456 195,z9 P "word_behind" 465 202,z9 P "changed_word" 476 209,z9 P "deeds_from" 485 216,z9 P "exchanged" 495 223,z9 P "join_deeds" 505 230,z9 P "part_deed" 515 237,z9 P "leave_out" 523 244,z9 P "put_in" 531 251,z9 P "is_idle" 538 258,z9 P "open_times" 546 265,z9 P "close_deeds" 554 272,z9 P "draw_once" 562 279,z9 P "draw_twice" 571 286,z9 P "CHANGES" 588 287,z9 P "changed_deeds" 599 294,z9 P "stroke_between" 610 301,z9 P "strokes_along" 616 306,z9 P "picture_with" 623 313,z9 P "picture_of" 630 320,z9 P "strokes_from" 641 327,z9 P "plain_deeds" 650 334,z9 P "strokes_of_go" 656 339,z9 P "box_of" 665 346,z9 P "word_box" 675 353,z9 P "deed_box" 682 360,z9 P "box_repeated" 693 367,z9 P "outermost_doings" 701 374,z9 P "box_round" 710 381,z9 P "box_from" 721 388,z9 P "_law_state" 732 395,z9 P "_law_take" 742 402,z9 P "_law_deed" 751 409,z9 P "_law_deeds" 762 416,z9 P "_law_idle" 769 423,z9 P "_law_change" 782 430,z9 P "_law_after" 793 437,z9 P "_law_size" 803 444,z9 P "_law_fits" 813 451,z9 P "_law_way" 819 456,z9 P "_law_step" 834 463,z9 P "_law_idle_one" 842 470,z9 P "law" 858 477] 83,#[]⟩) :: (nat_lit 15,tO [.type "ValueError"]) :: (nat_lit 22,tO []) :: (nat_lit 23,⟨.type "dict",none,.dict #[en P "__module__" 196 Z3,en P "__firstlineno__" 200 (.int 2 199),z9 P "__static_attributes__" 201 22,z9 P "__weakref__" 203 25,en P "__doc__" 204 (.none)] 3,#[]⟩) :: (nat_lit 24,⟨.type "type",none,.cls ⟨"PenError",[.type "ValueError"],[.ref 24,.type "ValueError",.type "Exception",.type "BaseException",.type "object"],23, "PenError",true,[],[.ref 37,.ref 49,.ref 61],false,none,false⟩,#[some (.ref 15),none,some (.str "PenError" 189),some (.str "PenError" 197),some (.builtin "ValueError.__new__"),some (.bool true)]⟩) :: (nat_lit 25,⟨.type "getset_descriptor",none,.fields #[.str "__weakref__" 202,.ref 24,.builtin "ExceptionGroup.__weakref__",.none],#[]⟩) :: (nat_lit 28,tO [.ref 24]) :: (nat_lit 35,tO []) :: (nat_lit 36,⟨.type "dict",none,.dict #[en P "__module__" 214 Z3,en P "__firstlineno__" 218 (.int 4 217),z9 P "__static_attributes__" 219 35,en P "__doc__" 220 (.none)] 2,#[]⟩) :: (nat_lit 37,⟨.type "type",none,.cls ⟨"NoWord",[.ref 24],[.ref 37,.ref 24,.type "ValueError",.type "Exception",.type "BaseException",.type "object"],36, "NoWord",true,[],[],false,none,false⟩,#[some (.ref 28),none,some (.str "NoWord" 207),some (.str "NoWord" 215),some (.builtin "ValueError.__new__"),some (.bool true)]⟩) :: (nat_lit 40,tO [.ref 24]) :: (nat_lit 47,tO []) :: (nat_lit 48,⟨.type "dict",none,.dict #[en P "__module__" 230 Z3,en P "__firstlineno__" 234 (.int 6 233),z9 P "__static_attributes__" 235 47,en P "__doc__" 236 (.none)] 2,#[]⟩) :: (nat_lit 49,⟨.type "type",none,.cls ⟨"NoRoom",[.ref 24],[.ref 49,.ref 24,.type "ValueError",.type "Exception",.type "BaseException",.type "object"],48, "NoRoom",true,[],[],false,none,false⟩,#[some (.ref 40),none,some (.str "NoRoom" 223),some (.str "NoRoom" 231),some (.builtin "ValueError.__new__"),some (.bool true)]⟩) :: (nat_lit 52,tO [.ref 24]) :: (nat_lit 59,tO []) :: (nat_lit 60,⟨.type "dict",none,.dict #[en P "__module__" 246 Z3,en P "__firstlineno__" 250 (.int 8 249),z9 P "__static_attributes__" 251 59,en P "__doc__" 252 (.none)] 2,#[]⟩) :: (nat_lit 61,⟨.type "type",none,.cls ⟨"NoStep",[.ref 24],[.ref 61,.ref 24,.type "ValueError",.type "Exception",.type "BaseException",.type "object"],60, "NoStep",true,[],[],false,none,false⟩,#[some (.ref 52),none,some (.str "NoStep" 239),some (.str "NoStep" 247),some (.builtin "ValueError.__new__"),some (.bool true)]⟩) :: (nat_lit 64,tO [.str "go" 265,.str "jump" 266,.str "turn" 267]) :: (nat_lit 65,tO [.str "go" 269,.str "times" 270]) :: (nat_lit 66,tO [.int 0 272,.int 0 273,.int 0 274]) :: (nat_lit 67,tO [.int 1 276,.int 0 277]) :: (nat_lit 68,tO [.int 0 278,.int 1 279]) :: (nat_lit 69,tO [.int (-1) 281,.int 0 282]) :: (nat_lit 70,tO [.int 0 283,.int (-1) 285]) :: (nat_lit 71,tO [.ref 67,.ref 68,.ref 69,.ref 70]) :: (nat_lit 77,cq "check_word" 287 [19,1,0,0,3] [.ref 72,.bool true,.int 181 0,.ref 73,.none,.ref 74,.ref 75,.ref 76] 291 19 292) :: (nat_lit 78,fq "check_word" to2 Z4 (.ref 77)) :: (nat_lit 84,cq "checked_count" 294 [21,2,0,0,3] [.ref 79,.bool true,.int 181 0,.ref 80,.none,.ref 81,.ref 82,.ref 83] 301 21 302) :: (nat_lit 85,fq "checked_count" uo2 Z4 (.ref 84)) :: (nat_lit 91,cq "checked_deed_count" 304 [32,2,0,0,3] [.ref 86,.bool true,.int 181 0,.ref 87,.none,.ref 88,.ref 89,.ref 90] 309 32 310) :: (nat_lit 92,fq "checked_deed_count" vo2 Z4 (.ref 91)) :: (nat_lit 98,cq "check_number" 312 [42,2,0,0,3] [.ref 93,.bool true,.int 181 0,.ref 94,.none,.ref 95,.ref 96,.ref 97] 317 42 318) :: (nat_lit 99,fq "check_number" xp2 Z4 (.ref 98)) :: (nat_lit 105,cq "pen_after" 320 [49,1,0,0,3] [.ref 100,.bool true,.int 181 0,.ref 101,.none,.ref 102,.ref 103,.ref 104] 324 49 325) :: (nat_lit 106,fq "pen_after" xm2 Z4 (.ref 105)) :: (nat_lit 112,cq "carried" 327 [51,2,0,0,3] [.ref 107,.bool true,.int 181 0,.ref 108,.none,.ref 109,.ref 110,.ref 111] 332 51 333) :: (nat_lit 113,fq "carried" wp2 Z4 (.ref 112)) :: (nat_lit 119,cq "led" 335 [54,2,0,0,3] [.ref 114,.bool true,.int 181 0,.ref 115,.none,.ref 116,.ref 117,.ref 118] 343 54 344) :: (nat_lit 120,fq "led" vm2 Z4 (.ref 119)) :: (nat_lit 126,cq "pen_behind" 346 [59,1,0,0,3] [.ref 121,.bool true,.int 181 0,.ref 122,.none,.ref 123,.ref 124,.ref 125] 352 59 353) :: (nat_lit 127,fq "pen_behind" ul2 Z4 (.ref 126)) :: (nat_lit 133,cq "pen_behind_deed" 355 [64,1,0,0,3] [.ref 128,.bool true,.int 181 0,.ref 129,.none,.ref 130,.ref 131,.ref 132] 359 64 360) :: (nat_lit 134,fq "pen_behind_deed" vl2 Z4 (.ref 133)) :: (nat_lit 140,cq "pen_repeated" 362 [70,2,0,0,3] [.ref 135,.bool true,.int 181 0,.ref 136,.none,.ref 137,.ref 138,.ref 139] 369 70 370) :: (nat_lit 141,fq "pen_repeated" wl2 Z4 (.ref 140)) :: (nat_lit 147,cq "strokes_drawn" 372 [77,1,0,0,3] [.ref 142,.bool true,.int 181 0,.ref 143,.none,.ref 144,.ref 145,.ref 146] 376 77 377) :: (nat_lit 148,fq "strokes_drawn" wk2 Z4 (.ref 147)) :: (nat_lit 152,cq "count_strokes" 379 [80,1,0,0,3] [.ref 149,.bool true,.int 181 0,.ref 150,.none,.none,.none,.ref 151] 382 80 383) :: (nat_lit 153,fq "count_strokes" xo2 Z4 (.ref 152)) :: (nat_lit 159,cq "count_strokes_of_deed" 385 [82,1,0,0,3] [.ref 154,.bool true,.int 181 0,.ref 155,.none,.ref 156,.ref 157,.ref 158] 389 82 390) :: (nat_lit 160,fq "count_strokes_of_deed" sn2 Z4 (.ref 159)) :: (nat_lit 166,cq "deeds_done" 392 [88,1,0,0,3] [.ref 161,.bool true,.int 181 0,.ref 162,.none,.ref 163,.ref 164,.ref 165] 396 88 397) :: (nat_lit 167,fq "deeds_done" un2 Z4 (.ref 166)) :: (nat_lit 171,cq "count_done" 399 [91,1,0,0,3] [.ref 168,.bool true,.int 181 0,.ref 169,.none,.none,.none,.ref 170] 402 91 403) :: (nat_lit 172,fq "count_done" zo2 Z4 (.ref 171)) :: (nat_lit 178,cq "count_done_of_deed" 405 [93,1,0,0,3] [.ref 173,.bool true,.int 181 0,.ref 174,.none,.ref 175,.ref 176,.ref 177] 409 93 410) :: (nat_lit 179,fq "count_done_of_deed" yo2 Z4 (.ref 178)) :: (nat_lit 185,cq "is_small" 412 [97,1,0,0,3] [.ref 180,.bool true,.int 181 0,.ref 181,.none,.ref 182,.ref 183,.ref 184] 416 97 417) :: (nat_lit 186,fq "is_small" sm2 Z4 (.ref 185)) :: (nat_lit 187,⟨.type "dict",none,.dict #[en P "join" 421 (.int 2 422),en P "part" 423 (.int 1 424),en P "out" 425 (.int 1 426),en P "in" 427 (.int 0 428),en P "open" 429 (.int 1 430),en P "once" 431 (.int 3 432),en P "twice" 433 (.int 1 434)] 7,#[]⟩) :: (nat_lit 188,tO [.str "part" 443,.str "in" 444,.str "close" 445]) :: (nat_lit 194,cq "walked" 447 [102,2,0,0,3] [.ref 189,.bool true,.int 181 0,.ref 190,.none,.ref 191,.ref 192,.ref 193] 454 102 455) :: (nat_lit 195,fq "walked" xk2 Z5 (.ref 194)) :: (nat_lit 201,cq "word_behind" 457 [108,2,0,0,3] [.ref 196,.bool true,.int 181 0,.ref 197,.none,.ref 198,.ref 199,.ref 200] 463 108 464) :: (nat_lit 202,fq "word_behind" sj2 Z5 (.ref 201)) :: (nat_lit 208,cq "changed_word" 466 [117,3,0,0,3] [.ref 203,.bool true,.int 181 0,.ref 204,.none,.ref 205,.ref 206,.ref 207] 474 117 475) :: (nat_lit 209,fq "changed_word" yp2 Z5 (.ref 208)) :: (nat_lit 215,cq "deeds_from" 477 [125,3,0,0,3] [.ref 210,.bool true,.int 181 0,.ref 211,.none,.ref 212,.ref 213,.ref 214] 483 125 484) :: (nat_lit 216,fq "deeds_from" vn2 Z5 (.ref 215)) :: (nat_lit 222,cq "exchanged" 486 [129,4,0,0,3] [.ref 217,.bool true,.int 181 0,.ref 218,.none,.ref 219,.ref 220,.ref 221] 493 129 494) :: (nat_lit 223,fq "exchanged" yn2 Z5 (.ref 222)) :: (nat_lit 229,cq "join_deeds" 496 [131,2,0,0,3] [.ref 224,.bool true,.int 181 0,.ref 225,.none,.ref 226,.ref 227,.ref 228] 503 131 504) :: (nat_lit 230,fq "join_deeds" tm2 Z5 (.ref 229)) :: (nat_lit 236,cq "part_deed" 506 [137,2,0,0,3] [.ref 231,.bool true,.int 181 0,.ref 232,.none,.ref 233,.ref 234,.ref 235] 513 137 514) :: (nat_lit 237,fq "part_deed" ym2 Z5 (.ref 236)) :: (nat_lit 243,cq "leave_out" 516 [143,2,0,0,3] [.ref 238,.bool true,.int 181 0,.ref 239,.none,.ref 240,.ref 241,.ref 242] 521 143 522) :: (nat_lit 244,fq "leave_out" um2 Z5 (.ref 243)) :: (nat_lit 250,cq "put_in" 524 [147,2,0,0,3] [.ref 245,.bool true,.int 181 0,.ref 246,.none,.ref 247,.ref 248,.ref 249] 529 147 530) :: (nat_lit 251,fq "put_in" sk2 Z5 (.ref 250)) :: (nat_lit 257,cq "is_idle" 532 [151,1,0,0,3] [.ref 252,.bool true,.int 181 0,.ref 253,.none,.ref 254,.ref 255,.ref 256] 536 151 537) :: (nat_lit 258,fq "is_idle" xn2 Z5 (.ref 257)) :: (nat_lit 264,cq "open_times" 539 [159,2,0,0,3] [.ref 259,.bool true,.int 181 0,.ref 260,.none,.ref 261,.ref 262,.ref 263] 544 159 545) :: (nat_lit 265,fq "open_times" wm2 Z5 (.ref 264)) :: (nat_lit 271,cq "close_deeds" 547 [163,2,0,0,3] [.ref 266,.bool true,.int 181 0,.ref 267,.none,.ref 268,.ref 269,.ref 270] 552 163 553) :: (nat_lit 272,fq "close_deeds" wo2 Z5 (.ref 271)) :: (nat_lit 278,cq "draw_once" 555 [165,2,0,0,3] [.ref 273,.bool true,.int 181 0,.ref 274,.none,.ref 275,.ref 276,.ref 277] 560 165 561) :: (nat_lit 279,fq "draw_once" wn2 Z5 (.ref 278)) :: (nat_lit 285,cq "draw_twice" 563 [169,2,0,0,3] [.ref 280,.bool true,.int 181 0,.ref 281,.none,.ref 282,.ref 283,.ref 284] 569 169 570) :: (nat_lit 286,fq "draw_twice" zn2 Z5 (.ref 285)) :: (nat_lit 287,⟨.type "dict",none,.dict #[z9 P "join" 572 230,z9 P "part" 573 237,z9 P "out" 574 244,z9 P "in" 575 251,z9 P "open" 576 265,z9 P "close" 577 272,z9 P "once" 578 279,z9 P "twice" 579 286] 8,#[]⟩) :: (nat_lit 293,cq "changed_deeds" 589 [175,2,0,0,3] [.ref 288,.bool true,.int 181 0,.ref 289,.none,.ref 290,.ref 291,.ref 292] 597 175 598) :: (nat_lit 294,fq "changed_deeds" zp2 Z5 (.ref 293)) :: (nat_lit 300,cq "stroke_between" 602 [183,2,0,0,3] [.ref 295,.bool true,.int 181 0,.ref 296,.none,.ref 297,.ref 298,.ref 299] 608 183 609) :: (nat_lit 301,fq "stroke_between" uk2 Z6 (.ref 300)) :: (nat_lit 305,cq "strokes_along" 611 [186,1,0,0,3] [.ref 302,.bool true,.int 181 0,.ref 303,.none,.none,.none,.ref 304] 614 186 615) :: (nat_lit 306,fq "strokes_along" vk2 Z6 (.ref 305)) :: (nat_lit 312,cq "picture_with" 617 [188,1,0,0,3] [.ref 307,.bool true,.int 181 0,.ref 308,.none,.ref 309,.ref 310,.ref 311] 621 188 622) :: (nat_lit 313,fq "picture_with" yl2 Z6 (.ref 312)) :: (nat_lit 319,cq "picture_of" 624 [190,1,0,0,3] [.ref 314,.bool true,.int 181 0,.ref 315,.none,.ref 316,.ref 317,.ref 318] 628 190 629) :: (nat_lit 320,fq "picture_of" zl2 Z6 (.ref 319)) :: (nat_lit 326,cq "strokes_from" 631 [194,2,0,0,3] [.ref 321,.bool true,.int 181 0,.ref 322,.none,.ref 323,.ref 324,.ref 325] 639 194 640) :: (nat_lit 327,fq "strokes_from" zk2 Z6 (.ref 326)) :: (nat_lit 333,cq "plain_deeds" 642 [202,1,0,0,3] [.ref 328,.bool true,.int 181 0,.ref 329,.none,.ref 330,.ref 331,.ref 332] 648 202 649) :: (nat_lit 334,fq "plain_deeds" xl2 Z6 (.ref 333)) :: (nat_lit 338,cq "strokes_of_go" 651 [210,2,0,0,3] [.ref 335,.bool true,.int 181 0,.ref 336,.none,.none,.none,.ref 337] 654 210 655) :: (nat_lit 339,fq "strokes_of_go" yk2 Z6 (.ref 338)) :: (nat_lit 345,cq "box_of" 659 [215,1,0,0,3] [.ref 340,.bool true,.int 181 0,.ref 341,.none,.ref 342,.ref 343,.ref 344] 663 215 664) :: (nat_lit 346,fq "box_of" tp2 Z7 (.ref 345)) :: (nat_lit 352,cq "word_box" 666 [218,1,0,0,3] [.ref 347,.bool true,.int 181 0,.ref 348,.none,.ref 349,.ref 350,.ref 351] 673 218 674) :: (nat_lit 353,fq "word_box" tj2 Z7 (.ref 352)) :: (nat_lit 359,cq "deed_box" 676 [225,1,0,0,3] [.ref 354,.bool true,.int 181 0,.ref 355,.none,.ref 356,.ref 357,.ref 358] 680 225 681) :: (nat_lit 360,fq "deed_box" tn2 Z7 (.ref 359)) :: (nat_lit 366,cq "box_repeated" 683 [233,3,0,0,3] [.ref 361,.bool true,.int 181 0,.ref 362,.none,.ref 363,.ref 364,.ref 365] 691 233 692) :: (nat_lit 367,fq "box_repeated" up2 Z7 (.ref 366)) :: (nat_lit 373,cq "outermost_doings" 694 [238,2,0,0,3] [.ref 368,.bool true,.int 181 0,.ref 369,.none,.ref 370,.ref 371,.ref 372] 699 238 700) :: (nat_lit 374,fq "outermost_doings" zm2 Z7 (.ref 373)) :: (nat_lit 380,cq "box_round" 702 [242,2,0,0,3] [.ref 375,.bool true,.int 181 0,.ref 376,.none,.ref 377,.ref 378,.ref 379] 708 242 709) :: (nat_lit 381,fq "box_round" vp2 Z7 (.ref 380)) :: (nat_lit 387,cq "box_from" 711 [249,2,0,0,3] [.ref 382,.bool true,.int 181 0,.ref 383,.none,.ref 384,.ref 385,.ref 386] 719 249 720) :: (nat_lit 388,fq "box_from" sp2 Z7 (.ref 387)) :: (nat_lit 394,cq "_law_state" 724 [257,2,0,0,3] [.ref 389,.bool true,.int 181 0,.ref 390,.none,.ref 391,.ref 392,.ref 393] 730 257 731) :: (nat_lit 395,fq "_law_state" s_q8 z6 (.ref 394)) :: (nat_lit 401,cq "_law_take" 733 [264,2,0,0,3] [.ref 396,.bool true,.int 181 0,.ref 397,.none,.ref 398,.ref 399,.ref 400] 740 264 741) :: (nat_lit 402,fq "_law_take" yq2 z6 (.ref 401)) :: (nat_lit 408,cq "_law_deed" 743 [274,2,0,0,3] [.ref 403,.bool true,.int 181 0,.ref 404,.none,.ref 405,.ref 406,.ref 407] 749 274 750) :: (nat_lit 409,fq "_law_deed" s_q2 z6 (.ref 408)) :: (nat_lit 415,cq "_law_deeds" 752 [283,3,0,0,3] [.ref 410,.bool true,.int 181 0,.ref 411,.none,.ref 412,.ref 413,.ref 414] 760 283 761) :: (nat_lit 416,fq "_law_deeds" s_q3 z6 (.ref 415)) :: (nat_lit 422,cq "_law_idle" 763 [293,1,0,0,3] [.ref 417,.bool true,.int 181 0,.ref 418,.none,.ref 419,.ref 420,.ref 421] 767 293 768) :: (nat_lit 423,fq "_law_idle" s_q5 z6 (.ref 422)) :: (nat_lit 429,cq "_law_change" 770 [297,3,0,0,3] [.ref 424,.bool true,.int 181 0,.ref 425,.none,.ref 426,.ref 427,.ref 428] 780 297 781) :: (nat_lit 430,fq "_law_change" s_q1 z6 (.ref 429)) :: (nat_lit 436,cq "_law_after" 783 [325,2,0,0,3] [.ref 431,.bool true,.int 181 0,.ref 432,.none,.ref 433,.ref 434,.ref 435] 791 325 792) :: (nat_lit 437,fq "_law_after" s_q0 z6 (.ref 436)) :: (nat_lit 443,cq "_law_size" 794 [341,1,0,0,3] [.ref 438,.bool true,.int 181 0,.ref 439,.none,.ref 440,.ref 441,.ref 442] 801 341 802) :: (nat_lit 444,fq "_law_size" s_q7 z6 (.ref 443)) :: (nat_lit 450,cq "_law_fits" 804 [350,1,0,0,3] [.ref 445,.bool true,.int 181 0,.ref 446,.none,.ref 447,.ref 448,.ref 449] 811 350 812) :: (nat_lit 451,fq "_law_fits" s_q4 z6 (.ref 450)) :: (nat_lit 455,cq "_law_way" 814 [356,2,0,0,3] [.ref 452,.bool true,.int 181 0,.ref 453,.none,.none,.none,.ref 454] 817 356 818) :: (nat_lit 456,fq "_law_way" xq2 z6 (.ref 455)) :: (nat_lit 462,cq "_law_step" 820 [363,2,0,0,3] [.ref 457,.bool true,.int 181 0,.ref 458,.none,.ref 459,.ref 460,.ref 461] 832 363 833) :: (nat_lit 463,fq "_law_step" s_q9 z6 (.ref 462)) :: (nat_lit 469,cq "_law_idle_one" 835 [377,1,0,0,3] [.ref 464,.bool true,.int 181 0,.ref 465,.none,.ref 466,.ref 467,.ref 468] 840 377 841) :: (nat_lit 470,fq "_law_idle_one" s_q6 z6 (.ref 469)) :: (nat_lit 476,cq "law" 843 [380,1,0,0,3] [.ref 471,.bool true,.int 181 0,.ref 472,.none,.ref 473,.ref 474,.ref 475] 856 380 857) :: (nat_lit 477,fq "law" se1 z6 (.ref 476)) :: []
noncomputable def KA:List Addr:=[2,3,15,22,23,24,25,28,35,36,37,40,47,48,49,52,59,60,61,64,65,66,67,68,69,70,71,77,78,84,85,91,92,98,99,105,106,112,113,119,120,126,127,133,134,140,141,147,148,152,153,159,160,166,167,171,172,178,179,185,186,187,188,194,195,201,202,208,209,215,216,222,223,229,230,236,237,243,244,250,251,257,258,264,265,271,272,278,279,285,286,287,293,294,300,301,305,306,312,313,319,320,326,327,333,334,338,339,345,346,352,353,359,360,366,367,373,374,380,381,387,388,394,395,401,402,408,409,415,416,422,423,429,430,436,437,443,444,450,451,455,456,462,463,469,470,476,477]
theorem ke:∀ P,KA=(KK P).map (·.1):=λ _=>by kernel_rfl
noncomputable def vw:Program:={ PySem.Challenge.pw_penwright_k75_whole_steps_keep_the_pictu with main:={ PySem.Challenge.pw_penwright_k75_whole_steps_keep_the_pictu.main with body:=[top 79] } }
noncomputable abbrev LS:List Str:=Program.boundNames (PySem.W.OpenLaw.row PySem.Challenge.rw_penwright_k75_whole_steps_keep_the_pictu).prog
theorem h_said:PySem.Challenge.rw_penwright_k75_whole_steps_keep_the_pictu.wellSaid=true:=by kernel_rfl
noncomputable def wa3 (b:Bool) (p q:Program) (loose:List Str) (Xt:Shared->Bool) {α:Type} (Yf:Shared->α) (Ya:World->α) (N:Nat):Prop:=∀ w:World,(fencedOpening treeTable p w N).map (λ s₀=>(topFrom treeTable p (w.withFollow "special-get-raises" b) N s₀).map (λ s=>(PySem.W.openSeen q loose (importedModules p.main.body) Xt true s,Yf s)))=some (some (PySem.W.openGood q loose,Ya (w.withFollow "special-get-raises" b)))
theorem xu2 {p q:Program} {loose:List Str} {Xt:Shared->Bool} {α:Type} {Yf:Shared->α} {Ya:World->α} {N:Nat} (h0:wa3 false p q loose Xt Yf Ya N) (h1:wa3 true p q loose Xt Yf Ya N):LeftO p q loose Xt Yf Ya N:=PySem.W.LeftO.of_split "special-get-raises" λ w=>by
 obtain ⟨s,e,e0⟩:=Option.map_eq_some_iff.mp (h0 w);obtain ⟨s',e',e1⟩:=Option.map_eq_some_iff.mp (h1 w);rw [e] at e';cases e';rw [e];exact congrArg some (Prod.ext e0 e1)
theorem h_l0:wa3 false (PySem.W.OpenLaw.row PySem.Challenge.rw_penwright_k75_whole_steps_keep_the_pictu).prog vw LS (λ s=>xlAt vw [] s && recOk (PySem.W.RowW.records (PySem.W.OpenRow.toRowW (PySem.W.OpenLaw.row PySem.Challenge.rw_penwright_k75_whole_steps_keep_the_pictu))) s) (PySem.W.Hook.obs (kHook KK KA ke)) (PySem.W.Hook.val (kHook KK KA ke)) 6254:=by
 intro w
 delta openEnds fencedOpening topFrom
 rw [PySem.W.Fast.te14082659384304107361,PySem.W.Fast.te10274390034422433532,PySem.W.Fast.te14289696077712309145,PySem.W.Fast.te1435165496053646825,PySem.W.Fast.te14364793385576792824,PySem.W.Fast.te4187177175401517315]
 kernel_rfl
theorem h_l1:wa3 true (PySem.W.OpenLaw.row PySem.Challenge.rw_penwright_k75_whole_steps_keep_the_pictu).prog vw LS (λ s=>xlAt vw [] s && recOk (PySem.W.RowW.records (PySem.W.OpenRow.toRowW (PySem.W.OpenLaw.row PySem.Challenge.rw_penwright_k75_whole_steps_keep_the_pictu))) s) (PySem.W.Hook.obs (kHook KK KA ke)) (PySem.W.Hook.val (kHook KK KA ke)) 6254:=by
 intro w
 delta openEnds fencedOpening topFrom
 rw [PySem.W.Fast.te14082659384304107361,PySem.W.Fast.te10274390034422433532,PySem.W.Fast.te14289696077712309145,PySem.W.Fast.te1435165496053646825,PySem.W.Fast.te14364793385576792824,PySem.W.Fast.te4187177175401517315]
 kernel_rfl
theorem h_left:LeftO (PySem.W.OpenLaw.row PySem.Challenge.rw_penwright_k75_whole_steps_keep_the_pictu).prog vw LS (λ s=>xlAt vw [] s && recOk (PySem.W.RowW.records (PySem.W.OpenRow.toRowW (PySem.W.OpenLaw.row PySem.Challenge.rw_penwright_k75_whole_steps_keep_the_pictu))) s) (PySem.W.Hook.obs (kHook KK KA ke)) (PySem.W.Hook.val (kHook KK KA ke)) 6254:=xu2 h_l0 h_l1
end Pv
namespace L2
open PySem PySem.Spec PyProof.Rows
noncomputable abbrev Key:=Sum Int Str
noncomputable def yi5:Key->Value->Bool
 | .inl k,v=>Value.isInt k v
 | .inr x,v=>Value.isStrOf x v
noncomputable def keyH (w:World):Key->Int
 | .inl k=>hashInt k
 | .inr x=>hashStr w x
theorem tc0:∀ {k:Key} {v:Value},yi5 k v=true->(∃ i t,k=Sum.inl i /\ v=Value.int i t) \/ (∃ x t,k=Sum.inr x /\ v=Value.str x t)
 | .inl i,v,h=>by
  obtain ⟨t,e⟩:=Value.isInt_shape (k:=i) (v:=v) h
  simp_all
 | .inr x,v,h=>by
  obtain ⟨t,e⟩:=Value.isStrOf_shape (x:=x) (v:=v) h
  simp_all
theorem xi5 (a b:Int):decide ((Sum.inl a:Key)=Sum.inl b)=(a == b):=by
 by_cases e:a=b
 ·subst e; simp
 simp_all
theorem uh5 (a b:Str):decide ((Sum.inr a:Key)=Sum.inr b)=decide (a=b):=by
 simp
theorem sh5 (a:Int) (b:Str):decide ((Sum.inl a:Key)=Sum.inr b)=false:=decide_eq_false (λ q=>nomatch q)
theorem th5 (a:Str) (b:Int):decide ((Sum.inr a:Key)=Sum.inl b)=false:=decide_eq_false (λ q=>nomatch q)
noncomputable def wa2 (prog:Program) (w:World):PySem.KeyKind prog w Key where
 is:=yi5
 hash:=keyH w
 inj:=λ v a b ha hb=>by
  rcases tc0 ha with ⟨i,t,rfl,rfl⟩ | ⟨x,t,rfl,rfl⟩
  ·rcases tc0 hb with ⟨j,u,rfl,e⟩ | ⟨y,u,rfl,e⟩
   ·simp_all
   ·exact nomatch e
  ·rcases tc0 hb with ⟨j,u,rfl,e⟩ | ⟨y,u,rfl,e⟩
   ·exact nomatch e
   simp_all
 byValue:=λ k v h=>by
  rcases tc0 h with ⟨i,t,rfl,rfl⟩ | ⟨x,t,rfl,rfl⟩ <;> rfl
 pyHash:=λ hv h=>by
  rcases tc0 hv with ⟨i,t,rfl,rfl⟩ | ⟨x,t,rfl,rfl⟩
  ·exact wpAny_pyHash_int h
  ·exact wpAny_pyHash_str h
 eqBool:=λ hu hv h=>by
  rcases tc0 hu with ⟨i,t,rfl,rfl⟩ | ⟨x,t,rfl,rfl⟩
  ·rcases tc0 hv with ⟨j,u,rfl,rfl⟩ | ⟨y,u,rfl,rfl⟩
   ·rw [xi5] at h; exact wpAny_eqBool_int h
   ·rw [sh5] at h; exact SeqAt.EqAt.int_str i t y u _ _ _ _ h
  ·rcases tc0 hv with ⟨j,u,rfl,rfl⟩ | ⟨y,u,rfl,rfl⟩
   ·rw [th5] at h; exact SeqAt.EqAt.str_int x t j u _ _ _ _ h
   ·rw [uh5] at h; exact wpAny_eqBool_str h
 «strs» := λ k x t v h=>by
  rcases tc0 h with ⟨i,u,rfl,e⟩ | ⟨y,u,rfl,e⟩
  ·exact nomatch e
  ·injection e with e1 _
   subst e1;cases v <;> rfl
inductive V where
 | non | bl (b:Bool) | int (i:Int) | str (x:Str) | byt (b:Array UInt8) | flt (b:UInt64) | ref (a:Addr) | ty (n:String)
 deriving DecidableEq
noncomputable def RelV:V->Value->Prop
 | .non,u=>u=Value.none
 | .bl b,u=>u=Value.bool b
 | .int i,u=>∃ t,u=Value.int i t
 | .str x,u=>∃ t,u=Value.str x t
 | .byt b,u=>∃ t,u=Value.bytes b t
 | .flt b,u=>∃ t,u=Value.float b t
 | .ref a,u=>u=Value.ref a
 | .ty n,u=>u=Value.type n
noncomputable abbrev Vals:List V->List Value->Prop:=Paired RelV
theorem Vals.length {xs:List V} {us:List Value} (r:Vals xs us):xs.length=us.length:=Paired.length r
theorem Vals.get:∀ {xs:List V} {us:List Value} {i:Nat} {x:V},Vals xs us->xs[i]?=some x->∃ u,us[i]?=some u /\ RelV x u
 | _,_,_,_,.nil,e=>by simp at e
 | _,_,0,_,.cons r _,e=>by simp_all
 | _,_,i + 1,x,.cons _ t,e=>by
  obtain ⟨u,h1,h2⟩:=Vals.get (i:=i) (x:=x) t (by simpa using e)
  simp_all
theorem Vals.set {x:V} {u:Value} (r:RelV x u):∀ {xs:List V} {us:List Value} (i:Nat),Vals xs us->Vals (xs.set i x) (us.set i u)
 | _,_,_,.nil=>.nil
 | _,_,0,.cons _ t=>.cons r t
 | _,_,i + 1,.cons q t=>.cons q (Vals.set r i t)
theorem Vals.append:∀ {xs ys:List V} {us ws:List Value},Vals xs us->Vals ys ws->Vals (xs ++ ys) (us ++ ws)
 | _,_,_,_,.nil,s=>s
 | _,_,_,_,.cons r t,s=>.cons r (Vals.append t s)
theorem Vals.take:∀ {xs:List V} {us:List Value} (n:Nat),Vals xs us->Vals (xs.take n) (us.take n)
 | _,_,0,_=>.nil
 | _,_,_ + 1,.nil=>.nil
 | _,_,n + 1,.cons r t=>.cons r (Vals.take n t)
theorem Vals.drop:∀ {xs:List V} {us:List Value} (n:Nat),Vals xs us->Vals (xs.drop n) (us.drop n)
 | _,_,0,r=>r
 | _,_,_ + 1,.nil=>.nil
 | _,_,n + 1,.cons _ t=>Vals.drop n t
noncomputable def RelO:Option V->Option Value->Prop
 | some v,some u=>RelV v u
 | none,none=>True
 | _,_=>False
noncomputable def KV {κ:Type}:List (κ × V)->List (κ × Value)->Prop:=Paired λ (p:κ × V) (q:κ × Value)=>p.1=q.1 /\ RelV p.2 q.2
noncomputable def kV:Key->V
 | .inl i=>.int i
 | .inr x=>.str x
inductive HO where
 | lst (xs:List V)
 | tup (xs:List V)
 | dK (kvs:List (Key × V)) | dT (kvs:List (List Key × V))
 | set (S:Int->Bool) (n:Nat)
 | ins (C dx:Addr) (fs:List (Str × V))
 | own (x:Addr)
 | xd (fs:List (Str × V))
 | met (f x:Addr)
 | rng (lo hi:Int)
 | frz (o:Obj) (u:HO)
 | tbl (ps:Array Value)
 | ext (φ:Heap->Prop)
noncomputable abbrev Hp:=Addr->Option HO
noncomputable def upd (H:Hp) (a:Addr) (o:HO):Hp:=λ b=>if b=a then some o else H b
variable {H:Hp}
theorem xg0 {a:Addr} {o:HO}:upd H a o a=some o:=by unfold upd; rw [if_pos rfl]
theorem zc0 {a b:Addr} {o:HO} (h:b ≠ a):upd H a o b=H b:=by unfold upd; rw [if_neg h]
theorem wf5 {a b:Addr} {o u:HO} (h:H a=some o) (h':H b=some u) (d:o ≠ u):a ≠ b:=by
 intro e; simp_all
theorem ze0 {a b:Addr} {o:HO} (h:H a=some o) (h':H b=none):a ≠ b:=by
 intro e; simp_all
section
variable (P:Program) (w:World)
noncomputable def ObjOk (H:Hp) (h:Heap) (a:Addr):HO->Prop
 | .lst xs=>xs.length<=sizeLine /\ ∃ (its:List Value) (n:Nat),Vals xs its /\ h.get? a=some { cls:=.type "list",data:=.seq its.toArray n }
 | .tup xs=>xs.length<=sizeLine /\ ∃ its:List Value,Vals xs its /\ IsTup h a its.toArray
 | .dK kvs=>kvs.length<=sizeLine /\ (a == sysModules)=false /\ ∃ vs,KV kvs vs /\ h.DictOf (wa2 P w) a vs
 | .dT kvs=>kvs.length<=sizeLine /\ (a == sysModules)=false /\ ∃ xs:List (List Key × Addr × Value),
     Paired (λ (p:List Key × V) (q:List Key × Addr × Value)=>p.1=q.1 /\ H q.2.1=some (.tup (p.1.map kV)) /\ RelV p.2 q.2.2) kvs xs ∧
     ∃ o es ep,h.get? a=some o /\ o.ExactDict /\ o.data=.dict es ep /\ es.toList=xs.map (entryOfKey (tupleKind (wa2 P w))) /\ (xs.map (·.1)).Nodup /\ ep=kvs.length
 | .set S n=>h.SetOf (intKind P w) a S n
 | .ins C dx fs=>H dx=some (.own a) /\ fs.length<=1000 /\ dx ≠ a /\ h.get? a=some (PySem.W.instObj C dx) ∧
     ∃ mA,h.Ns1 dx mA /\ (∀ f,RelO (fs.lookup f) (mA f)) /\ PySem.Within mA (fs.map (·.1))
 | .own _=>∃ o,h.get? a=some o
 | .xd fs=>∃ mA,h.Ns1 a mA /\ ∀ f,RelO (fs.lookup f) (mA f)
 | .rng lo hi=>∃ t u v,h.get? a=some { cls:=.type "range",data:=.fields #[.int lo t,.int hi u,.int 1 v] }
 | .frz o u=>h.get? a=some o /\ ObjOk H h a u
 | .tbl ps=>h.get? a=some { cls:=.none,data:=.fields ps }
 | .met f x=>h.get? a=some (methodObj (.ref f) (.ref x))
 | .ext φ=>φ h /\ (∃ o,h.get? a=some o) /\ ∀ h1 h2:Heap,φ h1->(∀ o,h1.get? a=some o->h2.get? a=some o)->φ h2
noncomputable def HOk (H:Hp) (h:Heap):Prop:=∀ a o,H a=some o->ObjOk P w H h a o
end
variable {H':Hp} {h h':Heap}
section
variable {P:Program} {w:World} {a:Addr} {o:HO}
theorem ObjOk.lt (x:ObjOk P w H h a o):a < h.objs.size:=by
 cases o with
 | lst xs=>obtain ⟨_,_,_,_,e⟩:=x; exact Heap.lt_size e
 | tup xs=>obtain ⟨_,_,_,p⟩:=x; exact p.lt
 | dK kvs=>obtain ⟨_,_,_,_,o,_,_,e,_⟩:=x; exact Heap.lt_size e
 | dT kvs=>obtain ⟨_,_,_,_,o,_,_,e,_⟩:=x; exact Heap.lt_size e
 | set S n=>obtain ⟨o,_,_,_,e,_⟩:=x; exact Heap.lt_size e
 | ins C dx fs=>obtain ⟨_,_,_,e,_⟩:=x; exact Heap.lt_size e
 | own y=>obtain ⟨_,e⟩:=x; exact Heap.lt_size e
 | xd fs=>obtain ⟨_,⟨_,_,_,e,_⟩,_⟩:=x; exact Heap.lt_size e
 | rng lo hi=>obtain ⟨_,_,_,e⟩:=x; exact Heap.lt_size e
 | frz ob u=>obtain ⟨e,_⟩:=x; exact Heap.lt_size e
 | tbl ps=>exact Heap.lt_size (show h.get? a=some _ from x)
 | met f y=>exact Heap.lt_size (show h.get? a=some _ from x)
 | ext φ=>obtain ⟨_,⟨_,e⟩,_⟩:=x; exact Heap.lt_size e
theorem Paired.mapP {α β:Type} {F G:α->β->Prop}:∀ {l₁:List α} {l₂:List β},Paired F l₁ l₂->(∀ a b,F a b->G a b)->Paired G l₁ l₂
 | _,_,.nil,_=>.nil
 | _,_,.cons r t,f=>.cons (f _ _ r) (Paired.mapP t f)
theorem ObjOk.stay (x:ObjOk P w H h a o) (k:∀ b u,(b=a \/ H b=some (.own a))->h.get? b=some u->h'.get? b=some u)
    (ho:∀ b,H b=some (.own a)->H' b=some (.own a)) (ht:∀ b xs,H b=some (.tup xs)->H' b=some (.tup xs)):ObjOk P w H' h' a o:=by
 induction o with
 | lst xs=>obtain ⟨z,its,n,r,e⟩:=x; exact ⟨z,its,n,r,k _ _ (.inl rfl) e⟩
 | tup xs=>obtain ⟨z,its,r,ob,e,c⟩:=x; exact ⟨z,its,r,ob,k _ _ (.inl rfl) e,c⟩
 | dK kvs=>obtain ⟨z,y,vs,r,ob,es,ep,e,c⟩:=x; exact ⟨z,y,vs,r,ob,es,ep,k _ _ (.inl rfl) e,c⟩
 | dT kvs =>
  obtain ⟨z,y,xs,r,ob,es,ep,e,c⟩:=x;exact ⟨z,y,xs,Paired.mapP r λ p q z=>⟨z.1,ht _ _ z.2.1,z.2.2⟩,ob,es,ep,k _ _ (.inl rfl) e,c⟩
 | set S n=>obtain ⟨ob,es,ep,t,e,c⟩:=x; exact ⟨ob,es,ep,t,k _ _ (.inl rfl) e,c⟩
 | ins C dx fs =>
  obtain ⟨d,z,ne,e,mA,⟨od,es,ep,e2,c⟩,r⟩:=x;exact ⟨ho _ d,z,ne,k _ _ (.inl rfl) e,mA,⟨od,es,ep,k _ _ (.inr d) e2,c⟩,r⟩
 | own y=>obtain ⟨ob,e⟩:=x; exact ⟨ob,k _ _ (.inl rfl) e⟩
 | xd fs=>obtain ⟨mA,⟨od,es,ep,e,c⟩,r⟩:=x; exact ⟨mA,⟨od,es,ep,k _ _ (.inl rfl) e,c⟩,r⟩
 | rng lo hi=>obtain ⟨t,u,v,e⟩:=x; exact ⟨t,u,v,k _ _ (.inl rfl) e⟩
 | frz ob u ih=>obtain ⟨e,q⟩:=x; exact ⟨k _ _ (.inl rfl) e,ih q⟩
 | tbl ps =>
  have e:h.get? a=some { cls:=.none,data:=.fields ps }:=x;show h'.get? a=some { cls:=.none,data:=.fields ps }
  simp_all
 | met f y =>
  have e:h.get? a=some (methodObj (.ref f) (.ref y)):=x;show h'.get? a=some (methodObj (.ref f) (.ref y))
  simp_all
 | ext φ=>obtain ⟨p,⟨o,e⟩,st⟩:=x; exact ⟨st _ _ p λ o q=>k _ _ (.inl rfl) q,⟨o,k _ _ (.inl rfl) e⟩,st⟩
theorem HOk.lt (x:HOk P w H h) (e:H a=some o):a < h.objs.size:=(x a o e).lt
theorem HOk.fresh (x:HOk P w H h) (e:h.objs.size<=a):H a=none:=by
 cases q:H a with
 | none=>rfl
 | some u=>exact absurd (Nat.lt_of_lt_of_le (x.lt q) e) (Nat.lt_irrefl _)
theorem HOk.kept (x:HOk P w H h) (k:∀ b u,h.get? b=some u->h'.get? b=some u):HOk P w H h':=λ a o e =>
 (x a o e).stay (λ b u _ q=>k b u q) (λ _ q=>q) λ _ _ q=>q
theorem HOk.laid (x:HOk P w H h) (k:∀ b u,h.get? b=some u->h'.get? b=some u) (hp:h.objs.size<=a) (new:ObjOk P w (upd H a o) h' a o):HOk P w (upd H a o) h':=λ b u e=>by
 have hn:=x.fresh hp;by_cases hb:b=a
 ·subst hb; rw [xg0] at e; cases e; exact new
 ·rw [zc0 hb] at e;exact (x b u e).stay (λ c v _ q=>k c v q) (λ c q=>by rw [zc0 (ze0 q hn)]; exact q) λ c xs q=>by rw [zc0 (ze0 q hn)]; exact q
end
noncomputable def Rd (H:Hp) (a:Addr) (u:HO):Prop:=H a=some u \/ ∃ o,H a=some (.frz o u)
theorem Rd.ok {P:Program} {w:World} {a:Addr} {u:HO} (r:Rd H a u) (x:HOk P w H h):ObjOk P w H h a u:=by
 rcases r with r | ⟨o,r⟩
 ·exact x a u r
 ·obtain ⟨_,q⟩:=x a _ r;exact q
noncomputable def Mut:Option HO->Prop
 | some (.lst _)=>True
 | some (.dK _)=>True
 | some (.dT _)=>True
 | some (.set _ _)=>True
 | some (.ins _ _ _)=>True
 | some (.ext _)=>True
 | _=>False
section
variable {P:Program} {w:World} {x e:Addr} {o':HO}
theorem HOk.write (ok:HOk P w H h) (mu:Mut (H x)) (he:e=x \/ H e=some (.own x)) (k:∀ b u,b ≠ e->h.get? b=some u->h'.get? b=some u) (heo:∃ u,h'.get? e=some u)
    (new:ObjOk P w (upd H x o') h' x o'):HOk P w (upd H x o') h':=λ b u q=>by
 have nown:∀ c y,H c=some (.own y)->c ≠ x:=λ c y r z=>by subst z; rw [r] at mu; exact mu
 have ntup:∀ c xs,H c=some (.tup xs)->c ≠ x:=λ c xs r z=>by subst z; rw [r] at mu; exact mu
 by_cases hb:b=x
 ·subst hb; rw [xg0] at q; cases q; exact new
 ·rw [zc0 hb] at q;by_cases hbe:b=e
  ·have q':H b=some (.own x):=by
     simp_all
   rw [q] at q'; cases q';obtain ⟨v,hv⟩:=heo;exact ⟨v,by rw [hbe]; exact hv⟩
  ·refine (ok b u q).stay (λ c v hc r=>k c v ?_ r) (λ c r=>by rw [zc0 (nown c b r)]; exact r) λ c xs r=>by rw [zc0 (ntup c xs r)]; exact r
   rcases hc with rfl | hc
   ·exact hbe
   ·rintro rfl
    simp_all
end
structure Un (fs ex:List Addr) (H H':Hp) (h h':Heap):Prop where
 keep:∀ b o,h.get? b=some o->H b=none->b ∉ fs->b ∉ ex->h'.get? b=some o
 slot:∀ b o,h.get? b=some o->H b=none->b ∈ fs->b ∉ ex->∃ sl,h'.get? b=some { o with slots:=sl }
 free:∀ b o,h.get? b=some o->H b=none->b ∉ ex->H' b=none
 there:∀ b o,h.get? b=some o->b ∉ ex->∃ o',h'.get? b=some o'
 tups:∀ b xs,H b=some (.tup xs)->H' b=some (.tup xs)
 frzs:∀ b o u,H b=some (.frz o u)->H' b=some (.frz o u)
 tbls:∀ b ps,H b=some (.tbl ps)->∃ more,H' b=some (.tbl (ps ++ more))
section
variable {fs fs' ex ex':List Addr} {H1 H2:Hp} {h1 h2:Heap} {a x e:Addr} {o:HO}
theorem Un.any (u:Un fs ex H H1 h h1) {b:Addr} {ob:Obj} (q:h.get? b=some ob) (n:H b=none) (hx:b ∉ ex):∃ sl,h1.get? b=some { ob with slots:=sl }:=by
 by_cases hb:b ∈ fs
 ·exact u.slot b ob q n hb hx
 ·exact ⟨ob.slots,u.keep b ob q n hb hx⟩
theorem Un.kept (k:∀ b u,h.get? b=some u->h'.get? b=some u):Un fs ex H H h h' :=
 ⟨λ b ob q _ _ _=>k b ob q,λ b ob q _ _ _=>⟨ob.slots,k b ob q⟩,λ _ _ _ n _=>n,λ b ob q _=>⟨ob,k b ob q⟩,λ _ _ q=>q,λ _ _ _ q=>q,λ _ ps q=>⟨#[],by rw [q]; simp⟩⟩
theorem Un.refl:Un fs ex H H h h:=Un.kept λ _ _ q=>q
theorem Un.laid (k:∀ b u,h.get? b=some u->h'.get? b=some u) (hp:h.objs.size<=a) (hn:H a=none):Un fs ex H (upd H a o) h h' where
 keep:=λ b u q _ _ _=>k b u q
 slot:=λ b u q _ _ _=>⟨u.slots,k b u q⟩
 free:=λ b u q n _=>by rw [zc0 (Nat.ne_of_lt (Nat.lt_of_lt_of_le (Heap.lt_size q) hp))]; exact n
 there:=λ b u q _=>⟨u,k b u q⟩
 tups:=λ b xs q=>by rw [zc0 (ze0 q hn)]; exact q
 frzs:=λ b u xs q=>by rw [zc0 (ze0 q hn)]; exact q
 tbls:=λ b ps q=>⟨#[],by rw [zc0 (ze0 q hn),q]; simp⟩
theorem Un.write (mu:Mut (H x)) (he:e=x \/ H e=some (.own x)) (k:∀ b u,b ≠ e->h.get? b=some u->h'.get? b=some u) (heo:∃ u,h'.get? e=some u):Un fs ex H (upd H x o) h h':=by
 have hx:∀ b,H b=none->b ≠ x:=λ b n z=>by subst z; rw [n] at mu; exact mu
 have hb:∀ b,H b=none->b ≠ e:=λ b n z=>by
  simp_all
 have hm:∀ b u,H b=some u->¬ Mut (some u)->b ≠ x:=λ b u q nm z=>by simp_all
 refine ⟨λ b u q n _ _=>k b u (hb b n) q,λ b u q n _ _=>⟨u.slots,k b u (hb b n) q⟩,λ b u q n _=>by rw [zc0 (hx b n)]; exact n,λ b u q _=>?_,
  λ b xs q=>by rw [zc0 (hm b _ q λ z=>z)]; exact q,λ b u xs q=>by rw [zc0 (hm b _ q λ z=>z)]; exact q,λ b ps q=>⟨#[],by rw [zc0 (hm b _ q λ z=>z),q]; simp⟩⟩
 by_cases hbe:b=e
 ·simp_all
 simp_all
end
noncomputable def trk (h:Heap) (H:Hp):List Addr:=(List.range h.objs.size).filter λ a=>(H a).isSome
noncomputable def hidT (h:Heap) (H:Hp):Heap:=PySem.W.hideAll h (trk h H)
theorem sb2 (h:Heap) (H:Hp):(hidT h H).objs.size=h.objs.size:=PySem.W.hideAll_size _ _
theorem uv2 {b:Addr} {o:Obj} (e:h.get? b=some o) (n:H b=none):(hidT h H).get? b=some o :=
 PySem.W.hideAll_get _ e λ hm=>by
  have q:(H b).isSome=true:=(List.mem_filter.mp hm).2
  simp_all
theorem us3 {b:Addr} {o:Obj} (e:(hidT h H).get? b=some o):h.get? b=some o /\ H b=none:=by
 have e':h.get? b=some o:=PySem.W.of_hideAll (trk h H) e;refine ⟨e',?_⟩;cases q:H b with
 | none=>rfl
 | some x =>
  have hm:b ∈ trk h H:=List.mem_filter.mpr ⟨List.mem_range.mpr (Heap.lt_size e'),by simp [q]⟩;have z:(hidT h H).get? b=none:=PySem.W.hideAll_none (trk h H) hm
  simp_all
noncomputable def tw3 (g h:Heap) (L:Addr):List (Addr × Obj):=(List.range h.objs.size).filterMap λ a=>if a=L \/ (g.get? a).isSome=true then none else (h.get? a).map λ o=>(a,o)
noncomputable def rest (g h:Heap) (L d:Addr):List (Addr × Obj):=(tw3 g h L).filter λ p=>decide (p.1 ≠ d)
structure Mod (K:PySem.W.Frag) (mg:Str->Option Value) (base:Heap):Prop where
 kin:K.In base
 glob:base.Ns mainGlobals mg
 blt:∃ mb,base.Ns builtinsNs mb /\ ∀ x:Str,x ≠ "__name__" -> mb x=bootBuiltins x
 nolimit:base.NoLimit
structure Cx where
 prog:Program
 w:World
 K:PySem.W.Frag
 mg:Str->Option Value
 base:Heap
 A:Around
 N:List Str
 s₀:Shared
 H₀:Hp
 env:Env
 outer:List Env
 stack:List Env
 ex:List Addr
 fn:Str->Bool
 calm:Bool
 pn:List (Addr × Obj)
 xe:Value->Shared->Prop
noncomputable def frs (l:List Env):List Addr:=l.filterMap (·.frame)
noncomputable abbrev Cx.fs (X:Cx):List Addr:=frs X.outer
noncomputable def Vis (sc:Scope) (x:Str):Prop:=sc.names.lookup x=some .local \/ sc.names.lookup x=some .cell \/ sc.names.lookup x=some .free
noncomputable def Loc (sc:Scope) (x:Str):Prop:=sc.names.lookup x=some .local \/ sc.names.lookup x=some .cell
noncomputable def Look (env:Env) (h:Heap) (m:Str->Option Value) (x:Str) (u:Value):Prop :=
 (env.kindOf x=some .local /\ m x=some u) \/ ((env.kindOf x=some .cell \/ env.kindOf x=some .free) /\ ∃ c,env.cells.lookup x=some c /\ h.IsCell c (some u))
structure Cx.Ok (X:Cx):Prop where
 mod:Mod X.K X.mg X.base
 kind:X.env.scope.kind=.function
 glob:X.env.globals=mainGlobals
 blt:X.env.builtins=builtinsNs
 above:X.s₀.heap.objs.size<=X.env.locals
 inj:∀ x y c,X.env.cells.lookup x=some c->X.env.cells.lookup y=some c->x=y
 has:∀ x,(X.env.kindOf x=some .cell \/ X.env.kindOf x=some .free)->∃ c,X.env.cells.lookup x=some c
 cab:∀ x c,X.fn x=true->X.env.cells.lookup x=some c->X.s₀.heap.objs.size<=c
 hd:X.calm=true->X.A.handled=none
 frames:X.A.frames=some X.stack
 stk:X.stack=X.outer \/ (X.stack=X.env :: X.outer /\ X.env.frame=some X.env.locals)
 exf:∀ b ∈ X.ex,b ≠ X.env.locals /\ ∀ x c,X.env.cells.lookup x=some c->c ≠ b
 bs:∀ b o,X.base.get? b=some o->X.s₀.heap.get? b=some o /\ X.H₀ b=none
 bsz:X.base.objs.size<=X.s₀.heap.objs.size
 noex:∀ b o,X.base.get? b=some o->b ∉ X.ex
 exfs:∀ b ∈ X.ex,b ∉ X.fs
 funs:X.s₀.heap.FunFrames X.base X.outer
 frf:∀ b ∈ X.fs,X.H₀ b=none
structure Inv (X:Cx) (pins:List (Addr × Obj)) (σ:List (Option V)) (H:Hp) (s:Shared):Prop where
 ok:X.Ok
 os:s.os=X.s₀.os
 bare:AllBare s.gens
 base:Un X.fs X.ex X.H₀ H X.s₀.heap s.heap
 loc:∃ m,s.heap.Ns X.env.locals m /\ ∀ (i:Nat) (x:Str) (v:V),X.N[i]?=some x->σ[i]?=some (some v)->Vis X.env.scope x->∃ u,RelV v u /\ Look X.env s.heap m x u
 cell:∀ x c,X.env.cells.lookup x=some c->∃ v,s.heap.IsCell c v
 free:H X.env.locals=none
 freeC:∀ x c,X.env.cells.lookup x=some c->H c=none
 pin:∀ p ∈ X.pn ++ pins,s.heap.get? p.1=some p.2 /\ H p.1=none /\ p.1 ≠ X.env.locals /\ p.1 ∉ X.fs /\ ∀ v,p.2.data ≠ .cell v
 hok:HOk X.prog X.w H s.heap
 len:σ.length=X.N.length
variable {X:Cx} {pins:List (Addr × Obj)} {s s':Shared} {g':Array GenState} {t':Nat} {d':Drawn} {ch:List Addr} {it:Addr} {N:List Str} {M:Model} {A:Around}
section
variable {σ:List (Option V)} 
theorem Cx.Ok.nofr (ok:X.Ok) {b:Addr} {o:Obj} (e:X.base.get? b=some o):b ∉ X.fs:=λ hb=>by
 have:=(ok.funs.mem hb).1
 simp_all
theorem Inv.bs (I:Inv X pins σ H s):∀ b o,X.base.get? b=some o->s.heap.get? b=some o /\ H b=none:=λ b o e =>
 ⟨I.base.keep b o (I.ok.bs b o e).1 (I.ok.bs b o e).2 (I.ok.nofr e) (I.ok.noex b o e),I.base.free b o (I.ok.bs b o e).1 (I.ok.bs b o e).2 (I.ok.noex b o e)⟩
theorem Inv.bk (I:Inv X pins σ H s):∀ b o,X.base.get? b=some o->s.heap.get? b=some o:=λ b o e=>(I.bs b o e).1
theorem Inv.mod (I:Inv X pins σ H s):Mod X.K X.mg X.base:=I.ok.mod
theorem Inv.kIn (I:Inv X pins σ H s):X.K.In s.heap:=I.ok.mod.kin.keeps I.bk
theorem Inv.lt (I:Inv X pins σ H s):X.env.locals < s.heap.objs.size:=let ⟨_,hn,_⟩:=I.loc; hn.lt
theorem Inv.sz (I:Inv X pins σ H s):X.s₀.heap.objs.size<=s.heap.objs.size:=Nat.le_trans I.ok.above (Nat.le_of_lt I.lt)
theorem Inv.nofs (I:Inv X pins σ H s) {a:Addr} (h:s.heap.objs.size<=a):a ∉ X.fs:=λ hb=>by
 obtain ⟨_,o,ho,_⟩:=I.ok.funs.mem hb;exact absurd (Nat.lt_of_lt_of_le (Heap.lt_size ho) (Nat.le_trans I.sz h)) (Nat.lt_irrefl _)
theorem Inv.cne (I:Inv X pins σ H s):∀ x c,X.env.cells.lookup x=some c->c ≠ X.env.locals:=λ x c e z=>by
 obtain ⟨v,o,ho,hd⟩:=I.cell x c e;obtain ⟨m,⟨o',es,ep,ho',hd',_⟩,_⟩:=I.loc
 simp_all
theorem Inv.funs (I:Inv X pins σ H s):s.heap.FunFrames X.base X.outer:=by
 have all:∀ (l:List Env),(∀ b ∈ frs l,b ∈ X.fs)->X.s₀.heap.FunFrames X.base l->s.heap.FunFrames X.base l:=by
  intro l
  induction l with
  | nil=>intro _ _; trivial
  | cons env r ih =>
   intro hs hl;obtain ⟨hk,⟨L,o,hf,hn,ho,hd⟩,hr⟩:=hl;have hL:L ∈ X.fs:=hs L (by unfold frs; simp_all);obtain ⟨sl,e⟩:=I.base.slot L o ho (I.ok.frf L hL) hL λ z=>I.ok.exfs L z hL;exact ⟨hk,⟨L,_,hf,hn,e,hd⟩,ih (λ b hb=>hs b (by unfold frs; rw [List.filterMap_cons,hf]; exact mem_cons_of_mem _ hb)) hr⟩
 exact all X.outer (λ _ hb=>hb) I.ok.funs
theorem Inv.stack (I:Inv X pins σ H s):s.heap.FunFrames X.base X.stack:=by
 rcases I.ok.stk with e | ⟨e,hf⟩
 ·rw [e]; exact I.funs
 ·rw [e];obtain ⟨m,hn,_⟩:=I.loc;refine .cons (by rw [I.ok.kind]; decide) hf hn ?_ I.funs;exact Heap.get?_none_of_le (Nat.le_trans I.ok.bsz I.ok.above)
theorem Inv.stkSub (I:Inv X pins σ H s):∀ b ∈ frs X.stack,b ∈ X.env.locals :: X.fs:=λ b hb=>by
 rcases I.ok.stk with e | ⟨e,hf⟩
 ·simp_all
 ·rw [e] at hb;unfold frs at hb;rw [List.filterMap_cons,hf] at hb;exact hb
theorem Inv.stkFree (I:Inv X pins σ H s):∀ b ∈ frs X.stack,H b=none:=λ b hb=>by
 rcases List.mem_cons.mp (I.stkSub b hb) with e | hb
 ·rw [e]; exact I.free
 ·obtain ⟨_,o,ho,_⟩:=I.ok.funs.mem hb;exact I.base.free b o ho (I.ok.frf b hb) λ z=>I.ok.exfs b z hb
theorem Inv.step (I:Inv X pins σ H s)
    (hch:∀ b ∈ ch,(b ∈ X.ex \/ X.s₀.heap.objs.size<=b) /\ b ≠ X.env.locals /\ (∀ x c,X.env.cells.lookup x=some c->c ≠ b) /\ ∀ p ∈ X.pn ++ pins,p.1 ≠ b)
    (keep:∀ b o,b ≠ X.env.locals->b ∉ X.fs->b ∉ ch->s.heap.get? b=some o->H b=none->h'.get? b=some o)
    (slot:∀ b o,b ≠ X.env.locals->b ∈ X.fs->b ∉ ch->s.heap.get? b=some o->H b=none->∃ sl,h'.get? b=some { o with slots:=sl }) (free:∀ b o,b ∉ ch->s.heap.get? b=some o->H b=none->H' b=none)
    (there:∀ b o,b ∉ ch->s.heap.get? b=some o->∃ o',h'.get? b=some o')
    (tups:∀ b xs,H b=some (.tup xs)->H' b=some (.tup xs)) (frzs:∀ b o u,H b=some (.frz o u)->H' b=some (.frz o u)) (tbls:∀ b ps,H b=some (.tbl ps)->∃ more,H' b=some (.tbl (ps ++ more)))
    (ns:∀ m,s.heap.Ns X.env.locals m->h'.Ns X.env.locals m) (hok:HOk X.prog X.w H' h') (hg:AllBare g') :
    Inv X pins σ H' { s with heap:=h',gens:=g',drawn:=d',toks:=t' }:=by
 have neL:∀ b o,X.s₀.heap.get? b=some o->b ≠ X.env.locals:=λ b o e=>Nat.ne_of_lt (Nat.lt_of_lt_of_le (Heap.lt_size e) I.ok.above)
 have neC:∀ b o,X.s₀.heap.get? b=some o->b ∉ X.ex->b ∉ ch:=λ b o e hx hb=>by
  rcases (hch b hb).1 with z | z
  ·exact hx z
  ·exact absurd (Nat.lt_of_lt_of_le (Heap.lt_size e) z) (Nat.lt_irrefl _)
 have cellK:∀ x c,X.env.cells.lookup x=some c->∀ v,s.heap.IsCell c v->h'.IsCell c v:=λ x c e v ⟨o,ho,hd⟩=>by
  have nch:c ∉ ch:=λ z=>(hch c z).2.2.1 x c e rfl;by_cases hc:c ∈ X.fs
  ·obtain ⟨sl,q⟩:=slot c o (I.cne x c e) hc nch ho (I.freeC x c e);exact ⟨_,q,hd⟩
  ·exact ⟨o,keep c o (I.cne x c e) hc nch ho (I.freeC x c e),hd⟩
 refine ⟨I.ok,I.os,hg,⟨λ b o e n hb hx=>?_,λ b o e n hb hx=>?_,λ b o e n hx=>?_,λ b o e hx=>?_,λ b xs e=>tups b xs (I.base.tups b xs e),λ b o xs e=>frzs b o xs (I.base.frzs b o xs e),λ b ps e=>?_⟩,?_,λ x c e=>?_,?_,λ x c e=>?_,λ p hp=>?_,hok,I.len⟩
 ·exact keep b o (neL b o e) hb (neC b o e hx) (I.base.keep b o e n hb hx) (I.base.free b o e n hx)
 ·obtain ⟨sl,e1⟩:=I.base.slot b o e n hb hx;obtain ⟨sl',e2⟩:=slot b _ (neL b o e) hb (neC b o e hx) e1 (I.base.free b o e n hx);exact ⟨sl',e2⟩
 ·obtain ⟨o',e1⟩:=I.base.there b o e hx;exact free b o' (neC b o e hx) e1 (I.base.free b o e n hx)
 ·obtain ⟨o',e1⟩:=I.base.there b o e hx
  simp_all
 ·obtain ⟨m1,e1⟩:=I.base.tbls b ps e;obtain ⟨m2,e2⟩:=tbls b _ e1;exact ⟨m1 ++ m2,by simp_all⟩
 ·obtain ⟨m,hn,hl⟩:=I.loc;refine ⟨m,ns m hn,λ i x v e1 e2 e3=>?_⟩;obtain ⟨u,r,l⟩:=hl i x v e1 e2 e3;refine ⟨u,r,?_⟩;rcases l with l | ⟨k,c,e,z⟩
  ·exact .inl l
  ·exact .inr ⟨k,c,e,cellK x c e _ z⟩
 ·obtain ⟨v,z⟩:=I.cell x c e;exact ⟨v,cellK x c e v z⟩
 ·obtain ⟨m,⟨o,_,_,ho,_⟩,_⟩:=I.loc;exact free _ o (λ z=>(hch _ z).2.1 rfl) ho I.free
 ·obtain ⟨v,o,ho,hd⟩:=I.cell x c e;exact free c o (λ z=>(hch c z).2.2.1 x c e rfl) ho (I.freeC x c e)
 ·obtain ⟨e,n,ne,nf,d⟩:=I.pin p hp;have nch:p.1 ∉ ch:=λ z=>(hch p.1 z).2.2.2 p hp rfl
  simp_all
theorem Inv.un (I:Inv X pins σ H s) (u:Un X.fs [] H H' s.heap h') (hok:HOk X.prog X.w H' h'):Inv X pins σ H' { s with heap:=h',toks:=t' }:=by
 obtain ⟨m,⟨o,es,ep,ho,r⟩,_⟩:=id I.loc;obtain ⟨sl,hL⟩:=u.any ho I.free (by simp)
 exact I.step (g':=s.gens) (d':=s.drawn) (ch:=[]) (λ _ z=>nomatch z) (λ b o _ hb _ e n=>u.keep b o e n hb (by simp)) (λ b o _ hb _ e n=>u.slot b o e n hb (by simp)) (λ b o _ e n=>u.free b o e n (by simp)) (λ b o _ e=>u.there b o e (by simp)) u.tups u.frzs u.tbls (λ m' hm=>by
  obtain ⟨o',es',ep',ho',r'⟩:=hm;rw [ho] at ho'; cases ho';exact ⟨_,es',ep',hL,r'⟩) hok I.bare
theorem Inv.call (I:Inv X pins σ H s) (u:Un (frs X.stack) ch H H' s.heap h') (hok:HOk X.prog X.w H' h') (hg:AllBare g')
    (hch:∀ b ∈ ch,(b ∈ X.ex \/ X.s₀.heap.objs.size<=b) /\ b ≠ X.env.locals /\ (∀ x c,X.env.cells.lookup x=some c->c ≠ b) /\ ∀ p ∈ X.pn ++ pins,p.1 ≠ b) :
    Inv X pins σ H' { s with heap:=h',gens:=g',drawn:=d',toks:=t' }:=by
 obtain ⟨m,⟨o,es,ep,ho,r⟩,_⟩:=id I.loc;obtain ⟨sl,hL⟩:=u.any ho I.free λ z=>(hch _ z).2.1 rfl
 exact I.step (ch:=ch) hch (λ b o hL hb hc e n=>u.keep b o e n (λ z=>(List.mem_cons.mp (I.stkSub b z)).elim hL hb) hc) (λ b o _ _ hc e n=>u.any e n hc) (λ b o hc e n=>u.free b o e n hc) (λ b o hc e=>u.there b o e hc) u.tups u.frzs u.tbls (λ m' hm=>by
  obtain ⟨o',es',ep',ho',r'⟩:=hm;rw [ho] at ho'; cases ho';exact ⟨_,es',ep',hL,r'⟩) hok hg
theorem Inv.turned (I:Inv X pins σ H s) (k:∀ b o,b ≠ it->s.heap.get? b=some o->h'.get? b=some o) (hn:H it=none) (hL:it ≠ X.env.locals)
    (h1:it ∈ X.ex \/ X.s₀.heap.objs.size<=it) (h2:∀ x c,X.env.cells.lookup x=some c->c ≠ it) (h3:∀ p ∈ X.pn ++ pins,p.1 ≠ it):Inv X pins σ H { s with heap:=h',toks:=t' }:=by
 have nit:∀ b u,H b=some u->b ≠ it:=λ b u e z=>by simp_all
 refine I.step (g':=s.gens) (d':=s.drawn) (ch:=[it]) (λ b hb=>?_) (λ b o _ _ hc e _=>k b o (λ z=>hc (by simp [z])) e) (λ b o _ _ hc e _=>⟨o.slots,k b o (λ z=>hc (by simp [z])) e⟩) (λ _ _ _ _ n=>n)
  (λ b o hc e=>⟨o,k b o (λ z=>hc (by simp [z])) e⟩) (λ _ _ e=>e) (λ _ _ _ e=>e) (λ b ps e=>⟨#[],by rw [e]; simp⟩) (λ m hm=>?_) (λ b u e=>?_) I.bare
 ·have e:b=it:=by simpa using hb
  subst e;trivial
 ·obtain ⟨o,es,ep,ho,r⟩:=hm;exact ⟨o,es,ep,k _ o (Ne.symm hL) ho,r⟩
 ·refine (I.hok b u e).stay (λ c v hc q=>k c v ?_ q) (λ _ q=>q) λ _ _ q=>q;rcases hc with z | z
  ·simp_all
  ·exact nit c _ z
theorem Inv.tok (I:Inv X pins σ H s) (t:Nat):Inv X pins σ H { s with toks:=t }:=I.un (h':=s.heap) (t':=t) Un.refl I.hok
theorem Inv.kept {t':Nat} (I:Inv X pins σ H s) (k:∀ b u,s.heap.get? b=some u->h'.get? b=some u):Inv X pins σ H { s with heap:=h',toks:=t' }:=I.un (Un.kept k) (I.hok.kept k)
theorem Inv.laid {a:Addr} {o:HO} {t':Nat} (I:Inv X pins σ H s) (k:∀ b u,s.heap.get? b=some u->h'.get? b=some u) (hp:s.heap.objs.size<=a) (new:ObjOk X.prog X.w (upd H a o) h' a o) :
    Inv X pins σ (upd H a o) { s with heap:=h',toks:=t' }:=I.un (Un.laid k hp (I.hok.fresh hp)) (I.hok.laid k hp new)
theorem Inv.write {x e:Addr} {o:HO} {t':Nat} (I:Inv X pins σ H s) (mu:Mut (H x)) (he:e=x \/ H e=some (.own x)) (k:∀ b u,b ≠ e->s.heap.get? b=some u->h'.get? b=some u) (heo:∃ u,h'.get? e=some u)
    (new:ObjOk X.prog X.w (upd H x o) h' x o):Inv X pins σ (upd H x o) { s with heap:=h',toks:=t' }:=I.un (Un.write mu he k heo) (I.hok.write mu he k heo new)
theorem Inv.pins_of {pins':List (Addr × Obj)} (I:Inv X pins σ H s) (h:∀ p ∈ pins',s.heap.get? p.1=some p.2 /\ H p.1=none /\ p.1 ≠ X.env.locals /\ p.1 ∉ X.fs /\ ∀ v,p.2.data ≠ .cell v):Inv X pins' σ H s :=
 ⟨I.ok,I.os,I.bare,I.base,I.loc,I.cell,I.free,I.freeC,λ p hp=>(List.mem_append.mp hp).elim (λ z=>I.pin p (mem_append_left _ z)) (h p),I.hok,I.len⟩
theorem vo1 (hN:N.Nodup) {i j:Nat} {x:Str} (a:N[i]?=some x) (b:N[j]?=some x):i=j:=by
 obtain ⟨h1,e1⟩:=List.getElem?_eq_some_iff.mp a;obtain ⟨h2,e2⟩:=List.getElem?_eq_some_iff.mp b;exact (List.getElem_inj hN).mp (e1.trans e2.symm)
theorem ud1 {E:[8]} {i:Nat} {x:Str} {v:V} {u:Value} {Q:Unit->Shared->Prop} (I:Inv X pins σ H s) (hN:X.N.Nodup) (hi:X.N[i]?=some x) (hx:Loc X.env.scope x) (r:RelV v u)
    (h:∀ s',Inv X pins (σ.set i (some v)) H s'->(∃ a,Heap.SameBut a s.heap s'.heap /\ (a=X.env.locals \/ X.env.cells.lookup x=some a))->Q () s') (hf:X.fn x=true \/ X.env.scope.names.lookup x=some .local:=by first | exact .inl rfl | exact .inr rfl | assumption):wpAny M A (storeName X.env x u) Q E s:=by
 obtain ⟨m,hn,hl⟩:=id I.loc;have hcls:(X.env.scope.kind == .class || (X.env.scope.kind == .module && X.env.locals != X.env.globals))=false:=by rw [I.ok.kind]; rfl
 have hiσ:i < σ.length:=by rw [I.len]; exact (List.getElem?_eq_some_iff.mp hi).1
 have cne:=I.cne
 have tracked:∀ {a:Addr} {h':Heap},(∃ o,s.heap.get? a=some o /\ H a=none)->Heap.SameBut a s.heap h'->HOk X.prog X.w H h':=λ {a h'} ha hs b ob e=>by
  obtain ⟨_,_,hfree⟩:=ha;refine (I.hok b ob e).stay (λ c w' hc q=>(hs.2 c ?_).trans q) (λ _ q=>q) λ _ _ q=>q;rintro rfl
  simp_all
 rcases hx with hk | hk
 ·refine wpAny_storeName_local hk hn (λ h' hn' hs=>?_) hcls;obtain ⟨oL,_,_,hoL,_⟩:=id hn;refine h _ ⟨I.ok,I.os,I.bare,⟨λ b o e n hb hx=>?_,λ b o e n hb hx=>?_,I.base.free,λ b o e hx=>?_,I.base.tups,I.base.frzs,I.base.tbls⟩,⟨_,hn',λ j y v' e1 e2 e3=>?_⟩,λ y c e=>?_,I.free,I.freeC,λ p hp=>?_,tracked ⟨oL,hoL,I.free⟩ hs,by simpa using I.len⟩ ⟨_,hs,.inl rfl⟩
  ·exact (hs.2 b (Nat.ne_of_lt (Nat.lt_of_lt_of_le (Heap.lt_size e) I.ok.above))).trans (I.base.keep b o e n hb hx)
  ·obtain ⟨sl,e1⟩:=I.base.slot b o e n hb hx;exact ⟨sl,(hs.2 b (Nat.ne_of_lt (Nat.lt_of_lt_of_le (Heap.lt_size e) I.ok.above))).trans e1⟩
  ·obtain ⟨o',e1⟩:=I.base.there b o e hx;exact ⟨o',(hs.2 b (Nat.ne_of_lt (Nat.lt_of_lt_of_le (Heap.lt_size e) I.ok.above))).trans e1⟩
  ·by_cases hj:j=i
   ·subst hj;rw [hi] at e1; cases e1;rw [List.getElem?_set_self hiσ] at e2;cases e2;exact ⟨u,r,.inl ⟨hk,by simp⟩⟩
   ·rw [List.getElem?_set_ne (Ne.symm hj)] at e2;obtain ⟨u',r',q⟩:=hl j y v' e1 e2 e3;refine ⟨u',r',?_⟩;rcases q with ⟨k,e⟩ | ⟨k,c,e,z⟩
    ·refine .inl ⟨k,?_⟩;have:y ≠ x:=λ e=>hj (vo1 hN e1 (e ▸ hi));simp [this,e]
    ·exact .inr ⟨k,c,e,z.sameBut hs (cne y c e)⟩
  ·obtain ⟨w',z⟩:=I.cell y c e;exact ⟨w',z.sameBut hs (cne y c e)⟩
  ·obtain ⟨e,n,ne,nf,d⟩:=I.pin p hp;exact ⟨(hs.2 p.1 ne).trans e,n,ne,nf,d⟩
 ·have hfn:X.fn x=true:=by
    simp_all
  obtain ⟨c,hc⟩:=I.ok.has x (.inl hk);obtain ⟨w',z⟩:=I.cell x c hc;refine wpAny_storeName_cell I.ok.kind hk hc z (λ h' hc' hs=>?_);obtain ⟨oc,hoc,hocd⟩:=id z;refine h { s with heap:=h' } ⟨I.ok,I.os,I.bare,⟨λ b o e n hb hx=>?_,λ b o e n hb hx=>?_,I.base.free,λ b o e hx=>?_,I.base.tups,I.base.frzs,I.base.tbls⟩,⟨m,hn.sameBut hs (Ne.symm (cne x c hc)),λ j y v' e1 e2 e3=>?_⟩,λ y c' e=>?_,I.free,I.freeC,λ p hp=>?_,tracked ⟨oc,hoc,I.freeC x c hc⟩ hs,by simpa using I.len⟩ ⟨c,hs,.inr hc⟩
  ·exact (hs.2 b (Nat.ne_of_lt (Nat.lt_of_lt_of_le (Heap.lt_size e) (I.ok.cab x c hfn hc)))).trans (I.base.keep b o e n hb hx)
  ·obtain ⟨sl,e1⟩:=I.base.slot b o e n hb hx;exact ⟨sl,(hs.2 b (Nat.ne_of_lt (Nat.lt_of_lt_of_le (Heap.lt_size e) (I.ok.cab x c hfn hc)))).trans e1⟩
  ·obtain ⟨o',e1⟩:=I.base.there b o e hx;exact ⟨o',(hs.2 b (Nat.ne_of_lt (Nat.lt_of_lt_of_le (Heap.lt_size e) (I.ok.cab x c hfn hc)))).trans e1⟩
  ·by_cases hj:j=i
   ·subst hj;rw [hi] at e1; cases e1;rw [List.getElem?_set_self hiσ] at e2;cases e2;exact ⟨u,r,.inr ⟨.inl hk,c,hc,hc'⟩⟩
   ·rw [List.getElem?_set_ne (Ne.symm hj)] at e2;obtain ⟨u',r',q⟩:=hl j y v' e1 e2 e3;refine ⟨u',r',?_⟩;rcases q with q | ⟨k,c',e,z'⟩
    ·exact .inl q
    ·refine .inr ⟨k,c',e,z'.sameBut hs ?_⟩;rintro rfl;exact hj (vo1 hN e1 (I.ok.inj _ _ _ e hc ▸ hi))
  ·by_cases hcc:c'=c
   ·subst hcc; exact ⟨_,hc'⟩
   ·obtain ⟨w2,z2⟩:=I.cell y c' e;exact ⟨w2,z2.sameBut hs hcc⟩
  ·obtain ⟨e,n,ne,nf,d⟩:=I.pin p hp;refine ⟨(hs.2 p.1 ?_).trans e,n,ne,nf,d⟩;intro q
   simp_all
theorem xm1 {E:[8]} {i:Nat} {x:Str} {v:V} {u:Value} {Q:Unit->Shared->Prop} (I:Inv X pins σ H s) (hN:X.N.Nodup) (hi:X.N[i]?=some x) (hx:Loc X.env.scope x) (r:RelV v u)
    (h:∀ s',Inv X pins (σ.set i (some v)) H s'->Q () s') (hf:X.fn x=true \/ X.env.scope.names.lookup x=some .local:=by first | exact .inl rfl | exact .inr rfl | assumption):wpAny M A (storeName X.env x u) Q E s :=
 ud1 I hN hi hx r (λ s' I' _=>h s' I') hf
theorem Inv.call' (I:Inv X pins σ H s) (ho:s'.os=s.os) (u:Un (frs X.stack) ch H H' s.heap s'.heap) (hok:HOk X.prog X.w H' s'.heap) (hg:AllBare s'.gens)
    (hch:∀ b ∈ ch,(b ∈ X.ex \/ X.s₀.heap.objs.size<=b) /\ b ≠ X.env.locals /\ (∀ x c,X.env.cells.lookup x=some c->c ≠ b) /\ ∀ p ∈ X.pn ++ pins,p.1 ≠ b):Inv X pins σ H' s':=by
 obtain ⟨h',g',d',t',o'⟩:=s';have e:o'=s.os:=ho;subst e;exact I.call (g':=g') (t':=t') (d':=d') u hok hg hch
end
noncomputable abbrev XK:=Value->Option Addr->Hp->Prop
noncomputable abbrev St:=List (Option V)
noncomputable abbrev VK:=V->Hp->Prop
noncomputable abbrev TE:=St->Hp->VK->Prop
noncomputable abbrev TT:=St->Hp->(Bool->Hp->Prop)->Prop
noncomputable abbrev TA:=St->Hp->(List V->Hp->Prop)->Prop
structure Ends where
 nx:St->Hp->Prop
 rt:VK
 bk:St->Hp->Prop:=λ _ _=>False
 ct:St->Hp->Prop:=λ _ _=>False
noncomputable abbrev TS:=Ends->St->Hp->Prop
noncomputable def EP (X:Cx) (pins:List (Addr × Obj)) (σ:St) (Q:VK) (u:Value) (s':Shared):Prop:=∃ v H',Inv X pins σ H' s' /\ RelV v u /\ Q v H'
noncomputable def TP (X:Cx) (pins:List (Addr × Obj)) (σ:St) (Q:Bool->Hp->Prop) (b:Bool) (s':Shared):Prop:=∃ H',Inv X pins σ H' s' /\ Q b H'
noncomputable def AP (X:Cx) (pins:List (Addr × Obj)) (σ:St) (Q:List V->Hp->Prop) (us:List Value) (s':Shared):Prop:=∃ vs H',Inv X pins σ H' s' /\ Vals vs us /\ Q vs H'
noncomputable def SP (X:Cx) (pins:List (Addr × Obj)) (D:Ends) (f:Flow) (s':Shared):Prop :=
 match f with
 | .next=>∃ σ' H',Inv X pins σ' H' s' /\ D.nx σ' H'
 | .brk=>∃ σ' H',Inv X pins σ' H' s' /\ D.bk σ' H'
 | .cont=>∃ σ' H',Inv X pins σ' H' s' /\ D.ct σ' H'
 | .ret u=>∃ v σ' H',Inv X pins σ' H' s' /\ RelV v u /\ D.rt v H'
noncomputable def PE (X:Cx) (e:Expr) (t:TE):Prop :=
 ∀ (pins:List (Addr × Obj)) (s:Shared) (σ:St) (H:Hp) (Q:VK),Inv X pins σ H s->t σ H Q->wpAny (model X.prog X.w) X.A (eval e X.env) (EP X pins σ Q) X.xe s
noncomputable def PT (X:Cx) (e:Expr) (t:TT):Prop :=
 ∀ (pins:List (Addr × Obj)) (s:Shared) (σ:St) (H:Hp) (Q:Bool->Hp->Prop),Inv X pins σ H s->t σ H Q->wpAny (model X.prog X.w) X.A (isTrue e X.env (eval e X.env)) (TP X pins σ Q) X.xe s
noncomputable def PW (X:Cx) (e:Expr) (t:TT):Prop :=
 ∀ (whole:Sem Value) (pins:List (Addr × Obj)) (s:Shared) (σ:St) (H:Hp) (Q:Bool->Hp->Prop),Inv X pins σ H s->t σ H Q->wpAny (model X.prog X.w) X.A (isTrue e X.env whole) (TP X pins σ Q) X.xe s
theorem PW.pt {e:Expr} {t:TT} (h:PW X e t):PT X e t:=h _
noncomputable def PA (X:Cx) (es:List Expr) (t:TA):Prop :=
 ∀ (pos:Pos) (pins:List (Addr × Obj)) (s:Shared) (σ:St) (H:Hp) (Q:List V->Hp->Prop),Inv X pins σ H s->t σ H Q->wpAny (model X.prog X.w) X.A (spliced (backTo pos (starEach es X.env))) (AP X pins σ Q) X.xe s
noncomputable def PS (X:Cx) (st:Stmt) (t:TS):Prop :=
 ∀ (pins:List (Addr × Obj)) (s:Shared) (σ:St) (H:Hp) (D:Ends),Inv X pins σ H s->t D σ H->wpAny (model X.prog X.w) X.A (exec st X.env) (SP X pins D) X.xe s
noncomputable def PSs (X:Cx) (st:List Stmt) (t:TS):Prop :=
 ∀ (pins:List (Addr × Obj)) (s:Shared) (σ:St) (H:Hp) (D:Ends),Inv X pins σ H s->t D σ H->wpAny (model X.prog X.w) X.A (execs st X.env) (SP X pins D) X.xe s
theorem thn {α:Type} {t:Sem α} {Q Q':α->Shared->Prop} {E:[8]} (h:wpAny M A t Q E s) (hQ:∀ a s,Q a s->Q' a s):wpAny M A t Q' E s:=wpAny_mono h hQ λ _ _ x=>x
variable {Q:[8]} {ta tb:TE}
section
noncomputable def tVar (i:Nat):TE:=λ σ H Q=>∃ v,σ[i]?=some (some v) /\ Q v H
noncomputable def tC (v:V):TE:=λ _ H Q=>Q v H
theorem zc5 {i:Nat} {x:Str} {pos:Pos} (hN:X.N[i]?=some x) (hv:Vis X.env.scope x) (hd:(x == ("__debug__" : Str))=false:=by decide) (hcd:(x == ("__classdict__" : Str))=false:=by decide):PE X (.Name x pos) (tVar i):=by
 intro pins s σ H Q I h;obtain ⟨v,e,h⟩:=h;obtain ⟨m,hn,hl⟩:=I.loc;obtain ⟨u,r,l⟩:=hl i x v hN e hv;have fin:EP X pins σ Q u s:=⟨v,H,I,r,h⟩;rcases l with ⟨hk,hm⟩ | ⟨hk,c,hc,hcell⟩
 ·exact wpAny_Name (wpAny_loadName_local I.ok.kind hk hn hm fin) hd
 ·rcases hk with hk | hk
  ·exact wpAny_Name (wpAny_loadName_cell I.ok.kind hk hc hcell fin) hd
  ·exact wpAny_Name (wpAny_loadName_free I.ok.kind hk hc hcell fin hcd) hd
theorem zd5 {i j pos}:PE X (.Constant (.int i) j pos) (tC (.int i)):=λ _ _ _ H _ I h=>wpAny_Constant_int ⟨.int i,H,I.tok _,⟨_,rfl⟩,h⟩
theorem pe_bl {b j pos}:PE X (.Constant (.bool b) j pos) (tC (.bl b)):=λ _ _ _ H _ I h=>Constant_bool ⟨.bl b,H,I,rfl,h⟩
theorem tc5 {j pos}:PE X (.Constant .none j pos) (tC .non):=λ _ _ _ H _ I h=>Constant_none ⟨.non,H,I,rfl,h⟩
theorem vc5 {x j pos}:PE X (.Constant (.str x) j pos) (tC (.str x)):=λ _ _ _ H _ I h=>Calls.Constant_str ⟨.str x,H,I.tok _,⟨_,rfl⟩,h⟩
noncomputable def Gl (X:Cx) (x:Str):Prop:=X.env.kindOf x=some .globalImplicit
theorem zu0 {E:[8]} {σ:St} {x:Str} {u:Value} {pos:Pos} (I:Inv X pins σ H s) (hg:Gl X x) (hm:X.mg x=some u) (h:Q u s)
    (hd:(x == ("__debug__" : Str))=false:=by decide):wpAny (model X.prog X.w) X.A (eval (.Name x pos) X.env) Q E s :=
 Calls.Name_function_global I.ok.kind hg (Calls.loadGlobal_global (by rw [I.ok.glob]; exact I.mod.glob.keeps I.bk) hm h) hd
theorem sn0 {E:[8]} {σ:St} {x:Str} {u:Value} {pos:Pos} (I:Inv X pins σ H s) (hg:Gl X x) (hm:X.mg x=none) (hv:bootBuiltins x=some u) (h:Q u s)
    (hn:x ≠ "__name__" := by decide) (hd:(x == ("__debug__" : Str))=false:=by decide):wpAny (model X.prog X.w) X.A (eval (.Name x pos) X.env) Q E s:=by
 obtain ⟨mb,h1,h2⟩:=I.mod.blt;exact Calls.Name_function_global I.ok.kind hg (Calls.loadGlobal_builtin (by rw [I.ok.glob]; exact I.mod.glob.keeps I.bk) hm (by rw [I.ok.blt]; exact h1.keeps I.bk) ((h2 x hn).trans hv) h) hd
theorem yr3 {x:Str} {v:V} {u:Value} {pos:Pos} (hg:Gl X x) (hm:X.mg x=some u) (r:RelV v u) (hd:(x == ("__debug__" : Str))=false:=by decide):PE X (.Name x pos) (tC v) :=
 λ _ _ _ H _ I h=>zu0 I hg hm ⟨v,H,I,r,h⟩ hd
theorem ur3 {x:Str} {v:V} {u:Value} {pos:Pos} (hg:Gl X x) (hm:X.mg x=none) (hv:bootBuiltins x=some u) (r:RelV v u) (hn:x ≠ "__name__" := by decide) (hd:(x == ("__debug__" : Str))=false:=by decide):PE X (.Name x pos) (tC v) :=
 λ _ _ _ H _ I h=>sn0 I hg hm hv ⟨v,H,I,r,h⟩ hn hd
variable {a b:Expr} {pos:Pos}
noncomputable def PC (X:Cx) (op:CmpOp) (a b:Expr) (t:TE):Prop :=
 ∀ (pins:List (Addr × Obj)) (s:Shared) (σ:St) (H:Hp) (Q:VK),Inv X pins σ H s->t σ H Q ->
  wpAny (model X.prog X.w) X.A (eval a X.env) (λ v s₁=>wpAny (model X.prog X.w) X.A (eval b X.env) (λ u s₂=>wpAny (model X.prog X.w) X.A (compareOp op v u) (EP X pins σ Q) X.xe s₂) X.xe s₁) X.xe s
theorem zt2 (b:Expr) {op:CmpOp} (h:op ≠ .In) (h2:op ≠ .NotIn):behindInMarks op b=false:=by
 have e1:(op == CmpOp.In)=false:=by simp_all
 have e2:(op == CmpOp.NotIn)=false:=by simp_all
 cases b <;> simp [behindInMarks,e1,e2]
noncomputable def tB (t:TE):TT:=λ σ H Q=>t σ H λ x H1=>∃ c,x=.bl c /\ Q c H1
theorem ua5 {op:CmpOp} {t:TE} (h:PC X op a b t) (h1:behindInMarks op b=false:=by first | exact zt2 _ (by decide) (by decide) | rfl):PT X (.Compare a [op] [b] pos) (tB t):=by
 intro pins s σ H Q I hw;refine wpAny_isTrue_Compare1 (thn (h pins s σ H _ I hw) λ v s1 h1=>thn h1 λ u s2 h2=>thn h2 λ c s3 ⟨x,H1,I1,r1,q1⟩=>?_) h1;obtain ⟨d,rfl,q⟩:=q1;cases r1;exact wpAny_truthy_bool ⟨H1,I1,q⟩
theorem wa5 {e:Expr} {t:TE} (h:PE X e t) (he:∀ whole,isTrue e X.env whole=(do let v <- whole; standAt e.pos; holding [v] (truthy v)):=by intro _; rfl):PT X e (tB t):=by
 intro pins s σ H Q I hw;refine isTrue_plain (thn (h pins s σ H _ I hw) λ v s1 ⟨x,H1,I1,r1,q1⟩=>?_) (he _);obtain ⟨d,rfl,q⟩:=q1;cases r1;exact wpAny_truthy_bool ⟨H1,I1,q⟩
variable {tA tB':TT} {rest:List Expr}
noncomputable def tAnd (t u:TT):TT:=λ σ H Q=>t σ H λ c H1=>if c=true then u σ H1 Q else Q false H1
noncomputable def tOr (t u:TT):TT:=λ σ H Q=>t σ H λ c H1=>if c=true then Q true H1 else u σ H1 Q
noncomputable def tNot (t:TT):TT:=λ σ H Q=>t σ H λ c H1=>Q (!c) H1
theorem wp3 (ha:PT X a tA):PW X (.BoolOp .And [a] pos) tA:=by
 intro wh pins s σ H Q I h;refine isTrue_and (thn (ha pins s σ H Q I h) λ c s1 e=>?_);cases c with
 | true=>exact isTrue_and_nil e
 | false=>exact e
theorem ya5 (ha:PT X a tA):PW X (.BoolOp .Or [a] pos) tA:=by
 intro wh pins s σ H Q I h;refine isTrue_or (thn (ha pins s σ H Q I h) λ c s1 e=>?_);cases c with
 | false=>exact isTrue_or_nil e
 | true=>exact e
theorem za5 (ha:PT X a tA) (hb:PW X (.BoolOp .And (b :: rest) pos) tB'):PW X (.BoolOp .And (a :: b :: rest) pos) (tAnd tA tB'):=by
 intro wh pins s σ H Q I h;refine isTrue_and (thn (ha pins s σ H _ I h) λ c s1 ⟨H1,I1,q1⟩=>?_);cases c with
 | true=>exact hb wh pins s1 σ H1 Q I1 q1
 | false=>assumption
theorem pw_or (ha:PT X a tA) (hb:PW X (.BoolOp .Or (b :: rest) pos) tB'):PW X (.BoolOp .Or (a :: b :: rest) pos) (tOr tA tB'):=by
 intro wh pins s σ H Q I h;refine isTrue_or (thn (ha pins s σ H _ I h) λ c s1 ⟨H1,I1,q1⟩=>?_);cases c with
 | true=>assumption
 | false=>exact hb wh pins s1 σ H1 Q I1 q1
theorem va5 (ha:PT X a tA):PT X (.UnaryOp .Not a pos) (tNot tA):=by
 intro pins s σ H Q I h;exact isTrue_not (ha pins s σ H (λ c H1=>Q (!c) H1) I h)
noncomputable def tAndV (ta tb:TE):TE:=λ σ H Q=>ta σ H λ x H1=>∃ c,x=.bl c /\ if c=true then tb σ H1 Q else Q (.bl false) H1
noncomputable def tOrV (ta tb:TE):TE:=λ σ H Q=>ta σ H λ x H1=>∃ c,x=.bl c /\ if c=true then Q (.bl true) H1 else tb σ H1 Q
theorem uc5 {op} {t:TE} (h:PE X a t):PE X (.BoolOp op [a] pos) t:=λ pins s σ H Q I hw=>BoolOp_one (h pins s σ H Q I hw)
theorem wd5 (ha:PE X a ta) (hb:PE X (.BoolOp .And (b :: rest) pos) tb):PE X (.BoolOp .And (a :: b :: rest) pos) (tAndV ta tb):=by
 intro pins s σ H Q I h;refine BoolOp_and (thn (ha pins s σ H _ I h) λ v s1 ⟨x,H1,I1,r1,q1⟩=>?_);obtain ⟨c,rfl,q1⟩:=q1;cases r1;refine wpAny_truthy_bool ?_;cases c with
 | true=>exact hb pins s1 σ H1 Q I1 q1
 | false=>exact ⟨.bl false,H1,I1,rfl,q1⟩
theorem pe_or (ha:PE X a ta) (hb:PE X (.BoolOp .Or (b :: rest) pos) tb):PE X (.BoolOp .Or (a :: b :: rest) pos) (tOrV ta tb):=by
 intro pins s σ H Q I h;refine BoolOp_or (thn (ha pins s σ H _ I h) λ v s1 ⟨x,H1,I1,r1,q1⟩=>?_);obtain ⟨c,rfl,q1⟩:=q1;cases r1;refine wpAny_truthy_bool ?_;cases c with
 | false=>exact hb pins s1 σ H1 Q I1 q1
 | true=>exact ⟨.bl true,H1,I1,rfl,q1⟩
noncomputable def tIf (t:TT) (ta tb:TE):TE:=λ σ H Q=>t σ H λ c H1=>if c=true then ta σ H1 Q else tb σ H1 Q
theorem ts2 {c:Expr} (hc:PT X c tA) (ha:PE X a ta) (hb:PE X b tb):PE X (.IfExp c a b pos) (tIf tA ta tb):=by
 intro pins s σ H Q I h;refine wpAny_IfExp (thn (hc pins s σ H _ I h) λ d s1 ⟨H1,I1,q1⟩=>?_);cases d with
 | true=>exact ha pins s1 σ H1 Q I1 q1
 | false=>exact hb pins s1 σ H1 Q I1 q1
end
noncomputable def SqL (K:PySem.W.Frag) (H:Hp) (a:Addr) (xs:List V):Prop :=
 Rd H a (.lst xs) ∨
  ∃ (o:Obj) (its:Array Value) (n:Nat),K.lookup a=some o /\ o.cls=.type "list" /\ o.dict=none /\ o.data=.seq its n /\ its.size<=sizeLine /\ Vals xs its.toList
noncomputable def SqT (K:PySem.W.Frag) (H:Hp) (a:Addr) (xs:List V):Prop :=
 Rd H a (.tup xs) ∨
  ∃ (o:Obj) (its:Array Value) (n:Nat),K.lookup a=some o /\ o.cls=.type "tuple" /\ o.data=.seq its n /\ its.size<=sizeLine /\ Vals xs its.toList
noncomputable def absV:Value->Option V
 | .none=>some .non
 | .bool b=>some (.bl b)
 | .int i _=>some (.int i)
 | .str x _=>some (.str x)
 | .bytes b _=>some (.byt b)
 | .float b _=>some (.flt b)
 | .ref a=>some (.ref a)
 | .type n=>some (.ty n)
 | _=>none
theorem RelV.abs {x:V} {u:Value} (r:RelV x u):absV u=some x:=by
 cases x with
 | non=>cases r; rfl
 | bl _=>cases r; rfl
 | int _=>obtain ⟨t,rfl⟩:=r; rfl
 | str _=>obtain ⟨t,rfl⟩:=r; rfl
 | byt _=>obtain ⟨t,rfl⟩:=r; rfl
 | flt _=>obtain ⟨t,rfl⟩:=r; rfl
 | ref _=>cases r; rfl
 | ty _=>cases r; rfl
theorem RelV.inj {x y:V} {u:Value} (r:RelV x u) (q:RelV y u):x=y:=Option.some.inj (r.abs.symm.trans q.abs)
theorem Vals.inj:∀ {xs ys:List V} {us:List Value},Vals xs us->Vals ys us->xs=ys
 | _,_,_,.nil,.nil=>rfl
 | _,_,_,.cons r t,.cons r' t'=>by rw [r.inj r',Vals.inj t t']
variable {K:PySem.W.Frag}
section
variable {σ:St} {a:Addr} {xs ys:List V}
theorem SqL.of (h:H a=some (.lst xs)):SqL K H a xs:=.inl (.inl h)
theorem SqT.of (h:H a=some (.tup xs)):SqT K H a xs:=.inl (.inl h)
theorem Inv.list (I:Inv X pins σ H s) (h:SqL X.K H a xs):∃ its:List Value,Vals xs its /\ PlainL s.heap a its.toArray /\ xs.length<=sizeLine:=by
 rcases h with h | ⟨o,its,n,hk,hc,hd,hs,hz,r⟩
 ·obtain ⟨z,its,n,r,e⟩:=h.ok I.hok;exact ⟨its,r,⟨_,n,e,rfl,rfl,rfl⟩,z⟩
 ·refine ⟨its.toList,r,⟨o,n,I.kIn a o hk,hc,hd,by simpa using hs⟩,?_⟩;have e:=r.length
  simp_all
theorem Inv.tuple (I:Inv X pins σ H s) (h:SqT X.K H a xs):∃ its:List Value,Vals xs its /\ IsTup s.heap a its.toArray /\ xs.length<=sizeLine:=by
 rcases h with h | ⟨o,its,n,hk,hc,hs,hz,r⟩
 ·obtain ⟨z,its,r,p⟩:=h.ok I.hok;exact ⟨its,r,p,z⟩
 ·refine ⟨its.toList,r,⟨o,I.kIn a o hk,hc,n,by simpa using hs⟩,?_⟩;have e:=r.length
  simp_all
theorem Inv.list_inj (I:Inv X pins σ H s) (h:SqL X.K H a xs) (h':SqL X.K H a ys):xs=ys:=by
 obtain ⟨its,r,⟨o,n,e,_,_,d⟩,_⟩:=I.list h;obtain ⟨its',r',⟨o',n',e',_,_,d'⟩,_⟩:=I.list h';rw [e] at e'; cases e';rw [d] at d';injection d' with d1 _
 have:its=its':=by simp_all
 subst this;exact r.inj r'
theorem Inv.tuple_inj (I:Inv X pins σ H s) (h:SqT X.K H a xs) (h':SqT X.K H a ys):xs=ys:=by
 obtain ⟨its,r,⟨o,e,_,n,d⟩,_⟩:=I.tuple h;obtain ⟨its',r',⟨o',e',_,n',d'⟩,_⟩:=I.tuple h';rw [e] at e'; cases e';rw [d] at d';injection d' with d1 _
 have:its=its':=by simp_all
 subst this;exact r.inj r'
end
noncomputable abbrev Cx.wish (X:Cx) (E:[8]):Cx:={ X with xe:=E }
noncomputable abbrev Cx.nox (X:Cx):Cx:=X.wish λ _ _=>False
theorem Cx.Ok.wish {X:Cx} (ok:X.Ok) (E:[8]):(X.wish E).Ok :=
 ⟨ok.mod,ok.kind,ok.glob,ok.blt,ok.above,ok.inj,ok.has,ok.cab,ok.hd,ok.frames,ok.stk,ok.exf,ok.bs,ok.bsz,ok.noex,ok.exfs,ok.funs,ok.frf⟩
theorem Cx.Ok.unwish {E:[8]} (ok:(X.wish E).Ok):X.Ok :=
 ⟨ok.mod,ok.kind,ok.glob,ok.blt,ok.above,ok.inj,ok.has,ok.cab,ok.hd,ok.frames,ok.stk,ok.exf,ok.bs,ok.bsz,ok.noex,ok.exfs,ok.funs,ok.frf⟩
section
variable {σ:St} {E:[8]}
theorem Inv.wish (I:Inv X pins σ H s) (E:[8]):Inv (X.wish E) pins σ H s:=⟨I.ok.wish E,I.os,I.bare,I.base,I.loc,I.cell,I.free,I.freeC,I.pin,I.hok,I.len⟩
theorem Inv.unwish (I:Inv (X.wish E) pins σ H s):Inv X pins σ H s:=⟨I.ok.unwish,I.os,I.bare,I.base,I.loc,I.cell,I.free,I.freeC,I.pin,I.hok,I.len⟩
theorem SP.unwish {D:Ends} {f:Flow} {s':Shared} (h:SP (X.wish E) pins D f s'):SP X pins D f s':=by
 cases f with
 | next=>obtain ⟨σ',H',I,q⟩:=h; exact ⟨σ',H',I.unwish,q⟩
 | brk=>obtain ⟨σ',H',I,q⟩:=h; exact ⟨σ',H',I.unwish,q⟩
 | cont=>obtain ⟨σ',H',I,q⟩:=h; exact ⟨σ',H',I.unwish,q⟩
 | ret u=>obtain ⟨v,σ',H',I,r,q⟩:=h; exact ⟨v,σ',H',I.unwish,r,q⟩
theorem PSs.nox {st:List Stmt} {t:TS} (h:PSs X.nox st t):PSs X st t:=λ pins s σ H D I hw =>
 wpAny_mono (h pins s σ H D (I.wish _) hw) (λ _ _ q=>q.unwish) λ _ _ z=>False.elim z
end
variable {te:TE}
section
variable {st:Stmt} {rest:List Stmt} {t u:TS} {e:Expr} {pos:Pos}
noncomputable def tNext:TS:=λ D σ H=>D.nx σ H
noncomputable def tSeq (t u:TS):TS:=λ D σ H=>t { D with nx:=u D } σ H
theorem xq3:PSs X [] tNext:=λ _ _ σ H _ I h=>wpAny_execs_nil ⟨σ,H,I,h⟩
theorem tr2 (h1:PS X st t) (h2:PSs X rest u):PSs X (st :: rest) (tSeq t u):=by
 intro pins s σ H D I h;refine wpAny_execs_cons (thn (h1 pins s σ H { D with nx:=u D } I h) λ f s1 q=>?_);cases f with
 | next =>
  obtain ⟨σ',H',I',q⟩:=q;exact h2 pins s1 σ' H' D I' q
 | ret v=>exact q
 | brk=>exact q
 | cont=>exact q
theorem sp3 (h1:PS X st t):PSs X [st] t:=by
 intro pins s σ H D I h;refine wpAny_execs_cons (thn (h1 pins s σ H D I h) λ f s1 q=>?_);cases f with
 | next=>exact wpAny_execs_nil q
 | ret v=>exact q
 | brk=>exact q
 | cont=>exact q
theorem Inv.quiet {σ:St} (I:Inv X pins σ H s):interactive X.env=false:=by simp [interactive,I.ok.kind]
noncomputable def tDrop (te:TE):TS:=λ D σ H=>te σ H λ _ H1=>D.nx σ H1
theorem zq3 (he:PE X e te) (hs:swapsWith e none pos.line X.env=pure false:=by rfl):PS X (.Expr e pos) (tDrop te):=by
 intro pins s σ H D I h;exact wpAny_Expr_any (thn (he pins s σ H _ I h) λ v s1 ⟨x,H1,I1,r1,q1⟩=>⟨σ,H1,I1,q1⟩) I.quiet hs
noncomputable def tRet (te:TE):TS:=λ D σ H=>te σ H D.rt
theorem sa5 (he:PE X e te):PS X (.Return (some e) pos) (tRet te):=by
 intro pins s σ H D I h;exact wpAny_Return_some (thn (he pins s σ H _ I h) λ v s1 ⟨x,H1,I1,r1,q1⟩=>⟨x,σ,H1,I1,r1,q1⟩)
noncomputable def tIfS (c:TT) (t u:TS):TS:=λ D σ H=>c σ H λ b H1=>if b=true then t D σ H1 else u D σ H1
theorem ps_if {c:Expr} {a b:List Stmt} {tc:TT} (hc:PT X c tc) (ha:PSs X a t) (hb:PSs X b u):PS X (.If c a b pos) (tIfS tc t u):=by
 intro pins s σ H D I h;refine wpAny_If (thn (hc pins s σ H _ I h) λ d s1 ⟨H1,I1,q1⟩=>?_);cases d with
 | true=>exact ha pins s1 σ H1 D I1 q1
 | false=>exact hb pins s1 σ H1 D I1 q1
noncomputable def ug4:TS:=λ _ _ _=>False
theorem sr2:PS X st ug4:=λ _ _ _ _ _ _ h=>h.elim
end
noncomputable abbrev TG:=V->St->Hp->(St->Hp->Prop)->Prop
noncomputable abbrev TGs:=List V->St->Hp->(St->Hp->Prop)->Prop
noncomputable def PG (X:Cx) (target:Expr) (t:TG):Prop :=
 ∀ (pins:List (Addr × Obj)) (s:Shared) (σ:St) (H:Hp) (v:V) (u:Value) (Q:St->Hp->Prop),Inv X pins σ H s->RelV v u->t v σ H Q ->
  wpAny (model X.prog X.w) X.A (assign target X.env u) (λ _ s'=>∃ σ' H',Inv X pins σ' H' s' /\ Q σ' H') X.xe s
noncomputable def PGs (X:Cx) (ts:List Expr) (t:TGs):Prop :=
 ∀ (pins:List (Addr × Obj)) (s:Shared) (σ:St) (H:Hp) (vs:List V) (us:List Value) (Q:St->Hp->Prop),Inv X pins σ H s->Vals vs us->t vs σ H Q ->
  wpAny (model X.prog X.w) X.A (assignInOrder ((assignEach ts X.env).map (·.2)) us) (λ _ s'=>∃ σ' H',Inv X pins σ' H' s' /\ Q σ' H') X.xe s
noncomputable abbrev TSet:=V->V->V->Hp->(Hp->Prop)->Prop
noncomputable def PSet (X:Cx) (t:TSet):Prop :=
 ∀ (pins:List (Addr × Obj)) (s:Shared) (σ:St) (H:Hp) (o i v:V) (ov iv u:Value) (Q:Hp->Prop),Inv X pins σ H s->RelV o ov->RelV i iv->RelV v u->t o i v H Q ->
  wpAny (model X.prog X.w) X.A (setItem ov iv u) (λ _ s'=>∃ H',Inv X pins σ H' s' /\ Q H') X.xe s
variable {es:List Expr} {k n:Nat} {tg:Expr} {g:TG}
section
variable {pos:Pos}
noncomputable def uu3 (i:Nat):TG:=λ v σ H Q=>Q (σ.set i (some v)) H
theorem tq3 {i:Nat} {x:Str} (hN:X.N.Nodup) (hi:X.N[i]?=some x) (hx:Loc X.env.scope x) (hf:X.fn x=true \/ X.env.scope.names.lookup x=some .local:=by first | exact .inl rfl | exact .inr rfl | assumption):PG X (.Name x pos) (uu3 i):=by
 intro pins s σ H v u Q I r h;exact wpAny_assign_Name (xm1 I hN hi hx r (λ s' I'=>⟨_,H,I',h⟩) hf)
noncomputable def gNil:TGs:=λ vs σ H Q=>vs=[] /\ Q σ H
noncomputable def gCons (t:TG) (u:TGs):TGs:=λ vs σ H Q=>∃ v r,vs=v :: r /\ t v σ H λ σ' H'=>u r σ' H' Q
theorem uq3:PGs X [] gNil:=by
 intro pins s σ H vs us Q I r h;obtain ⟨e,h⟩:=h;subst e;cases r;exact assignInOrder_nil ⟨σ,H,I,h⟩
theorem ws2 {e:Expr} {t:TG} {u:TGs} (h1:PG X e t) (h2:PGs X es u)
    (hs:(assignEach (e :: es) X.env).map (·.2)=assign e X.env :: (assignEach es X.env).map (·.2):=by rfl):PGs X (e :: es) (gCons t u):=by
 intro pins s σ H vs us Q I r h;obtain ⟨v,vr,e1,h⟩:=h;subst e1;cases r with
 | cons r rr =>
  rw [hs];refine assignInOrder_cons (thn (h1 pins s σ H _ _ _ I r h) λ _ s1 ⟨σ1,H1,I1,q1⟩=>?_);exact h2 pins s1 σ1 H1 _ _ Q I1 rr q1
noncomputable def gTup (K:PySem.W.Frag) (n:Nat) (t:TGs):TG:=λ v σ H Q=>∃ a xs,v=.ref a /\ SqT K H a xs /\ xs.length=n /\ t xs σ H Q
theorem sb5 {t:TGs} (hc:X.calm=true) (h:PGs X es t)
    (hn:(assignEach es X.env).length=n:=by rfl) (hst:(assignEach es X.env).findIdx? (·.1)=none:=by rfl):PG X (.Tuple es k pos) (gTup X.K n t):=by
 intro pins s σ H v u Q I r hw;obtain ⟨a,xs,e1,hq,hl,hw⟩:=hw;subst e1;cases r;obtain ⟨its,rv,ht,hz⟩:=I.tuple hq;refine assign_Tuple_tuple (I.ok.hd hc) ht (by simp [hn,<- hl,rv.length]) hst λ h' hx=>?_;have I1:Inv X pins σ H { s with heap:=h' }:=I.kept (t':=s.toks) λ b o e=>hx b o (Nat.ne_of_lt (Heap.lt_size e)) e;exact h pins _ σ H xs _ Q I1 (by simpa using rv) hw
noncomputable def gSub (to ti:TE) (t:TSet):TG:=λ v σ H Q=>to σ H λ o H1=>ti σ H1 λ i H2=>t o i v H2 λ H3=>Q σ H3
theorem xc5 {o i:Expr} {to ti:TE} {t:TSet} (ho:PE X o to) (hi:PE X i ti) (hs:PSet X t)
    (ha:∀ v,assign (.Subscript o i pos) X.env v=(do
     let ov <- holding [v] (eval o X.env)
     let iv <- holding [v,ov] (eval i X.env)
     standAt pos
     holding [v,ov,iv] (setItem ov iv v)
     release [v,ov,iv] []):=by intro _; rfl):PG X (.Subscript o i pos) (gSub to ti t):=by
 intro pins s σ H v u Q I r h;rw [ha];refine wpAny_bind (wpAny_holding (thn (ho pins s σ H _ I h) λ ov s1 ⟨x,H1,I1,r1,q1⟩=>?_));refine wpAny_bind (wpAny_holding (thn (hi pins s1 σ H1 _ I1 q1) λ iv s2 ⟨y,H2,I2,r2,q2⟩=>?_));refine wpAny_bind (wpAny_standAt (wpAny_bind (wpAny_holding (thn (hs pins s2 σ H2 x y v ov iv u _ I2 r1 r2 r q2) λ _ s3 ⟨H3,I3,q3⟩=>?_))));exact wpAny_release ⟨σ,H3,I3,q3⟩
noncomputable def tAsg (te:TE) (g:TG):TS:=λ D σ H=>te σ H λ x H1=>g x σ H1 D.nx
theorem yb5 {e:Expr} (he:PE X e te) (hg:PG X tg g) (hs:swapsWithSole [tg] e pos.line X.env=pure false:=by rfl) (hw:swappedStores [tg] e X.env=pure none:=by rfl)
    (h1:(assignEach [tg] X.env).map (·.2)=[assign tg X.env]:=by rfl):PS X (.Assign [tg] e pos) (tAsg te g):=by
 intro pins s σ H D I h;refine wpAny_Assign_stores (thn (he pins s σ H _ I h) λ v s1 ⟨x,H1,I1,r1,q1⟩=>?_) hs hw;rw [h1];exact thn (hg pins s1 σ H1 x v _ I1 r1 q1) λ _ s2 q=>q
theorem xy1 {i:Nat} {x:Str} {e:Expr} {pos':Pos} (hN:X.N.Nodup) (hi:X.N[i]?=some x) (hx:Loc X.env.scope x) (he:PE X e te) (hs:swapsWith e (some (.Name x pos')) pos.line X.env=pure false:=by rfl) (hf:X.fn x=true \/ X.env.scope.names.lookup x=some .local:=by first | exact .inl rfl | exact .inr rfl | assumption) :
    PS X (.Assign [.Name x pos'] e pos) (tAsg te (uu3 i)):=by
 intro pins s σ H D I h;refine wpAny_Assign_Name (thn (he pins s σ H _ I h) λ v s1 ⟨y,H1,I1,r1,q1⟩=>?_) hs;exact xm1 I1 hN hi hx r1 (λ s2 I2=>⟨_,H1,I2,q1⟩) hf
end
structure It where
 go:Nat->Hp->Prop
 yld:Nat->Hp->V->Hp->Prop
 stop:Nat->Hp->Prop
noncomputable def FpOk (X:Cx) (pins:List (Addr × Obj)) (H:Hp) (b:Addr):Prop :=
 H b=none /\ b ≠ X.env.locals /\ b ∉ X.fs /\ (b ∈ X.ex \/ X.s₀.heap.objs.size<=b) /\ (∀ x c,X.env.cells.lookup x=some c->c ≠ b) /\ ∀ p ∈ X.pn ++ pins,p.1 ≠ b
theorem Inv.fpOk {σ:St} {b:Addr} (I:Inv X pins σ H s) (hb:s.heap.objs.size<=b) (hn:H' b=none):FpOk X pins H' b:=by
 refine ⟨hn,Nat.ne_of_gt (Nat.lt_of_lt_of_le I.lt hb),I.nofs hb,.inr (Nat.le_trans I.sz hb),λ x c e z=>?_,λ p hp z=>?_⟩
 ·obtain ⟨v,q⟩:=I.cell x c e;exact absurd (Nat.lt_of_lt_of_le q.lt (by rw [z]; exact hb)) (Nat.lt_irrefl _)
 ·exact absurd (Nat.lt_of_lt_of_le (Heap.lt_size (I.pin p hp).1) (by rw [z]; exact hb)) (Nat.lt_irrefl _)
structure Turn (P:Program) (w:World) (K:PySem.W.Frag) (tg:Expr) (J:It) (fp:List Addr) (it:Addr) (tn:Nat->Heap->Prop):Prop where
 mem:it ∈ fp
 obj:∀ i h,tn i h->∀ b ∈ fp,∃ o,h.get? b=some o /\ ∀ v,o.data ≠ .cell v
 keep:∀ i h h',tn i h->(∀ b ∈ fp,∀ o,h.get? b=some o->h'.get? b=some o)->tn i h'
 item:∀ (X:Cx),X.prog=P->X.w=w->X.K=K->X.calm=true->∀ (i:Nat) (pins:List (Addr × Obj)) (s:Shared) (σ:St) (H:Hp) (E:Value->Shared->Prop),Inv X pins σ H s->(∀ b ∈ fp,FpOk X pins H b)->tn i s.heap->J.go i H ->
  wpAny (model P w) X.A (pyNext (.ref it)) (λ r s1=>∃ u,r=some u ∧
   wpAny (model P w) X.A (letOwnedTupleGo tg (.ref it) u) (λ _ s2=>∃ x H',Inv X pins σ H' s2 /\ RelV x u /\ J.yld i H x H' /\ tn (i + 1) s2.heap /\ ∀ b ∈ fp,H' b=none) E s1) E s
 done:∀ (X:Cx),X.prog=P->X.w=w->X.K=K->X.calm=true->∀ (i:Nat) (pins:List (Addr × Obj)) (s:Shared) (σ:St) (H:Hp) (E:Value->Shared->Prop),Inv X pins σ H s->(∀ b ∈ fp,FpOk X pins H b)->tn i s.heap->J.stop i H ->
  wpAny (model P w) X.A (pyNext (.ref it)) (λ r s1=>r=none /\ Inv X pins σ H s1) E s
 self:∀ (A:Around) (i:Nat) (s:Shared) (Q:Value->Shared->Prop) (E:Value->Shared->Prop),tn i s.heap->Q (.ref it) s->wpAny (model P w) A (pyIter (.ref it)) Q E s
noncomputable abbrev TI:=St->Hp->(It->Hp->Prop)->Prop
noncomputable def PIE (X:Cx) (pins:List (Addr × Obj)) (σ:St) (tg:Expr) (R:It->Hp->Prop) (itv:Value) (s2:Shared):Prop :=
 ∃ (it:Addr) (fp:List Addr) (tn:Nat->Heap->Prop) (J:It) (H':Hp),itv=.ref it /\ Inv X pins σ H' s2 /\ Turn X.prog X.w X.K tg J fp it tn /\ tn 0 s2.heap /\ (∀ b ∈ fp,FpOk X pins H' b) /\ R J H'
noncomputable def PI (X:Cx) (tg iter:Expr) (wi:TI):Prop :=
 ∀ (pins:List (Addr × Obj)) (s:Shared) (σ:St) (H:Hp) (R:It->Hp->Prop),Inv X pins σ H s->wi σ H R ->
  wpAny (model X.prog X.w) X.A (eval iter X.env) (λ v s1=>wpAny (model X.prog X.w) X.A (pyIter v) (PIE X pins σ tg R) X.xe s1) X.xe s
theorem sv2 {E:[8]} {u:Value} {o:Obj} {n:String} {vs:Array Value} {Q:Unit->Shared->Prop} (ho:s.heap.get? it=some o) (hc:o.cls=.type n) (hd:o.data=.fields vs)
    (hn:["enumerate", "zip", "dict_itemiterator", "dict_reverseitemiterator", "odict_iterator", "itertools.zip_longest", "itertools.pairwise"].contains n=false) (hQ:Q () s):wpAny M A (letOwnedTupleGo tg (.ref it) u) Q E s:=by
 unfold letOwnedTupleGo
 cases tg <;> first
  | exact wpAny_pure hQ
  | (cases u <;> first
      | exact wpAny_pure hQ
      | (refine wpAny_bind (wpAny_load ho ?_)
         rw [hc,hd];show wpAny M A (if (["enumerate", "zip", "dict_itemiterator", "dict_reverseitemiterator", "odict_iterator", "itertools.zip_longest", "itertools.pairwise"].contains n && vs[0]? == some (rawInt _))=true then _ else _) Q E s;rw [if_neg (by simp_all)];exact wpAny_pure hQ))
noncomputable def Itl (K:PySem.W.Frag) (a:Addr):It :=
 ⟨λ i H=>∃ xs x,SqL K H a xs /\ xs[i]?=some x,λ i H x H'=>H'=H /\ ∀ xs,SqL K H a xs->xs[i]?=some x,λ i H=>∃ xs,SqL K H a xs /\ xs.length<=i⟩
noncomputable def Itt (K:PySem.W.Frag) (a:Addr):It :=
 ⟨λ i H=>∃ xs x,SqT K H a xs /\ xs[i]?=some x,λ i H x H'=>H'=H /\ ∀ xs,SqT K H a xs->xs[i]?=some x,λ i H=>∃ xs,SqT K H a xs /\ xs.length<=i⟩
noncomputable def Itr (lo:Int) (n:Nat):It:=⟨λ i _=>i < n,λ i H x H'=>H'=H /\ x=.int (lo + i),λ i _=>n<=i⟩
theorem tu1 {P:Program} {w:World} (a it:Addr):Turn P w K tg (Itl K a) [it] it (λ i h=>h.IsListIter it a i) where
 mem:=by simp
 obj:=λ i h st b hb=>by
  have e:b=it:=by simpa using hb
  subst e;obtain ⟨o,e,c,d⟩:=st
  simp_all
 keep:=λ i h h' st k=>st.at λ o e=>k it (by simp) o e
 item:=by
  intro X hP hw hK hc i pins s σ H E I hf st hg;subst hP hw hK;obtain ⟨xs,x,hq,hx⟩:=hg;obtain ⟨its,rv,p,hz⟩:=I.list hq;obtain ⟨u,hu,ru⟩:=rv.get hx;obtain ⟨f0,f1,f2,f3,f4,f5⟩:=hf it (by simp);refine wpAny_pyNext_list_item st p.isList (x:=u) (by simpa using hu) λ h' st' sb=>?_;have I1:Inv X pins σ H { s with heap:=h' }:=I.turned (t':=s.toks) (λ b o hb e=>(sb.2 b hb).trans e) f0 f1 f3 f4 f5;obtain ⟨o,e,c,d⟩:=id st';exact ⟨u,rfl,sv2 (s:={ s with heap:=h' }) e c d (by decide) ⟨x,H,I1,ru,⟨rfl,λ ys hy=>by rw [I.list_inj hy hq]; exact hx⟩,st',λ b hb=>(hf b hb).1⟩⟩
 done:=by
  intro X hP hw hK hc i pins s σ H E I hf st hg;subst hP hw hK;obtain ⟨xs,hq,hx⟩:=hg;obtain ⟨its,rv,p,hz⟩:=I.list hq;obtain ⟨f0,f1,f2,f3,f4,f5⟩:=hf it (by simp);have hl:=rv.length;exact wpAny_pyNext_list_end (I.ok.hd hc) st p.isList (by simp; omega) λ h' eb=>⟨rfl,I.turned (t':=s.toks) (λ b o hb e=>eb b o hb e) f0 f1 f3 f4 f5⟩
 self:=λ _ _ _ _ _ st h=>wpAny_pyIter_listiter st h
theorem zs1 {P:Program} {w:World} (a it:Addr):Turn P w K tg (Itt K a) [it] it (λ i h=>h.IsTupleIter it a i) where
 mem:=by simp
 obj:=λ i h st b hb=>by
  have e:b=it:=by simpa using hb
  subst e;obtain ⟨o,e,c,d⟩:=st
  simp_all
 keep:=λ i h h' st k=>st.at λ o e=>k it (by simp) o e
 item:=by
  intro X hP hw hK hc i pins s σ H E I hf st hg;subst hP hw hK;obtain ⟨xs,x,hq,hx⟩:=hg;obtain ⟨its,rv,p,hz⟩:=I.tuple hq;obtain ⟨u,hu,ru⟩:=rv.get hx;obtain ⟨f0,f1,f2,f3,f4,f5⟩:=hf it (by simp);refine wpAny_pyNext_tuple_item st (show s.heap.IsTuple a its.toArray from p) (x:=u) (by simpa using hu) λ h' st' sb=>?_;have I1:Inv X pins σ H { s with heap:=h' }:=I.turned (t':=s.toks) (λ b o hb e=>(sb.2 b hb).trans e) f0 f1 f3 f4 f5;obtain ⟨o,e,c,d⟩:=id st';exact ⟨u,rfl,sv2 (s:={ s with heap:=h' }) e c d (by decide) ⟨x,H,I1,ru,⟨rfl,λ ys hy=>by rw [I.tuple_inj hy hq]; exact hx⟩,st',λ b hb=>(hf b hb).1⟩⟩
 done:=by
  intro X hP hw hK hc i pins s σ H E I hf st hg;subst hP hw hK;obtain ⟨xs,hq,hx⟩:=hg;obtain ⟨its,rv,p,hz⟩:=I.tuple hq;obtain ⟨f0,f1,f2,f3,f4,f5⟩:=hf it (by simp);have hl:=rv.length;exact wpAny_pyNext_tuple_end (I.ok.hd hc) st (show s.heap.IsTuple a its.toArray from p) (by simp; omega) λ h' eb=>⟨rfl,I.turned (t':=s.toks) (λ b o hb e=>eb b o hb e) f0 f1 f3 f4 f5⟩
 self:=λ _ _ _ _ _ st h=>wpAny_pyIter_tupleiter st h
theorem ws1 {P:Program} {w:World} (it:Addr) (lo:Int) (n:Nat):Turn P w K tg (Itr lo n) [it] it (λ i h=>IsRangeIter h it (lo + (i:Nat) * 1) ((n:Int) - (i:Nat)) 1) where
 mem:=by simp
 obj:=λ i h st b hb=>by
  simp_all
 keep:=λ i h h' st k=>k it (by simp) _ st
 item:=by
  intro X hP hw hK hc i pins s σ H E I hf st hg;subst hP hw hK;obtain ⟨f0,f1,f2,f3,f4,f5⟩:=hf it (by simp);have W:=Walks.range (prog:=X.prog) (w:=X.w) (I.ok.hd hc) it lo 1 n;refine W.item i s _ _ hg st λ v h' tk hv st' kk=>?_;obtain ⟨t,rfl⟩:=hv;have I1:Inv X pins σ H { s with heap:=h',toks:=tk }:=I.turned (λ b o hb e=>kk b o (by simpa using hb) e) f0 f1 f3 f4 f5;refine ⟨_,rfl,sv2 (s:={ s with heap:=h',toks:=tk }) (n := "range_iterator") st' rfl rfl (by decide) ⟨.int (lo + i),H,I1,⟨t,?_⟩,⟨rfl,rfl⟩,st',λ b hb=>(hf b hb).1⟩⟩;rw [Int.mul_one]
 done:=by
  intro X hP hw hK hc i pins s σ H E I hf st hg;subst hP hw hK;obtain ⟨f0,f1,f2,f3,f4,f5⟩:=hf it (by simp);exact wpAny_pyNext_range_end (I.ok.hd hc) st (by have:n<=i:=hg; omega) λ h' eb=>⟨rfl,I.turned (t':=s.toks) (λ b o hb e=>eb b o hb e) f0 f1 f3 f4 f5⟩
 self:=λ _ _ _ _ _ st h=>wpAny_pyIter_rangeiter st h
variable {p:Pos} {fp:List Addr} {body:List Stmt}
section
theorem xo1 {σ:St} {R:It->Hp->Prop} {E:[8]} {lo hi:Int} {t u v:Tok} {tk:Nat} (I:Inv X pins σ H s) (h1 : -(2 ^ 62)<=lo) (h2:lo < 2 ^ 62) (h3 : -(2 ^ 62)<=hi) (h4:hi < 2 ^ 62)
    (q:R (Itr lo (hi - lo).toNat) H):wpAny (model X.prog X.w) X.A (pyIter (.ref s.heap.objs.size)) (PIE X pins σ tg R) E { s with heap:=s.heap.push { cls:=.type "range",data:=.fields #[.int lo t,.int hi u,.int 1 v] },toks:=tk }:=by
 refine wpAny_pyIter_range (IsRange.new ..) (small_one h1 h2 h3 h4) ?_;have I1:Inv X pins σ H { s with heap:=s.heap.push { cls:=.type "range",data:=.fields #[.int lo t,.int hi u,.int 1 v] },toks:=tk }:=I.kept λ b o e=>Heap.get?_push_of_some _ e
 refine ⟨(s.heap.push { cls:=.type "range",data:=.fields #[.int lo t,.int hi u,.int 1 v] }).objs.size,[(s.heap.push { cls:=.type "range",data:=.fields #[.int lo t,.int hi u,.int 1 v] }).objs.size],_,_,H,rfl,
  I1.kept (t':=tk) λ b o e=>Heap.get?_push_of_some _ e,ws1 _ lo (hi - lo).toNat,?_,λ b hb=>?_,q⟩
 ·have e1:lo + ((0:Nat):Int) * 1=lo:=by simp
  have e2:(((hi - lo).toNat:Nat):Int) - ((0:Nat):Int)=Builtin.Range.rangeSize lo hi 1:=by rw [rangeSize_one]; split <;> omega
  show IsRangeIter _ _ (lo + ((0:Nat):Int) * 1) ((((hi - lo).toNat:Nat):Int) - ((0:Nat):Int)) 1;rw [e1,e2];exact Heap.get?_push_size _ rfl
 ·have e:b=(s.heap.push { cls:=.type "range",data:=.fields #[.int lo t,.int hi u,.int 1 v] }).objs.size:=by simpa using hb
  subst e;exact I1.fpOk (Nat.le_refl _) (I1.hok.fresh (Nat.le_refl _))
noncomputable def iRng1 (ta:TA):TI:=λ σ H R=>ta σ H λ vs H1=>∃ j:Int,vs=[.int j] /\ -(2 ^ 62)<=j /\ j < 2 ^ 62 /\ R (Itr 0 j.toNat) H1
noncomputable def iRng2 (ta:TA):TI:=λ σ H R=>ta σ H λ vs H1=>∃ i j:Int,vs=[.int i,.int j] /\ (-(2 ^ 62)<=i /\ i < 2 ^ 62 /\ -(2 ^ 62)<=j /\ j < 2 ^ 62) /\ R (Itr i (j - i).toNat) H1
theorem sy1 {a:Expr} {ta:TA} {pos:Pos} (hg:Gl X "range") (hm:X.mg "range" = none) (ha:PA X [a] ta) (hs:starEach [a] X.env=[(false,eval a X.env)]:=by rfl):PI X tg (.Call (.Name "range" p) [a] [] pos) (iRng1 ta):=by
 intro pins s σ H R I h;refine Call_ (sn0 I hg hm boot_range (PyProof.Rows.callWith_type1 (thn (ha pos pins s σ H _ I h) λ us s1 ⟨vs,H1,I1,r1,q1⟩=>?_) hs rfl));obtain ⟨j,e,q1,q2,q⟩:=q1;subst e;cases r1 with
 | cons r rr =>
  cases rr;obtain ⟨t,rfl⟩:=r;exact call_range_1 (xo1 I1 [2] [2] q1 q2 (by simpa using q))
theorem ty1 {a b:Expr} {ta:TA} {pos:Pos} (hg:Gl X "range") (hm:X.mg "range" = none) (ha:PA X [a,b] ta) (hs:starEach [a,b] X.env=[(false,eval a X.env),(false,eval b X.env)]:=by rfl) (hs2:starEach [b] X.env=[(false,eval b X.env)]:=by rfl) :
    PI X tg (.Call (.Name "range" p) [a,b] [] pos) (iRng2 ta):=by
 intro pins s σ H R I h;refine Call_ (sn0 I hg hm boot_range (PyProof.Rows.callWith_type1 (thn (ha pos pins s σ H _ I h) λ us s1 ⟨vs,H1,I1,r1,q1⟩=>?_) (by rw [hs,hs2]) (by rw [hs2]; rfl)));obtain ⟨i,j,e,⟨q1,q2,q3,q4⟩,q⟩:=q1;subst e;cases r1 with
 | cons r rr =>
  cases rr with
  | cons r' rr =>
   cases rr;obtain ⟨t,rfl⟩:=r;obtain ⟨t',rfl⟩:=r';exact call_range_2 (xo1 I1 q1 q2 q3 q4 q)
noncomputable def tFor (wi:TI) (g:TG) (tb:TS):TS:=λ D σ H=>wi σ H λ J H1=>∃ W:Nat->Nat->St->Hp->Prop,(∃ m,W 0 m σ H1) /\ ∀ i m σ H,W i m σ H ->
 (J.stop i H /\ D.nx σ H) \/ (J.go i H /\ ∃ N:St->Hp->Prop,(∀ σ' H',N σ' H'->∃ m',m' < m /\ W (i + 1) m' σ' H') /\ ∀ x H',J.yld i H x H'->g x σ H' λ σ2 H2=>tb { D with nx:=N,ct:=N,bk:=D.nx } σ2 H2)
noncomputable def zf1 (fp:List Addr) (h:Heap):List (Addr × Obj):=fp.filterMap λ b=>(h.get? b).map λ o=>(b,o)
theorem xl0 {b:Addr} {o:Obj} (hb:b ∈ fp) (e:h.get? b=some o):(b,o) ∈ zf1 fp h:=List.mem_filterMap.mpr ⟨b,hb,by rw [e]; rfl⟩
theorem tz1 {p:Addr × Obj} (hp:p ∈ zf1 fp h):p.1 ∈ fp /\ h.get? p.1=some p.2:=by
 obtain ⟨b,hb,e⟩:=List.mem_filterMap.mp hp;cases q:h.get? b with
 | none=>simp_all
 | some o =>
  rw [q] at e;have e':(b,o)=p:=Option.some.inj e;subst e';exact ⟨hb,q⟩
theorem Inv.pinned {σ:St} (I:Inv X pins σ H s) (hf:∀ b ∈ fp,FpOk X pins H b) (ho:∀ b ∈ fp,∃ o,s.heap.get? b=some o /\ ∀ v,o.data ≠ .cell v):Inv X (pins ++ zf1 fp s.heap) σ H s :=
 I.pins_of λ p hp=>(List.mem_append.mp hp).elim (λ z=>I.pin p (mem_append_right _ z)) λ z=>by
  obtain ⟨hb,e⟩:=tz1 z;obtain ⟨f0,f1,f2,_⟩:=hf p.1 hb;obtain ⟨o,e',d⟩:=ho p.1 hb
  simp_all
theorem Inv.unpinned {pl:List (Addr × Obj)} {σ:St} (I:Inv X (pins ++ pl) σ H s):Inv X pins σ H s:=I.pins_of λ p hp=>I.pin p (mem_append_right _ (mem_append_left _ hp))
theorem xb5 {iter:Expr} {wi:TI} {tb:TS} {pos:Pos} (hp:PassesOwn (model X.prog X.w) X.A X.env X.xe) (hc:X.calm=true) (hi:PI X tg iter wi) (hg:PG X tg g) (hb:PSs X body tb)
    (hs:∀ x,foldedSetIterable iter X.env x=pure x:=by intro _; rfl):PS X (.For tg iter body [] pos) (tFor wi g tb):=by
 intro pins s σ H D I h;refine wpAny_For (thn (hi pins s σ H _ I h) λ v s1 h1=>thn h1 λ itv s2 h2=>?_) hs;obtain ⟨it,fp,tn,J,H2,e,I2,T,st2,f2,W,⟨m0,w0⟩,turn⟩:=h2;subst e;have stat:∀ {H':Hp},(∀ b ∈ fp,H' b=none)->∀ b ∈ fp,FpOk X pins H' b:=λ hn b hb=>⟨hn b hb,(f2 b hb).2⟩;refine codeAny_forLoop_any (λ n s'=>∃ i σ' H',Inv X pins σ' H' s' /\ tn i s'.heap /\ (∀ b ∈ fp,H' b=none) /\ W i n σ' H') ?_ m0 ⟨0,σ,H2,I2,st2,λ b hb=>(f2 b hb).1,w0⟩;rintro n s3 ⟨i,σ3,H3,I3,st3,fr3,w3⟩;rcases turn i n σ3 H3 w3 with ⟨stop,qn⟩ | ⟨go,N,hN,step⟩
 ·refine wpAny_passesOwn hp (thn (T.done X rfl rfl rfl hc i pins s3 σ3 H3 X.xe I3 (stat fr3) st3 stop) λ r s4 ⟨hr,I4⟩=>?_);subst hr;exact wpAny_execs_nil ⟨σ3,H3,I4,qn⟩
 ·refine wpAny_passesOwn hp (thn (T.item X rfl rfl rfl hc i pins s3 σ3 H3 X.xe I3 (stat fr3) st3 go) λ r s4 ⟨u,hr,h4⟩=>?_);subst hr;refine wpAny_passesOwn hp (thn h4 λ _ s5 ⟨x,H5,I5,r5,y5,st5,fr5⟩=>?_);have I5':=I5.pinned (stat fr5) (T.obj _ _ st5);refine wpAny_passesOwn hp (thn (hg _ s5 σ3 H5 x u _ I5' r5 (step x H5 y5)) λ _ s6 ⟨σ6,H6,I6,q6⟩=>?_);refine wpAny_passesOwn hp (thn (hb _ s6 σ6 H6 _ I6 q6) λ f s7 q7=>?_)
  have again:∀ {σ7:St} {H7:Hp},Inv X (pins ++ zf1 fp s5.heap) σ7 H7 s7->N σ7 H7->∃ m,m < n /\ ∃ i σ' H',Inv X pins σ' H' s7 /\ tn i s7.heap /\ (∀ b ∈ fp,H' b=none) /\ W i m σ' H':=λ {σ7 H7} I7 n7=>by
   obtain ⟨m',hm,w7⟩:=hN σ7 H7 n7;refine ⟨m',hm,i + 1,σ7,H7,I7.unpinned,T.keep _ _ _ st5 λ b hb o e=>(I7.pin (b,o) (mem_append_right _ (mem_append_right _ (xl0 hb e)))).1,λ b hb=>?_,w7⟩;obtain ⟨o,e,d⟩:=T.obj _ _ st5 b hb;exact (I7.pin (b,o) (mem_append_right _ (mem_append_right _ (xl0 hb e)))).2.1
  cases f with
  | next=>obtain ⟨σ7,H7,I7,n7⟩:=q7; exact again I7 n7
  | cont=>obtain ⟨σ7,H7,I7,n7⟩:=q7; exact again I7 n7
  | brk=>obtain ⟨σ7,H7,I7,q7⟩:=q7; exact ⟨σ7,H7,I7.unpinned,q7⟩
  | ret v=>obtain ⟨x7,σ7,H7,I7,r7,q7⟩:=q7; exact ⟨x7,σ7,H7,I7.unpinned,r7,q7⟩
end
noncomputable abbrev R2:=V->V->Hp->VK->Prop
noncomputable def OpR (X:Cx) (f:Value->Value->Sem Value) (r:R2):Prop :=
 ∀ (pins:List (Addr × Obj)) (s:Shared) (σ:St) (H:Hp) (x y:V) (v u:Value) (Q:VK),Inv X pins σ H s->RelV x v->RelV y u->r x y H Q ->
  wpAny (model X.prog X.w) X.A (f v u) (EP X pins σ Q) X.xe s
noncomputable def UnR (X:Cx) (f:Value->Sem Value) (r:V->Hp->VK->Prop):Prop :=
 ∀ (pins:List (Addr × Obj)) (s:Shared) (σ:St) (H:Hp) (x:V) (v:Value) (Q:VK),Inv X pins σ H s->RelV x v->r x H Q ->
  wpAny (model X.prog X.w) X.A (f v) (EP X pins σ Q) X.xe s
noncomputable def CallR (X:Cx) (f:Value) (r:List V->Hp->VK->Prop):Prop :=
 ∀ (pins:List (Addr × Obj)) (s:Shared) (σ:St) (H:Hp) (xs:List V) (us:List Value) (Q:VK),Inv X pins σ H s->Vals xs us->r xs H Q ->
  wpAny (model X.prog X.w) X.A (call f us) (EP X pins σ Q) X.xe s
noncomputable def tOp (r:R2) (ta tb:TE):TE:=λ σ H Q=>ta σ H λ x H1=>tb σ H1 λ y H2=>r x y H2 Q
noncomputable def tUn (r:V->Hp->VK->Prop) (ta:TE):TE:=λ σ H Q=>ta σ H λ x H1=>r x H1 Q
noncomputable def rI (C:Int->Int->Prop) (g:Int->Int->V):R2:=λ x y H Q=>∃ i j,x=.int i /\ y=.int j /\ C i j /\ Q (g i j) H
noncomputable def rI0 (g:Int->Int->V):R2:=λ x y H Q=>∃ i j,x=.int i /\ y=.int j /\ Q (g i j) H
noncomputable def rU (g:Int->V):V->Hp->VK->Prop:=λ x H Q=>∃ i,x=.int i /\ Q (g i) H
section
variable {a b c:Expr} {tc:TE} {pos:Pos}
theorem binT (ha:PE X a ta) (hb:PE X b tb) {σ:St} {R:V->V->Hp->Prop} (I:Inv X pins σ H s)
    (h:ta σ H λ x H1=>tb σ H1 λ y H2=>R x y H2) {f:Value->Value->Sem Value}
    (hf:∀ v u s2 x y H2,Inv X pins σ H2 s2->RelV x v->RelV y u->R x y H2->wpAny (model X.prog X.w) X.A (f v u) Q X.xe s2) :
    wpAny (model X.prog X.w) X.A (eval a X.env) (λ v s₁=>wpAny (model X.prog X.w) X.A (eval b X.env) (λ u s₂=>wpAny (model X.prog X.w) X.A (f v u) Q X.xe s₂) X.xe s₁) X.xe s:=by
 refine thn (ha pins s σ H _ I h) λ v s1 ⟨x,H1,I1,r1,q1⟩=>?_;refine thn (hb pins s1 σ H1 _ I1 q1) λ u s2 ⟨y,H2,I2,r2,q2⟩=>?_;exact hf v u s2 x y H2 I2 r1 r2 q2
theorem pe_op {op:Operator} {r:R2} (ho:OpR X (binaryOp op) r) (ha:PE X a ta) (hb:PE X b tb):PE X (.BinOp a op b pos) (tOp r ta tb):=by
 intro pins s σ H Q I h;exact wpAny_BinOp (binT ha hb I h λ v u s2 x y H2 I2 rx ry q=>ho pins s2 σ H2 x y v u Q I2 rx ry q)
theorem pe_un {op:UnaryOp} {r:V->Hp->VK->Prop} (ho:UnR X (unaryOp op) r) (ha:PE X a ta):PE X (.UnaryOp op a pos) (tUn r ta):=by
 intro pins s σ H Q I h;exact UnaryOp_ (thn (ha pins s σ H _ I h) λ v s1 ⟨x,H1,I1,r1,q1⟩=>ho pins s1 σ H1 x v Q I1 r1 q1)
theorem opI {f:Value->Value->Sem Value} {C:Int->Int->Prop} {g:Int->Int->Int}
    (rule:∀ (i j:Int) (t u:Tok) (s:Shared) (Q:[8]) (E:[8]),C i j->Q (.int (g i j) s.toks) { s with toks:=s.toks + 1 }->wpAny (model X.prog X.w) X.A (f (.int i t) (.int j u)) Q E s) :
    OpR X f (rI C λ i j=>.int (g i j)):=by
 intro pins s σ H x y v u Q I rx ry h;obtain ⟨i,j,rfl,rfl,hc,q⟩:=h;obtain ⟨t,rfl⟩:=rx;obtain ⟨t',rfl⟩:=ry;exact rule i j t t' s _ _ hc ⟨.int (g i j),H,I.tok _,⟨_,rfl⟩,q⟩
theorem opI0 {f:Value->Value->Sem Value} {g:Int->Int->Int}
    (rule:∀ (i j:Int) (t u:Tok) (s:Shared) (Q:[8]) (E:[8]),Q (.int (g i j) s.toks) { s with toks:=s.toks + 1 }->wpAny (model X.prog X.w) X.A (f (.int i t) (.int j u)) Q E s) :
    OpR X f (rI0 λ i j=>.int (g i j)):=by
 intro pins s σ H x y v u Q I rx ry h;obtain ⟨i,j,rfl,rfl,q⟩:=h;obtain ⟨t,rfl⟩:=rx;obtain ⟨t',rfl⟩:=ry;exact rule i j t t' s _ _ ⟨.int (g i j),H,I.tok _,⟨_,rfl⟩,q⟩
theorem opB0 {f:Value->Value->Sem Value} {g:Int->Int->Bool}
    (rule:∀ (i j:Int) (t u:Tok) (s:Shared) (Q:[8]) (E:[8]),Q (.bool (g i j)) s->wpAny (model X.prog X.w) X.A (f (.int i t) (.int j u)) Q E s) :
    OpR X f (rI0 λ i j=>.bl (g i j)):=by
 intro pins s σ H x y v u Q I rx ry h;obtain ⟨i,j,rfl,rfl,q⟩:=h;obtain ⟨t,rfl⟩:=rx;obtain ⟨t',rfl⟩:=ry;exact rule i j t t' s _ _ ⟨.bl (g i j),H,I,rfl,q⟩
noncomputable def CPow (i j:Int):Prop:=0<=j /\ j<=1000000 /\ i.natAbs < 2 ^ 64
noncomputable def CMul (i j:Int):Prop:=(-(2 ^ 64) < i /\ i < 2 ^ 64) \/ (-(2 ^ 64) < j /\ j < 2 ^ 64)
theorem CMul.ok {i j:Int} (h:CMul i j):IntMulOk i j:=by
 rcases h with ⟨h1,h2⟩ | ⟨h1,h2⟩
 ·exact .of_left (intBits_le_64 h1 h2)
 ·exact .of_right (intBits_le_64 h1 h2)
theorem op_add:OpR X (binaryOp .Add) (rI0 λ i j=>.int (i + j)):=opI0 λ _ _ _ _ _ _ _ q=>add_int q
theorem ye5:OpR X (binaryOp .Sub) (rI0 λ i j=>.int (i - j)):=opI0 λ _ _ _ _ _ _ _ q=>sub_int q
theorem ue5:OpR X (binaryOp .Mod) (rI (λ _ j=>0 < j) λ i j=>.int (i % j)):=opI λ i j _ _ _ _ _ hc q=>by
 have h1:(0:Int) < j:=hc;exact mod_int' [2] (by rw [Int.fmod_eq_emod_of_nonneg i [2]]; exact q)
theorem we5:OpR X (binaryOp .Pow) (rI CPow λ i j=>.int (i ^ j.toNat)):=opI λ _ _ _ _ _ _ _ hc q=>pow_int_small hc.1 hc.2.1 hc.2.2 q
theorem unI {f:Value->Sem Value} {g:Int->Int}
    (rule:∀ (i:Int) (t:Tok) (s:Shared) (Q:[8]) (E:[8]),Q (.int (g i) s.toks) { s with toks:=s.toks + 1 }->wpAny (model X.prog X.w) X.A (f (.int i t)) Q E s) :
    UnR X f (rU λ i=>.int (g i)):=by
 intro pins s σ H x v Q I rx h;obtain ⟨i,rfl,q⟩:=h;obtain ⟨t,rfl⟩:=rx;exact rule i t s _ _ ⟨.int (g i),H,I.tok _,⟨_,rfl⟩,q⟩
theorem sb4:UnR X (unaryOp .USub) (rU λ i=>.int (-i)):=unI λ _ _ _ _ _ q=>neg_int q
end
noncomputable def scal:V->V->Bool
 | .non,.non=>true | .non,.int _=>true | .int _,.non=>true | .non,.bl _=>true | .bl _,.non=>true | .non,.str _=>true | .str _,.non=>true
 | .int _,.int _=>true | .bl _,.bl _=>true | .str _,.str _=>true | .byt _,.byt _=>true
 | .int _,.str _=>true | .str _,.int _=>true | .bl _,.str _=>true | .str _,.bl _=>true
 | _,_=>false
noncomputable def rEq:R2:=λ x y H Q=>scal x y=true /\ Q (.bl (decide (x=y))) H
noncomputable def rNe:R2:=λ x y H Q=>scal x y=true /\ Q (.bl (!decide (x=y))) H
theorem ud2 {i j:Int}:decide (V.int i=V.int j)=(i == j):=by
 rw [Bool.eq_iff_iff];simp
theorem yf3 {i j:Bool}:decide (V.bl i=V.bl j)=(i == j):=by
 rw [Bool.eq_iff_iff];simp
theorem vd2 {i j:Str}:decide (V.str i=V.str j)=(i == j):=by
 rw [Bool.eq_iff_iff];simp
theorem td2 {i j:Array UInt8}:decide (V.byt i=V.byt j)=(i.toList == j.toList):=by
 rw [Bool.eq_iff_iff];simp
variable {us:List Value}
section
variable {a b c:Expr} {tc:TE} {pos:Pos}
theorem sb0 {σ:St} {Q:VK} {k k':Bool} (I:Inv X pins σ H s) (q:Q (.bl k) H) (e:k=k'):EP X pins σ Q (.bool k') s:=by
 subst e;exact ⟨.bl k,H,I,rfl,q⟩
theorem op_eq:OpR X (compareOp .Eq) rEq:=by
 intro pins s σ H x y v u Q I rx ry h;obtain ⟨hs,q⟩:=h;cases x with
 | non =>
  cases rx;cases y with
  | non=>cases ry; exact PySem.EqNone.eq_none_none (sb0 I q (by simp))
  | bl j=>cases ry; exact PySem.EqNone.eq_none_bool (sb0 I q (by simp))
  | int j=>obtain ⟨t',rfl⟩:=ry; exact PySem.EqNone.eq_none_int (sb0 I q (by simp))
  | str j=>obtain ⟨t',rfl⟩:=ry; exact PySem.EqNone.eq_none_str (sb0 I q (by simp))
  | _=>trivial
 | bl i =>
  cases rx;cases y with
  | non=>cases ry; exact PySem.EqNone.eq_bool_none (sb0 I q (by simp))
  | bl j=>cases ry; exact eq_bool (sb0 I q yf3)
  | str j=>obtain ⟨t',rfl⟩:=ry; exact PySem.EqMixed.eq_bool_str (sb0 I q (by simp))
  | _=>trivial
 | int i =>
  obtain ⟨t,rfl⟩:=rx;cases y with
  | non=>cases ry; exact PySem.EqNone.eq_int_none (sb0 I q (by simp))
  | int j=>obtain ⟨t',rfl⟩:=ry; exact eq_int (sb0 I q ud2)
  | str j=>obtain ⟨t',rfl⟩:=ry; exact PySem.EqMixed.eq_int_str (sb0 I q (by simp))
  | _=>trivial
 | str i =>
  obtain ⟨t,rfl⟩:=rx;cases y with
  | non=>cases ry; exact PySem.EqNone.eq_str_none (sb0 I q (by simp))
  | bl j=>cases ry; exact PySem.EqMixed.eq_str_bool (sb0 I q (by simp))
  | int j=>obtain ⟨t',rfl⟩:=ry; exact PySem.EqMixed.eq_str_int (sb0 I q (by simp))
  | str j=>obtain ⟨t',rfl⟩:=ry; exact eq_str (sb0 I q vd2)
  | _=>trivial
 | byt i =>
  obtain ⟨t,rfl⟩:=rx;cases y with
  | byt j=>obtain ⟨t',rfl⟩:=ry; exact PySem.W.eq_bytes (sb0 I q td2)
  | _=>trivial
 | _=>trivial
theorem op_ne:OpR X (compareOp .NotEq) rNe:=by
 intro pins s σ H x y v u Q I rx ry h;obtain ⟨hs,q⟩:=h;cases x with
 | non =>
  cases rx;cases y with
  | non=>cases ry; exact PySem.EqNone.ne_none_none (sb0 I q (by simp))
  | bl j=>cases ry; exact PySem.EqNone.ne_none_bool (sb0 I q (by simp))
  | int j=>obtain ⟨t',rfl⟩:=ry; exact PySem.EqNone.ne_none_int (sb0 I q (by simp))
  | str j=>obtain ⟨t',rfl⟩:=ry; exact PySem.EqNone.ne_none_str (sb0 I q (by simp))
  | _=>trivial
 | bl i =>
  cases rx;cases y with
  | non=>cases ry; exact PySem.EqNone.ne_bool_none (sb0 I q (by simp))
  | bl j=>cases ry; exact ne_bool (sb0 I q (congrArg not yf3))
  | str j=>obtain ⟨t',rfl⟩:=ry; exact PySem.EqMixed.ne_bool_str (sb0 I q (by simp))
  | _=>trivial
 | int i =>
  obtain ⟨t,rfl⟩:=rx;cases y with
  | non=>cases ry; exact PySem.EqNone.ne_int_none (sb0 I q (by simp))
  | int j=>obtain ⟨t',rfl⟩:=ry; exact ne_int (sb0 I q (congrArg not ud2))
  | str j=>obtain ⟨t',rfl⟩:=ry; exact PySem.EqMixed.ne_int_str (sb0 I q (by simp))
  | _=>trivial
 | str i =>
  obtain ⟨t,rfl⟩:=rx;cases y with
  | non=>cases ry; exact PySem.EqNone.ne_str_none (sb0 I q (by simp))
  | bl j=>cases ry; exact PySem.EqMixed.ne_str_bool (sb0 I q (by simp))
  | int j=>obtain ⟨t',rfl⟩:=ry; exact PySem.EqMixed.ne_str_int (sb0 I q (by simp))
  | str j=>obtain ⟨t',rfl⟩:=ry; exact ne_str (sb0 I q (congrArg not vd2))
  | _=>trivial
 | byt i =>
  obtain ⟨t,rfl⟩:=rx;cases y with
  | byt j=>obtain ⟨t',rfl⟩:=ry; exact PySem.W.ne_bytes (sb0 I q (congrArg not td2))
  | _=>trivial
 | _=>trivial
theorem op_lt:OpR X (compareOp .Lt) (rI0 λ i j=>.bl (decide (i < j))):=opB0 λ _ _ _ _ _ _ _ q=>lt_int q
theorem op_le:OpR X (compareOp .LtE) (rI0 λ i j=>.bl (decide (i<=j))):=opB0 λ _ _ _ _ _ _ _ q=>le_int q
theorem op_gt:OpR X (compareOp .Gt) (rI0 λ i j=>.bl (decide (j < i))):=opB0 λ _ _ _ _ _ _ _ q=>gt_int q
theorem op_ge:OpR X (compareOp .GtE) (rI0 λ i j=>.bl (decide (j<=i))):=opB0 λ _ _ _ _ _ _ _ q=>ge_int q
theorem vz1:OpR X (compareOp .In) (λ x y H Q=>∃ i j,x=.str i /\ y=.str j /\ Q (.bl (!(Builtin.Str.occurrences j i 0 j.length 1).isEmpty)) H):=by
 intro pins s σ H x y v u Q I rx ry h;obtain ⟨i,j,rfl,rfl,q⟩:=h;obtain ⟨t,rfl⟩:=rx;obtain ⟨t',rfl⟩:=ry;exact in_str (sb0 I q rfl)
theorem te5:OpR X (compareOp .Is) (λ x y H Q=>y=.non /\ Q (.bl (decide (x=.non))) H):=by
 intro pins s σ H x y v u Q I rx ry h;obtain ⟨rfl,q⟩:=h;cases ry;refine is_none_gen (sb0 I q ?_)
 cases x <;> first
  | (cases rx; rfl)
  | (obtain ⟨t,rfl⟩:=rx; rfl)
theorem ys3:OpR X (compareOp .IsNot) (λ x y H Q=>y=.non /\ Q (.bl (!decide (x=.non))) H):=by
 intro pins s σ H x y v u Q I rx ry h;obtain ⟨rfl,q⟩:=h;cases ry;refine isnot_none_gen (sb0 I q ?_)
 cases x <;> first
  | (cases rx; rfl)
  | (obtain ⟨t,rfl⟩:=rx; rfl)
theorem OpR.or {f:Value->Value->Sem Value} {r r':R2} (h:OpR X f r) (h':OpR X f r'):OpR X f (λ x y H Q=>r x y H Q \/ r' x y H Q):=by
 intro pins s σ H x y v u Q I rx ry q;rcases q with q | q
 ·exact h pins s σ H x y v u Q I rx ry q
 ·exact h' pins s σ H x y v u Q I rx ry q
theorem zd3 (b:Expr) {op:CmpOp} (h:op ≠ .In:=by decide) (h2:op ≠ .NotIn:=by decide):behindInMarks op b=false:=by
 have e1:(op == CmpOp.In)=false:=by simp_all
 have e2:(op == CmpOp.NotIn)=false:=by simp_all
 cases b <;> simp [behindInMarks,e1,e2]
theorem wr3 {op:CmpOp} {r:R2} (ho:OpR X (compareOp op) r) (ha:PE X a ta) (hb:PE X b tb) (hm:behindInMarks op b=false):PE X (.Compare a [op] [b] pos) (tOp r ta tb):=by
 intro pins s σ H Q I h;exact wpAny_Compare1 (binT ha hb I h λ v u s2 x y H2 I2 rx ry q=>ho pins s2 σ H2 x y v u Q I2 rx ry q) hm
noncomputable def zj3 (t:TE):TT:=λ σ H Q=>t σ H λ x H'=>∃ k,x=.bl k /\ Q k H'
theorem tp3 {op:CmpOp} {r:R2} (ho:OpR X (compareOp op) r) (ha:PE X a ta) (hb:PE X b tb) (hm:behindInMarks op b=false):PT X (.Compare a [op] [b] pos) (zj3 (tOp r ta tb)):=by
 intro pins s σ H Q I h
 refine wpAny_isTrue_Compare1 (thn (ha pins s σ H _ I h) λ v s1 ⟨x,H1,I1,r1,q1⟩=>thn (hb pins s1 σ H1 _ I1 q1) λ u s2 ⟨y,H2,I2,r2,q2⟩ =>
  thn (ho pins s2 σ H2 x y v u _ I2 r1 r2 q2) λ c s3 ⟨z,H3,I3,r3,k,e,q3⟩=>?_) hm
 subst e;cases r3;exact wpAny_truthy_bool ⟨H3,I3,q3⟩
noncomputable def tg4 (r r':R2) (ta tb tc:TE):TE:=λ σ H Q=>ta σ H λ x H1=>tb σ H1 λ y H2=>r x y H2 λ z H3=>∃ k,z=.bl k ∧
 (if k=true then tc σ H3 λ w' H4=>r' y w' H4 Q else Q (.bl false) H3)
theorem ur2 {op op':CmpOp} {r r':R2} (ho:OpR X (compareOp op) r) (ho':OpR X (compareOp op') r') (ha:PE X a ta) (hb:PE X b tb) (hc:PE X c tc)
    (hm:lastMarks [op,op'] [b,c]=false:=by with_unfolding_all rfl):PT X (.Compare a [op,op'] [b,c] pos) (zj3 (tg4 r r' ta tb tc)):=by
 intro pins s σ H Q I h
 refine isTrue_chain (thn (ha pins s σ H _ I h) λ v s1 ⟨x,H1,I1,r1,q1⟩=>test_link (thn (hb pins s1 σ H1 _ I1 q1) λ u s2 ⟨y,H2,I2,r2,q2⟩ =>
  thn (ho pins s2 σ H2 x y v u _ I2 r1 r2 q2) λ d s3 ⟨z,H3,I3,r3,k,e,q3⟩=>?_)) hm
 subst e;cases r3;refine wpAny_truthy_bool ?_;cases k with
 | false =>
  obtain ⟨k',e',q'⟩:=q3;cases e';exact ite_ff ⟨H3,I3,q'⟩
 | true =>
  refine ite_tt (test_last (thn (hc pins s3 σ H3 _ I3 q3) λ w' s4 ⟨z',H4,I4,r4,q4⟩=>thn (ho' pins s4 σ H4 y z' u w' _ I4 r2 r4 q4) λ d' s5 ⟨z2,H5,I5,r5,k2,e2,q5⟩=>?_));subst e2;cases r5;exact wpAny_truthy_bool ⟨H5,I5,q5⟩
theorem sf1:(sizeLine:Nat) < 2 ^ 63:=by trivial
theorem zt1:OpR X (binaryOp .Add) (λ x y H Q=>∃ i j,x=.str i /\ y=.str j /\ i.length + j.length<=sizeLine /\ Q (.str (i ++ j)) H):=by
 intro pins s σ H x y v u Q I rx ry h;obtain ⟨i,j,rfl,rfl,hz,q⟩:=h;obtain ⟨t,rfl⟩:=rx;obtain ⟨t',rfl⟩:=ry;exact add_str (λ t' tk=>⟨.str (i ++ j),H,I.tok _,⟨_,rfl⟩,q⟩) hz
theorem ww0 {x:V} (r:Vals [x] us):∃ u,us=[u] /\ RelV x u:=by
 cases r with
 | cons r1 r2=>cases r2; simp_all
theorem ys1 {x y:V} (r:Vals [x,y] us):∃ u w',us=[u,w'] /\ RelV x u /\ RelV y w':=by
 cases r with
 | cons r1 r2 =>
  cases r2 with
  | cons r3 r4=>cases r4; exact ⟨_,_,rfl,r1,r3⟩
theorem wx2:CallR X (.builtin "abs") (λ xs H Q=>∃ i,xs=[.int i] /\ Q (.int (if i < 0 then -i else i)) H):=by
 intro pins s σ H xs us Q I r h;obtain ⟨i,rfl,q⟩:=h;obtain ⟨u,rfl,t,rfl⟩:=ww0 r;exact call_abs_int λ u tk=>⟨.int (if i < 0 then -i else i),H,I.tok _,⟨_,rfl⟩,q⟩
theorem xf2 (hc:X.calm=true):CallR X (.builtin "max") (λ xs H Q=>∃ i j,xs=[.int i,.int j] /\ Q (.int (if j > i then j else i)) H):=by
 intro pins s σ H xs us Q I r h;obtain ⟨i,j,rfl,q⟩:=h;obtain ⟨u,w',rfl,⟨t,rfl⟩,⟨t',rfl⟩⟩:=ys1 r;refine max_two_ints (I.ok.hd hc) λ h' tk k=>⟨_,H,I.kept k,?_,q⟩;by_cases hj:j > i
 ·rw [if_pos hj,if_pos hj]; exact ⟨_,rfl⟩
 ·rw [if_neg hj,if_neg hj]; exact ⟨_,rfl⟩
theorem te2 (hc:X.calm=true):CallR X (.builtin "min") (λ xs H Q=>∃ i j,xs=[.int i,.int j] /\ Q (.int (if j < i then j else i)) H):=by
 intro pins s σ H xs us Q I r h;obtain ⟨i,j,rfl,q⟩:=h;obtain ⟨u,w',rfl,⟨t,rfl⟩,⟨t',rfl⟩⟩:=ys1 r;refine min_two_ints (I.ok.hd hc) λ h' tk k=>⟨_,H,I.kept k,?_,q⟩;by_cases hj:j < i
 ·rw [if_pos hj,if_pos hj]; exact ⟨_,rfl⟩
 ·rw [if_neg hj,if_neg hj]; exact ⟨_,rfl⟩
theorem call_int1:CallR X (.type "int") (λ xs H Q=>(∃ i,xs=[.int i] /\ Q (.int i) H) \/ ∃ k,xs=[.bl k] /\ Q (.int (if k then 1 else 0)) H):=by
 intro pins s σ H xs us Q I r h;rcases h with ⟨i,rfl,q⟩ | ⟨k,rfl,q⟩
 ·obtain ⟨u,rfl,t,rfl⟩:=ww0 r;exact call_int_int ⟨.int i,H,I,⟨_,rfl⟩,q⟩
 ·obtain ⟨u,rfl,r1⟩:=ww0 r;cases r1;exact call_int_bool ⟨.int (if k then 1 else 0),H,I.tok _,⟨_,rfl⟩,q⟩
end
structure Cls (K:PySem.W.Frag) (C:Addr):Prop where
 pg:PySem.W.plainGet K C Str.empty=true
 hd:PySem.W.hasDictIn K C=true
 po:PySem.W.plainOver K C=true
 sa:findIn K (.ref C) "__setattr__" = some (some (.builtin "object.__setattr__"))
section
variable {σ:St} {E:[8]} {c:Value} {b:Bool}
inductive TyOf (K:PySem.W.Frag) (H:Hp):V->Value->Prop where
 | non:TyOf K H .non (.type "NoneType")
 | bl (x:Bool):TyOf K H (.bl x) (.type "bool")
 | int (i:Int):TyOf K H (.int i) (.type "int")
 | str (x:Str):TyOf K H (.str x) (.type "str")
 | flt (x:UInt64):TyOf K H (.flt x) (.type "float")
 | lst {a:Addr} {xs:List V} (e:H a=some (.lst xs)):TyOf K H (.ref a) (.type "list")
 | frz {a:Addr} {o:Obj} {xs:List V} (e:H a=some (.frz o (.lst xs))):TyOf K H (.ref a) (.type "list")
 | tup {a:Addr} {xs:List V} (e:H a=some (.tup xs)):TyOf K H (.ref a) (.type "tuple")
 | dK {a:Addr} {kvs:List (Key × V)} (e:H a=some (.dK kvs)):TyOf K H (.ref a) (.type "dict")
 | dT {a:Addr} {kvs:List (List Key × V)} (e:H a=some (.dT kvs)):TyOf K H (.ref a) (.type "dict")
 | ins {a C dx:Addr} {fs:List (Str × V)} (e:H a=some (.ins C dx fs)) (cl:Cls K C) (ha:findIn K (.ref C) "__class__" = some (some (.builtin "object.__class__")))
     (hn:PySem.W.specialIn K (.builtin "object.__class__") "__get__" = some (some (.builtin "getset_descriptor.__get__"))) (htk:PySem.W.takesIn K (.builtin "object.__class__")=some true)
     (hm:PySem.W.mroIn K C (.type "object")=some true):TyOf K H (.ref a) (.ref C)
end
structure Room (k:Nat) (A:Around):Prop where
 hd:A.handled=none
 dp:A.depth + 3 * k + 5 < recursionLimit
 un:A.units + 16 * k + 200 < cLine
theorem Room.mono {j:Nat} (r:Room k A) (h:j<=k):Room j A:=⟨r.hd,by have:=r.dp; omega,by have:=r.un; omega⟩
theorem Room.deeper {k:Nat} {A:Around} (r:Room (k + 1) A) (env:Env):Room k (A.deeper env) :=
 ⟨r.hd,by have:=r.dp; show A.depth + 1 + 3 * k + 5 < _; omega,by have:=r.un; simp_all;omega⟩
theorem Room.depth {k:Nat} {A:Around} (r:Room k A):A.depth < recursionLimit:=by have:=r.dp; omega
noncomputable def tNil:TA:=λ _ H Q=>Q [] H
noncomputable def tCons (ta:TE) (tr:TA):TA:=λ σ H Q=>ta σ H λ x H1=>tr σ H1 λ xs H2=>Q (x :: xs) H2
section
variable {e:Expr} {t:TA} {pos:Pos}
theorem td5:PA X [] tNil:=λ _ _ _ _ H Q I h=>Calls.spliced_nil ⟨[],H,I,.nil,h⟩
theorem xs3 (ha:PE X e te) (hr:PA X es t) (hs:starEach (e :: es) X.env=(false,eval e X.env) :: starEach es X.env:=by rfl):PA X (e :: es) (tCons te t):=by
 intro pos pins s σ H Q I h;rw [hs];show wpAny _ _ (spliced ((false,eval e X.env) :: backTo pos (starEach es X.env))) _ _ s;refine Calls.spliced_cons (thn (ha pins s σ H _ I h) λ u s1 ⟨x,H1,I1,r1,q1⟩=>?_);exact thn (hr pos pins s1 σ H1 _ I1 q1) λ us s2 ⟨xs,H2,I2,r2,q2⟩=>⟨x :: xs,H2,I2,.cons r1 r2,q2⟩
noncomputable def tTup (t:TA):TE:=λ σ H Q=>t σ H λ xs H1=>xs.length<=sizeLine /\ ∀ p,H1 p=none->Q (.ref p) (upd H1 p (.tup xs))
noncomputable def tLst (t:TA):TE:=λ σ H Q=>t σ H λ xs H1=>xs.length<=sizeLine /\ ∀ p,H1 p=none->Q (.ref p) (upd H1 p (.lst xs))
theorem wc5 {x1} (h:PA X es t):PE X (.Tuple es x1 pos) (tTup t):=by
 intro pins s σ H Q I hq;refine wpAny_Tuple_spliced (thn (h pos pins s σ H _ I hq) λ us s1 ⟨xs,H1,I1,r,z,q⟩=>⟨by rw [<- r.length]; exact z,?_⟩);have hf:H1 s1.heap.objs.size=none:=I1.hok.fresh (Nat.le_refl _);refine ⟨.ref s1.heap.objs.size,upd H1 s1.heap.objs.size (.tup xs),I1.laid (t':=s1.toks) (λ b u e=>Heap.get?_push_of_some _ e) (Nat.le_refl _) ?_,rfl,q _ hf⟩;exact ⟨z,us,r,⟨_,Heap.get?_push_size _ rfl,rfl,_,rfl⟩⟩
theorem yd5 (h:PA X es t):PE X (.List es pos) (tLst t):=by
 intro pins s σ H Q I hq;refine wpAny_List_spliced (thn (h pos pins s σ H _ I hq) λ us s1 ⟨xs,H1,I1,r,z,q⟩=>⟨by rw [<- r.length]; exact z,?_⟩);have hf:H1 s1.heap.objs.size=none:=I1.hok.fresh (Nat.le_refl _);refine ⟨.ref s1.heap.objs.size,upd H1 s1.heap.objs.size (.lst xs),I1.laid (t':=s1.toks) (λ b u e=>Heap.get?_push_of_some _ e) (Nat.le_refl _) ?_,rfl,q _ hf⟩;exact ⟨z,us,0,r,Heap.get?_push_size _ rfl⟩
end
noncomputable abbrev Sp:=List V->Hp->VK->XK->Prop
noncomputable abbrev CXT:=List Env->Hp->Shared->XK->Value->Shared->Prop
structure Env0 (P:Program) (w:World) (K:PySem.W.Frag) (mg:Str->Option Value) (base:Heap) (A:Around) (outer:List Env) (s:Shared) (H:Hp):Prop where
 frames:A.frames=some outer
 mod:Mod K mg base
 bs:∀ b o,base.get? b=some o->s.heap.get? b=some o /\ H b=none
 bsz:base.objs.size<=s.heap.objs.size
 funs:s.heap.FunFrames base outer
 frf:∀ b ∈ frs outer,H b=none
 hok:HOk P w H s.heap
 bare:AllBare s.gens
noncomputable def CE (outer:List Env) (P:Program) (w:World) (H:Hp) (s:Shared) (Q:VK) (u:Value) (s':Shared):Prop :=
 ∃ v H',s'.os=s.os /\ AllBare s'.gens /\ Un (frs outer) [] H H' s.heap s'.heap /\ HOk P w H' s'.heap /\ RelV v u /\ Q v H'
noncomputable def CR (CX:CXT) (outer:List Env) (P:Program) (w:World) (H:Hp) (s:Shared) (Q:VK) (E:XK) (r:Result) (s':Shared):Prop :=
 match r with
 | .ok (.ret u)=>CE outer P w H s Q u s'
 | .ok _=>False
 | .error e=>CX outer H s E e s'
structure FnOk (P:Program) (w:World) (K:PySem.W.Frag) (mg:Str->Option Value) (base:Heap) (CX:CXT) (k:Nat) (f:Addr) (fd:FuncData) (ps:List Str) (sp:Sp):Prop where
 len:∀ vs H Q E,sp vs H Q E->vs.length=ps.length
 run:∀ (A:Around) (outer:List Env) (s:Shared) (H:Hp) (args:Args) (us:List Value) (vs:List V) (Q:VK) (E:XK),Room k A->Env0 P w K mg base A outer s H->BindsTo s fd args (ps.zip us)->Vals vs us->sp vs H Q E ->
  codeAny (model P w) A (.call (.ref f) args) (CR CX outer P w H s Q E) s
theorem FnOk.mono {P:Program} {w:World} {K:PySem.W.Frag} {mg:Str->Option Value} {base:Heap} {CX:CXT} {j k:Nat} {f:Addr} {fd:FuncData} {ps:List Str} {sp:Sp} (F:FnOk P w K mg base CX j f fd ps sp) (h:j<=k) :
    FnOk P w K mg base CX k f fd ps sp:=⟨F.len,λ A outer s H args us vs Q E hr=>F.run A outer s H args us vs Q E (hr.mono h)⟩
section
variable {σ:St} 
theorem Inv.env0 (I:Inv X pins σ H s):Env0 X.prog X.w X.K X.mg X.base X.A X.stack s H :=
 ⟨I.ok.frames,I.ok.mod,I.bs,Nat.le_trans I.ok.bsz I.sz,I.stack,I.stkFree,I.hok,I.bare⟩
theorem Inv.after {Q:VK} {u:Value} (I:Inv X pins σ H s) (h:CE X.stack X.prog X.w H s Q u s'):EP X pins σ Q u s':=by
 obtain ⟨v,H',os,bare,un,hok,r,q⟩:=h;obtain ⟨hh,g,d,t,os'⟩:=s';obtain rfl:os'=s.os:=os;exact ⟨v,H',I.call (h':=hh) (g':=g) (d':=d) (t':=t) (ch:=[]) un hok bare (λ b z=>absurd z (by simp)),r,q⟩
end
noncomputable def tCall (sp:Sp) (dvs:List V) (E:XK) (t:TA):TE:=λ σ H Q=>t σ H λ vs H1=>sp (vs ++ dvs) H1 Q E
noncomputable def Binds (K:PySem.W.Frag) (fd:FuncData) (ps:List Str) (ds:List Value):Prop :=
 ∀ (s:Shared) (us:List Value),K.In s.heap->(us ++ ds).length=ps.length->BindsTo s fd ⟨us,[]⟩ (ps.zip (us ++ ds))
variable {fd:FuncData} {ps:List Str}
theorem Binds.all (h:∀ us:List Value,us.length=ps.length->bindArgs fd ⟨us,[]⟩=pure (ps.zip us)):Binds K fd ps []:=λ s us _ hl=>by
 rw [append_nil] at hl ⊢;exact .of_eq (h us hl)
noncomputable def zh2 (CX:CXT) (X:Cx) (E:XK):Prop:=∀ (pins:List (Addr × Obj)) (σ:St) (H:Hp) (s:Shared) (e:Value) (s':Shared),Inv X pins σ H s->CX X.stack H s E e s'->X.xe e s'
variable {vs:List V} {CX:CXT} {sp:Sp}
section
variable {f C:Addr} {dvs:List V} {ds:List Value} {E:XK} {x m:Str} {pos apos:Pos} {e o:Expr} {t:TA}
theorem xc3 {σ:St} {Q:VK} (F:FnOk X.prog X.w X.K X.mg X.base CX k f fd ps sp) (hr:Room k X.A) (hb:Binds X.K fd ps ds) (hd:Vals dvs ds) (hx:zh2 CX X E)
    (I:Inv X pins σ H s) (r:Vals vs us) (h:sp (vs ++ dvs) H Q E):wpAny (model X.prog X.w) X.A (call (.ref f) us) (EP X pins σ Q) X.xe s:=by
 have r2:Vals (vs ++ dvs) (us ++ ds):=r.append hd;have hl:(us ++ ds).length=ps.length:=by rw [<- r2.length]; exact F.len _ _ _ _ h
 refine wpAny_call (codeAny_mono (F.run X.A X.stack s H ⟨us,[]⟩ (us ++ ds) (vs ++ dvs) Q E hr I.env0 (hb s us I.kIn hl) r2 h) λ r s' hq=>?_);cases r with
 | error e=>exact hx pins σ H s e s' I hq
 | ok fl =>
  cases fl with
  | ret u=>exact I.after hq
  | next=>exact False.elim hq
  | brk=>exact False.elim hq
  | cont=>exact False.elim hq
theorem vr3 (F:FnOk X.prog X.w X.K X.mg X.base CX k f fd ps sp) (hr:Room k X.A) (hg:Gl X x) (hm:X.mg x=some (.ref f)) (hk:keepIn X.K (.ref f)=true) (hb:Binds X.K fd ps ds) (hd:Vals dvs ds) (hx:zh2 CX X E)
    (ha:PA X (e :: es) t) (hdb:(x == ("__debug__" : Str))=false:=by decide) (he:starEach (e :: es) X.env=(false,eval e X.env) :: starEach es X.env:=by rfl) (hpl:(backTo pos (starEach es X.env)).any (·.1)=false:=by rfl) :
    PE X (.Call (.Name x p) (e :: es) [] pos) (tCall sp dvs E t):=by
 intro pins s σ H Q I h;refine wpAny_Call_Name_kw (zu0 I hg hm ?_ hdb);refine callWith_K (h₀:=X.base) I.ok.mod.kin hk (thn (ha pos pins s σ H _ I h) λ us s1 ⟨vs,H1,I1,r,q⟩=>⟨I1.kIn,?_⟩) he hpl;exact xc3 F hr hb hd hx I1 r q
end
structure FnScope (N P:List Str) (sc:Scope):Prop where
 kind:sc.kind=.function
 co:sc.isCoroutine=false
 gen:sc.isGenerator=false
 nd:N.Nodup
 pre:N.take P.length=P
 par:∀ x ∈ P,sc.names.lookup x=some .local \/ sc.names.lookup x=some .cell
 nofree:∀ y ∈ sc.names,y.2 ≠ .free
theorem vh1 {kindOf:Str->Option NameKind} {x:Str}:∀ {binds:List (Str × Value)} {m:Str->Option Value},(∀ v,(x,v) ∉ binds)->bindL kindOf binds m x=m x
 | [],_,_=>rfl
 | (n,v) :: r,m,h=>by
  unfold bindL;rw [vh1 λ w hw=>h w (mem_cons_of_mem _ hw)];split
  ·have:x ≠ n:=by rintro rfl; exact h v mem_cons_self
   simp [this]
  ·rfl
theorem th1 {kindOf:Str->Option NameKind} {x:Str}:∀ {binds:List (Str × Value)} {m:Str->Option Value},(∀ v,(x,v) ∉ binds)->bindC kindOf binds m x=m x
 | [],_,_=>rfl
 | (n,v) :: r,m,h=>by
  unfold bindC;rw [th1 λ w hw=>h w (mem_cons_of_mem _ hw)];split
  ·rfl
  ·have:x ≠ n:=by rintro rfl; exact h v mem_cons_self
   simp [this]
theorem uh1 {kindOf:Str->Option NameKind} {x:Str} {v:Value}:∀ {P:List Str} {vs:List Value} {i:Nat} {m:Str->Option Value},P.Nodup->P[i]?=some x->vs[i]?=some v->kindOf x=some .local ->
    bindL kindOf (P.zip vs) m x=some v
 | [],_,_,_,_,h,_,_=>by simp at h
 | _ :: _,[],_,_,_,_,h,_=>by simp at h
 | p :: P,w :: vs,0,m,nd,h1,h2,hk=>by
  simp at h1 h2; subst h1; subst h2;show bindL kindOf ((p,w) :: P.zip vs) m p=_;unfold bindL;rw [vh1 λ v hv=>(List.nodup_cons.mp nd).1 (List.of_mem_zip hv).1,if_pos hk];simp
 | p :: P,w :: vs,i + 1,m,nd,h1,h2,hk=>by
  show bindL kindOf ((p,w) :: P.zip vs) m x=_;unfold bindL;exact uh1 (i:=i) (List.nodup_cons.mp nd).2 (by simpa using h1) (by simpa using h2) hk
theorem sh1 {kindOf:Str->Option NameKind} {x:Str} {v:Value}:∀ {P:List Str} {vs:List Value} {i:Nat} {m:Str->Option Value},P.Nodup->P[i]?=some x->vs[i]?=some v->kindOf x ≠ some .local ->
    bindC kindOf (P.zip vs) m x=some v
 | [],_,_,_,_,h,_,_=>by simp at h
 | _ :: _,[],_,_,_,_,h,_=>by simp at h
 | p :: P,w :: vs,0,m,nd,h1,h2,hk=>by
  simp at h1 h2; subst h1; subst h2;show bindC kindOf ((p,w) :: P.zip vs) m p=_;unfold bindC;rw [th1 λ v hv=>(List.nodup_cons.mp nd).1 (List.of_mem_zip hv).1,if_neg hk];simp
 | p :: P,w :: vs,i + 1,m,nd,h1,h2,hk=>by
  show bindC kindOf ((p,w) :: P.zip vs) m x=_;unfold bindC;exact sh1 (i:=i) (List.nodup_cons.mp nd).2 (by simpa using h1) (by simpa using h2) hk
noncomputable def start (N:List Str) (vs:List V):St:=vs.map some ++ List.replicate (N.length - vs.length) none
noncomputable def cxOf (CX:CXT) (P:Program) (w:World) (K:PySem.W.Frag) (mg:Str->Option Value) (base:Heap) (N:List Str) (qual:Str) (scope:Scope) (f:Addr) (cd:Value) (A:Around) (outer:List Env) (s:Shared) (H:Hp) (E:XK):Cx where
 prog:=P
 w:=w
 K:=K
 mg:=mg
 base:=base
 A:=A.deeper (envOfC qual scope s.heap.objs.size f cd)
 N:=N
 s₀:=s
 H₀:=H
 env:=envOfC qual scope s.heap.objs.size f cd
 outer:=outer
 stack:=envOfC qual scope s.heap.objs.size f cd :: outer
 ex:=[]
 calm:=true
 fn:=λ _=>true
 pn:=[]
 xe:=λ e s'=>wpAny (model P w) (A.deeper (envOfC qual scope s.heap.objs.size f cd)) (leaving (envOfC qual scope s.heap.objs.size f cd) e) (λ _ s''=>CX outer H s E e s'') (λ e' s''=>CX outer H s E e' s'') s'
theorem wc1 {sc:Scope} {x:Str} (h:sc.names.lookup x=some .cell):∃ c,(cellsFrom n sc.names []).lookup x=some c:=by
 have q:=cellsFrom_some sc.names n [] (.inl h);exact Option.isSome_iff_exists.mp q
variable {mg:Str->Option Value} {base:Heap} {qual:Str} {scope:Scope}
theorem ub2 {P:Program} {w:World} {f:Addr} {cd:Value} {outer:List Env} {s1:Shared} {E:XK} 
    (S:FnScope N ps scope) (hd:A.handled=none) (e0:Env0 P w K mg base A outer s H) (hl:vs.length=ps.length) (r:Vals vs us)
    (x:InCallC s s.heap.objs.size (bindL (envOfC qual scope s.heap.objs.size f cd).kindOf (ps.zip us) λ _=>none) (cellsFrom (s.heap.objs.size + 1) scope.names []) (bindC (envOfC qual scope s.heap.objs.size f cd).kindOf (ps.zip us) λ _=>none) s1) :
    Inv (cxOf CX P w K mg base N qual scope f cd A outer s H E) [] (start N vs) H s1:=by
 have hpl:ps.length<=N.length:=by have:=congrArg List.length S.pre; simp_all;omega
 obtain ⟨h1,tk,rfl,hk⟩:=x.done;have noA:∀ b:Addr,b ∉ (cxOf CX P w K mg base N qual scope f cd A outer s H E).ex:=λ b z=>absurd (show b ∈ ([]:List Addr) from z) (by simp)
 refine ⟨⟨e0.mod,S.kind,rfl,rfl,Nat.le_refl _,λ y z c h1 h2=>?_,λ y hy=>?_,λ y c _ h=>?_,λ _=>hd,Around.frames_deeper e0.frames,.inr ⟨rfl,rfl⟩,λ b z=>absurd z (noA b),e0.bs,e0.bsz,λ b _ _=>noA b,λ b z=>absurd z (noA b),e0.funs,e0.frf⟩,
  rfl,e0.bare,Un.kept hk,⟨_,x.toInCall.ns,λ i y v h1 h2 h3=>?_⟩,λ y c h=>⟨_,x.cell y c h⟩,e0.hok.fresh (Nat.le_refl _),λ y c h=>?_,λ p hp=>absurd (show p ∈ ([]:List (Addr × Obj)) from hp) (by simp),e0.hok.kept hk,?_⟩
 ·exact name_of_addr x.apart (PySem.mem_of_lookup h1) (PySem.mem_of_lookup h2)
 ·have hy:scope.names.lookup y=some .cell \/ scope.names.lookup y=some .free:=hy;rcases hy with hy | hy
  ·exact wc1 hy
  ·exact absurd rfl (S.nofree _ (PySem.mem_of_lookup hy))
 ·exact Nat.le_of_lt (x.above y c (PySem.mem_of_lookup h))
 ·have hi:i < vs.length:=by
    unfold start at h2;by_cases hi:i < vs.length
    ·exact hi
    ·rw [getElem?_append_right (by simpa using hi)] at h2;rw [List.getElem?_replicate] at h2
     simp_all
  have ha:vs[i]?=some v:=by
   unfold start at h2;rw [getElem?_append_left (by simpa using hi),getElem?_map] at h2
   simp_all
  obtain ⟨u,hu,rv⟩:=r.get ha
  have hp:ps[i]?=some y:=by
   rw [<- S.pre,getElem?_take_of_lt [2]]; exact h1
  have ndP:ps.Nodup:=by rw [<- S.pre]; exact S.nd.sublist (take_sublist _ _)
  refine ⟨u,rv,?_⟩;rcases S.par y (mem_of_getElem? hp) with k | k
  ·exact .inl ⟨k,uh1 ndP hp hu k⟩
  ·obtain ⟨c,e⟩:=wc1 (n:=s.heap.objs.size + 1) k;refine .inr ⟨.inl k,c,e,?_⟩;have q:=x.cell y c e;rw [sh1 ndP hp hu (by show scope.names.lookup y ≠ _; rw [k]; decide)] at q;exact q
 ·exact e0.hok.fresh (Nat.le_of_lt (x.above y c (PySem.mem_of_lookup h)))
 ·unfold start;show _=N.length
  simp_all
theorem fn_of {P:Program} {w:World} {f:Addr} {name:Str} {params:Arguments} {dV kV doc pm cdv ct oc:Value} {an od:Option Addr}
    {osl:Array (Option Value)} (lk:K.lookup f=some ⟨oc,od,.func (fnOf name qual params body scope dV kV doc pm an cdv ct),osl⟩) (hcd:codeIn K cdv qual=true) (S:FnScope N ps scope)
    (len:∀ vs H Q E,sp vs H Q E->vs.length=ps.length)
    (hbody:∀ (A:Around) (outer:List Env) (s:Shared) (H:Hp) (vs:List V) (Q:VK) (E:XK),Room k (A.deeper (envOfC qual scope s.heap.objs.size f cdv))->sp vs H Q E ->
     ∃ t,PSs (cxOf CX P w K mg base N qual scope f cdv A outer s H E) body t /\ t { nx:=λ _ H'=>Q .non H',rt:=Q } (start N vs) H) :
    FnOk P w K mg base CX (k + 1) f (fnOf name qual params body scope dV kV doc pm an cdv ct) ps sp:=by
 refine ⟨len,λ A outer s H args us vs Q E hr e0 hb r hsp=>?_⟩;have hl:=len _ _ _ _ hsp;have KX:K.In s.heap:=e0.mod.kin.keeps λ b o e=>(e0.bs b o e).1;have lim:s.heap.NoLimit:=e0.mod.nolimit.keeps λ b o e=>(e0.bs b o e).1
 have hkind:∀ y ∈ ps.zip us,scope.names.lookup y.1=some .local \/ (scope.names.lookup y.1=some .cell /\ ((cellsFrom (s.heap.objs.size + 1) scope.names []).lookup y.1).isSome=true):=λ ⟨n,v⟩ hy=>by
  rcases S.par n (List.of_mem_zip hy).1 with q | q
  ·exact .inl q
  ·exact .inr ⟨q,cellsFrom_some _ _ _ (.inl q)⟩
 refine codeAny_call_function hr.depth (KX _ _ lk) rfl S.co S.gen rfl (PySem.W.codeRec_of KX hcd) (hb _ _ _ _ ?_);refine wpAny_newFunctionEnv_cells S.kind hkind λ env he s1 x=>?_;subst he;refine ⟨lim.keeps x.toInCall.keep,codeAny_func ?_⟩;obtain ⟨t,ht,hq⟩:=hbody A outer s H vs Q E (hr.deeper _) hsp;have I:Inv (cxOf CX P w K mg base N qual scope f cdv A outer s H E) [] (start N vs) H s1:=ub2 S hr.hd e0 hl r x;refine wpAny_mono (ht [] s1 (start N vs) H _ I hq) (λ fl s' hs=>?_) λ e s' hs=>hs
 have fin:∀ {σ':St} {H':Hp} {v:V} {u:Value},Inv (cxOf CX P w K mg base N qual scope f cdv A outer s H E) [] σ' H' s'->RelV v u->Q v H'->CE outer P w H s Q u s' :=
  λ {σ' H' v u} J rv q=>⟨v,H',J.os,J.bare,J.base,J.hok,rv,q⟩
 cases fl with
 | ret u =>
  obtain ⟨v,σ',H',J,rv,q⟩:=hs;exact fin J rv q
 | next =>
  obtain ⟨σ',H',J,q⟩:=hs;exact fin (v:=V.non) (u:=Value.none) J rfl q
 | brk =>
  obtain ⟨_,_,_,q⟩:=hs;exact False.elim q
 | cont =>
  obtain ⟨_,_,_,q⟩:=hs;exact False.elim q
section
variable {x:Str} {pos:Pos} {e:Expr} {t:TA} {id T:String} {r:List V->Hp->VK->Prop}
noncomputable def tCB (r:List V->Hp->VK->Prop) (t:TA):TE:=λ σ H Q=>t σ H λ vs H1=>r vs H1 Q
theorem ss2 (hc:CallR X (.builtin id) r) (hg:Gl X x) (hm:X.mg x=none) (hv:bootBuiltins x=some (.builtin id)) (ha:PA X (e :: es) t) (hn:x ≠ "__name__" := by decide) (hdb:(x == ("__debug__" : Str))=false:=by decide)
    (he:starEach (e :: es) X.env=(false,eval e X.env) :: starEach es X.env:=by rfl) (hpl:(backTo pos (starEach es X.env)).any (·.1)=false:=by rfl):PE X (.Call (.Name x p) (e :: es) [] pos) (tCB r t):=by
 intro pins s σ H Q I h;refine wpAny_Call_Name_kw (sn0 I hg hm hv ?_ hn hdb);exact PyProof.Rows.callWith_builtin1 (thn (ha pos pins s σ H _ I h) λ us s1 ⟨vs,H1,I1,r1,q1⟩=>hc pins s1 σ H1 vs us Q I1 r1 q1) he hpl
theorem yz1 (hc:CallR X (.type T) r) (hg:Gl X x) (hm:X.mg x=none) (hv:bootBuiltins x=some (.type T)) (ha:PA X (e :: es) t) (hn:x ≠ "__name__" := by decide) (hdb:(x == ("__debug__" : Str))=false:=by decide)
    (he:starEach (e :: es) X.env=(false,eval e X.env) :: starEach es X.env:=by rfl) (hpl:(backTo pos (starEach es X.env)).any (·.1)=false:=by rfl):PE X (.Call (.Name x p) (e :: es) [] pos) (tCB r t):=by
 intro pins s σ H Q I h;refine wpAny_Call_Name_kw (sn0 I hg hm hv ?_ hn hdb);exact PyProof.Rows.callWith_type1 (thn (ha pos pins s σ H _ I h) λ us s1 ⟨vs,H1,I1,r1,q1⟩=>hc pins s1 σ H1 vs us Q I1 r1 q1) he hpl
end
end L2
namespace HT
open PySem PyProof.Rows
variable {Q:[8]} {sl:Addr}
section
variable {prog:Program} {w:World} {A:Around} {E:[8]} {s:Shared}
theorem cat_tup {t b:Addr} {vs ws:List Value} (ht:IsTup s.heap t vs.toArray) (hb:IsTup s.heap b ws.toArray) (hv:vs ≠ [])
    (h1:ws=[]->Q (.ref t) s) (h2:ws ≠ []->Q (.ref s.heap.objs.size) { s with heap:=s.heap.push { cls:=.type "tuple",data:=.seq (vs ++ ws).toArray } })
    (hsz:vs.length + ws.length<=sizeLine):wpAny [5] A (binaryOp .Add (.ref t) (.ref b)) Q E s:=by
 obtain ⟨⟨cls,dd,data,sl⟩,ho,hc,n,hd⟩:=id ht;obtain ⟨⟨cls2,dd2,data2,sl2⟩,ho2,hc2,n2,hd2⟩:=id hb;simp only at hc hd hc2 hd2;subst hc hd hc2 hd2;have e:vs.toArray ++ ws.toArray=(vs ++ ws).toArray:=by simp
 by_cases hw:ws=[]
 ·exact concat_meets ⟨_,ho,rfl⟩ ⟨_,ho2,rfl⟩ noFill_tuple_add seq_tuple_add slot_tuple_add entry_tuple_add (args_tuple_add_2 _ _)
    (tuple_addW1 t b vs.toArray ws.toArray n n2 dd dd2 sl sl2 (by simpa using hv) (by simp [hw])) ⟨ho,ho2,h1 hw⟩
 ·refine concat_meets ⟨_,ho,rfl⟩ ⟨_,ho2,rfl⟩ noFill_tuple_add seq_tuple_add slot_tuple_add entry_tuple_add (args_tuple_add_2 _ _)
    (tuple_addW2 t b vs.toArray ws.toArray n n2 dd dd2 sl sl2 (by simpa using hv) (by simpa using hw) [2]) ⟨ho,ho2,?_⟩
  simp_all
noncomputable def sIx (n d:Nat):Option Int->Nat
 | none=>d
 | some v=>if v < 0 then (v + (n:Int)).toNat else min v.toNat n
theorem tp4 (n d:Nat) (hd:d<=n) (o:Option Int):sIx n d o<=n:=by
 cases o with
 | none=>exact hd
 | some v =>
  show (if v < 0 then (v + (n:Int)).toNat else min v.toNat n)<=n;by_cases hv:v < 0
  ·rw [if_pos hv]; omega
  ·rw [if_neg hv]; omega
theorem ze2 (v:Int) (n d:Nat):(if v < 0 then max (v + (n:Int)) 0 else min v (n:Int))=((sIx n d (some v):Nat):Int):=by
 show (if v < 0 then max (v + (n:Int)) 0 else min v (n:Int))=(((if v < 0 then (v + (n:Int)).toNat else min v.toNat n):Nat):Int);by_cases hv:v < 0
 ·simp_all
 ·simp only [if_neg hv]; omega
theorem xu1 (lo hi:Option Int) (n:Nat):Builtin.Slice.sliceAdjust lo hi 1 (n:Int)=(((sIx n 0 lo:Nat):Int),((sIx n n hi:Nat):Int)):=by
 have h1:¬ ((1:Int) < 0):=by omega
 unfold Builtin.Slice.sliceAdjust;simp only [h1,if_false];refine Prod.ext ?_ ?_
 ·cases lo with
  | none=>rfl
  | some v=>exact ze2 v n 0
 ·cases hi with
  | none=>rfl
  | some v=>exact ze2 v n n
theorem xt1 (i j:Nat):Builtin.Slice.slicePlaces (i:Int) (j:Int) 1=j - i:=by
 unfold Builtin.Slice.slicePlaces;omega
theorem wx0 {v:Value} {o:Option Int} {Q:Option Int->Shared->Prop} (p:IsPart v o) (h:Q o s):wpAny [5] A (Builtin.Slice.slicePartIndex v) Q E s:=by
 cases p with
 | none=>exact slicePart_none h
 | int i t=>exact slicePart_int h
theorem sliceApplied_gen {vl vu:Value} {lo hi:Option Int} {n:Nat} {Q:Int × Int × Nat->Shared->Prop} (hs:s.heap.IsSliceOf sl vl vu .none) (pl:IsPart vl lo) (pu:IsPart vu hi)
    (h:Q (((sIx n 0 lo:Nat):Int),1,sIx n n hi - sIx n 0 lo) s):wpAny [5] A (Builtin.Slice.sliceApplied (.ref sl) (pure (n:Int))) Q E s:=by
 obtain ⟨os,hos,hcs,hds⟩:=id hs;unfold Builtin.Slice.sliceApplied Builtin.Slice.sliceFields;refine wpAny_bind (wpAny_bind (wpAny_field hos hds (x:=vl) rfl (wpAny_bind (wpAny_field hos hds (x:=vu) rfl (wpAny_bind (wpAny_field hos hds (x:=.none) rfl (wpAny_pure ?_)))))));refine wpAny_bind (slicePart_none ?_);show wpAny _ _ (if ((1:Int) == 0)=true then _ else _) _ _ s;rw [if_neg (by decide)];refine wpAny_bind (wx0 pl (wpAny_bind (wx0 pu (wpAny_bind (wpAny_pure ?_)))));show wpAny _ _ (match Builtin.Slice.sliceAdjust lo hi 1 (n:Int) with | (lo,hi)=>pure (lo,(1:Int),Builtin.Slice.slicePlaces lo hi 1)) _ _ s;rw [xu1 lo hi n];show wpAny _ _ (pure (((sIx n 0 lo:Nat):Int),(1:Int),Builtin.Slice.slicePlaces ((sIx n 0 lo:Nat):Int) ((sIx n n hi:Nat):Int) 1)) _ _ s;rw [xt1];exact wpAny_pure h
theorem zs2 (xs:Array Value) (i k:Nat):((List.range k).filterMap λ (m:Nat)=>xs[((i:Int) + (m:Int) * 1).toNat]?).toArray=((xs.toList.drop i).take k).toArray:=by
 have e:(λ (m:Nat)=>xs[((i:Int) + (m:Int) * 1).toNat]?)=λ m=>xs[i + m]?:=by
  funext m;have:((i:Int) + (m:Int) * 1).toNat=i + m:=by omega
  rw [this]
 rw [e];have:=pick_run xs i k;rw [List.filterMap_map] at this;have e2:((λ x=>xs[x]?) ∘ λ x=>i + x)=λ m=>xs[i + m]?:=rfl
 simp_all
theorem getItem_tuple_cut {t:Addr} {items:Array Value} {vl vu:Value} {lo hi:Option Int} (ht:IsTup s.heap t items) (hs:s.heap.IsSliceOf sl vl vu .none) (pl:IsPart vl lo) (pu:IsPart vu hi)
    (hw:¬ (sIx items.size 0 lo=0 /\ sIx items.size items.size hi=items.size))
    (h:Q (.ref s.heap.objs.size) { s with heap:=s.heap.push { cls:=.type "tuple",data:=.seq ((items.toList.drop (sIx items.size 0 lo)).take (sIx items.size items.size hi - sIx items.size 0 lo)).toArray } })
    (hsz:items.size<=sizeLine):wpAny [5] A (getItem (.ref t) (.ref sl)) Q E s:=by
 have htake:sizeOk (.seq ((items.toList.drop (sIx items.size 0 lo)).take (sIx items.size items.size hi - sIx items.size 0 lo)).toArray):=by
  show ((items.toList.drop (sIx items.size 0 lo)).take (sIx items.size items.size hi - sIx items.size 0 lo)).toArray.size<=sizeLine
  simp_all;omega
 have hj:sIx items.size items.size hi<=items.size:=tp4 _ _ (Nat.le_refl _) hi;obtain ⟨os,hos,hcs,hds⟩:=id hs;have hTs:s.TypeIs (.ref sl) "slice" := ⟨os,hos,hcs⟩;unfold getItem
 try with_reducible refine wpAny_holding ?_
 first | refine wpAny_bind (wpAny_pure ?_) | skip
 refine wpAny_bind (wpAny_sequenceKey ht.typeIs (by decide) ?_)
 refine wpAny_bind (wpAny_callSpecial?_slot (name:=Str.ofString "__getitem__") ht.typeIs PyProof.Rows.slot_tuple_getitem
  (wpAny_call_entry PyProof.Rows.slot_tuple_getitem ht.typeIs entry_tuple_getitem ?_ (args_tuple_getitem _ _)))
 show wpAny _ _ (Builtin.Tuple.tupleItemsOf (.ref t) >>= _) _ _ s;refine wpAny_bind (tupleItemsOf_ ht ?_);refine wpAny_bind (wpAny_typeOf hTs ?_);rw [if_pos (by decide)];refine wpAny_bind (sliceApplied_gen hs pl pu ?_)
 have hno:¬ ((((sIx items.size 0 lo:Nat):Int) == 0 && (1:Int) == 1 && (sIx items.size items.size hi - sIx items.size 0 lo) == items.size)=true):=by
  simp_all
 show wpAny _ _ (if (((sIx items.size 0 lo:Nat):Int) == 0 && (1:Int) == 1 && (sIx items.size items.size hi - sIx items.size 0 lo) == items.size)=true then _ else _) _ _ s;rw [if_neg hno,zs2]
 first
  | exact wpAny_bind (m:=Builtin.Tuple.tupleExact _) (wpAny_newObj_type (wpAny_pure ⟨_,rfl,wpAny_pure h⟩) htake)
  | exact wpAny_bind (m:=Builtin.Tuple.tupleExact _) (wpAny_newObj_type (wpAny_bind (wpAny_pure (wpAny_pure ⟨_,rfl,wpAny_pure h⟩))) htake)
  | exact wpAny_bind (wpAny_bind (m:=Builtin.Tuple.tupleExact _) (wpAny_newObj_type (wpAny_pure (wpAny_pure ⟨_,rfl,wpAny_pure h⟩)) htake))
  | exact wpAny_bind (wpAny_bind (m:=Builtin.Tuple.tupleExact _) (wpAny_newObj_type (wpAny_pure ⟨_,rfl,wpAny_pure h⟩) htake))
end
end HT
namespace L2
open PySem PySem.Spec PyProof.Rows
noncomputable abbrev TO:=St->Hp->(Option Int->Hp->Prop)->Prop
noncomputable def PO (X:Cx) (e:Option Expr) (t:TO):Prop :=
 ∀ (pins:List (Addr × Obj)) (s:Shared) (σ:St) (H:Hp) (Q:Option Int->Hp->Prop),Inv X pins σ H s->t σ H Q ->
  wpAny (model X.prog X.w) X.A (evalPart e X.env) (λ u s'=>∃ o H',Inv X pins σ H' s' /\ IsPart u o /\ Q o H') X.xe s
noncomputable def wj3:TO:=λ _ H Q=>Q none H
noncomputable def tPart (t:TE):TO:=λ σ H Q=>t σ H λ x H1=>∃ i,x=.int i /\ Q (some i) H1
theorem yq0 {ns:List Int}:∀ {us:List Value},Vals (ns.map V.int) us->IntsAre us ns:=by
 induction ns with
 | nil=>intro us r; rw [map_nil] at r; cases r; exact .nil
 | cons n ns ih =>
  intro us r;rw [map_cons] at r;cases r with
  | cons r1 r2 =>
   obtain ⟨t,e⟩:=r1;subst e;exact .cons n t (ih r2)
variable {X:Cx} {e:Expr} {xs:List V}
section
variable {te:TE} {lo hi:Option Expr} {tl th:TO} {pos p2:Pos}
theorem vq3:PO X none wj3:=by
 intro pins s σ H Q I h;rw [evalPart_none];exact wpAny_pure ⟨none,H,I,.none,h⟩
theorem wq3 (h:PE X e te):PO X (some e) (tPart te):=by
 intro pins s σ H Q I hw;rw [evalPart_some];refine thn (h pins s σ H _ I hw) λ u s1 ⟨x,H1,I1,r1,q1⟩=>?_;obtain ⟨i,rfl,q⟩:=q1;obtain ⟨t,rfl⟩:=r1;exact ⟨some i,H1,I1,.int i t,q⟩
noncomputable def SlR (X:Cx) (r:V->Option Int->Option Int->Hp->VK->Prop):Prop :=
 ∀ (pins:List (Addr × Obj)) (s:Shared) (σ:St) (H:Hp) (x:V) (v vl vu:Value) (lo hi:Option Int) (sl:Addr) (Q:VK),Inv X pins σ H s->RelV x v->s.heap.IsSliceOf sl vl vu .none->IsPart vl lo->IsPart vu hi->r x lo hi H Q ->
  ∃ T id,typeLookup (.type T) "__getitem__" = pure (some (.builtin id)) /\ s.TypeIs v T /\ wpAny (model X.prog X.w) X.A (getItem v (.ref sl)) (EP X pins σ Q) X.xe s
theorem SlR.or {r r':V->Option Int->Option Int->Hp->VK->Prop} (h:SlR X r) (h':SlR X r'):SlR X (λ x lo hi H Q=>r x lo hi H Q \/ r' x lo hi H Q):=by
 intro pins s σ H x v vl vu lo hi sl Q I rx hs pl pu q;rcases q with q | q
 ·exact h pins s σ H x v vl vu lo hi sl Q I rx hs pl pu q
 ·exact h' pins s σ H x v vl vu lo hi sl Q I rx hs pl pu q
noncomputable def tSl (r:V->Option Int->Option Int->Hp->VK->Prop) (te:TE) (tl th:TO):TE:=λ σ H Q=>te σ H λ x H1=>tl σ H1 λ l H2=>th σ H2 λ u H3=>r x l u H3 Q
theorem us2 {r:V->Option Int->Option Int->Hp->VK->Prop} (hr:SlR X r) (he:PE X e te) (hl:PO X lo tl) (hu:PO X hi th):PE X (.Subscript e (.Slice lo hi none p2) pos) (tSl r te tl th):=by
 intro pins s σ H Q I h;refine Subscript_ (thn (he pins s σ H _ I h) λ v s1 ⟨x,H1,I1,r1,q1⟩=>?_);refine wpAny_Slice (thn (hl pins s1 σ H1 _ I1 q1) λ vl s2 ⟨l,H2,I2,pl,q2⟩=>thn (hu pins s2 σ H2 _ I2 q2) λ vu s3 ⟨u,H3,I3,pu,q3⟩=>?_);rw [evalPart_none];refine wpAny_pure ?_;have I4:Inv X pins σ H3 { s3 with heap:=s3.heap.push { cls:=.type "slice",data:=.fields #[vl,vu,.none] } }:=I3.kept (t':=s3.toks) λ b ob q=>Heap.get?_push_of_some _ q;obtain ⟨T,id,hT,ht,hg⟩:=hr pins { s3 with heap:=s3.heap.push { cls:=.type "slice",data:=.fields #[vl,vu,.none] } } σ H3 x v vl vu l u s3.heap.objs.size Q I4 r1 (Heap.IsSliceOf.new ..) pl pu q3;show wpAny (model X.prog X.w) X.A (subscriptTail e (.Slice lo hi none p2) v (.ref s3.heap.objs.size)) (EP X pins σ Q) X.xe { s3 with heap:=s3.heap.push { cls:=.type "slice",data:=.fields #[vl,vu,.none] } };exact tail_any (ops:=[.ref s3.heap.objs.size,v]) ht hT hg (by rfl)
noncomputable def cutV (xs:List V) (lo hi:Option Int):List V:=(xs.drop (HT.sIx xs.length 0 lo)).take (HT.sIx xs.length xs.length hi - HT.sIx xs.length 0 lo)
theorem wv0 (xs:List V) (lo hi:Option Int):(cutV xs lo hi).length<=xs.length:=by
 unfold cutV
 simp_all;omega
noncomputable def rSlT (K:PySem.W.Frag):V->Option Int->Option Int->Hp->VK->Prop:=λ x lo hi H Q=>∃ a xs,x=.ref a /\ SqT K H a xs ∧
 ¬ (HT.sIx xs.length 0 lo=0 /\ HT.sIx xs.length xs.length hi=xs.length) /\ ∀ p,H p=none->Q (.ref p) (upd H p (.tup (cutV xs lo hi)))
theorem si4:SlR X (rSlT X.K):=by
 intro pins s σ H x v vl vu lo hi sl Q I rx hs pl pu h;obtain ⟨a,xs,rfl,hx,hw,q⟩:=h;cases rx;obtain ⟨its,r,ht,hz⟩:=I.tuple hx;have hlen:its.toArray.size=xs.length:=by rw [size_toArray]; exact r.length.symm
 refine ⟨"tuple",_,PyProof.Rows.slot_tuple_getitem.lookup,ht.typeIs,?_⟩;refine HT.getItem_tuple_cut ht hs pl pu (by rw [hlen]; exact hw) ?_ (by rw [hlen]; exact hz);rw [hlen];refine ⟨.ref s.heap.objs.size,_,I.laid (t':=s.toks) (o:=.tup (cutV xs lo hi)) (λ b ob q=>Heap.get?_push_of_some _ q) (Nat.le_refl _) ?_,rfl,q _ (I.hok.fresh (Nat.le_refl _))⟩;exact ⟨Nat.le_trans (wv0 xs lo hi) hz,_,(r.drop (HT.sIx xs.length 0 lo)).take (HT.sIx xs.length xs.length hi - HT.sIx xs.length 0 lo),IsTup.new _ _⟩
noncomputable def rCatT (K:PySem.W.Frag):R2:=λ x y H Q=>∃ a b xs ys,x=.ref a /\ y=.ref b /\ SqT K H a xs /\ SqT K H b ys /\ xs ≠ [] /\ xs.length + ys.length<=sizeLine ∧
 (ys=[]->Q (.ref a) H) /\ (ys ≠ []->∀ p,H p=none->Q (.ref p) (upd H p (.tup (xs ++ ys))))
theorem Vals.nil_iff {us:List Value} (r:Vals xs us):us=[] ↔ xs=[]:=by
 cases r with
 | nil=>simp
 | cons _ _=>simp
theorem zs3:OpR X (binaryOp .Add) (rCatT X.K):=by
 intro pins s σ H x y v u Q I rx ry h;obtain ⟨a,b,xs,ys,rfl,rfl,ha,hb,hx,hz,q1,q2⟩:=h;cases rx;cases ry;obtain ⟨its,r1,p1,_⟩:=I.tuple ha;obtain ⟨its2,r2,p2,_⟩:=I.tuple hb;refine HT.cat_tup p1 p2 (λ z=>hx (r1.nil_iff.mp z)) (λ z=>⟨.ref a,H,I,rfl,q1 (r2.nil_iff.mp z)⟩) (λ z=>?_) (by rw [<- r1.length,<- r2.length]; exact hz);refine ⟨.ref s.heap.objs.size,_,I.laid (t':=s.toks) (o:=.tup (xs ++ ys)) (λ b ob q=>Heap.get?_push_of_some _ q) (Nat.le_refl _) ?_,rfl,q2 (λ w=>z (r2.nil_iff.mpr w)) _ (I.hok.fresh (Nat.le_refl _))⟩;exact ⟨by simp_all,_,r1.append r2,IsTup.new _ _⟩
end
noncomputable def ixN (n:Nat) (i:Int):Option Nat:=if 0<=i then (if i < n then some i.toNat else none) else if -(n:Int)<=i then some (i + n).toNat else none
noncomputable def atI {α:Type} (xs:List α) (i:Int):Option α:=(ixN xs.length i).bind λ j=>xs[j]?
variable {n:Nat} {i:Int}
theorem zb2 {j:Nat} (h:ixN n i=some j):seqIndex? i n=some j /\ j < n /\ -(n:Int)<=i /\ i < n:=by
 unfold ixN at h;by_cases h0:0<=i
 ·rw [if_pos h0] at h;by_cases h1:i < n
  ·rw [if_pos h1] at h;have e:i.toNat=j:=Option.some.inj h;exact ⟨by rw [seqIndex_of h0 h1,e],by omega,by omega,h1⟩
  simp_all
 ·rw [if_neg h0] at h;by_cases h1 : -(n:Int)<=i
  ·rw [if_pos h1] at h;have e:(i + n).toNat=j:=Option.some.inj h;exact ⟨by rw [seqIndex_neg [2] h1,e],by omega,h1,by omega⟩
  simp_all
theorem xg2 {α:Type} {xs:List α} {v:α} (h:atI xs i=some v):∃ j,seqIndex? i xs.length=some j /\ xs[j]?=some v /\ j < xs.length /\ -(xs.length:Int)<=i /\ i < xs.length:=by
 unfold atI at h;cases e:ixN xs.length i with
 | none=>simp_all
 | some j =>
  rw [e] at h;obtain ⟨h1,h2,h3,h4⟩:=zb2 e
  simp_all
theorem vr1 {α:Type} (xs:List α) (v:α):atI (xs ++ [v]) (-1)=some v:=by
 have hl:(xs ++ [v]).length=xs.length + 1:=by simp
 have e:ixN (xs ++ [v]).length (-1)=some xs.length:=by
  unfold ixN
  simp_all;omega
 unfold atI
 simp_all
noncomputable def yh2 (b:Expr):Prop:=∀ o i,subscripted b false o i=operate [o,i] (getItem o i)
noncomputable def IxR (X:Cx) (r:R2):Prop :=
 ∀ (value slice:Expr) (pins:List (Addr × Obj)) (s:Shared) (σ:St) (H:Hp) (x y:V) (v u:Value) (Q:VK),Inv X pins σ H s->RelV x v->RelV y u->r x y H Q ->
  subscripted slice false v u=operate [v,u] (getItem v u)->wpAny (model X.prog X.w) X.A (subscriptTail value slice v u) (EP X pins σ Q) X.xe s
noncomputable def MtR (X:Cx) (id:String) (r:V->List V->Hp->VK->Prop):Prop :=
 ∀ (pins:List (Addr × Obj)) (s:Shared) (σ:St) (H:Hp) (x:V) (xs:List V) (v:Value) (us:List Value) (Q:VK),Inv X pins σ H s->RelV x v->Vals xs us->r x xs H Q ->
  wpAny (model X.prog X.w) X.A (call (.builtin id) (v :: us)) (EP X pins σ Q) X.xe s
variable {pins:List (Addr × Obj)} {σ:St} {H:Hp} {s:Shared} {p:Addr} {its:List Value} {x:V} {u v:Value} {T:String}
section
variable {a b:Expr} {ta tb:TE} {pos:Pos}
theorem IxR.or {r r':R2} (h:IxR X r) (h':IxR X r'):IxR X (λ x y H Q=>r x y H Q \/ r' x y H Q):=by
 intro value slice pins s σ H x y v u Q I rx ry q hs;rcases q with q | q
 ·exact h value slice pins s σ H x y v u Q I rx ry q hs
 ·exact h' value slice pins s σ H x y v u Q I rx ry q hs
theorem pe_ix {r:R2} (hr:IxR X r) (ha:PE X a ta) (hb:PE X b tb) (hs:yh2 b):PE X (.Subscript a b pos) (tOp r ta tb):=by
 intro pins s σ H Q I h;exact Subscript_ (binT ha hb I h λ v u s2 x y H2 I2 rx ry q=>hr a b pins s2 σ H2 x y v u Q I2 rx ry q (hs _ _))
noncomputable def rIxL (K:PySem.W.Frag):R2:=λ x y H Q=>∃ p xs i v,x=.ref p /\ y=.int i /\ SqL K H p xs /\ atI xs i=some v /\ Q v H
noncomputable def rIxT (K:PySem.W.Frag):R2:=λ x y H Q=>∃ p xs i v,x=.ref p /\ y=.int i /\ SqT K H p xs /\ atI xs i=some v /\ Q v H
theorem ix_list:IxR X (rIxL X.K):=by
 intro value slice pins s σ H x y v u Q I rx ry h hs;obtain ⟨p,xs,i,z,rfl,rfl,hq,he,q⟩:=h;cases rx;obtain ⟨t,rfl⟩:=ry;obtain ⟨its,r,pl,hz⟩:=I.list hq;obtain ⟨j,h1,h2,h3,h4,h5⟩:=xg2 he;obtain ⟨w,ew,rw'⟩:=r.get h2;have hl:=r.length;have hn:=sf1;have fin:EP X pins σ Q w s:=⟨z,H,I,rw',q⟩;by_cases h0:0<=i
 ·have hj:i.toNat=j:=by
    rw [seqIndex_of h0 h5] at h1
    simp_all
  exact item_listR pl.isList h0 [2] (by simp_all) fin hs
 ·have hj:(i + (its.toArray.size:Int)).toNat=j:=by
    rw [seqIndex_neg [2] h4] at h1
    simp_all
  exact subscriptTail_builtinR (x:=w) pl.isList.typeIs slot_list_getitem.lookup
   (wpAny_getItem_list_neg (Q:=λ r s'=>r=w /\ EP X pins σ Q r s') pl.isList [2] (by simp_all) [2] (by simp_all) ⟨rfl,fin⟩) hs
theorem sf0:IxR X (rIxT X.K):=by
 intro value slice pins s σ H x y v u Q I rx ry h hs;obtain ⟨p,xs,i,z,rfl,rfl,hq,he,q⟩:=h;cases rx;obtain ⟨t,rfl⟩:=ry;obtain ⟨its,r,pl,hz⟩:=I.tuple hq;obtain ⟨j,h1,h2,h3,h4,h5⟩:=xg2 he;obtain ⟨w,ew,rw'⟩:=r.get h2;have hl:=r.length;have hn:=sf1;have fin:EP X pins σ Q w s:=⟨z,H,I,rw',q⟩
 exact subscriptTail_builtinR (x:=w) pl.typeIs slot_tuple_getitem.lookup
  (getItem_tuple (j:=j) (Q:=λ r s'=>r=w /\ EP X pins σ Q r s') pl [2] [2] (by simp_all) (by simpa using ew) ⟨rfl,fin⟩) hs
theorem vt1 (its:List Value) (n j:Nat) (u:Value):Obj.mapSeq (·.setIfInBounds j u) { cls:=.type "list",data:=.seq its.toArray n }={ cls:=.type "list",data:=.seq (its.set j u).toArray n }:=by
 simp [Obj.mapSeq]
theorem Inv.lst (I:Inv X pins σ H s) (h:H p=some (.lst xs)) :
    ∃ (its:List Value) (n:Nat),Vals xs its /\ s.heap.get? p=some { cls:=.type "list",data:=.seq its.toArray n } /\ xs.length<=sizeLine:=by
 obtain ⟨z,its,n,r,e⟩:=I.hok p _ h
 simp_all
theorem Inv.lstUpd {ys:List V} {its':List Value} {n':Nat} {f:Obj->Obj} (I:Inv X pins σ H s) (h:H p=some (.lst xs))
    (ho:s.heap.get? p=some { cls:=.type "list",data:=.seq its.toArray n }) (hf:f { cls:=.type "list",data:=.seq its.toArray n }={ cls:=.type "list",data:=.seq its'.toArray n' }) (r:Vals ys its') (hz:ys.length<=sizeLine) (t:Nat) :
    Inv X pins σ (upd H p (.lst ys)) { s with heap:=s.heap.update p f,toks:=t }:=by
 have e:(s.heap.update p f).get? p=some { cls:=.type "list",data:=.seq its'.toArray n' }:=by
  rw [Heap.get?_update_self f ho (by rw [hf] <;> rfl),hf]
 refine I.write (x:=p) (e:=p) (by rw [h]; trivial) (.inl rfl) (λ b u hb q=>(Heap.get?_update_other _ _ (Ne.symm hb)).trans q) ⟨_,e⟩ ?_;exact ⟨hz,its',n',r,e⟩
noncomputable def rSetL:V->V->V->Hp->(Hp->Prop)->Prop:=λ o i v H Q=>∃ p xs k j,o=.ref p /\ i=.int k /\ H p=some (.lst xs) /\ ixN xs.length k=some j /\ Q (upd H p (.lst (xs.set j v)))
theorem tz0:PSet X rSetL:=by
 intro pins s σ H o i v ov iv u Q I ro ri rv h;obtain ⟨p,xs,k,j,rfl,rfl,hp,hj,q⟩:=h;cases ro;obtain ⟨t,rfl⟩:=ri;obtain ⟨its,n,r,ho,hz⟩:=I.lst hp;obtain ⟨h1,h2,h3,h4⟩:=zb2 hj;have hl:=r.length;have hn:=sf1
 have I':Inv X pins σ (upd H p (.lst (xs.set j v))) { s with heap:=s.heap.update p (Obj.mapSeq (·.setIfInBounds j u)) } :=
  I.lstUpd hp ho (vt1 its n j u) (r.set rv j) (by simp_all) s.toks
 by_cases h0:0<=k
 ·have hk:k.toNat=j:=by
    rw [seqIndex_of h0 h4] at h1
    simp_all
  exact PySem.W.ki_setAt ho h0 [2] (by simp_all) (by rw [hk]; exact ⟨_,I',q⟩)
 ·have hk:(k + (its.toArray.size:Int)).toNat=j:=by
    rw [seqIndex_neg [2] h3] at h1
    simp_all
  exact PySem.W.ki_setBack ho [2] (by simp_all) [2] (by rw [hk]; exact ⟨_,I',q⟩)
theorem ve1 (lo hi:Option Int) (n:Nat):(sliceBounds lo hi none n).1=((HT.sIx n 0 lo:Nat):Int) /\ (sliceBounds lo hi none n).2.1=((HT.sIx n n hi:Nat):Int) /\ (sliceBounds lo hi none n).2.2=1:=by
 refine ⟨?_,?_,rfl⟩
 ·cases lo with
  | none=>rfl
  | some i =>
   simp only [sliceBounds,HT.sIx,Option.getD_none,show (1:Int) > 0 by decide,if_true];by_cases h:i < 0
   ·simp_all;omega
   ·simp only [h,if_false] <;> omega
 ·cases hi with
  | none=>rfl
  | some i =>
   simp only [sliceBounds,HT.sIx,Option.getD_none,show (1:Int) > 0 by decide,if_true];by_cases h:i < 0
   ·simp_all;omega
   ·simp only [h,if_false] <;> omega
theorem uz0 (its:List Value) (lo hi:Option Int):slicePick its.toArray lo hi none=((its.drop (HT.sIx its.length 0 lo)).take (HT.sIx its.length its.length hi - HT.sIx its.length 0 lo)).toArray:=by
 obtain ⟨h1,h2,h3⟩:=ve1 lo hi its.toArray.size;unfold slicePick;rw [h1,h2,h3];simp only [sliceRange_one,pick_run,size_toArray] <;> rfl
noncomputable def rSlL (K:PySem.W.Frag):V->Option Int->Option Int->Hp->VK->Prop:=λ x lo hi H Q=>∃ a xs,x=.ref a /\ SqL K H a xs /\ ∀ p,H p=none->Q (.ref p) (upd H p (.lst (cutV xs lo hi)))
theorem zl3:SlR X (rSlL X.K):=by
 intro pins s σ H x v vl vu lo hi sl Q I rx hs pl pu h;obtain ⟨a,xs,rfl,hx,q⟩:=h;cases rx;obtain ⟨its,r,ht,hz⟩:=I.list hx;have hlen:=r.length;refine ⟨"list",_,slot_list_getitem.lookup,ht.isList.typeIs,?_⟩;refine wpAny_getItem_list_slice ht.isList hs pl pu .none (by simp) ?_ (by simp_all);rw [uz0,<- hlen];refine ⟨.ref s.heap.objs.size,_,I.laid (t':=s.toks) (o:=.lst (cutV xs lo hi)) (λ b ob q=>Heap.get?_push_of_some _ q) (Nat.le_refl _) ?_,rfl,q _ (I.hok.fresh (Nat.le_refl _))⟩;exact ⟨Nat.le_trans (wv0 xs lo hi) hz,_,0,(r.drop (HT.sIx xs.length 0 lo)).take (HT.sIx xs.length xs.length hi - HT.sIx xs.length 0 lo),Heap.get?_push_size _ rfl⟩
noncomputable def tb1:V->Bool
 | .non=>true
 | .bl _=>true
 | .int _=>true
 | .str _=>true
 | _=>false
noncomputable def eqV:V->V->Bool
 | .non,.non=>true
 | .bl a,.bl b=>a == b
 | .bl a,.int b=>(if a then 1 else 0) == b
 | .int a,.bl b=>a == (if b then 1 else 0)
 | .int a,.int b=>a == b
 | .str a,.str b=>a == b
 | _,_=>false
theorem vj5 {A:Around} {y:V} (ry:RelV y u) (rx:RelV x v) (fy:tb1 y=true) (fx:tb1 x=true):SeqAt.EqAt A s u v (eqV y x):=by
 cases y with
 | non =>
  cases ry;cases x with
  | non=>cases rx; exact SeqAt.EqAt.same _
  | bl b=>cases rx; exact SeqAt.EqAt.none_bool b
  | int b=>obtain ⟨t,rfl⟩:=rx; exact SeqAt.EqAt.none_int b t
  | str b=>obtain ⟨t,rfl⟩:=rx; exact SeqAt.EqAt.none_str b t
  | _=>trivial
 | bl a =>
  cases ry;cases x with
  | non=>cases rx; exact SeqAt.EqAt.bool_none a
  | bl b=>cases rx; exact SeqAt.EqAt.bool_bool a b
  | int b=>obtain ⟨t,rfl⟩:=rx; exact SeqAt.EqAt.bool_int a b t
  | str b=>obtain ⟨t,rfl⟩:=rx; exact SeqAt.EqAt.bool_str a b t
  | _=>trivial
 | int a =>
  obtain ⟨t',rfl⟩:=ry;cases x with
  | non=>cases rx; exact SeqAt.EqAt.int_none a t'
  | bl b=>cases rx; exact SeqAt.EqAt.int_bool a t' b
  | int b=>obtain ⟨t,rfl⟩:=rx; exact SeqAt.EqAt.int_int a t' b t
  | str b=>obtain ⟨t,rfl⟩:=rx; exact SeqAt.EqAt.int_str a t' b t
  | _=>trivial
 | str a =>
  obtain ⟨t',rfl⟩:=ry;cases x with
  | non=>cases rx; exact SeqAt.EqAt.str_none a t'
  | bl b=>cases rx; exact SeqAt.EqAt.str_bool a t' b
  | int b=>obtain ⟨t,rfl⟩:=rx; exact SeqAt.EqAt.str_int a t' b t
  | str b=>obtain ⟨t,rfl⟩:=rx; exact SeqAt.EqAt.str_str a t' b t
  | _=>trivial
 | _=>trivial
noncomputable def eqU (x:V) (u:Value):Bool:=match u with
 | .none=>eqV .non x
 | .bool b=>eqV (.bl b) x
 | .int i _=>eqV (.int i) x
 | .str z _=>eqV (.str z) x
 | _=>false
theorem xf3 {y:V} (r:RelV y u) (f:tb1 y=true):eqU x u=eqV y x:=by
 cases y with
 | non=>cases r; rfl
 | bl b=>cases r; rfl
 | int i=>obtain ⟨t,rfl⟩:=r; rfl
 | str z=>obtain ⟨t,rfl⟩:=r; rfl
 | _=>trivial
theorem zw0 {x:V}:∀ {xs:List V} {us:List Value},Vals xs us->xs.all tb1=true->us.any (eqU x)=xs.any λ y=>eqV y x
 | _,_,.nil,_=>rfl
 | y :: xs,u :: us,.cons r t,f=>by
  rw [List.all_cons,Bool.and_eq_true] at f;rw [any_cons,any_cons,xf3 r f.1,zw0 t f.2]
theorem un0 {A:Around} {s:Shared} {x:V} {v:Value} (rx:RelV x v) (fx:tb1 x=true):∀ {xs:List V} {us:List Value},Vals xs us->xs.all tb1=true->∀ u ∈ us,SeqAt.EqAt A s u v (eqU x u)
 | _,_,.nil,_=>λ u hu=>by cases hu
 | y :: xs,u :: us,.cons r t,f=>λ u' hu=>by
  rw [List.all_cons,Bool.and_eq_true] at f;rcases List.mem_cons.mp hu with rfl | hu
  ·rw [xf3 r f.1]; exact vj5 r rx f.1 fx
  ·exact un0 rx fx t f.2 u' hu
noncomputable def inV (x:V) (xs:List V):Bool:=xs.any λ y=>eqV y x
noncomputable def rIn (K:PySem.W.Frag) (neg:Bool):R2:=λ x y H Q=>∃ p xs,y=.ref p /\ (SqL K H p xs \/ SqT K H p xs) /\ tb1 x=true /\ xs.all tb1=true /\ Q (.bl (if neg then !inV x xs else inV x xs)) H
theorem op_in_seq:OpR X (compareOp .In) (rIn X.K false):=by
 intro pins s σ H x y v u Q I rx ry h;obtain ⟨p,xs,rfl,hq,fx,fs,q⟩:=h;cases ry;rcases hq with hq | hq
 ·obtain ⟨its,r,pl,hz⟩:=I.list hq;refine SeqAt.in_listAt (eqU x) pl.isList (λ w hw=>un0 rx fx r fs w (by simpa using hw)) ⟨.bl _,H,I,rfl,?_⟩;rw [show its.toArray.any (eqU x)=its.any (eqU x) by simp,zw0 r fs];exact q
 ·obtain ⟨its,r,pl,hz⟩:=I.tuple hq;refine SeqAt.in_tupleAt (eqU x) pl (λ w hw=>un0 rx fx r fs w (by simpa using hw)) ⟨.bl _,H,I,rfl,?_⟩;rw [show its.toArray.any (eqU x)=its.any (eqU x) by simp,zw0 r fs];exact q
theorem op_notIn_seq:OpR X (compareOp .NotIn) (rIn X.K true):=by
 intro pins s σ H x y v u Q I rx ry h;obtain ⟨p,xs,rfl,hq,fx,fs,q⟩:=h;cases ry;rcases hq with hq | hq
 ·obtain ⟨its,r,pl,hz⟩:=I.list hq;refine SeqAt.notIn_listAt (eqU x) pl.isList (λ w hw=>un0 rx fx r fs w (by simpa using hw)) ⟨.bl _,H,I,rfl,?_⟩;rw [show its.toArray.any (eqU x)=its.any (eqU x) by simp,zw0 r fs];exact q
 ·obtain ⟨its,r,pl,hz⟩:=I.tuple hq;refine SeqAt.notIn_tupleAt (eqU x) pl (λ w hw=>un0 rx fx r fs w (by simpa using hw)) ⟨.bl _,H,I,rfl,?_⟩;rw [show its.toArray.any (eqU x)=its.any (eqU x) by simp,zw0 r fs];exact q
theorem vf1:OpR X (compareOp .NotIn) (λ x y H Q=>∃ i j,x=.str i /\ y=.str j /\ Q (.bl (!(!(Builtin.Str.occurrences j i 0 j.length 1).isEmpty))) H):=by
 intro pins s σ H x y v u Q I rx ry h;obtain ⟨i,j,rfl,rfl,q⟩:=h;obtain ⟨t,rfl⟩:=rx;obtain ⟨t',rfl⟩:=ry;exact notIn_str ⟨.bl _,H,I,rfl,q⟩
theorem call_len_seq:CallR X (.builtin "len") (λ xs H Q=>∃ p ys,xs=[.ref p] /\ (SqL X.K H p ys \/ SqT X.K H p ys) /\ Q (.int ys.length) H):=by
 intro pins s σ H xs us Q I r h;obtain ⟨p,ys,rfl,hq,q⟩:=h;obtain ⟨u,rfl,rx⟩:=ww0 r;cases rx;have hn:=sf1;rcases hq with hq | hq
 ·obtain ⟨its,r',pl,hz⟩:=I.list hq;have hlen:=r'.length;exact Calls.call_len_list pl.isList (by simp_all;omega) ⟨.int ys.length,H,I.tok _,⟨s.toks + 1,by simp_all⟩,q⟩
 ·obtain ⟨its,r',pl,hz⟩:=I.tuple hq;have hlen:=r'.length;exact len_tuple pl (by simp_all;omega) ⟨.int ys.length,H,I.tok _,⟨s.toks + 1,by simp_all⟩,q⟩
theorem wh1:CallR X (.builtin "len") (λ xs H Q=>∃ z,xs=[.str z] /\ z.length<=sizeLine /\ Q (.int z.length) H):=by
 intro pins s σ H xs us Q I r h;obtain ⟨z,rfl,hz,q⟩:=h;obtain ⟨u,rfl,t,rfl⟩:=ww0 r;have hn:=sf1;exact len_str [2] ⟨.int z.length,H,I.tok _,⟨_,rfl⟩,q⟩
theorem CallR.or {f:Value} {r r':List V->Hp->VK->Prop} (h:CallR X f r) (h':CallR X f r'):CallR X f (λ xs H Q=>r xs H Q \/ r' xs H Q):=by
 intro pins s σ H xs us Q I rs q;rcases q with q | q
 ·exact h pins s σ H xs us Q I rs q
 ·exact h' pins s σ H xs us Q I rs q
theorem vc1:CallR X (.type "tuple") (λ xs H Q=>∃ p ys,xs=[.ref p] /\ ((SqL X.K H p ys /\ ∀ l,H l=none->Q (.ref l) (upd H l (.tup ys))) \/ (SqT X.K H p ys /\ Q (.ref p) H))):=by
 intro pins s σ H xs us Q I r h;obtain ⟨p,ys,rfl,h⟩:=h;obtain ⟨u,rfl,rx⟩:=ww0 r;cases rx;rcases h with ⟨hq,q⟩ | ⟨hq,q⟩
 ·obtain ⟨its,r',pl,hz⟩:=I.list hq;have hlen:=r'.length;refine call_tuple_list pl.isList (λ h' kp=>?_) (by simp_all);have I1:Inv X pins σ H { s with heap:=h' }:=I.kept (t':=s.toks) kp
  have I2:Inv X pins σ (upd H h'.objs.size (.tup ys)) { s with heap:=h'.push { cls:=.type "tuple",data:=.seq its.toArray } } :=
   I1.laid (t':=s.toks) (λ b o e=>Heap.get?_push_of_some _ e) (Nat.le_refl _) (show ObjOk X.prog X.w _ _ _ (.tup ys) from ⟨hz,its,r',IsTup.new _ _⟩)
  exact ⟨.ref h'.objs.size,_,I2,rfl,q _ (I1.hok.fresh (Nat.le_refl _))⟩
 ·obtain ⟨its,r',pl,hz⟩:=I.tuple hq;exact call_tuple_same pl ⟨.ref p,H,I,rfl,q⟩
noncomputable def tyV (K:PySem.W.Frag) (T:String) (x:V) (H:Hp):Prop:=match x with
 | .str _=>T = "str"
 | .int _=>T = "int"
 | .ref p=>(T = "list" /\ ∃ xs,SqL K H p xs) \/ (T = "tuple" /\ ∃ o,K.lookup p=some o /\ o.cls=.type "tuple" /\ o.dict=none) ∨
     (T = "dict" /\ ((∃ kvs,H p=some (.dK kvs)) \/ ∃ kvs,H p=some (.dT kvs))) \/ (T = "set" /\ ∃ S n,H p=some (.set S n))
 | _=>False
theorem xc4 (I:Inv X pins σ H s) (r:RelV x v) (ty:tyV X.K T x H) :
    s.TypeIs v T /\ ∀ a,v=.ref a->∃ ob,s.heap.get? a=some ob /\ ob.dict=none:=by
 cases x with
 | str z =>
  obtain ⟨t,rfl⟩:=r;cases (show T = "str" from ty);exact ⟨typeIs_str s z t,λ _ e=>nomatch e⟩
 | int i =>
  obtain ⟨t,rfl⟩:=r;cases (show T = "int" from ty);exact ⟨typeIs_int s i t,λ _ e=>nomatch e⟩
 | ref p =>
  cases r;rcases ty with ⟨rfl,xs,hq⟩ | ⟨rfl,o,hk,hc,hd⟩ | ⟨rfl,hk⟩ | ⟨rfl,S,n,hk⟩
  ·obtain ⟨its,_,pl,_⟩:=I.list hq;refine ⟨pl.isList.typeIs,λ a e=>?_⟩;cases e;obtain ⟨o,n,e,c,hd,_⟩:=pl
   simp_all
  ·refine ⟨⟨o,I.kIn p o hk,hc⟩,λ a e=>?_⟩;cases e;exact ⟨o,I.kIn _ o hk,hd⟩
  ·have z:∃ o,s.heap.get? p=some o /\ o.ExactDict:=by
     rcases hk with ⟨kvs,hk⟩ | ⟨kvs,hk⟩
     ·obtain ⟨_,_,_,_,o,_,_,e,ex,_⟩:=I.hok p _ hk
      simp_all
     ·obtain ⟨_,_,_,_,o,_,_,e,ex,_⟩:=I.hok p _ hk
      simp_all
   obtain ⟨o,e,ex⟩:=z;refine ⟨⟨o,e,ex.1⟩,λ a e2=>?_⟩;cases e2;exact ⟨o,e,ex.2.1⟩
  ·obtain ⟨o,_,_,_,e,ex,_⟩:=I.hok p _ hk;refine ⟨⟨o,e,ex.1⟩,λ a e2=>?_⟩;cases e2;exact ⟨o,e,ex.2.1⟩
 | _=>exact False.elim ty
noncomputable def tBM (K:PySem.W.Frag) (T:String) (r:V->List V->Hp->VK->Prop) (to:TE) (t:TA):TE:=λ σ H Q=>to σ H λ x H1=>tyV K T x H1 /\ t σ H1 λ xs H2=>r x xs H2 Q
variable {o:Expr} {es:List Expr} {to:TE} {t:TA} {name:Str} {apos cpos:Pos} {id:String} {r:V->List V->Hp->VK->Prop}
theorem pe_bm (pa:PlainAttrs T) (slot:Slot T name id) (hty:typeOf (.builtin id)=pure (.type "method_descriptor")) (hm:MtR X id r) (ho:PE X o to) (ha:PA X (e :: es) t)
    (hbase:attributeBase o name X.env (eval o X.env)=eval o X.env:=by rfl)
    (hfew:((backTo cpos (starEach (e :: es) X.env)).all (λ x=>!x.1) && (backToKw cpos (keywordEach [] X.env)).all (λ x=>x.1.isSome)
     && decide ((e :: es).length + ([]:List Keyword).length + (if ([]:List Keyword).isEmpty then 0 else 1) < 30))=true:=by rfl)
    (hline:(apos.endLine == cpos.line)=true:=by rfl) (hs:starEach (e :: es) X.env=(false,eval e X.env) :: starEach es X.env:=by rfl) (hplain:(backTo cpos (starEach es X.env)).any (·.1)=false:=by rfl) :
    PE X (.Call (.Attribute o name apos) (e :: es) [] cpos) (tBM X.K T r to t):=by
 intro pins s σ H Q I h;refine wpAny_Call_method_late hbase hfew hline rfl (thn (ho pins s σ H _ I h) λ v s1 ⟨x,H1,I1,r1,ty,q1⟩=>?_);obtain ⟨h1,h2⟩:=xc4 I1 r1 ty;refine ⟨T,id,pa,slot,hty,h1,h2,?_⟩;have hA:=ha cpos pins s1 σ H1 _ I1 q1;rw [hs] at hA ⊢;refine Calls.callWith_builtin (by assumption) (Calls.evalArgs_plain ?_);exact thn hA λ us s2 ⟨vs,H2,I2,r2,q2⟩=>hm pins s2 σ H2 x vs v us Q I2 r1 r2 q2
end
noncomputable def MtM (X:Cx) (id:String) (r:V->List V->Hp->VK->Prop):Prop :=
 ∀ (pins:List (Addr × Obj)) (s:Shared) (σ:St) (H:Hp) (x:V) (xs:List V) (v:Value) (us:List Value) (Q:VK),Inv X pins σ H s->RelV x v->Vals xs us->r x xs H Q ->
  wpAny (model X.prog X.w) X.A (call (.builtin id) (v :: us)) (EP X pins σ Q) X.xe s
theorem Vals.one:∀ {x:V} {us:List Value},Vals [x] us->∃ u,us=[u] /\ RelV x u
 | _,_,.cons r .nil=>⟨_,rfl,r⟩
theorem Vals.rep {xs:List V} {us:List Value} (h:Vals xs us):∀ k:Nat,Vals (List.replicate k xs).flatten (List.replicate k us).flatten
 | 0=>.nil
 | k + 1=>by
  rw [replicate_succ,replicate_succ,flatten_cons,flatten_cons];exact Vals.append h (Vals.rep h k)
theorem su0 (its:List Value):∀ (k:Nat) (acc:List Value),
    List.foldl (λ x1 x2=>x1 ++ x2) acc.toArray (List.replicate k its.toArray)=(acc ++ (List.replicate k its).flatten).toArray
 | 0,acc=>by simp
 | k + 1,acc=>by
  have e:acc.toArray ++ its.toArray=(acc ++ its).toArray:=by simp
  have e2:(acc ++ its) ++ (List.replicate k its).flatten=acc ++ (List.replicate (k + 1) its).flatten:=by
   rw [replicate_succ,flatten_cons,append_assoc]
  rw [<- e2,<- su0 its k (acc ++ its),<- e,replicate_succ,List.foldl_cons]
variable {t':Nat}
section
variable {l b:Addr} {ys zs:List V}
theorem Inv.lset {its':List Value} {f:Array Value->Array Value} (I:Inv X pins σ H s) (hH:H l=some (.lst xs))
    (e:s.heap.get? l=some { cls:=.type "list",data:=.seq its.toArray n }) (hf:f its.toArray=its'.toArray) (hv:Vals ys its') (hz:ys.length<=sizeLine) :
    Inv X pins σ (upd H l (.lst ys)) { s with heap:=s.heap.update l (Obj.mapSeq f),toks:=t' }:=by
 have q:=PySem.IsL.update e f;rw [hf] at q;refine I.write (x:=l) (e:=l) (by rw [hH]; exact trivial) (.inl rfl) (λ b' u hb hu=>(Heap.get?_update_other s.heap (Obj.mapSeq f) (Ne.symm hb)).trans hu) ⟨_,q⟩ ?_;exact ⟨hz,its',_,hv,q⟩
theorem Inv.lnew (I:Inv X pins σ H s) (hv:Vals ys its) (hz:ys.length<=sizeLine) :
    Inv X pins σ (upd H s.heap.objs.size (.lst ys)) { s with heap:=s.heap.push { cls:=.type "list",data:=.seq its.toArray },toks:=t' } :=
 I.laid (λ _ _ q=>Heap.get?_push_of_some _ q) (Nat.le_refl _) ⟨hz,its,0,hv,Heap.get?_push_size _ rfl⟩
theorem Inv.fresh (I:Inv X pins σ H s):H s.heap.objs.size=none:=I.hok.fresh (Nat.le_refl _)
theorem Inv.lstM (I:Inv X pins σ H s) (hH:H l=some (.lst xs)):xs.length<=sizeLine /\ ∃ (its:List Value) (n:Nat),Vals xs its /\ xs.length=its.length /\ s.heap.get? l=some { cls:=.type "list",data:=.seq its.toArray n }:=by
 obtain ⟨z,its,n,r,e⟩:=I.hok l _ hH;exact ⟨z,its,n,r,r.length,e⟩
theorem wo1 (h:n<=sizeLine):Builtin.List.listTooLong n=false:=by
 unfold Builtin.List.listTooLong
 simp_all
end
section
noncomputable def uo3:V->List V->Hp->VK->Prop:=λ x vs H Q=>∃ l xs y,x=.ref l /\ vs=[y] /\ H l=some (.lst xs) /\ xs.length < sizeLine /\ Q .non (upd H l (.lst (xs ++ [y])))
theorem uf1:MtM X "list.append" uo3:=by
 intro pins s σ H x vs v us Q I rx rv h;obtain ⟨l,xs,y,rfl,rfl,hH,hz,q⟩:=h;cases rx;obtain ⟨u,rfl,ru⟩:=rv.one;obtain ⟨z,its,n,r,hl,e⟩:=I.lstM hH;refine call_meets F.slot_list_append ⟨_,e,rfl⟩ F.entry_list_append (F.args_list_append_2 _ _) (PySem.list_append l its.toArray n u (by simp_all)) ⟨e,?_⟩;refine ⟨.non,_,I.lset (its':=its ++ [u]) hH e (by simp) (r.append (.cons ru .nil)) ?_,rfl,q⟩
 simp_all;omega
noncomputable def vo3:V->List V->Hp->VK->Prop:=λ x vs H Q=>∃ l b xs zs,x=.ref l /\ vs=[.ref b] /\ H l=some (.lst xs) /\ H b=some (.lst zs) /\ xs.length + zs.length<=sizeLine /\ Q .non (upd H l (.lst (xs ++ zs)))
theorem za2:MtM X "list.extend" vo3:=by
 intro pins s σ H x vs v us Q I rx rv h;obtain ⟨l,b,xs,zs,rfl,rfl,hH,hB,hz,q⟩:=h;cases rx;obtain ⟨u,rfl,ru⟩:=rv.one;cases ru;obtain ⟨z,its,n,r,hl,e⟩:=I.lstM hH;obtain ⟨z2,its2,n2,r2,hl2,e2⟩:=I.lstM hB;have hsz:its.toArray.size + its2.toArray.size<=sizeLine:=by simp_all
 have hlong:¬ (!its.toArray.isEmpty && Builtin.List.listTooLong (its.toArray.size + its2.toArray.size))=true:=by
  rw [wo1 hsz,Bool.and_false];trivial
 refine call_meets F.slot_list_extend ⟨_,e,rfl⟩ F.entry_list_extend (F.args_list_extend_2 _ _)
  (AutoSeq1.list_extend_list_list_0 l its.toArray n b its2.toArray n2 hlong [2] [2]) ⟨e,e2,?_⟩
 refine ⟨.non,_,I.lset (its':=its ++ its2) hH e (by simp) (r.append r2) ?_,rfl,q⟩
 simp_all
noncomputable def rCat:R2:=λ x y H Q=>∃ l b xs zs,x=.ref l /\ y=.ref b /\ H l=some (.lst xs) /\ H b=some (.lst zs) /\ xs.length + zs.length<=sizeLine /\ ∀ p,H p=none->Q (.ref p) (upd H p (.lst (xs ++ zs)))
theorem op_cat:OpR X (binaryOp .Add) rCat:=by
 intro pins s σ H x y v u Q I rx ry h;obtain ⟨l,b,xs,zs,rfl,rfl,hH,hB,hz,q⟩:=h;cases rx;cases ry;obtain ⟨z,its,n,r,hl,e⟩:=I.lstM hH;obtain ⟨z2,its2,n2,r2,hl2,e2⟩:=I.lstM hB;refine PySem.P.add_list e e2 ?_ (by simp_all);have ea:its.toArray ++ its2.toArray=(its ++ its2).toArray:=by simp
 rw [ea];exact ⟨.ref _,_,I.lnew (t':=s.toks) (r.append r2) (by simp_all),rfl,q _ I.fresh⟩
noncomputable def rRep:R2:=λ x y H Q=>∃ l k xs,x=.ref l /\ y=.int k /\ H l=some (.lst xs) /\ -(2 ^ 63)<=k /\ k < 2 ^ 63 /\ xs.length * k.toNat<=sizeLine ∧
 ∀ p,H p=none->Q (.ref p) (upd H p (.lst (List.replicate k.toNat xs).flatten))
theorem xb2 {α:Type} (xs:List α) (k:Nat):(List.replicate k xs).flatten.length=k * xs.length:=by
 simp
theorem ze5:OpR X (binaryOp .Mult) rRep:=by
 intro pins s σ H x y v u Q I rx ry h;obtain ⟨l,k,xs,rfl,rfl,hH,h1,h2,hz,q⟩:=h;cases rx;obtain ⟨t,rfl⟩:=ry;obtain ⟨z,its,n,r,hl,e⟩:=I.lstM hH;have hlen:its.toArray.size * k.toNat<=sizeLine:=by simp_all
 have hcap:¬ its.toArray.size * k.toNat > (2 ^ 63 - 1) / 8:=by
  have:(sizeLine:Nat)<=(2 ^ 63 - 1) / 8:=by decide
  omega
 have hfit:¬ (!Builtin.List.listFitsIndex k)=true:=by
  rw [fitsIndex_both h1 h2];trivial
 have hlong:¬ Builtin.List.listTooLong (its.toArray.size * k.toNat)=true:=by
  rw [wo1 hlen];trivial
 have hnew:List.foldl (λ x1 x2=>x1 ++ x2) #[] (List.replicate (if its.toArray.isEmpty=true then 0 else k.toNat) its.toArray)=(List.replicate k.toNat its).flatten.toArray:=by
  have f0:∀ m:Nat,List.foldl (λ x1 x2=>x1 ++ x2) #[] (List.replicate m its.toArray)=(List.replicate m its).flatten.toArray:=λ m=>by
   have:=su0 its m [];assumption
  rw [f0];cases its with
  | nil=>simp
  | cons a r'=>rfl
 refine wpAny_binaryOp_repeat_ref (T := "list") (U := "int") (by decide) ⟨_,e,rfl⟩ (λ s'=>typeIs_int s' k t) noFill_list_mul F.fills_int_mul F.slot_int_rmul repeat_list F.slot_int_index.lookup
  (call_meets F.slot_int_rmul (typeIs_int s k t) F.entry_int_rmul (F.args_int_rmul_2 _ _) (int___rmul___int_list k t l its.toArray n)
   ⟨e,rfl,⟨_,e,rfl⟩,call_meets F.slot_list_mul ⟨_,e,rfl⟩ F.entry_list_mul (F.args_list_mul_2 _ _) (AutoListH.list___mul___list_int_3 l its.toArray n k t hfit hcap hlong) ⟨e,?_⟩⟩)
 rw [hnew];exact ⟨.ref _,_,I.lnew (t':=s.toks) (r.rep k.toNat) (by rw [xb2,Nat.mul_comm]; exact hz),rfl,q _ I.fresh⟩
end
end L2
namespace Att
open PySem PySem.W PySem.Calls PyProof.Rows
variable {P:Params} {h:Heap}
theorem wu0:∀ (ns:List Int) (vs:List Value),WellAll P h vs (ns.map WData.int)->IntsAre vs ns:=by
 intro ns
 induction ns with
 | nil =>
  intro vs w;rw [map_nil] at w;cases w;exact .nil
 | cons n ns ih =>
  intro vs w;rw [map_cons] at w;cases w with
  | cons a b =>
   cases a;exact .cons _ _ (ih _ b)
variable {n:Nat}
theorem xx1 {l:OpenLaw} (hn:l.most=some n) {args:List WData} {vals:List Value}
    (hpre:l.row.toRowW.claim.pre args=true) (hwl:WellAll P h vals args) :
    ∃ a vs ns,vals=[Value.ref a] /\ args=[WData.list (ns.map WData.int)] /\ h.get? a=some { cls:=.type "list",data:=.seq vs.toArray } /\ IntsAre vs ns /\ ns.length<=n:=by
 have hsh:WShape.hasAll [] args [.list .int]=true:=(pre_splitW hpre).1;have hc:l.pre.holds [] { args:=args }=true:=(pre_splitW hpre).2;obtain ⟨d,r,rfl,h1,h2⟩:=hasAllW_cons hsh;obtain rfl:=hasAllW_nil h2;obtain ⟨xs,rfl,h3⟩:=hasW_list h1;obtain ⟨ns,rfl⟩:=items_int h3
 have hlen:ns.length<=n:=by
  unfold OpenLaw.pre at hc
  have h4:(WTm.not (.lt (.lit (.int (n:Int))) (.len (.arg 0)))).holds [] { args:=[.list (ns.map .int)] }=true:=by
   have h4:=(holds_andW hc).1
   simp_all
  have h5:=condW_of h4 (w_not (w_lt w_lit (w_len_list (w_arg rfl))))
  simp_all
 cases hwl with
 | cons w1 w2 =>
  cases w2;cases w1 with
  | list ho hall=>exact ⟨_,_,ns,rfl,rfl,ho,wu0 ns _ hall,hlen⟩
theorem zy1 (l:OpenLaw) (args:List WData):l.row.toRowW.claim.post args (.bool true) args=true :=
 postW_of (r:=l.row.toRowW) (X:=(true == true))
  (show WShape.has [] (.bool true) .bool=true by rfl)
  (show (WTm.eq .res (.lit (.bool true))).value [] { args:=args,res:=some (.bool true),after:=args }=some (.bool (true == true)) from w_eq_bool (w_res rfl) w_lit) rfl
theorem attach_call {l:OpenLaw} {q:Program} {loose:List Str} {XP:(Str->Option Value)->Heap->Prop} {YP:World->Heap->Prop} {d:DefRec}
    (hn:l.most=some n) (hdf:d.params.defaults=[])
    (call:∀ (w:World) (s₀ s₁:Shared) (mg mb:Str->Option Value) (fa:Addr) (o:Obj) (pm cd doc:Value) (a:Addr) (vs:List Value) (ns:List Int),
     Ground q loose [] XP w s₀ mg mb s₁.heap->YP w s₁.heap ->
     s₁.heap.get? fa=some o->o.data=.func (docDef d.name d.params d.body d.scope pm cd doc)->s₁.heap.CodeRec cd d.name->mg d.name=some (.ref fa) ->
     s₁.heap.get? a=some { cls:=.type "list",data:=.seq vs.toArray }->IntsAre vs ns->ns.length<=n->s₁.gens = #[] ->
     codeAny (model l.prog w) callerA (.call (.ref fa) ⟨[.ref a],[]⟩) (λ r s'=>r=.ok (.ret (.bool true)) /\ OldK s₁.heap s'.heap /\ s'.os=s₁.os /\ AllBare s'.gens) s₁) :
    WalkO q loose XP YP l.row.toRowW d [] (λ f vs=>PySem.call f vs):=by
 intro w s₀ s₁ mg mb G Y fa o pm cd doc dV kV ho hd hcd hD hmg hg args vals as hpre hlay hrd hwl hlo;obtain rfl:dV=.none:=Dflts.none hD hdf;obtain rfl:kV=.none:=Dflts.noKw hD;obtain ⟨a,vs,ns,rfl,rfl,hobj,hints,hlen⟩:=xx1 hn hpre hwl;refine enter_call (codeAny_mono (call w s₀ s₁ mg mb fa o pm cd doc a vs ns G Y ho (fd_plain hd) hcd hmg hobj hints hlen hg) λ r s' hq=>?_);obtain ⟨rfl,h2,h3,h4⟩:=hq;exact ⟨.inl ⟨.bool true,.bool true,[],rfl,λ _=>rfl,.bool true,zy1 l _,λ _=>⟨List.Pairwise.nil,λ _ hm=>(nomatch hm)⟩⟩,h2,h3,h4⟩
section
variable {prog:Program} {w:World} {A:Around} {E:[8]} {s:Shared} {K:Frag}
noncomputable def ledger (h:Heap) (L d:Addr):List (Addr × Obj):=(List.range h.objs.size).filterMap λ a=>if a=L \/ a=d then none else (h.get? a).map λ o=>(a,o)
end
end Att
namespace L2
open PySem PySem.Spec PyProof.Rows
theorem yd1:∀ {vs:List Value} {ns:List Int},IntsAre vs ns->Vals (ns.map V.int) vs
 | _,_,.nil=>.nil
 | _,_,.cons n t h=>.cons ⟨t,rfl⟩ (yd1 h)
noncomputable def Only (H:Hp):Prop:=∀ b,H b=none \/ ∃ o xs,H b=some (.frz o (.lst xs))
variable {P:Program} {w:World} {K:PySem.W.Frag} {mg:Str->Option Value} {k:Nat} {fd:FuncData} {x:Str} {sp:Sp}
theorem wu2 {mb:Str->Option Value} {CX:CXT} {fa a:Addr} {s₁:Shared} {vs:List Value} {ns:List Int}
    (KX:K.In s₁.heap) (hns:s₁.heap.Ns mainGlobals mg) (hb:s₁.heap.Ns builtinsNs mb) (hbb:∀ x:Str,x ≠ "__name__" -> mb x=bootBuiltins x) (hlim:s₁.heap.NoLimit) (hg:s₁.gens = #[])
    (ha:s₁.heap.get? a=some { cls:=.type "list",data:=.seq vs.toArray }) (hi:IntsAre vs ns) (hl:ns.length<=sizeLine) (hr:Room k callerA)
    (F:∀ base:Heap,K.In base->base.Ns mainGlobals mg->FnOk P w K mg base CX k fa fd [x] sp) (hbind:∀ (s:Shared) (u:Value),BindsTo s fd ⟨[u],[]⟩ [(x,u)])
    (hsp:∀ H:Hp,Only H->SqL K H a (ns.map V.int)->sp [.ref a] H (λ v _=>v=.bl true) λ _ _ _=>False)
    (hCX:∀ H e s',CX [] H s₁ (λ _ _ _=>False) e s'->False) :
    codeAny (model P w) callerA (.call (.ref fa) ⟨[.ref a],[]⟩) (λ r s'=>r=.ok (.ret (.bool true)) /\ OldK s₁.heap s'.heap /\ s'.os=s₁.os /\ AllBare s'.gens) s₁:=by
 have rv:=yd1 hi;have lenV:=hi.length
 have core:∀ H:Hp,Only H->SqL K H a (ns.map V.int)->HOk P w H s₁.heap->(∀ b,H b ≠ none->b=a)->(H a ≠ none->K.lookup a=none) ->
     codeAny (model P w) callerA (.call (.ref fa) ⟨[.ref a],[]⟩) (λ r s'=>r=.ok (.ret (.bool true)) /\ OldK s₁.heap s'.heap /\ s'.os=s₁.os /\ AllBare s'.gens) s₁:=by
  intro H hO hS hok hA hK;have base_of:∀ {b:Addr} {o:Obj},s₁.heap.get? b=some o->H b=none->(hidT s₁.heap H).get? b=some o:=λ e n=>uv2 e n
  have noA:∀ {b:Addr} {o:Obj} {es:Array DictEntry} {ep:Nat},s₁.heap.get? b=some o->o.data=.dict es ep->H b=none:=λ {b o es ep} e d=>by
   cases q:H b with
   | none=>rfl
   | some u =>
    have e':b=a:=hA b (by rw [q]; simp);subst e';rw [ha] at e; cases e;trivial
  have nsK:∀ {b:Addr} {m:Str->Option Value},s₁.heap.Ns b m->(hidT s₁.heap H).Ns b m:=λ {b m} ⟨o,es,ep,e,d,r⟩=>⟨o,es,ep,base_of e (noA e d),d,r⟩
  have hKb:K.In (hidT s₁.heap H):=λ b o e=>base_of (KX b o e) (by
   cases q:H b with
   | none=>rfl
   | some u =>
    have e':b=a:=hA b (by rw [q]; simp);subst e'
    simp_all)
  have hM:Mod K mg (hidT s₁.heap H):=⟨hKb,nsK hns,⟨mb,nsK hb,hbb⟩,let ⟨mc,h1,h2⟩:=hlim; ⟨mc,nsK h1,h2⟩⟩;have e0:Env0 P w K mg (hidT s₁.heap H) callerA [] s₁ H:=⟨rfl,hM,λ b o e=>us3 e,Nat.le_of_eq (sb2 _ _),trivial,λ b hb=>absurd (show b ∈ ([]:List Addr) from hb) (by simp),hok,.of_eq hg⟩;refine codeAny_mono ((F _ hKb (nsK hns)).run callerA [] s₁ H ⟨[.ref a],[]⟩ [.ref a] [.ref a] _ _ hr e0 (hbind s₁ (.ref a)) (.cons rfl .nil) (hsp H hO hS)) λ r s' h=>?_;cases r with
  | error e=>exact (hCX H e s' h).elim
  | ok fl =>
   cases fl with
   | next=>exact False.elim h
   | brk=>exact False.elim h
   | cont=>exact False.elim h
   | ret u =>
    obtain ⟨v,H',os,bare,un,hok',r',q⟩:=h;have q':v=.bl true:=q;subst q';obtain rfl:u=Value.bool true:=r';refine ⟨rfl,OldK.of_keep λ b o e=>?_,os,bare⟩;cases q:H b with
    | none=>exact un.keep b o e q (by intro z; trivial) (by simp)
    | some u =>
     rcases hO b with z | ⟨ob,xs,z⟩
     ·simp_all
     ·have z2:=un.frzs b ob _ z;obtain ⟨e1,_⟩:=hok b _ z;obtain ⟨e2,_⟩:=hok' b _ z2
      simp_all
 cases hk:K.lookup a with
 | some o =>
  have e:=KX a o hk;rw [ha] at e;cases e;refine core (λ _=>none) (λ _=>.inl rfl) (.inr ⟨_,vs.toArray,_,hk,rfl,rfl,rfl,by simp_all,by simpa using rv⟩) (λ b u z=>by trivial) (λ b z=>absurd rfl z) λ z=>absurd rfl z
 | none =>
  refine core (λ b=>if b=a then some (.frz { cls:=.type "list",data:=.seq vs.toArray } (.lst (ns.map V.int))) else none) (λ b=>?_) (.inl (.inr ⟨{ cls:=.type "list",data:=.seq vs.toArray },if_pos rfl⟩)) (λ b u z=>?_) (λ b z=>?_) λ _=>hk
  ·by_cases hb:b=a
   ·simp_all
   simp_all
  ·by_cases hb:b=a
   ·have z':=(if_pos hb).symm.trans z;cases z';subst hb;exact ⟨ha,by simp_all,vs,_,rv,ha⟩
   simp_all
  simp_all
noncomputable abbrev KOf {K:PySem.W.Frag} {h:Heap} (_:K.In h):PySem.W.Frag:=K
theorem walk_of {l:PySem.W.OpenLaw} {n:Nat} {q:Program} {loose:List Str} {XP:(Str->Option Value)->Heap->Prop} {YP:World->Heap->Prop} {d:DefRec} {K:Params->PySem.W.Frag} {CX:World->CXT} {sp:World->Sp} 
    (hn:l.most=some n) (hn2:n<=sizeLine) (hdf:d.params.defaults=[]) (hr:Room k callerA)
    (hY:∀ (w:World) (h:Heap),YP w h->(K w.params).In h)
    (F:∀ (w:World) (mg:Str->Option Value) (fa:Addr) (h:Heap),(K w.params).In h->h.Ns mainGlobals mg->mg d.name=some (.ref fa) ->
     ∃ fd:FuncData,(∀ (s:Shared) (u:Value),BindsTo s fd ⟨[u],[]⟩ [(x,u)]) ∧
      ∀ base:Heap,(K w.params).In base->base.Ns mainGlobals mg->FnOk l.prog w (K w.params) mg base (CX w) k fa fd [x] (sp w))
    (hsp:∀ (w:World) (H:Hp) (a:Addr) (ns:List Int),ns.length<=n->Only H->SqL (K w.params) H a (ns.map V.int)->sp w [.ref a] H (λ v _=>v=.bl true) λ _ _ _=>False)
    (hCX:∀ (w:World) (H:Hp) (s:Shared) (e:Value) (s':Shared),CX w [] H s (λ _ _ _=>False) e s'->False) :
    PySem.W.WalkO q loose XP YP l.row.toRowW d [] (λ f vs=>PySem.call f vs):=by
 refine Att.attach_call hn hdf λ w s₀ s₁ mg mb fa o pm cd doc a vs ns G Y ho hd hcd hmg hobj hints hlen hg=>?_;have KX:=hY w _ Y;obtain ⟨fd,hb,hF⟩:=F w mg fa _ KX G.T.g hmg;exact wu2 KX G.T.g G.T.b G.T.builtins G.T.nolimit hg hobj hints (Nat.le_trans hlen hn2) hr hF hb (λ H hO hS=>hsp w H a ns hlen hO hS) λ H e s'=>hCX w H s₁ e s'
noncomputable abbrev CX0:CXT:=λ _ _ _ _ _ _=>False
noncomputable abbrev E0:XK:=λ _ _ _=>False
theorem ud5 {X:Cx}:zh2 CX0 X E0:=λ _ _ _ _ _ _ _ h=>h.elim
structure Fun (K:PySem.W.Frag) (x qual:Str) (st:Stmt) (f:Addr) (fd:FuncData):Prop where
 ex:∃ (oc:Value) (od:Option Addr) (kV doc pm:Value) (an:Option Addr) (cdv ct:Value) (osl:Array (Option Value)),
  fd=fnOf x qual (xj0 st) (xe0 st) (za0 st) .none kV doc pm an cdv ct /\ K.lookup f=some ⟨oc,od,.func fd,osl⟩ /\ codeIn K cdv qual=true
 kp:keepIn K (.ref f)=true
variable {qual:Str} {f:Addr} {ps:List Str}
section
variable {base:Heap}
theorem Fun.ok {st:Stmt} {N:List Str} (F:Fun K x qual st f fd) (S:FnScope N ps (za0 st)) (len:∀ vs H Q E,sp vs H Q E->vs.length=ps.length)
    (hbody:∀ (cdv:Value) (A:Around) (outer:List Env) (s:Shared) (H:Hp) (vs:List V) (Q:VK) (E:XK),Room k (A.deeper (envOfC qual (za0 st) s.heap.objs.size f cdv))->sp vs H Q E ->
     ∃ t,PSs (cxOf CX0 P w K mg base N qual (za0 st) f cdv A outer s H E).nox (xe0 st) t /\ t { nx:=λ _ H'=>Q .non H',rt:=Q } (start N vs) H):FnOk P w K mg base CX0 (k + 1) f fd ps sp:=by
 obtain ⟨oc,od,kV,doc,pm,an,cdv,ct,osl,rfl,lk,hcd⟩:=F.ex;refine fn_of lk hcd S len λ A outer s H vs Q E hr hsp=>?_;obtain ⟨t,h,q⟩:=hbody cdv A outer s H vs Q E hr hsp;exact ⟨t,h.nox,q⟩
theorem Fun.binds {st:Stmt} (F:Fun K x qual st f fd)
    (h:∀ (kV doc pm:Value) (an:Option Addr) (cdv ct:Value) (us:List Value),us.length=ps.length->bindArgs (fnOf x qual (xj0 st) (xe0 st) (za0 st) .none kV doc pm an cdv ct) ⟨us,[]⟩=pure (ps.zip us)):Binds K fd ps []:=by
 obtain ⟨oc,od,kV,doc,pm,an,cdv,ct,osl,rfl,lk,hcd⟩:=F.ex;exact .all (h kV doc pm an cdv ct)
theorem we3 {st:Stmt} {oc:Value} {od an:Option Addr} {osl:Array (Option Value)} {kV doc pm cdv ct:Value} (l:K.lookup f=some ⟨oc,od,.func (fnOf x qual (xj0 st) (xe0 st) (za0 st) .none kV doc pm an cdv ct),osl⟩)
    (c:codeIn K cdv qual=true) (k:keepIn K (.ref f)=true):Fun K x qual st f (fnOf x qual (xj0 st) (xe0 st) (za0 st) .none kV doc pm an cdv ct):=⟨⟨oc,od,kV,doc,pm,an,cdv,ct,osl,rfl,l,c⟩,k⟩
end
noncomputable def Same (H H':Hp):Prop:=∀ b o,H b=some o->H' b=some o
end L2
namespace Pv
open PySem
inductive D where
 | non | bl (b:Bool) | int (i:Int) | str (x:Str) | tup (l:List D) | fls (l:List D) | ref (a:Addr) | ty (n:String) | exc (c:Str)
 | ktp (l:List D)
inductive MO where
 | lst (xs:List D)
 | ins (c:Str) (fs:List (Str × D))
 | dct (kvs:List ((Int × Int × Int) × D))
 | dcl (kvs:List (List Int × D))
noncomputable abbrev Mu:=Addr->Option MO
noncomputable def updM (μ:Mu) (a:Addr) (o:MO):Mu:=λ b=>if b=a then some o else μ b
variable {μ:Mu} {o:MO}
theorem ya0 {a:Addr} :updM μ a o a=some o:=by unfold updM; rw [if_pos rfl]
theorem ta0 {a b:Addr} (h:b ≠ a):updM μ a o b=μ b:=by unfold updM; rw [if_neg h]
theorem vh0 {a:Addr} {u:MO}:updM (updM μ a o) a u=updM μ a u:=by
 funext b; unfold updM; simp_all
noncomputable def Ext (μ μ':Mu):Prop:=∀ a o,μ a=some o->μ' a=some o
theorem Ext.refl (μ:Mu):Ext μ μ:=λ _ _ h=>h
theorem Ext.trans {a b c:Mu} (h:Ext a b) (k:Ext b c):Ext a c:=λ x o q=>k x o (h x o q)
variable {p:Addr}
theorem Ext.new (h:μ p=none):Ext μ (updM μ p o):=λ a u q=>by
 rw [ta0]; exact q;intro e; simp_all
theorem Ext.free {μ':Mu} (e:Ext μ μ') (h:μ' p=none):μ p=none:=by
 cases q:μ p with
 | none=>rfl
 | some o=>rw [e p o q] at h; cases h
noncomputable def ExtB (p:Addr) (μ μ':Mu):Prop:=∀ a o,a ≠ p->μ a=some o->μ' a=some o
theorem ExtB.refl (p:Addr) (μ:Mu):ExtB p μ μ:=λ _ _ _ h=>h
theorem ExtB.trans {a b c:Mu} (h:ExtB p a b) (k:ExtB p b c):ExtB p a c:=λ x o n q=>k x o n (h x o n q)
theorem Ext.b {μ':Mu} (p:Addr) (e:Ext μ μ'):ExtB p μ μ':=λ a o _ q=>e a o q
theorem ExtB.upd:ExtB p μ (updM μ p o):=λ a u n q=>by rw [ta0 n]; exact q
theorem ug0 {q:Addr} (h:μ p=some o) (k:μ q=none):p ≠ q:=by
 intro e; simp_all
noncomputable abbrev St3:=List (Option D)
noncomputable def getI:St3->Nat->Option D
 | [],_=>none
 | o :: _,0=>o
 | _ :: r,i + 1=>getI r i
theorem wk1:∀ (ρ:St3) (i:Nat),getI ρ i=(ρ[i]?).getD none
 | [],i=>by simp [getI]
 | o :: _,0=>by simp [getI]
 | _ :: r,i + 1=>by simp [getI,wk1 r i]
noncomputable abbrev VK3:=D->Mu->Prop
noncomputable abbrev TE3:=St3->Mu->VK3->Prop
noncomputable abbrev TT3:=St3->Mu->(Bool->Mu->Prop)->Prop
noncomputable abbrev TA3:=St3->Mu->(List D->Mu->Prop)->Prop
structure Ends3 where
 nx:St3->Mu->Prop
 rt:VK3
 bk:St3->Mu->Prop:=λ _ _=>False
 ct:St3->Mu->Prop:=λ _ _=>False
noncomputable abbrev TS3:=Ends3->St3->Mu->Prop
noncomputable abbrev R3:=D->D->Mu->VK3->Prop
noncomputable abbrev Sp3:=List D->Mu->VK3->Prop
noncomputable abbrev C3:=List D->Mu->VK3->Prop
noncomputable abbrev TG3:=D->St3->Mu->(St3->Mu->Prop)->Prop
noncomputable abbrev TGs3:=List D->St3->Mu->(St3->Mu->Prop)->Prop
noncomputable abbrev TI3:=St3->Mu->(List D->(Mu->Prop)->Mu->Prop)->Prop
noncomputable def v3 (i:Nat):TE3:=λ ρ μ Q=>match getI ρ i with
 | some d=>Q d μ
 | none=>False
noncomputable def c3 (d:D):TE3:=λ _ μ Q=>Q d μ
noncomputable def o3 (r:R3) (ta tb:TE3):TE3:=λ ρ μ Q=>ta ρ μ λ x μ1=>tb ρ μ1 λ y μ2=>r x y μ2 Q
noncomputable def un3 (r:D->Mu->VK3->Prop) (ta:TE3):TE3:=λ ρ μ Q=>ta ρ μ λ x μ1=>r x μ1 Q
noncomputable def b3 (t:TE3):TT3:=λ ρ μ Q=>t ρ μ λ d μ1=>match d with
 | .bl c=>Q c μ1
 | _=>False
noncomputable def and3 (t u:TT3):TT3:=λ ρ μ Q=>t ρ μ λ c μ1=>if c=true then u ρ μ1 Q else Q false μ1
noncomputable def or3 (t u:TT3):TT3:=λ ρ μ Q=>t ρ μ λ c μ1=>if c=true then Q true μ1 else u ρ μ1 Q
noncomputable def not3 (t:TT3):TT3:=λ ρ μ Q=>t ρ μ λ c μ1=>Q (!c) μ1
noncomputable def tc1 (t u:TE3):TE3:=λ ρ μ Q=>t ρ μ λ d μ1=>match d with
 | .bl c=>if c=true then u ρ μ1 Q else Q (.bl false) μ1
 | _=>False
noncomputable def orV3 (t u:TE3):TE3:=λ ρ μ Q=>t ρ μ λ d μ1=>match d with
 | .bl c=>if c=true then Q (.bl true) μ1 else u ρ μ1 Q
 | _=>False
noncomputable def if3 (c:TT3) (t u:TE3):TE3:=λ ρ μ Q=>c ρ μ λ b μ1=>if b=true then t ρ μ1 Q else u ρ μ1 Q
noncomputable def nil3:TA3:=λ _ μ Q=>Q [] μ
noncomputable def xa0 (t:TE3) (u:TA3):TA3:=λ ρ μ Q=>t ρ μ λ d μ1=>u ρ μ1 λ ds μ2=>Q (d :: ds) μ2
noncomputable def tup3 (t:TA3):TE3:=λ ρ μ Q=>t ρ μ λ ds μ1=>ds.length<=sizeLine /\ Q (.tup ds) μ1
noncomputable def lst3 (t:TA3):TE3:=λ ρ μ Q=>t ρ μ λ ds μ1=>ds.length<=sizeLine /\ ∀ p,μ1 p=none->Q (.ref p) (updM μ1 p (.lst ds))
noncomputable def wa0 (sp:Sp3) (t:TA3):TE3:=λ ρ μ Q=>t ρ μ λ ds μ1=>sp ds μ1 Q
noncomputable def mt3 (r:D->List D->Mu->VK3->Prop) (to:TE3) (t:TA3):TE3:=λ ρ μ Q=>to ρ μ λ x μ1=>match x with
 | .ref p=>match μ1 p with
  | some (.lst _)=>t ρ μ1 λ ds μ2=>r (.ref p) ds μ2 Q
  | _=>False
 | _=>False
noncomputable abbrev TO3:=St3->Mu->(Option Int->Mu->Prop)->Prop
noncomputable def np3:TO3:=λ _ μ Q=>Q none μ
noncomputable def pt3 (t:TE3):TO3:=λ ρ μ Q=>t ρ μ λ d μ1=>match d with
 | .int i=>Q (some i) μ1
 | _=>False
noncomputable def sl3 (r:D->Option Int->Option Int->Mu->VK3->Prop) (te:TE3) (tl th:TO3):TE3:=λ ρ μ Q=>te ρ μ λ x μ1=>tl ρ μ1 λ l μ2=>th ρ μ2 λ u μ3=>r x l u μ3 Q
noncomputable def sIx3 (n d:Nat):Option Int->Nat
 | none=>d
 | some v=>if v < 0 then (v + (n:Int)).toNat else min v.toNat n
noncomputable def cut3 {α:Type} (xs:List α) (lo hi:Option Int):List α:=(xs.drop (sIx3 xs.length 0 lo)).take (sIx3 xs.length xs.length hi - sIx3 xs.length 0 lo)
noncomputable def slR:D->Option Int->Option Int->Mu->VK3->Prop:=λ x lo hi μ Q=>match x with
 | .tup l=>Q (.tup (cut3 l lo hi)) μ
 | .str z=>z.length<=sizeLine /\ Q (.str ⟨(cut3 z.cps.toList lo hi).toArray⟩) μ
 | .ref p=>match μ p with
  | some (.lst l)=>∀ r,μ r=none->Q (.ref r) (updM μ r (.lst (cut3 l lo hi)))
  | _=>False
 | .fls l=>∀ r,μ r=none->Q (.ref r) (updM μ r (.lst (cut3 l lo hi)))
 | _=>False
noncomputable def sa0:TS3:=λ D ρ μ=>D.nx ρ μ
noncomputable def sc0:TS3:=λ _ _ _=>False
noncomputable def seq3 (t u:TS3):TS3:=λ D ρ μ=>t { D with nx:=u D } ρ μ
noncomputable def vd0 (t:TE3):TS3:=λ D ρ μ=>t ρ μ λ _ μ1=>D.nx ρ μ1
noncomputable def ret3 (t:TE3):TS3:=λ D ρ μ=>t ρ μ D.rt
noncomputable def ifs3 (c:TT3) (t u:TS3):TS3:=λ D ρ μ=>c ρ μ λ b μ1=>if b=true then t D ρ μ1 else u D ρ μ1
noncomputable def gn3 (i:Nat):TG3:=λ d ρ μ Q=>Q (ρ.set i (some d)) μ
noncomputable def ut1:TGs3:=λ ds ρ μ Q=>match ds with
 | []=>Q ρ μ
 | _=>False
noncomputable def xo0 (t:TG3) (u:TGs3):TGs3:=λ ds ρ μ Q=>match ds with
 | d :: r=>t d ρ μ λ ρ1 μ1=>u r ρ1 μ1 Q
 | []=>False
noncomputable def tv2 (n:Nat) (t:TGs3):TG3:=λ d ρ μ Q=>match d with
 | .tup l=>l.length=n /\ t l ρ μ Q
 | _=>False
noncomputable def set3 (i:Nat) (t:TE3):TS3:=λ D ρ μ=>t ρ μ λ d μ1=>D.nx (ρ.set i (some d)) μ1
noncomputable def asg3 (t:TE3) (g:TG3):TS3:=λ D ρ μ=>t ρ μ λ d μ1=>g d ρ μ1 D.nx
noncomputable def ixN (n:Nat) (i:Int):Option Nat:=if 0<=i then (if i < n then some i.toNat else none) else if -(n:Int)<=i then some (i + n).toNat else none
noncomputable def atI {α:Type} (xs:List α) (i:Int):Option α:=(ixN xs.length i).bind λ j=>xs[j]?
noncomputable def sub3 (to ti:TE3):TG3:=λ d ρ μ Q=>to ρ μ λ o μ1=>ti ρ μ1 λ i μ2=>match o,i with
 | .ref p,.int k=>match μ2 p with
  | some (.lst xs)=>match ixN xs.length k with
   | some j=>Q ρ (updM μ2 p (.lst (xs.set j d)))
   | none=>False
  | _=>False
 | _,_=>False
noncomputable def vk1 (S:Mu->Prop) (g:TG3) (tb:TS3) (D':Ends3):List D->St3->Mu->Prop
 | [],ρ,μ=>S μ /\ D'.nx ρ μ
 | x :: r,ρ,μ=>S μ /\ ∃ N:St3->Mu->Prop,(∀ ρ' μ',N ρ' μ'->vk1 S g tb D' r ρ' μ') /\ g x ρ μ λ ρ1 μ1=>tb { D' with nx:=N,ct:=N,bk:=D'.nx } ρ1 μ1
noncomputable def for3 (ti:TI3) (g:TG3) (tb:TS3):TS3:=λ D' ρ μ=>ti ρ μ λ l S μ1=>vk1 S g tb D' l ρ μ1
variable {S:Mu->Prop}
theorem sd0 {g:TG3} {tb:TS3} {D':Ends3} (W:List D->St3->Mu->Prop) {l:List D} {ρ:St3} (h0:W l ρ μ) (hS:∀ l ρ μ,W l ρ μ->S μ) (hn:∀ ρ μ,W [] ρ μ->D'.nx ρ μ)
    (hs:∀ x r ρ μ,W (x :: r) ρ μ->g x ρ μ λ ρ1 μ1=>tb { D' with nx:=W r,ct:=W r,bk:=D'.nx } ρ1 μ1):vk1 S g tb D' l ρ μ:=by
 induction l generalizing ρ μ with
 | nil=>exact ⟨hS _ _ _ h0,hn _ _ h0⟩
 | cons x r ih=>exact ⟨hS _ _ _ h0,W r,λ ρ' μ' q=>ih q,hs x r ρ μ h0⟩
noncomputable def is3 (t:TE3):TI3:=λ ρ μ R=>t ρ μ λ d μ1=>match d with
 | .tup l=>R l (λ _=>True) μ1
 | .fls l=>R l (λ _=>True) μ1
 | .str z=>R (z.cps.toList.map λ c=>D.str ⟨#[c]⟩) (λ _=>True) μ1
 | .ref p=>match μ1 p with
  | some (.lst l)=>R l (λ μ=>μ p=some (.lst l)) μ1
  | _=>False
 | _=>False
noncomputable def rngD (lo:Int) (n:Nat):List D:=(List.range n).map λ i=>.int (lo + (i:Nat))
noncomputable def ir3 (t:TA3):TI3:=λ ρ μ R=>t ρ μ λ ds μ1=>match ds with
 | [.int j]=>(-(2 ^ 62)<=j /\ j < 2 ^ 62) /\ R (rngD 0 j.toNat) (λ _=>True) μ1
 | _=>False
noncomputable def ir23 (t:TA3):TI3:=λ ρ μ R=>t ρ μ λ ds μ1=>match ds with
 | [.int i,.int j]=>(-(2 ^ 62)<=i /\ i < 2 ^ 62 /\ -(2 ^ 62)<=j /\ j < 2 ^ 62) /\ R (rngD i (j - i).toNat) (λ _=>True) μ1
 | _=>False
noncomputable def xx2 (S:Mu->Prop) (p:Addr) (g:TG3) (tc:TT3) (te:TE3) (Q:VK3) (l:List D) (ρ0:St3) (μ0:Mu):Prop :=
 ∃ W:List D->List D->St3->Mu->Prop,W l [] ρ0 μ0 /\ (∀ l ys ρ μ,W l ys ρ μ->S μ /\ μ p=some (.lst ys)) /\ (∀ ys ρ μ,W [] ys ρ μ->Q (.ref p) μ) ∧
  ∀ x r ys ρ μ,W (x :: r) ys ρ μ->ys.length < sizeLine /\ g x ρ μ λ ρ1 μ1=>tc ρ1 μ1 λ b μ2 =>
   if b=true then te ρ1 μ2 λ d μ3=>μ3 p=some (.lst ys) /\ W r (ys ++ [d]) ρ1 (updM μ3 p (.lst (ys ++ [d]))) else W r ys ρ1 μ2
noncomputable def wm0 (js:List (Option Nat)) (ti:TI3) (g:TG3) (tc:TT3) (te:TE3):TE3:=λ ρ μ Q=>ti ρ μ λ l S μ1=>∀ p,μ1 p=none->xx2 S p g tc te Q l (js.map λ j=>j.bind (getI ρ)) (updM μ1 p (.lst []))
noncomputable def tt3:TT3:=λ _ μ Q=>Q true μ
variable {Q:VK3}
theorem yo0 {te:TE3} {l:List D} {o:Option D} {rest:St3} (f:D->D) (hp:μ p=none) (hl:l.length<=sizeLine) (hS:∀ μ',Ext μ μ'->S μ')
    (hx:∀ x ∈ l,∀ μ' R,Ext μ μ'->(∀ μ2,Ext μ' μ2->R (f x) μ2)->te (some x :: rest) μ' R) (hQ:∀ μ',Ext μ μ'->μ' p=some (.lst (l.map f))->Q (.ref p) μ') :
    xx2 S p (gn3 0) tt3 te Q l (o :: rest) (updM μ p (.lst [])):=by
 refine ⟨λ r ys ρ μ'=>Ext μ μ' /\ μ' p=some (.lst ys) /\ (∃ o',ρ=o' :: rest) /\ ∃ a,a ++ r=l /\ ys=a.map f,?_,?_,?_,?_⟩
 ·exact ⟨Ext.new hp,ya0,⟨o,rfl⟩,[],rfl,rfl⟩
 ·simp_all
 ·simp_all
 ·rintro x r ys ρ μ' ⟨h1,h2,⟨o',rfl⟩,a,e,rfl⟩;refine ⟨by rw [length_map]; rw [<- e,length_append,length_cons] at hl; omega,?_⟩;show te (some x :: rest) μ' _;refine hx x (by rw [<- e]; simp) μ' _ h1 λ μ2 h3=>⟨h3 _ _ h2,λ b u hb=>?_,ya0,⟨_,rfl⟩,a ++ [x],by simp [<- e],by simp⟩;rw [ta0 (ug0 hb hp)];exact h3 _ _ (h1 _ _ hb)
noncomputable def CPow (i j:Int):Prop:=0<=j /\ j<=1000000 /\ i.natAbs < 2 ^ 64
noncomputable def Big:Nat:=2 ^ 1000
noncomputable def CMul (i j:Int):Prop:=((-(2 ^ 64) < i /\ i < 2 ^ 64) \/ (-(2 ^ 64) < j /\ j < 2 ^ 64)) \/ (i.natAbs < Big /\ j.natAbs < Big)
noncomputable def int2 (C:Int->Int->Prop) (g:Int->Int->D):R3:=λ x y μ Q=>match x,y with
 | .int i,.int j=>C i j /\ Q (g i j) μ
 | _,_=>False
noncomputable def zh0 (g:Int->Int->D):R3:=λ x y μ Q=>match x,y with
 | .int i,.int j=>Q (g i j) μ
 | _,_=>False
noncomputable def subR:R3:=zh0 λ i j=>.int (i - j)
noncomputable def mulR:R3:=λ x y μ Q=>match x,y with
 | .int i,.int j=>CMul i j /\ Q (.int (i * j)) μ
 | .tup l,.int k=>((-(2 ^ 62)<=k /\ k < 2 ^ 62) /\ l.length * k.toNat<=1000000) /\ Q (.tup (List.replicate k.toNat l).flatten) μ
 | .ref p,.int k=>match μ p with
  | some (.lst l)=>((-(2 ^ 62)<=k /\ k < 2 ^ 62) /\ l.length * k.toNat<=1000000) /\ ∀ r,μ r=none->Q (.ref r) (updM μ r (.lst (List.replicate k.toNat l).flatten))
  | _=>False
 | _,_=>False
noncomputable def modR:R3:=int2 (λ _ j=>0 < j) λ i j=>.int (i % j)
noncomputable def yw2:R3:=int2 (λ _ j=>0 < j /\ j < 2 ^ 120) λ i j=>.int (i / j)
noncomputable def powR:R3:=int2 CPow λ i j=>.int (i ^ j.toNat)
noncomputable def ltR:R3:=zh0 λ i j=>.bl (decide (i < j))
noncomputable def leR:R3:=zh0 λ i j=>.bl (decide (i<=j))
noncomputable def gtR:R3:=zh0 λ i j=>.bl (decide (j < i))
noncomputable def geR:R3:=zh0 λ i j=>.bl (decide (j<=i))
noncomputable def negR:D->Mu->VK3->Prop:=λ x μ Q=>match x with
 | .int i=>Q (.int (-i)) μ
 | _=>False
noncomputable def addR:R3:=λ x y μ Q=>match x,y with
 | .int i,.int j=>Q (.int (i + j)) μ
 | .str i,.str j=>i.length + j.length<=sizeLine /\ Q (.str (i ++ j)) μ
 | .ref p,.ref q=>match μ p,μ q with
  | some (.lst xs),some (.lst ys)=>xs.length + ys.length<=sizeLine /\ ∀ r,μ r=none->Q (.ref r) (updM μ r (.lst (xs ++ ys)))
  | _,_=>False
 | .tup l,.tup m=>l.length + m.length<=sizeLine /\ Q (.tup (l ++ m)) μ
 | _,_=>False
noncomputable def eqS:D->D->Option Bool
 | .int i,.int j=>some (decide (i=j))
 | .bl i,.bl j=>some (decide (i=j))
 | .str i,.str j=>some (decide (i=j))
 | .non,.non=>some true
 | .non,.int _=>some false
 | .int _,.non=>some false
 | .non,.str _=>some false
 | .str _,.non=>some false
 | .int _,.str _=>some false
 | .str _,.int _=>some false
 | _,_=>none
mutual
noncomputable def dat:D->Option PyData
 | .non=>some .none
 | .bl b=>some (.bool b)
 | .int i=>some (.int i)
 | .str x=>if PyData.strOk x=true then some (.str x) else none
 | .tup l=>match dats l with
  | some ps=>some (.tuple ps)
  | none=>none
 | .ktp l=>match dats l with
  | some ps=>some (.tuple ps)
  | none=>none
 | _=>none
noncomputable def dats:List D->Option (List PyData)
 | []=>some []
 | d :: r=>match dat d with
  | some p=>match dats r with
   | some ps=>some (p :: ps)
   | none=>none
  | none=>none
end
noncomputable def datM (μ:Mu):D->Option PyData
 | .ref p=>match μ p with
  | some (.lst l)=>match dats l with
   | some ps=>some (.list ps)
   | none=>none
  | _=>none
 | d=>dat d
noncomputable def eqR:R3:=λ x y μ Q=>match eqS x y with
 | some c=>Q (.bl c) μ
 | none=>match datM μ x,datM μ y with
  | some p,some q=>(p.depth<=64 /\ q.depth<=64) /\ Q (.bl (PyData.eqv p q)) μ
  | _,_=>False
noncomputable def neR:R3:=λ x y μ Q=>match eqS x y with
 | some c=>Q (.bl (!c)) μ
 | none=>match datM μ x,datM μ y with
  | some p,some q=>(p.depth<=64 /\ q.depth<=64) /\ Q (.bl (!PyData.eqv p q)) μ
  | _,_=>False
theorem wq1 (i j:Int) (μ:Mu) (Q:VK3):eqR (.int i) (.int j) μ Q=Q (.bl (decide (i=j))) μ:=rfl
theorem tg1 (i j:Str) (μ:Mu) (Q:VK3):eqR (.str i) (.str j) μ Q=Q (.bl (decide (i=j))) μ:=rfl
theorem uf5 (i j:Int) (μ:Mu) (Q:VK3):neR (.int i) (.int j) μ Q=Q (.bl (!decide (i=j))) μ:=rfl
theorem xc1 {x y:D} {p q:PyData} (e:eqS x y=none) (h1:datM μ x=some p) (h2:datM μ y=some q) (d1:p.depth<=64) (d2:q.depth<=64):eqR x y μ Q=Q (.bl (PyData.eqv p q)) μ:=by
 unfold eqR; simp_all
theorem up0 {x y:D} {p q:PyData} (e:eqS x y=none) (h1:datM μ x=some p) (h2:datM μ y=some q) (d1:p.depth<=64) (d2:q.depth<=64):neR x y μ Q=Q (.bl (!PyData.eqv p q)) μ:=by
 unfold neR; simp_all
noncomputable def strs?:List D->Option (List Str)
 | []=>some []
 | .str x :: r=>match strs? r with
  | some l=>some (x :: l)
  | none=>none
 | _ :: _=>none
noncomputable def inD (neg:Bool):R3:=λ x y μ Q=>match datM μ x,datM μ y with
 | some d,some (.list xs)=>(d.depth<=64 /\ (PyData.list xs).depth<=64) /\ Q (.bl (if neg then !(xs.any λ e=>PyData.eqv e d) else xs.any λ e=>PyData.eqv e d)) μ
 | some d,some (.tuple xs)=>(d.depth<=64 /\ (PyData.tuple xs).depth<=64) /\ Q (.bl (if neg then !(xs.any λ e=>PyData.eqv e d) else xs.any λ e=>PyData.eqv e d)) μ
 | _,_=>False
noncomputable def inR (neg:Bool):R3:=λ x y μ Q=>match x,y with
 | .str z,.tup l=>match strs? l with
  | some zs=>Q (.bl (if neg then !zs.contains z else zs.contains z)) μ
  | none=>inD neg (.str z) (.tup l) μ Q
 | .str z,.ktp l=>match strs? l with
  | some zs=>Q (.bl (if neg then !zs.contains z else zs.contains z)) μ
  | none=>inD neg (.str z) (.ktp l) μ Q
 | .str z,.str y=>Q (.bl (if neg then !(!(Builtin.Str.occurrences y z 0 y.length 1).isEmpty) else !(Builtin.Str.occurrences y z 0 y.length 1).isEmpty)) μ
 | x,y=>inD neg x y μ Q
noncomputable def ixR:R3:=λ x y μ Q=>match x,y with
 | .tup l,.int i=>match atI l i with
  | some d=>Q d μ
  | none=>False
 | .ktp l,.int i=>match atI l i with
  | some d=>Q d μ
  | none=>False
 | .fls l,.int i=>match atI l i with
  | some d=>Q d μ
  | none=>False
 | .ref p,.int i=>match μ p with
  | some (.lst l)=>match atI l i with
   | some d=>Q d μ
   | none=>False
  | _=>False
 | _,_=>False
noncomputable def lenR:C3:=λ ds μ Q=>match ds with
 | [.tup l]=>Q (.int l.length) μ
 | [.fls l]=>Q (.int l.length) μ
 | [.str z]=>z.length<=sizeLine /\ Q (.int z.length) μ
 | [.ref p]=>match μ p with
  | some (.lst l)=>Q (.int l.length) μ
  | _=>False
 | _=>False
noncomputable def absR:C3:=λ ds μ Q=>match ds with
 | [.int i]=>Q (.int (if i < 0 then -i else i)) μ
 | _=>False
noncomputable def intR:C3:=λ ds μ Q=>match ds with
 | [.int i]=>Q (.int i) μ
 | [.bl b]=>Q (.int (if b then 1 else 0)) μ
 | [.str z]=>match PySem.intText? z with
  | some n=>z.length<=640 /\ Q (.int n) μ
  | none=>False
 | _=>False
noncomputable def tupR:C3:=λ ds μ Q=>match ds with
 | [.tup l]=>Q (.tup l) μ
 | [.ref p]=>match μ p with
  | some (.lst l)=>Q (.tup l) μ
  | _=>False
 | _=>False
noncomputable def ints?:List D->Option (List Int)
 | []=>some []
 | .int x :: r=>match ints? r with
  | some l=>some (x :: l)
  | none=>none
 | _ :: _=>none
noncomputable def sumR:C3:=λ ds μ Q=>match ds with
 | [.ref p]=>match μ p with
  | some (.lst l)=>match ints? l with
   | some ns=>Q (.int ns.sum) μ
   | none=>False
  | _=>False
 | _=>False
noncomputable def ltP (a b c d:Int):Bool:=if a=c then decide (b < d) else decide (a < c)
noncomputable def minR:C3:=λ ds μ Q=>match ds with
 | [.tup [.int a,.int b],.tup [.int c,.int d]]=>Q (if ltP c d a b then .tup [.int c,.int d] else .tup [.int a,.int b]) μ
 | _=>False
noncomputable def tyN (μ:Mu):D->Option String
 | .int _=>some "int"
 | .bl _=>some "bool"
 | .str _=>some "str"
 | .tup _=>some "tuple"
 | .non=>some "NoneType"
 | .ref p=>match μ p with
  | some (.lst _)=>some "list"
  | _=>none
 | _=>none
noncomputable def isIn (t T:String):Option Bool :=
 if t=T then some true
 else if t = "bool" /\ T = "int" then some true
 else if (t = "int" \/ t = "str" \/ t = "tuple" \/ t = "bool" \/ t = "NoneType" \/ t = "list") /\ (T = "int" \/ T = "str" \/ T = "tuple" \/ T = "bool" \/ T = "list") then some false
 else none
noncomputable def isiR:C3:=λ ds μ Q=>match ds with
 | [d,.ty T]=>match tyN μ d with
  | some t=>match isIn t T with
   | some b=>Q (.bl b) μ
   | none=>False
  | none=>False
 | _=>False
noncomputable def appR:D->List D->Mu->VK3->Prop:=λ x ds μ Q=>match x,ds with
 | .ref p,[d]=>match μ p with
  | some (.lst l)=>l.length < sizeLine /\ Q .non (updM μ p (.lst (l ++ [d])))
  | _=>False
 | _,_=>False
noncomputable def extR:D->List D->Mu->VK3->Prop:=λ x ds μ Q=>match x,ds with
 | .ref p,[.ref q]=>match μ p,μ q with
  | some (.lst l),some (.lst m)=>l.length + m.length<=sizeLine /\ Q .non (updM μ p (.lst (l ++ m)))
  | _,_=>False
 | _,_=>False
theorem atI0 {α:Type} {a:α} {r:List α}:atI (a :: r) 0=some a:=by
 unfold atI ixN; simp
theorem atI1 {α:Type} {a b:α} {r:List α}:atI (a :: b :: r) 1=some b:=by
 unfold atI ixN; rw [if_pos (by decide),if_pos (by simp_all;omega)]; rfl
theorem atI2 {α:Type} {a b c:α} {r:List α}:atI (a :: b :: c :: r) 2=some c:=by
 unfold atI ixN; rw [if_pos (by decide),if_pos (by simp_all;omega)]; rfl
variable {n:Nat}
theorem ixN0:ixN (n + 1) 0=some 0:=by
 unfold ixN; simp
theorem ixN1:ixN (n + 1 + 1) 1=some 1:=by
 unfold ixN; simp_all;omega
theorem sf2 {α:Type} {l:List α} {i:Int} (h0:0<=i) (h1:i < l.length):∃ d,d ∈ l /\ atI l i=some d:=by
 have hn:i.toNat < l.length:=by omega
 refine ⟨l[i.toNat],getElem_mem hn,?_⟩;unfold atI ixN
 simp_all
noncomputable def ua0 (N:List Str) (ds:List D):St3:=ds.map some ++ List.replicate (N.length - ds.length) none
end Pv
namespace Pv
open PySem L2
noncomputable abbrev Fg:=PySem.W.Frag
structure Kp (H H':Hp):Prop where
 tup:∀ b xs,H b=some (.tup xs)->H' b=some (.tup xs)
 frz:∀ b o u,H b=some (.frz o u)->H' b=some (.frz o u)
theorem Kp.refl (H:Hp):Kp H H:=⟨λ _ _ h=>h,λ _ _ _ h=>h⟩
theorem Kp.trans {a b c:Hp} (h:Kp a b) (k:Kp b c):Kp a c:=⟨λ x xs q=>k.tup x xs (h.tup x xs q),λ x o u q=>k.frz x o u (h.frz x o u q)⟩
variable {H:Hp} {p:Addr} {o:HO}
theorem Kp.new (h:H p=none):Kp H (upd H p o) :=
 ⟨λ b xs q=>by rw [zc0 (ze0 q h)]; exact q,λ b o u q=>by rw [zc0 (ze0 q h)]; exact q⟩
variable {xs:List V}
theorem Kp.wr (h:H p=some (.lst xs)):Kp H (upd H p o) :=
 ⟨λ b ys q=>by rw [zc0 (wf5 q h (by intro z; cases z))]; exact q,λ b o u q=>by rw [zc0 (wf5 q h (by intro z; cases z))]; exact q⟩
noncomputable def SqF (K:Fg) (H:Hp) (a:Addr) (xs:List V):Prop :=
 (∃ o,H a=some (.frz o (.lst xs))) \/ ∃ (o:Obj) (its:Array Value) (n:Nat),K.lookup a=some o /\ o.cls=.type "list" /\ o.dict=none /\ o.data=.seq its n /\ its.size<=sizeLine /\ Vals xs its.toList
variable {K:Fg}
theorem SqF.l {a:Addr} (h:SqF K H a xs):SqL K H a xs:=by
 rcases h with ⟨o,h⟩ | h
 ·exact .inl (.inr ⟨o,h⟩)
 ·exact .inr h
theorem SqF.mono {H':Hp} {a:Addr} (k:Kp H H') (h:SqF K H a xs):SqF K H' a xs:=by
 rcases h with ⟨o,h⟩ | h
 ·exact .inl ⟨o,k.frz _ _ _ h⟩
 ·exact .inr h
theorem SqT.mono {H':Hp} {a:Addr} (k:Kp H H') (h:SqT K H a xs):SqT K H' a xs:=by
 rcases h with h | h
 ·rcases h with h | ⟨o,h⟩
  ·exact .inl (.inl (k.tup _ _ h))
  ·exact .inl (.inr ⟨o,k.frz _ _ _ h⟩)
 ·exact .inr h
mutual
inductive RelD (K:Fg) (H:Hp):D->V->Prop where
 | non:RelD K H .non .non
 | bl (b:Bool):RelD K H (.bl b) (.bl b)
 | int (i:Int):RelD K H (.int i) (.int i)
 | str (x:Str):RelD K H (.str x) (.str x)
 | ref (a:Addr):RelD K H (.ref a) (.ref a)
 | ty (n:String):RelD K H (.ty n) (.ty n)
 | tup {a:Addr} {l:List D} {vs:List V}:H a=some (.tup vs)->RelDs K H l vs->RelD K H (.tup l) (.ref a)
 | ktp {a:Addr} {l:List D} {vs:List V}:SqT K H a vs->RelDs K H l vs->RelD K H (.ktp l) (.ref a)
 | fls {a:Addr} {l:List D} {vs:List V}:SqF K H a vs->RelDs K H l vs->RelD K H (.fls l) (.ref a)
 | exc {a C:Addr} {c:Str} {ob:Obj} {u:HO}:H a=some (.frz ob u)->ob.cls=.ref C->nsIn K mainGlobals c=some (some (.ref C))->RelD K H (.exc c) (.ref a)
inductive RelDs (K:Fg) (H:Hp):List D->List V->Prop where
 | nil:RelDs K H [] []
 | cons {d:D} {v:V} {l:List D} {vs:List V}:RelD K H d v->RelDs K H l vs->RelDs K H (d :: l) (v :: vs)
end
mutual
theorem RelD.mono {K:Fg} {H H':Hp} (k:Kp H H'):∀ {d:D} {v:V},RelD K H d v->RelD K H' d v
 | _,_,.non=>.non
 | _,_,.bl b=>.bl b
 | _,_,.int b=>.int b
 | _,_,.str b=>.str b
 | _,_,.ref b=>.ref b
 | _,_,.ty b=>.ty b
 | _,_,.tup h r=>.tup (k.tup _ _ h) (RelDs.mono k r)
 | _,_,.ktp h r=>.ktp (SqT.mono k h) (RelDs.mono k r)
 | _,_,.fls h r=>.fls (SqF.mono k h) (RelDs.mono k r)
 | _,_,.exc h r1 r2=>.exc (k.frz _ _ _ h) r1 r2
theorem RelDs.mono {K:Fg} {H H':Hp} (k:Kp H H'):∀ {d:List D} {v:List V},RelDs K H d v->RelDs K H' d v
 | _,_,.nil=>.nil
 | _,_,.cons h r=>.cons (RelD.mono k h) (RelDs.mono k r)
end
theorem RelDs.length {K:Fg} {H:Hp}:∀ {l:List D} {vs:List V},RelDs K H l vs->l.length=vs.length
 | _,_,.nil=>rfl
 | _,_,.cons _ r=>congrArg (· + 1) r.length
theorem RelDs.get {K:Fg} {H:Hp}:∀ {l:List D} {vs:List V} {i:Nat} {d:D},RelDs K H l vs->l[i]?=some d->∃ v,vs[i]?=some v /\ RelD K H d v
 | _,_,_,_,.nil,e=>by simp at e
 | _,_,0,_,.cons h _,e=>by simp_all
 | _,_,i + 1,d,.cons _ r,e=>by
  obtain ⟨v,h1,h2⟩:=RelDs.get (i:=i) (d:=d) r (by simpa using e)
  simp_all
theorem RelDs.append {K:Fg} {H:Hp}:∀ {l m:List D} {vs us:List V},RelDs K H l vs->RelDs K H m us->RelDs K H (l ++ m) (vs ++ us)
 | _,_,_,_,.nil,q=>q
 | _,_,_,_,.cons h r,q=>.cons h (RelDs.append r q)
theorem RelDs.set {K:Fg} {H:Hp} {d:D} {v:V} (hd:RelD K H d v):∀ {l:List D} {vs:List V} (i:Nat),RelDs K H l vs->RelDs K H (l.set i d) (vs.set i v)
 | _,_,_,.nil=>.nil
 | _,_,0,.cons _ r=>.cons hd r
 | _,_,i + 1,.cons h r=>.cons h (RelDs.set hd i r)
theorem RelDs.take {K:Fg} {H:Hp}:∀ {l:List D} {vs:List V} (n:Nat),RelDs K H l vs->RelDs K H (l.take n) (vs.take n)
 | _,_,0,r=>by simp only [take_zero]; exact .nil
 | _,_,n + 1,.nil=>by simp only [List.take_nil]; exact .nil
 | _,_,n + 1,.cons h r=>by simp only [List.take_succ_cons]; exact .cons h (RelDs.take n r)
theorem RelDs.drop {K:Fg} {H:Hp}:∀ {l:List D} {vs:List V} (n:Nat),RelDs K H l vs->RelDs K H (l.drop n) (vs.drop n)
 | _,_,0,r=>by assumption
 | _,_,n + 1,.nil=>by simp only [List.drop_nil]; exact .nil
 | _,_,n + 1,.cons h r=>by simp only [List.drop_succ_cons]; exact RelDs.drop n r
theorem RelDs.rep {K:Fg} {H:Hp} {l:List D} {vs:List V} (r:RelDs K H l vs):∀ k:Nat,RelDs K H (List.replicate k l).flatten (List.replicate k vs).flatten
 | 0=>.nil
 | k + 1=>by rw [replicate_succ,replicate_succ,flatten_cons,flatten_cons]; exact r.append (RelDs.rep r k)
inductive RelFs (K:Fg) (H:Hp):List (Str × D)->List (Str × V)->Prop where
 | nil:RelFs K H [] []
 | cons {f:Str} {d:D} {v:V} {l:List (Str × D)} {vs:List (Str × V)}:RelD K H d v->RelFs K H l vs->RelFs K H ((f,d) :: l) ((f,v) :: vs)
theorem RelFs.mono {K:Fg} {H H':Hp} (k:Kp H H') {l:List (Str × D)} {vs:List (Str × V)} (r:RelFs K H l vs):RelFs K H' l vs:=by
 induction r with
 | nil=>exact .nil
 | cons h _ ih=>exact .cons (h.mono k) ih
noncomputable def kT (t:Int × Int × Int):List Key:=[.inl t.1,.inl t.2.1,.inl t.2.2]
inductive RelKs (K:Fg) (H:Hp):List ((Int × Int × Int) × D)->List (List Key × V)->Prop where
 | nil:RelKs K H [] []
 | cons {t:Int × Int × Int} {d:D} {v:V} {l:List ((Int × Int × Int) × D)} {vs:List (List Key × V)}:RelD K H d v->RelKs K H l vs->RelKs K H ((t,d) :: l) ((kT t,v) :: vs)
theorem RelKs.mono {K:Fg} {H H':Hp} (k:Kp H H') {l:List ((Int × Int × Int) × D)} {vs:List (List Key × V)} (r:RelKs K H l vs):RelKs K H' l vs:=by
 induction r with
 | nil=>exact .nil
 | cons h _ ih=>exact .cons (h.mono k) ih
noncomputable def kL (k:List Int):List Key:=k.map Sum.inl
inductive RelKl (K:Fg) (H:Hp):List (List Int × D)->List (List Key × V)->Prop where
 | nil:RelKl K H [] []
 | cons {t:List Int} {d:D} {v:V} {l:List (List Int × D)} {vs:List (List Key × V)}:RelD K H d v->RelKl K H l vs->RelKl K H ((t,d) :: l) ((kL t,v) :: vs)
theorem RelKl.mono {K:Fg} {H H':Hp} (k:Kp H H') {l:List (List Int × D)} {vs:List (List Key × V)} (r:RelKl K H l vs):RelKl K H' l vs:=by
 induction r with
 | nil=>exact .nil
 | cons h _ ih=>exact .cons (h.mono k) ih
structure RelM (K:Fg) (μ:Mu) (H:Hp):Prop where
 lst:∀ p xs,μ p=some (.lst xs)->∃ vs,H p=some (.lst vs) /\ RelDs K H xs vs
 ins:∀ p c fs,μ p=some (.ins c fs)->∃ C dx vs,nsIn K mainGlobals c=some (some (.ref C)) /\ H p=some (.ins C dx vs) /\ H dx=some (.own p) /\ RelFs K H fs vs
 dct:∀ p kvs,μ p=some (.dct kvs)->∃ vs,H p=some (.dT vs) /\ RelKs K H kvs vs
 dcl:∀ p kvs,μ p=some (.dcl kvs)->∃ vs,H p=some (.dT vs) /\ RelKl K H kvs vs
instance {K:Fg} {μ:Mu} {H:Hp}:CoeFun (RelM K μ H) (λ _=>∀ p xs,μ p=some (.lst xs)->∃ vs,H p=some (.lst vs) /\ RelDs K H xs vs):=⟨RelM.lst⟩
variable {μ:Mu}
theorem RelM.free (m:RelM K μ H) (h:H p=none):μ p=none:=by
 cases e:μ p with
 | none=>rfl
 | some o =>
  cases o with
  | lst xs =>
   obtain ⟨vs,q,_⟩:=m.lst p xs e
   simp_all
  | ins c fs =>
   obtain ⟨C,dx,vs,_,q,_⟩:=m.ins p c fs e
   simp_all
  | dct kvs =>
   obtain ⟨vs,q,_⟩:=m.dct p kvs e
   simp_all
  | dcl kvs =>
   obtain ⟨vs,q,_⟩:=m.dcl p kvs e
   simp_all
theorem RelM.newT (h:H p=none) (m:RelM K μ H):RelM K μ (upd H p o):=by
 have ne:∀ {q:Addr} {u:HO},H q=some u->q ≠ p:=λ {q u} e z=>by simp_all
 refine ⟨λ q xs e=>?_,λ q c fs e=>?_,λ q kvs e=>?_,λ q kvs e=>?_⟩
 ·obtain ⟨vs,q1,r⟩:=m.lst q xs e;exact ⟨vs,by rw [zc0 (ne q1)]; exact q1,r.mono (Kp.new h)⟩
 ·obtain ⟨C,dx,vs,n,q1,q2,r⟩:=m.ins q c fs e;exact ⟨C,dx,vs,n,by rw [zc0 (ne q1)]; exact q1,by rw [zc0 (ne q2)]; exact q2,r.mono (Kp.new h)⟩
 ·obtain ⟨vs,q1,r⟩:=m.dct q kvs e;exact ⟨vs,by rw [zc0 (ne q1)]; exact q1,r.mono (Kp.new h)⟩
 ·obtain ⟨vs,q1,r⟩:=m.dcl q kvs e;exact ⟨vs,by rw [zc0 (ne q1)]; exact q1,r.mono (Kp.new h)⟩
theorem RelM.newL {xs:List D} {vs:List V} (h:H p=none) (r:RelDs K H xs vs) (m:RelM K μ H):RelM K (updM μ p (.lst xs)) (upd H p (.lst vs)):=by
 have m':=m.newT (o:=.lst vs) h;refine ⟨λ q ys e=>?_,λ q c fs e=>?_,λ q kvs e=>?_,λ q kvs e=>?_⟩
 ·by_cases z:q=p
  ·subst z;rw [ya0] at e; cases e;exact ⟨vs,xg0,r.mono (Kp.new h)⟩
  ·rw [ta0 z] at e;exact m'.lst q ys e
 ·by_cases z:q=p
  ·subst z;rw [ya0] at e; cases e
  ·rw [ta0 z] at e;exact m'.ins q c fs e
 ·by_cases z:q=p
  ·subst z;rw [ya0] at e; cases e
  ·rw [ta0 z] at e;exact m'.dct q kvs e
 ·by_cases z:q=p
  ·subst z;rw [ya0] at e; cases e
  ·rw [ta0 z] at e;exact m'.dcl q kvs e
theorem RelM.wr {K:Fg} {μ:Mu} {H:Hp} {p:Addr} {xs:List D} {vs ws:List V} (h:H p=some (.lst ws)) (r:RelDs K H xs vs) (m:RelM K μ H):RelM K (updM μ p (.lst xs)) (upd H p (.lst vs)):=by
 refine ⟨λ q ys e=>?_,λ q c fs e=>?_,λ q kvs e=>?_,λ q kvs e=>?_⟩
 ·by_cases z:q=p
  ·subst z;rw [ya0] at e; cases e;exact ⟨vs,xg0,r.mono (Kp.wr h)⟩
  ·rw [ta0 z] at e;rw [zc0 z];obtain ⟨us,q1,r1⟩:=m.lst q ys e;exact ⟨us,q1,r1.mono (Kp.wr h)⟩
 ·by_cases z:q=p
  ·subst z;rw [ya0] at e; cases e
  ·rw [ta0 z] at e;obtain ⟨C,dx,us,n,q1,q2,r1⟩:=m.ins q c fs e;refine ⟨C,dx,us,n,by rw [zc0 z]; exact q1,?_,r1.mono (Kp.wr h)⟩;rw [zc0]
   ·exact q2
   ·intro y; simp_all
 ·by_cases z:q=p
  ·subst z;rw [ya0] at e; cases e
  ·rw [ta0 z] at e;rw [zc0 z];obtain ⟨us,q1,r1⟩:=m.dct q kvs e;exact ⟨us,q1,r1.mono (Kp.wr h)⟩
 ·by_cases z:q=p
  ·subst z;rw [ya0] at e; cases e
  ·rw [ta0 z] at e;rw [zc0 z];obtain ⟨us,q1,r1⟩:=m.dcl q kvs e;exact ⟨us,q1,r1.mono (Kp.wr h)⟩
structure RSt (K:Fg) (H:Hp) (ρ:St3) (σ:St):Prop where
 len:ρ.length=σ.length
 at':∀ i d,getI ρ i=some d->∃ v,σ[i]?=some (some v) /\ RelD K H d v
theorem RSt.mono {K:Fg} {H H':Hp} {ρ:St3} {σ:St} (k:Kp H H') (s:RSt K H ρ σ):RSt K H' ρ σ:=⟨s.len,λ i d e=>let ⟨v,h,r⟩:=s.at' i d e; ⟨v,h,r.mono k⟩⟩
theorem sp1:∀ (ρ:St3) (i j:Nat) (d:Option D),getI (ρ.set i d) j=if i=j /\ i < ρ.length then d else getI ρ j
 | [],i,j,d=>by simp [getI]
 | o :: r,0,0,d=>by simp [getI]
 | o :: r,0,j + 1,d=>by simp [getI]
 | o :: r,i + 1,0,d=>by simp [getI]
 | o :: r,i + 1,j + 1,d=>by simp only [set_cons_succ,getI,sp1 r i j d,length_cons]; simp
theorem RSt.set {K:Fg} {H:Hp} {ρ:St3} {σ:St} {d:D} {v:V} (i:Nat) (r:RelD K H d v) (s:RSt K H ρ σ):RSt K H (ρ.set i (some d)) (σ.set i (some v)):=by
 refine ⟨by simp [s.len],λ j e h=>?_⟩;rw [sp1] at h;split at h
 ·next c =>
  obtain ⟨rfl,c2⟩:=c;cases h;exact ⟨v,by rw [List.getElem?_set_self (by rw [<- s.len]; exact c2)],r⟩
 ·next c =>
  obtain ⟨u,q,r'⟩:=s.at' j e h;have hj:j < σ.length:=(List.getElem?_eq_some_iff.mp q).1;by_cases z:i=j
  ·subst z; exact absurd ⟨rfl,by rw [s.len]; exact hj⟩ c
  simp_all
theorem RSt.start {K:Fg} {H:Hp} {ds:List D} {vs:List V} (N:List Str) (r:RelDs K H ds vs):RSt K H (ua0 N ds) (L2.start N vs):=by
 have hl:=r.length;refine ⟨by simp [ua0,L2.start,hl],λ i d e=>?_⟩;rw [wk1] at e;unfold ua0 at e;unfold L2.start;by_cases c:i < ds.length
 ·rw [getElem?_append_left (by simpa using c),getElem?_map] at e;cases q:ds[i]? with
  | none=>simp_all
  | some d' =>
   rw [q] at e;have e':d'=d:=by simpa using e
   subst e';obtain ⟨v,h1,h2⟩:=r.get q;exact ⟨v,by rw [getElem?_append_left (by simp_all),getElem?_map,h1]; rfl,h2⟩
 ·rw [getElem?_append_right (by simpa using c),List.getElem?_replicate] at e;split at e <;> simp at e
noncomputable abbrev Ks (K:Fg) (H:Hp) (Q3:VK3) (Q:VK):Prop:=∀ d μ' v H',Q3 d μ'->Kp H H'->RelD K H' d v->RelM K μ' H'->Q v H'
theorem Ks.after {H1:Hp} {Q3:VK3} {Q:VK} (k:Ks K H Q3 Q) (e:Kp H H1):Ks K H1 Q3 Q:=λ d μ v H' q e'=>k d μ v H' q (e.trans e')
noncomputable def RdE (K:Fg) (tv:TE) (t:TE3):Prop:=∀ σ H Q ρ μ Q3,RSt K H ρ σ->RelM K μ H->t ρ μ Q3->Ks K H Q3 Q->tv σ H Q
noncomputable def RE (X:Cx) (e:Expr) (t:TE3):Prop:=∃ tv,PE X e tv /\ RdE X.K tv t
noncomputable def RdT (K:Fg) (tv:TT) (t:TT3):Prop:=∀ σ H Q ρ μ Q3,RSt K H ρ σ->RelM K μ H->t ρ μ Q3->(∀ b μ' H',Q3 b μ'->Kp H H'->RelM K μ' H'->Q b H')->tv σ H Q
noncomputable def RT (X:Cx) (e:Expr) (t:TT3):Prop:=∃ tv,PT X e tv /\ RdT X.K tv t
noncomputable def RW (X:Cx) (e:Expr) (t:TT3):Prop:=∃ tv,PW X e tv /\ RdT X.K tv t
noncomputable def RdA (K:Fg) (tv:TA) (t:TA3):Prop:=∀ σ H Q ρ μ Q3,RSt K H ρ σ->RelM K μ H->t ρ μ Q3->(∀ ds μ' vs H',Q3 ds μ'->Kp H H'->RelDs K H' ds vs->RelM K μ' H'->Q vs H')->tv σ H Q
noncomputable def RA (X:Cx) (es:List Expr) (t:TA3):Prop:=∃ tv,PA X es tv /\ RdA X.K tv t
structure KsD (K:Fg) (H:Hp) (D3:Ends3) (D:Ends):Prop where
 nx:∀ ρ μ σ H',D3.nx ρ μ->Kp H H'->RSt K H' ρ σ->RelM K μ H'->D.nx σ H'
 bk:∀ ρ μ σ H',D3.bk ρ μ->Kp H H'->RSt K H' ρ σ->RelM K μ H'->D.bk σ H'
 ct:∀ ρ μ σ H',D3.ct ρ μ->Kp H H'->RSt K H' ρ σ->RelM K μ H'->D.ct σ H'
 rt:Ks K H D3.rt D.rt
theorem KsD.after {K:Fg} {H H1:Hp} {D3:Ends3} {D:Ends} (k:KsD K H D3 D) (e:Kp H H1):KsD K H1 D3 D :=
 ⟨λ ρ μ σ H' q e'=>k.nx ρ μ σ H' q (e.trans e'),λ ρ μ σ H' q e'=>k.bk ρ μ σ H' q (e.trans e'),λ ρ μ σ H' q e'=>k.ct ρ μ σ H' q (e.trans e'),k.rt.after e⟩
noncomputable def RdS (K:Fg) (tv:TS) (t:TS3):Prop:=∀ σ H D ρ μ D3,RSt K H ρ σ->RelM K μ H->t D3 ρ μ->KsD K H D3 D->tv D σ H
noncomputable def RS (X:Cx) (st:Stmt) (t:TS3):Prop:=∃ tv,PS X st tv /\ RdS X.K tv t
noncomputable def RSs (X:Cx) (st:List Stmt) (t:TS3):Prop:=∃ tv,PSs X st tv /\ RdS X.K tv t
noncomputable def RdG (K:Fg) (tv:TG) (t:TG3):Prop:=∀ v d σ H Q ρ μ Q3,RSt K H ρ σ->RelM K μ H->RelD K H d v->t d ρ μ Q3->(∀ ρ' μ' σ' H',Q3 ρ' μ'->Kp H H'->RSt K H' ρ' σ'->RelM K μ' H'->Q σ' H')->tv v σ H Q
noncomputable def RG (X:Cx) (e:Expr) (t:TG3):Prop:=∃ tv,PG X e tv /\ RdG X.K tv t
noncomputable def RdGs (K:Fg) (tv:TGs) (t:TGs3):Prop:=∀ vs ds σ H Q ρ μ Q3,RSt K H ρ σ->RelM K μ H->RelDs K H ds vs->t ds ρ μ Q3->(∀ ρ' μ' σ' H',Q3 ρ' μ'->Kp H H'->RSt K H' ρ' σ'->RelM K μ' H'->Q σ' H')->tv vs σ H Q
noncomputable def RGs (X:Cx) (es:List Expr) (t:TGs3):Prop:=∃ tv,PGs X es tv /\ RdGs X.K tv t
noncomputable def RdO (K:Fg) (r:R2) (r3:R3):Prop:=∀ x y v u H Q μ Q3,RelM K μ H->RelD K H x v->RelD K H y u->r3 x y μ Q3->Ks K H Q3 Q->r v u H Q
noncomputable def RO (X:Cx) (f:Value->Value->Sem Value) (r3:R3):Prop:=∃ r,OpR X f r /\ RdO X.K r r3
noncomputable def RdU (K:Fg) (r:V->Hp->VK->Prop) (r3:D->Mu->VK3->Prop):Prop:=∀ x v H Q μ Q3,RelM K μ H->RelD K H x v->r3 x μ Q3->Ks K H Q3 Q->r v H Q
noncomputable def RU (X:Cx) (f:Value->Sem Value) (r3:D->Mu->VK3->Prop):Prop:=∃ r,UnR X f r /\ RdU X.K r r3
noncomputable def RdC (K:Fg) (r:List V->Hp->VK->Prop) (r3:C3):Prop:=∀ xs vs H Q μ Q3,RelM K μ H->RelDs K H xs vs->r3 xs μ Q3->Ks K H Q3 Q->r vs H Q
noncomputable def RC (X:Cx) (f:Value) (r3:C3):Prop:=∃ r,CallR X f r /\ RdC X.K r r3
noncomputable def RX (X:Cx) (r3:R3):Prop:=∃ r,IxR X r /\ RdO X.K r r3
variable {x:Str} {d:D} {i:Nat} {r3:R3} {va:TE} {g:TG3}
section
variable {X:Cx} {a b c e:Expr} {ta tb tc te:TE3} {pos:Pos}
theorem tr4 (i:Nat) (hN:X.N[i]?=some x:=by rfl) (hv:Vis X.env.scope x:=by first | exact Or.inl rfl | exact Or.inr (Or.inl rfl) | exact Or.inr (Or.inr rfl)) (hd:(x == ("__debug__" : Str))=false:=by decide)
    (hcd:(x == ("__classdict__" : Str))=false:=by decide):RE X (.Name x pos) (v3 i):=by
 refine ⟨_,zc5 hN hv hd hcd,λ σ H Q ρ μ Q3 s m h k=>?_⟩;unfold v3 at h;cases q:getI ρ i with
 | none=>simp_all
 | some d =>
  rw [q] at h;obtain ⟨v,e,r⟩:=s.at' i d q;exact ⟨v,e,k d μ v H h (Kp.refl H) r m⟩
theorem RdE.cst {v:V} (r:∀ H,RelD K H d v):RdE K (tC v) (c3 d):=λ σ H Q ρ μ Q3 s m h k=>k d μ v H h (Kp.refl H) (r H) m
theorem ss4 {i:Int} {j}:RE X (.Constant (.int i) j pos) (c3 (.int i)):=⟨_,zd5,RdE.cst λ _=>.int i⟩
theorem re_bl {i:Bool} {j}:RE X (.Constant (.bool i) j pos) (c3 (.bl i)):=⟨_,pe_bl,RdE.cst λ _=>.bl i⟩
theorem ws4 {j}:RE X (.Constant .none j pos) (c3 .non):=⟨_,tc5,RdE.cst λ _=>.non⟩
theorem ys4 {j}:RE X (.Constant (.str x) j pos) (c3 (.str x)):=⟨_,vc5,RdE.cst λ _=>.str x⟩
noncomputable def Gd (K:Fg) (mg:Str->Option Value) (x:Str) (d:D):Prop:=∃ u v,mg x=some u /\ RelV v u /\ ∀ H,RelD K H d v
theorem re_g (g:Gd X.K X.mg x d) (hg:Gl X x:=by rfl) (hd:(x == ("__debug__" : Str))=false:=by decide):RE X (.Name x pos) (c3 d):=by
 obtain ⟨u,v,hm,r,rd⟩:=g;exact ⟨_,yr3 hg hm r hd,RdE.cst rd⟩
theorem sr4 {T:String} (hm:X.mg x=none) (hv:bootBuiltins x=some (.type T)) (hg:Gl X x:=by rfl) (hn:x ≠ "__name__" := by decide) (hd:(x == ("__debug__" : Str))=false:=by decide):RE X (.Name x pos) (c3 (.ty T)) :=
 ⟨_,ur3 hg hm hv (show RelV (.ty T) (.type T) from rfl) hn hd,RdE.cst λ _=>.ty T⟩
theorem ts1 {op:Operator} (ho:RO X (binaryOp op) r3) (ha:RE X a ta) (hb:RE X b tb):RE X (.BinOp a op b pos) (o3 r3 ta tb):=by
 obtain ⟨r,po,ro⟩:=ho;obtain ⟨va,pa,ra⟩:=ha;obtain ⟨vb,pb,rb⟩:=hb
 exact ⟨_,pe_op po pa pb,λ σ H Q ρ μ Q3 s m h k=>ra σ H _ ρ μ _ s m h λ x μ1 v H1 h1 k1 r1 m1=>rb σ H1 _ ρ μ1 _ (s.mono k1) m1 h1 λ y μ2 u H2 h2 k2 r2 m2 =>
  ro x y v u H2 Q μ2 Q3 m2 (r1.mono k2) r2 h2 (k.after (k1.trans k2))⟩
theorem re_un {op:UnaryOp} {r3:D->Mu->VK3->Prop} (ho:RU X (unaryOp op) r3) (ha:RE X a ta):RE X (.UnaryOp op a pos) (un3 r3 ta):=by
 obtain ⟨r,po,ro⟩:=ho;obtain ⟨va,pa,ra⟩:=ha;exact ⟨_,pe_un po pa,λ σ H Q ρ μ Q3 s m h k=>ra σ H _ ρ μ _ s m h λ x μ1 v H1 h1 k1 r1 m1=>ro x v H1 Q μ1 Q3 m1 r1 h1 (k.after k1)⟩
theorem RdE.op {r:R2} {vb:TE} (ra:RdE K va ta) (rb:RdE K vb tb) (ro:RdO K r r3):RdE K (tOp r va vb) (o3 r3 ta tb):=λ σ H Q ρ μ Q3 s m h k =>
 ra σ H _ ρ μ _ s m h λ x μ1 v H1 h1 k1 r1 m1=>rb σ H1 _ ρ μ1 _ (s.mono k1) m1 h1 λ y μ2 u H2 h2 k2 r2 m2=>ro x y v u H2 Q μ2 Q3 m2 (r1.mono k2) r2 h2 (k.after (k1.trans k2))
theorem RdT.test (ra:RdE K va ta):RdT K (zj3 va) (b3 ta):=λ σ H Q ρ μ Q3 s m h k=>by
 refine ra σ H _ ρ μ _ s m h λ d μ1 v H1 h1 k1 r1 m1=>?_;cases r1 with
 | bl c=>exact ⟨c,rfl,k c μ1 H1 h1 k1 m1⟩
 | _=>exact False.elim h1
theorem sn1 {op:CmpOp} (ho:RO X (compareOp op) r3) (ha:RE X a ta) (hb:RE X b tb) (hm:behindInMarks op b=false:=by first | exact zd3 _ | with_unfolding_all rfl):RE X (.Compare a [op] [b] pos) (o3 r3 ta tb):=by
 obtain ⟨r,po,ro⟩:=ho;obtain ⟨va,pa,ra⟩:=ha;obtain ⟨vb,pb,rb⟩:=hb;exact ⟨_,wr3 po pa pb hm,ra.op rb ro⟩
theorem wn0 {op:CmpOp} (ho:RO X (compareOp op) r3) (ha:RE X a ta) (hb:RE X b tb) (hm:behindInMarks op b=false:=by first | exact zd3 _ | with_unfolding_all rfl):RT X (.Compare a [op] [b] pos) (b3 (o3 r3 ta tb)):=by
 obtain ⟨r,po,ro⟩:=ho;obtain ⟨va,pa,ra⟩:=ha;obtain ⟨vb,pb,rb⟩:=hb;exact ⟨_,tp3 po pa pb hm,RdT.test (ra.op rb ro)⟩
theorem wq4 (ha:RE X a ta) (he:∀ whole,isTrue a X.env whole=(do let v <- whole; standAt a.pos; holding [v] (truthy v)):=by intro _; rfl):RT X a (b3 ta):=by
 obtain ⟨va,pa,ra⟩:=ha;exact ⟨_,wa5 pa he,RdT.test ra⟩
variable {tA tB':TT3} {rest:List Expr}
theorem RW.pt (h:RW X a tA):RT X a tA:=let ⟨t,p,r⟩:=h; ⟨t,p.pt,r⟩
theorem rw_pt (h:RW X a tA):RT X a tA:=h.pt
theorem vm3 (h:RT X a tA):RW X (.BoolOp .And [a] pos) tA:=let ⟨t,p,r⟩:=h; ⟨t,wp3 p,r⟩
theorem sp4 (h:RT X a tA):RW X (.BoolOp .Or [a] pos) tA:=let ⟨t,p,r⟩:=h; ⟨t,ya5 p,r⟩
theorem xq4 (ha:RT X a tA) (hb:RW X (.BoolOp .And (b :: rest) pos) tB'):RW X (.BoolOp .And (a :: b :: rest) pos) (and3 tA tB'):=by
 obtain ⟨va,pa,ra⟩:=ha;obtain ⟨vb,pb,rb⟩:=hb;refine ⟨_,za5 pa pb,λ σ H Q ρ μ Q3 s m h k=>ra σ H _ ρ μ _ s m h λ c μ1 H1 h1 k1 m1=>?_⟩;cases c with
 | true=>exact rb σ H1 Q ρ μ1 Q3 (s.mono k1) m1 h1 λ b μ' H' q e=>k b μ' H' q (k1.trans e)
 | false=>exact k _ _ _ h1 k1 m1
theorem rw_or (ha:RT X a tA) (hb:RW X (.BoolOp .Or (b :: rest) pos) tB'):RW X (.BoolOp .Or (a :: b :: rest) pos) (or3 tA tB'):=by
 obtain ⟨va,pa,ra⟩:=ha;obtain ⟨vb,pb,rb⟩:=hb;refine ⟨_,pw_or pa pb,λ σ H Q ρ μ Q3 s m h k=>ra σ H _ ρ μ _ s m h λ c μ1 H1 h1 k1 m1=>?_⟩;cases c with
 | true=>exact k _ _ _ h1 k1 m1
 | false=>exact rb σ H1 Q ρ μ1 Q3 (s.mono k1) m1 h1 λ b μ' H' q e=>k b μ' H' q (k1.trans e)
theorem vq4 (ha:RT X a tA):RT X (.UnaryOp .Not a pos) (not3 tA):=by
 obtain ⟨va,pa,ra⟩:=ha;exact ⟨_,va5 pa,λ σ H Q ρ μ Q3 s m h k=>ra σ H _ ρ μ _ s m h λ c μ1 H1 h1 k1 m1=>k _ _ _ h1 k1 m1⟩
theorem zs4 {op} (h:RE X a ta):RE X (.BoolOp op [a] pos) ta:=let ⟨t,p,r⟩:=h; ⟨t,uc5 p,r⟩
theorem yt4 (ha:RE X a ta) (hb:RE X (.BoolOp .And (b :: rest) pos) tb):RE X (.BoolOp .And (a :: b :: rest) pos) (tc1 ta tb):=by
 obtain ⟨va,pa,ra⟩:=ha;obtain ⟨vb,pb,rb⟩:=hb;refine ⟨_,wd5 pa pb,λ σ H Q ρ μ Q3 s m h k=>ra σ H _ ρ μ _ s m h λ d μ1 v H1 h1 k1 r1 m1=>?_⟩;cases r1 with
 | bl c =>
  refine ⟨c,rfl,?_⟩;cases c with
  | true=>exact rb σ H1 Q ρ μ1 Q3 (s.mono k1) m1 h1 (k.after k1)
  | false=>exact k _ _ _ _ h1 k1 (.bl _) m1
 | _=>exact False.elim h1
theorem re_or (ha:RE X a ta) (hb:RE X (.BoolOp .Or (b :: rest) pos) tb):RE X (.BoolOp .Or (a :: b :: rest) pos) (orV3 ta tb):=by
 obtain ⟨va,pa,ra⟩:=ha;obtain ⟨vb,pb,rb⟩:=hb;refine ⟨_,pe_or pa pb,λ σ H Q ρ μ Q3 s m h k=>ra σ H _ ρ μ _ s m h λ d μ1 v H1 h1 k1 r1 m1=>?_⟩;cases r1 with
 | bl c =>
  refine ⟨c,rfl,?_⟩;cases c with
  | true=>exact k _ _ _ _ h1 k1 (.bl _) m1
  | false=>exact rb σ H1 Q ρ μ1 Q3 (s.mono k1) m1 h1 (k.after k1)
 | _=>exact False.elim h1
theorem re_if (hc:RT X c tA) (ha:RE X a ta) (hb:RE X b tb):RE X (.IfExp c a b pos) (if3 tA ta tb):=by
 obtain ⟨vc,pc,rc⟩:=hc;obtain ⟨va,pa,ra⟩:=ha;obtain ⟨vb,pb,rb⟩:=hb;refine ⟨_,ts2 pc pa pb,λ σ H Q ρ μ Q3 s m h k=>rc σ H _ ρ μ _ s m h λ c μ1 H1 h1 k1 m1=>?_⟩;cases c with
 | true=>exact ra σ H1 Q ρ μ1 Q3 (s.mono k1) m1 h1 (k.after k1)
 | false=>exact rb σ H1 Q ρ μ1 Q3 (s.mono k1) m1 h1 (k.after k1)
variable {es:List Expr} {t:TA3}
theorem yf1:RA X [] nil3:=⟨_,td5,λ σ H Q ρ μ Q3 s m h k=>k [] μ [] H h (Kp.refl H) .nil m⟩
theorem zp0 (ha:RE X e te) (hr:RA X es t) (hs:starEach (e :: es) X.env=(false,eval e X.env) :: starEach es X.env:=by rfl):RA X (e :: es) (xa0 te t):=by
 obtain ⟨va,pa,ra⟩:=ha;obtain ⟨vb,pb,rb⟩:=hr
 exact ⟨_,xs3 pa pb hs,λ σ H Q ρ μ Q3 s m h k=>ra σ H _ ρ μ _ s m h λ d μ1 v H1 h1 k1 r1 m1=>rb σ H1 _ ρ μ1 _ (s.mono k1) m1 h1 λ ds μ2 vs H2 h2 k2 r2 m2 =>
  k _ _ _ _ h2 (k1.trans k2) (.cons (r1.mono k2) r2) m2⟩
theorem xs4 {x1} (h:RA X es t):RE X (.Tuple es x1 pos) (tup3 t):=by
 obtain ⟨va,pa,ra⟩:=h;refine ⟨_,wc5 pa,λ σ H Q ρ μ Q3 s m h k=>ra σ H _ ρ μ _ s m h λ ds μ1 vs H1 h1 k1 r1 m1=>⟨by rw [<- r1.length]; exact h1.1,λ p hp=>?_⟩⟩;exact k _ _ _ _ h1.2 (k1.trans (Kp.new hp)) (.tup xg0 (r1.mono (Kp.new hp))) (m1.newT hp)
theorem ts4 (h:RA X es t):RE X (.List es pos) (lst3 t):=by
 obtain ⟨va,pa,ra⟩:=h;refine ⟨_,yd5 pa,λ σ H Q ρ μ Q3 s m h k=>ra σ H _ ρ μ _ s m h λ ds μ1 vs H1 h1 k1 r1 m1=>⟨by rw [<- r1.length]; exact h1.1,λ p hp=>?_⟩⟩;exact k _ _ _ _ (h1.2 p (m1.free hp)) (k1.trans (Kp.new hp)) (.ref p) (m1.newL hp r1)
variable {st:Stmt} {sts:List Stmt} {t3 u3:TS3}
theorem yn3:RSs X [] sa0:=⟨_,xq3,λ σ H D ρ μ D3 s m h k=>k.nx ρ μ σ H h (Kp.refl H) s m⟩
theorem xn3 (h:RS X st t3):RSs X [st] t3:=let ⟨t,p,r⟩:=h; ⟨t,sp3 p,r⟩
theorem wq2 (h1:RS X st t3) (h2:RSs X sts u3):RSs X (st :: sts) (seq3 t3 u3):=by
 obtain ⟨va,pa,ra⟩:=h1;obtain ⟨vb,pb,rb⟩:=h2;refine ⟨_,tr2 pa pb,λ σ H D ρ μ D3 s m h k=>ra σ H _ ρ μ _ s m h ⟨λ ρ1 μ1 σ1 H1 h1 k1 s1 m1=>rb σ1 H1 D ρ1 μ1 D3 s1 m1 h1 (k.after k1),k.bk,k.ct,k.rt⟩⟩
theorem vq2:RS X st sc0:=⟨_,sr2,λ σ H D ρ μ D3 s m h k=>h⟩
theorem zn3 (he:RE X e te) (hs:swapsWith e none pos.line X.env=pure false:=by rfl):RS X (.Expr e pos) (vd0 te):=by
 obtain ⟨va,pa,ra⟩:=he;exact ⟨_,zq3 pa hs,λ σ H D ρ μ D3 s m h k=>ra σ H _ ρ μ _ s m h λ d μ1 v H1 h1 k1 r1 m1=>k.nx ρ μ1 σ H1 h1 k1 (s.mono k1) m1⟩
theorem sq4 (he:RE X e te):RS X (.Return (some e) pos) (ret3 te):=by
 obtain ⟨va,pa,ra⟩:=he;exact ⟨_,sa5 pa,λ σ H D ρ μ D3 s m h k=>ra σ H _ ρ μ _ s m h k.rt⟩
theorem rs_if {as bs:List Stmt} (hc:RT X c tA) (ha:RSs X as t3) (hb:RSs X bs u3):RS X (.If c as bs pos) (ifs3 tA t3 u3):=by
 obtain ⟨vc,pc,rc⟩:=hc;obtain ⟨va,pa,ra⟩:=ha;obtain ⟨vb,pb,rb⟩:=hb;refine ⟨_,ps_if pc pa pb,λ σ H D ρ μ D3 s m h k=>rc σ H _ ρ μ _ s m h λ c μ1 H1 h1 k1 m1=>?_⟩;cases c with
 | true=>exact ra σ H1 D ρ μ1 D3 (s.mono k1) m1 h1 (k.after k1)
 | false=>exact rb σ H1 D ρ μ1 D3 (s.mono k1) m1 h1 (k.after k1)
theorem sn3 (hN:X.N.Nodup) (hi:X.N[i]?=some x:=by rfl) (hx:Loc X.env.scope x:=by first | exact Or.inl rfl | exact Or.inr rfl) (hf:X.fn x=true \/ X.env.scope.names.lookup x=some .local:=by first | exact .inl rfl | exact .inr rfl) :
    RG X (.Name x pos) (gn3 i):=⟨_,tq3 hN hi hx hf,λ v d σ H Q ρ μ Q3 s m r h k=>k _ _ _ _ h (Kp.refl H) (s.set i r) m⟩
theorem tn3:RGs X [] ut1:=⟨_,uq3,λ vs ds σ H Q ρ μ Q3 s m r h k=>by
 cases r with
 | nil=>exact ⟨rfl,k _ _ _ _ h (Kp.refl H) s m⟩
 | cons _ _=>exact False.elim h⟩
theorem xr2 {gs:TGs3} (h1:RG X e g) (h2:RGs X es gs) (hs:(assignEach (e :: es) X.env).map (·.2)=assign e X.env :: (assignEach es X.env).map (·.2):=by rfl):RGs X (e :: es) (xo0 g gs):=by
 obtain ⟨va,pa,ra⟩:=h1;obtain ⟨vb,pb,rb⟩:=h2;refine ⟨_,ws2 pa pb hs,λ vs ds σ H Q ρ μ Q3 s m r h k=>?_⟩;cases r with
 | nil=>exact False.elim h
 | cons r1 r2=>exact ⟨_,_,rfl,ra _ _ σ H _ ρ μ _ s m r1 h λ ρ1 μ1 σ1 H1 h1 k1 s1 m1=>rb _ _ σ1 H1 Q ρ1 μ1 Q3 s1 m1 (r2.mono k1) h1 λ ρ' μ' σ' H' q e=>k ρ' μ' σ' H' q (k1.trans e)⟩
theorem wr4 {kk:Nat} {gs:TGs3} {n:Nat} (hc:X.calm=true) (h:RGs X es gs) (hn:(assignEach es X.env).length=n:=by rfl) (hst:(assignEach es X.env).findIdx? (·.1)=none:=by rfl):RG X (.Tuple es kk pos) (tv2 n gs):=by
 obtain ⟨va,pa,ra⟩:=h;refine ⟨_,sb5 hc pa hn hst,λ v d σ H Q ρ μ Q3 s m r h k=>?_⟩;cases r with
 | tup hq rs =>
  obtain ⟨hl,h⟩:=h;exact ⟨_,_,rfl,(SqT.of hq),by rw [<- rs.length]; exact hl,ra _ _ σ H Q ρ μ Q3 s m rs h k⟩
 | _=>exact False.elim h
theorem tq4 {pos':Pos} (hN:X.N.Nodup) (he:RE X e te) (hi:X.N[i]?=some x:=by rfl) (hx:Loc X.env.scope x:=by first | exact Or.inl rfl | exact Or.inr rfl) (hs:swapsWith e (some (.Name x pos')) pos.line X.env=pure false:=by rfl)
    (hf:X.fn x=true \/ X.env.scope.names.lookup x=some .local:=by first | exact .inl rfl | exact .inr rfl):RS X (.Assign [.Name x pos'] e pos) (set3 i te):=by
 obtain ⟨va,pa,ra⟩:=he;exact ⟨_,xy1 hN hi hx pa hs hf,λ σ H D ρ μ D3 s m h k=>ra σ H _ ρ μ _ s m h λ d μ1 v H1 h1 k1 r1 m1=>k.nx _ _ _ _ h1 k1 ((s.mono k1).set i r1) m1⟩
theorem yr4 {tg:Expr} (he:RE X e te) (hg:RG X tg g) (hs:swapsWithSole [tg] e pos.line X.env=pure false:=by rfl) (hw:swappedStores [tg] e X.env=pure none:=by rfl)
    (h1:(assignEach [tg] X.env).map (·.2)=[assign tg X.env]:=by rfl):RS X (.Assign [tg] e pos) (asg3 te g):=by
 obtain ⟨va,pa,ra⟩:=he;obtain ⟨vg,pg,rg⟩:=hg;exact ⟨_,yb5 pa pg hs hw h1,λ σ H D ρ μ D3 s m h k=>ra σ H _ ρ μ _ s m h λ d μ1 v H1 h1 k1 r1 m1=>rg v d σ H1 _ ρ μ1 _ (s.mono k1) m1 r1 h1 λ ρ' μ' σ' H' q e=>k.nx ρ' μ' σ' H' q (k1.trans e)⟩
theorem zi5 (n:Nat) (i:Int):L2.ixN n i=ixN n i:=rfl
theorem vr4 {o i:Expr} {to ti:TE3} (ho:RE X o to) (hi:RE X i ti)
    (ha:∀ v,assign (.Subscript o i pos) X.env v=(do
     let ov <- holding [v] (eval o X.env)
     let iv <- holding [v,ov] (eval i X.env)
     standAt pos
     holding [v,ov,iv] (setItem ov iv v)
     release [v,ov,iv] []):=by intro _; rfl):RG X (.Subscript o i pos) (sub3 to ti):=by
 obtain ⟨va,pa,ra⟩:=ho;obtain ⟨vb,pb,rb⟩:=hi;refine ⟨_,xc5 pa pb tz0 ha,λ v d σ H Q ρ μ Q3 s m r h k=>ra σ H _ ρ μ _ s m h λ o' μ1 ov H1 h1 k1 r1 m1=>rb σ H1 _ ρ μ1 _ (s.mono k1) m1 h1 λ i' μ2 iv H2 h2 k2 r2 m2=>?_⟩;cases r1 with
 | ref p =>
  cases r2 with
  | int kk =>
   dsimp only at h2;cases e:μ2 p with
   | none=>simp_all
   | some oo =>
    cases oo with
    | ins _ _=>simp_all
    | dct _=>simp_all
    | dcl _=>simp_all
    | lst xs =>
     rw [e] at h2;dsimp only at h2;cases e2:ixN xs.length kk with
     | none=>simp_all
     | some j =>
      rw [e2] at h2;obtain ⟨vs,hv,rv⟩:=m2 p xs e;have kk':=k1.trans k2;refine ⟨p,vs,kk,j,rfl,rfl,hv,by rw [<- rv.length]; exact e2,k _ _ _ _ h2 (kk'.trans (Kp.wr hv)) (s.mono (kk'.trans (Kp.wr hv))) (m2.wr hv (rv.set (r.mono kk') j))⟩
  | _=>exact False.elim h2
 | _=>trivial
end
end Pv
namespace Pv
open PySem PySem.Spec PyProof.Rows L2
noncomputable def ItOk (K:Fg) (J:It) (l:List D) (S:Mu->Prop) (H0:Hp):Prop:=∀ i H μ,Kp H0 H->RelM K μ H->S μ ->
 (∀ d,l[i]?=some d->J.go i H /\ ∀ x H2,J.yld i H x H2->Kp H H2 /\ RelM K μ H2 /\ RelD K H2 d x) /\ (l.length<=i->J.stop i H)
noncomputable def RdI (K:Fg) (wi:TI) (ti:TI3):Prop:=∀ σ H R ρ μ R3,RSt K H ρ σ->RelM K μ H->ti ρ μ R3->(∀ l S μ' J H',R3 l S μ'->Kp H H'->RelM K μ' H'->ItOk K J l S H'->R J H')->wi σ H R
noncomputable def RI (X:Cx) (tg iter:Expr) (ti:TI3):Prop:=∃ wi,PI X tg iter wi /\ RdI X.K wi ti
variable {X:Cx} {iter c e:Expr} {te:TE3} {P:Program} {w:World} {K:Fg} {H0:Hp} {vs:List V} {p:Pos} {ti:TI3} {es:List Expr} {t:TA3} {x:Str} {k:Nat} {ps:List Str} {sp:Sp3} {r:C3} {T:String}
section
variable {tg a b:Expr} {ta tb:TE3} {pos:Pos}
noncomputable def Its (z:Str):It:=⟨λ i _=>i < z.cps.size,λ i H x H'=>H'=H /\ ∃ c,z.cps[i]?=some c /\ x=.str ⟨#[c]⟩,λ i _=>z.cps.size<=i⟩
theorem wl1 {tg:Expr} (T:String) (x:Str) (t:Tok) (it:Addr)
    (hT:["enumerate", "zip", "dict_itemiterator", "dict_reverseitemiterator", "odict_iterator", "itertools.zip_longest", "itertools.pairwise"].contains T=false)
    (W:∀ A:Around,A.handled=none->Walks P w A it [it] [it] x.cps.size (SignAt x) (λ i h=>h.IsStrIter it T x t i))
    (sf:∀ (A:Around) (i:Nat) (s:Shared) (Q:[8]) (E:[8]),s.heap.IsStrIter it T x t i->Q (.ref it) s->wpAny (model P w) A (pyIter (.ref it)) Q E s) :
    Turn P w K tg (Its x) [it] it (λ i h=>h.IsStrIter it T x t i /\ i<=x.cps.size) where
 mem:=by simp
 obj:=λ i h st b hb=>by
  have e:b=it:=by simpa using hb
  subst e;obtain ⟨⟨o,e,c,d⟩,_⟩:=st
  simp_all
 keep:=λ i h h' st k=>by
  obtain ⟨⟨o,e,c,d⟩,l⟩:=st;exact ⟨⟨o,k it (by simp) o e,c,d⟩,l⟩
 item:=by
  intro X hP hw hK hc i pins s σ H E I hf st hg;subst hP hw hK;obtain ⟨f0,f1,f2,f3,f4,f5⟩:=hf it (by simp);refine (W X.A (I.ok.hd hc)).item i s _ E hg st.1 λ v h' tk hP hst' hk=>?_;obtain ⟨c,u,ec,rfl⟩:=hP;have I1:Inv X pins σ H { s with heap:=h',toks:=tk }:=I.turned (t':=tk) (λ b o hb e=>hk b o (by simpa using hb) e) f0 f1 f3 f4 f5;obtain ⟨o,e,c1,d⟩:=id hst';exact ⟨_,rfl,sv2 (s:={ s with heap:=h',toks:=tk }) e c1 d hT ⟨.str ⟨#[c]⟩,H,I1,⟨u,rfl⟩,⟨rfl,c,ec,rfl⟩,⟨hst',hg⟩,λ b hb=>(hf b hb).1⟩⟩
 done:=by
  intro X hP hw hK hc i pins s σ H E I hf st hg;subst hP hw hK;have hg':x.cps.size<=i:=hg;obtain ⟨f0,f1,f2,f3,f4,f5⟩:=hf it (by simp);have e1:i=x.cps.size:=Nat.le_antisymm st.2 hg';subst e1;exact (W X.A (I.ok.hd hc)).done s _ E st.1 λ h' tk hk=>⟨rfl,I.turned (t':=tk) (λ b o hb e=>hk b o (by simpa using hb) e) f0 f1 f3 f4 f5⟩
 self:=λ A i s Q E st h=>sf A i s Q E st.1 h
noncomputable def iSeq (K:Fg) (tl:TE):TI:=λ σ H R=>tl σ H λ x H1=>(∃ z,x=.str z /\ R (Its z) H1) \/ ∃ a,x=.ref a /\ (((∃ xs,SqL K H1 a xs) /\ R (Itl K a) H1) \/ ((∃ xs,SqT K H1 a xs) /\ R (Itt K a) H1))
theorem tb5 {l:Expr} {tl:TE} (hl:PE X l tl):PI X tg l (iSeq X.K tl):=by
 intro pins s σ H R I h;refine thn (hl pins s σ H _ I h) λ v s1 ⟨x,H1,I1,r1,q1⟩=>?_
 have fp:∀ b ∈ [s1.heap.objs.size],FpOk X pins H1 b:=λ b hb=>by
  have e:b=s1.heap.objs.size:=by simpa using hb
  subst e;exact I1.fpOk (Nat.le_refl _) (I1.hok.fresh (Nat.le_refl _))
 rcases q1 with ⟨z,e,q⟩ | ⟨a,e,q⟩
 ·subst e;obtain ⟨t,rfl⟩:=r1;cases ha:z.cps.all (· < 128)
  ·refine wpAny_pyIter_wide ha ?_;exact ⟨s1.heap.objs.size,[s1.heap.objs.size],_,_,H1,rfl,I1.kept (t':=s1.toks) λ b o e=>Heap.get?_push_of_some _ e,wl1 "str_iterator" z t _ (by decide) (λ A hA=>Walks.strWide hA _ z t) (λ _ _ _ _ _ st h=>wpAny_pyIter_striter_wide st h),⟨⟨_,Heap.get?_push_size _ rfl,rfl,rfl⟩,Nat.zero_le _⟩,fp,q⟩
  ·refine wpAny_pyIter_ascii ha ?_;exact ⟨s1.heap.objs.size,[s1.heap.objs.size],_,_,H1,rfl,I1.kept (t':=s1.toks) λ b o e=>Heap.get?_push_of_some _ e,wl1 "str_ascii_iterator" z t _ (by decide) (λ A hA=>Walks.strAscii hA _ z t) (λ _ _ _ _ _ st h=>wpAny_pyIter_striter_ascii st h),⟨⟨_,Heap.get?_push_size _ rfl,rfl,rfl⟩,Nat.zero_le _⟩,fp,q⟩
 subst e;cases r1;rcases q with ⟨⟨xs,hq⟩,q⟩ | ⟨⟨xs,hq⟩,q⟩
 ·obtain ⟨its,rv,p,hz⟩:=I1.list hq;refine wpAny_pyIter_list p.isList ?_;exact ⟨s1.heap.objs.size,[s1.heap.objs.size],_,_,H1,rfl,I1.kept (t':=s1.toks) λ b o e=>Heap.get?_push_of_some _ e,tu1 a _,⟨_,Heap.get?_push_size _ rfl,rfl,rfl⟩,fp,q⟩
 ·obtain ⟨its,rv,p,hz⟩:=I1.tuple hq;refine wpAny_pyIter_tuple (show s1.heap.IsTuple a its.toArray from p) ?_;exact ⟨s1.heap.objs.size,[s1.heap.objs.size],_,_,H1,rfl,I1.kept (t':=s1.toks) λ b o e=>Heap.get?_push_of_some _ e,zs1 a _,⟨_,Heap.get?_push_size _ rfl,rfl,rfl⟩,fp,q⟩
theorem uu2 {a:Addr} {l:List D} (h:SqT K H0 a vs) (r:RelDs K H0 l vs):ItOk K (Itt K a) l (λ _=>True) H0:=λ i H μ k m _=>by
 refine ⟨λ d e=>?_,λ hl=>⟨vs,SqT.mono k h,by rw [<- r.length]; exact hl⟩⟩;obtain ⟨v,e1,r1⟩:=r.get e;refine ⟨⟨vs,v,SqT.mono k h,e1⟩,λ x H2 y=>?_⟩;obtain ⟨rfl,y⟩:=y;have e2:=y vs (SqT.mono k h);rw [e1] at e2; cases e2;exact ⟨Kp.refl _,m,r1.mono k⟩
theorem xv2 {a:Addr} {l:List D} (h:SqF K H0 a vs) (r:RelDs K H0 l vs):ItOk K (Itl K a) l (λ _=>True) H0:=λ i H μ k m _=>by
 refine ⟨λ d e=>?_,λ hl=>⟨vs,(SqF.mono k h).l,by rw [<- r.length]; exact hl⟩⟩;obtain ⟨v,e1,r1⟩:=r.get e;refine ⟨⟨vs,v,(SqF.mono k h).l,e1⟩,λ x H2 y=>?_⟩;obtain ⟨rfl,y⟩:=y;have e2:=y vs (SqF.mono k h).l;rw [e1] at e2; cases e2;exact ⟨Kp.refl _,m,r1.mono k⟩
theorem su2 {a:Addr} {l:List D}:ItOk K (Itl K a) l (λ μ=>μ a=some (.lst l)) H0:=λ i H μ k m s=>by
 obtain ⟨vs,h,r⟩:=m a l s;refine ⟨λ d e=>?_,λ hl=>⟨vs,SqL.of h,by rw [<- r.length]; exact hl⟩⟩;obtain ⟨v,e1,r1⟩:=r.get e;refine ⟨⟨vs,v,SqL.of h,e1⟩,λ x H2 y=>?_⟩;obtain ⟨rfl,y⟩:=y;have e2:=y vs (SqL.of h);rw [e1] at e2; cases e2;exact ⟨Kp.refl _,m,r1⟩
theorem tu2 (z:Str):ItOk K (Its z) (z.cps.toList.map λ c=>D.str ⟨#[c]⟩) (λ _=>True) H0:=λ i H μ k m _=>by
 refine ⟨λ d e=>?_,λ hl=>by show z.cps.size<=i; simpa using hl⟩;rw [getElem?_map,getElem?_toList] at e;cases ec:z.cps[i]? with
 | none=>simp_all
 | some c =>
  rw [ec] at e;cases e;refine ⟨?_,λ x H2 y=>?_⟩
  ·show i < z.cps.size;rcases Nat.lt_or_ge i z.cps.size with h | h
   ·exact h
   simp_all
  ·obtain ⟨rfl,c',ec',rfl⟩:=y;rw [ec] at ec'; cases ec';exact ⟨Kp.refl _,m,.str _⟩
theorem zr4 (ha:RE X a ta):RI X tg a (is3 ta):=by
 obtain ⟨va,pa,ra⟩:=ha;refine ⟨_,tb5 pa,λ σ H R ρ μ R3 s m h k=>ra σ H _ ρ μ _ s m h λ d μ1 v H1 h1 k1 r1 m1=>?_⟩;cases r1 with
 | str z=>exact .inl ⟨z,rfl,k _ _ _ _ _ h1 k1 m1 (tu2 z)⟩
 | tup hq rs=>exact .inr ⟨_,rfl,.inr ⟨⟨_,(SqT.of hq)⟩,k _ _ _ _ _ h1 k1 m1 (uu2 (SqT.of hq) rs)⟩⟩
 | fls hq rs=>exact .inr ⟨_,rfl,.inl ⟨⟨_,hq.l⟩,k _ _ _ _ _ h1 k1 m1 (xv2 hq rs)⟩⟩
 | ref p =>
  dsimp only at h1;cases e:μ1 p with
  | none=>simp_all
  | some oo =>
   cases oo with
   | ins _ _=>simp_all
   | dct _=>simp_all
   | dcl _=>simp_all
   | lst xs =>
    rw [e] at h1;obtain ⟨vs,hv,rv⟩:=m1 p xs e;exact .inr ⟨_,rfl,.inl ⟨⟨_,SqL.of hv⟩,k _ _ _ _ _ h1 k1 m1 su2⟩⟩
 | _=>exact False.elim h1
theorem uq2 (lo:Int) (n i:Nat):(rngD lo n)[i]?=if i < n then some (.int (lo + i)) else none:=by
 unfold rngD;rw [getElem?_map];by_cases h:i < n
 ·simp_all
 simp_all
theorem wh0 (lo:Int) (n:Nat):(rngD lo n).length=n:=by simp [rngD]
theorem zp1 (lo:Int) (n:Nat):ItOk K (Itr lo n) (rngD lo n) (λ _=>True) H0:=λ i H μ k m _=>by
 refine ⟨λ d e=>?_,λ hl=>by rw [wh0] at hl; exact hl⟩;rw [uq2] at e;split at e
 ·next h =>
  cases e;refine ⟨h,λ x H2 y=>?_⟩;obtain ⟨rfl,rfl⟩:=y;exact ⟨Kp.refl _,m,.int _⟩
 ·cases e
theorem zx1 (hm:X.mg "range" = none) (ha:RE X a ta) (hg:Gl X "range" := by rfl) (hs:starEach [a] X.env=[(false,eval a X.env)]:=by rfl):RI X tg (.Call (.Name "range" p) [a] [] pos) (ir3 (xa0 ta nil3)):=by
 obtain ⟨va,pa,ra⟩:=zp0 ha yf1 hs;refine ⟨_,sy1 hg hm pa hs,λ σ H R ρ μ R3 s m h k=>ra σ H _ ρ μ _ s m h λ ds μ1 vs H1 h1 k1 r1 m1=>?_⟩;cases r1 with
 | nil=>exact False.elim h1
 | cons r1 r2 =>
  cases r2 with
  | cons _ _=>simp_all
  | nil =>
   cases r1 with
   | int j=>exact ⟨j,rfl,h1.1.1,h1.1.2,k _ _ _ _ _ h1.2 k1 m1 (zp1 _ _)⟩
   | _=>exact False.elim h1
theorem yx1 (hm:X.mg "range" = none) (ha:RE X a ta) (hb:RE X b tb) (hg:Gl X "range" := by rfl) (hs:starEach [a,b] X.env=[(false,eval a X.env),(false,eval b X.env)]:=by rfl) (hs2:starEach [b] X.env=[(false,eval b X.env)]:=by rfl) :
    RI X tg (.Call (.Name "range" p) [a,b] [] pos) (ir23 (xa0 ta (xa0 tb nil3))):=by
 obtain ⟨va,pa,ra⟩:=zp0 ha (zp0 hb yf1 hs2) (by rw [hs,hs2]);refine ⟨_,ty1 hg hm pa hs hs2,λ σ H R ρ μ R3 s m h k=>ra σ H _ ρ μ _ s m h λ ds μ1 vs H1 h1 k1 r1 m1=>?_⟩;split at h1
 ·next i j =>
  cases r1 with
  | cons r1 r2 =>
   cases r2 with
   | cons r2 r3 =>
    cases r3;cases r1;cases r2;exact ⟨i,j,rfl,h1.1,k _ _ _ _ _ h1.2 k1 m1 (zp1 _ _)⟩
 ·exact h1.elim
theorem xr4 {body:List Stmt} {g:TG3} {tb:TS3} (hp:PassesOwn (model X.prog X.w) X.A X.env X.xe) (hc:X.calm=true) (hi:RI X tg iter ti) (hg:RG X tg g) (hb:RSs X body tb)
    (hs:∀ x,foldedSetIterable iter X.env x=pure x:=by intro _; rfl):RS X (.For tg iter body [] pos) (for3 ti g tb):=by
 obtain ⟨wi,pi,ri⟩:=hi;obtain ⟨vg,pg,rg⟩:=hg;obtain ⟨vb,pb,rb⟩:=hb;refine ⟨_,xb5 hp hc pi pg pb hs,λ σ H D ρ μ D3 s m h k=>ri σ H _ ρ μ _ s m h λ l S μ1 J H1 h1 k1 m1 ok=>?_⟩;refine ⟨λ i n σ2 H2=>n=l.length - i /\ i<=l.length /\ ∃ ρ2 μ2,RSt X.K H2 ρ2 σ2 /\ RelM X.K μ2 H2 /\ Kp H1 H2 /\ vk1 S g tb D3 (l.drop i) ρ2 μ2,⟨l.length,rfl,Nat.zero_le _,ρ,μ1,s.mono k1,m1,Kp.refl _,h1⟩,?_⟩;rintro i n σ2 H2 ⟨rfl,hi,ρ2,μ2,s2,m2,k2,h2⟩;by_cases hlt:i < l.length
 ·rw [List.drop_eq_getElem_cons hlt] at h2;obtain ⟨hS,N,hN,h2⟩:=h2;obtain ⟨ok1,_⟩:=ok i H2 μ2 k2 m2 hS;obtain ⟨go,yl⟩:=ok1 l[i] (getElem?_eq_getElem hlt);refine .inr ⟨go,λ σ3 H3=>∃ ρ3 μ3,N ρ3 μ3 /\ RSt X.K H3 ρ3 σ3 /\ RelM X.K μ3 H3 /\ Kp H1 H3,λ σ3 H3 ⟨ρ3,μ3,hn,s3,m3,k3⟩=>⟨l.length - (i + 1),by omega,rfl,hlt,ρ3,μ3,s3,m3,k3,hN _ _ hn⟩,λ x H3 y=>?_⟩;obtain ⟨k3,m3,r3⟩:=yl x H3 y;refine rg x l[i] σ2 H3 _ ρ2 μ2 _ (s2.mono k3) m3 r3 h2 λ ρ4 μ4 σ4 H4 h4 k4 s4 m4=>?_;have k14:Kp H1 H4:=k2.trans (k3.trans k4)
  exact rb σ4 H4 _ ρ4 μ4 _ s4 m4 h4 ⟨λ ρ5 μ5 σ5 H5 h5 k5 s5 m5=>⟨ρ5,μ5,h5,s5,m5,k14.trans k5⟩,λ ρ5 μ5 σ5 H5 h5 k5 s5 m5=>k.nx _ _ _ _ h5 (k1.trans (k14.trans k5)) s5 m5,
   λ ρ5 μ5 σ5 H5 h5 k5 s5 m5=>⟨ρ5,μ5,h5,s5,m5,k14.trans k5⟩,λ d μ5 v H5 h5 k5 r5 m5=>k.rt _ _ _ _ h5 (k1.trans (k14.trans k5)) r5 m5⟩
 ·have e:i=l.length:=by omega
  subst e;rw [List.drop_length] at h2;obtain ⟨hS,h2⟩:=h2;exact .inl ⟨(ok _ H2 μ2 k2 m2 hS).2 (Nat.le_refl _),k.nx _ _ _ _ h2 (k1.trans k2) s2 m2⟩
noncomputable def lift (K:Fg) (sp:Sp3):Sp:=λ vs H Q _=>∃ ds μ Q3,RelDs K H ds vs /\ RelM K μ H /\ sp ds μ Q3 /\ Ks K H Q3 Q
noncomputable def Cal (P:Program) (w:World) (K:Fg) (mg:Str->Option Value) (base:Heap) (k:Nat) (x:Str) (ps:List Str) (sp:Sp3):Prop :=
 ∃ f fd,FnOk P w K mg base CX0 k f fd ps (lift K sp) /\ mg x=some (.ref f) /\ keepIn K (.ref f)=true /\ Binds K fd ps []
theorem Cal.mono {P:Program} {w:World} {K:Fg} {mg:Str->Option Value} {base:Heap} {j k:Nat} {x:Str} {ps:List Str} {sp:Sp3} (c:Cal P w K mg base j x ps sp) (h:j<=k):Cal P w K mg base k x ps sp:=by
 obtain ⟨f,fd,F,r⟩:=c;exact ⟨f,fd,F.mono h,r⟩
theorem wo3 (c:Cal X.prog X.w X.K X.mg X.base k x ps sp) (hr:Room k X.A) (ha:RA X (e :: es) t) (hg:Gl X x:=by rfl) (hdb:(x == ("__debug__" : Str))=false:=by decide)
    (he:starEach (e :: es) X.env=(false,eval e X.env) :: starEach es X.env:=by rfl) (hpl:(backTo pos (starEach es X.env)).any (·.1)=false:=by rfl):RE X (.Call (.Name x p) (e :: es) [] pos) (wa0 sp t):=by
 obtain ⟨f,fd,F,hm,hk,hb⟩:=c;obtain ⟨va,pa,ra⟩:=ha;refine ⟨_,vr3 F hr hg hm hk hb .nil ud5 pa hdb he hpl,λ σ H Q ρ μ Q3 s m h k=>ra σ H _ ρ μ _ s m h λ ds μ1 vs H1 h1 k1 r1 m1=>?_⟩;rw [append_nil];exact ⟨ds,μ1,Q3,r1,m1,h1,k.after k1⟩
theorem sk0 {id:String} (hc:RC X (.builtin id) r) (hm:X.mg x=none) (hv:bootBuiltins x=some (.builtin id)) (ha:RA X (e :: es) t) (hg:Gl X x:=by rfl) (hn:x ≠ "__name__" := by decide) (hdb:(x == ("__debug__" : Str))=false:=by decide)
    (he:starEach (e :: es) X.env=(false,eval e X.env) :: starEach es X.env:=by rfl) (hpl:(backTo pos (starEach es X.env)).any (·.1)=false:=by rfl):RE X (.Call (.Name x p) (e :: es) [] pos) (wa0 r t):=by
 obtain ⟨r',pc,rc⟩:=hc;obtain ⟨va,pa,ra⟩:=ha;exact ⟨_,ss2 pc hg hm hv pa hn hdb he hpl,λ σ H Q ρ μ Q3 s m h k=>ra σ H _ ρ μ _ s m h λ ds μ1 vs H1 h1 k1 r1 m1=>rc ds vs H1 Q μ1 Q3 m1 r1 h1 (k.after k1)⟩
theorem xf1 (hc:RC X (.type T) r) (hm:X.mg x=none) (hv:bootBuiltins x=some (.type T)) (ha:RA X (e :: es) t) (hg:Gl X x:=by rfl) (hn:x ≠ "__name__" := by decide) (hdb:(x == ("__debug__" : Str))=false:=by decide)
    (he:starEach (e :: es) X.env=(false,eval e X.env) :: starEach es X.env:=by rfl) (hpl:(backTo pos (starEach es X.env)).any (·.1)=false:=by rfl):RE X (.Call (.Name x p) (e :: es) [] pos) (wa0 r t):=by
 obtain ⟨r',pc,rc⟩:=hc;obtain ⟨va,pa,ra⟩:=ha;exact ⟨_,yz1 pc hg hm hv pa hn hdb he hpl,λ σ H Q ρ μ Q3 s m h k=>ra σ H _ ρ μ _ s m h λ ds μ1 vs H1 h1 k1 r1 m1=>rc ds vs H1 Q μ1 Q3 m1 r1 h1 (k.after k1)⟩
theorem re_ix {r3:R3} (hx:RX X r3) (ha:RE X a ta) (hb:RE X b tb) (hs:yh2 b:=by intro _ _; rfl):RE X (.Subscript a b pos) (o3 r3 ta tb):=by
 obtain ⟨r,po,ro⟩:=hx;obtain ⟨va,pa,ra⟩:=ha;obtain ⟨vb,pb,rb⟩:=hb;exact ⟨_,pe_ix po pa pb hs,ra.op rb ro⟩
end
variable {mg:Str->Option Value} {f:Addr} {fd:FuncData}
section
variable {base:Heap}
theorem uc2 {st:Stmt} {N:List Str} {t:TS3} (F:Fun K x x st f fd) (S:FnScope N ps (za0 st))
    (len:∀ ds μ Q,sp ds μ Q->ds.length=ps.length)
    (body:∀ (cdv:Value) (A:Around) (outer:List Env) (s:Shared) (H:Hp) (E:XK),Room k (A.deeper (envOfC x (za0 st) s.heap.objs.size f cdv))->RSs (cxOf CX0 P w K mg base N x (za0 st) f cdv A outer s H E).nox (xe0 st) t)
    (rd:∀ ds μ Q,sp ds μ Q->t { nx:=λ _ μ'=>Q .non μ',rt:=Q } (ua0 N ds) μ):FnOk P w K mg base CX0 (k + 1) f fd ps (lift K sp):=by
 refine F.ok S (λ vs H Q E h=>?_) (λ cdv A outer s H vs Q E hr h=>?_)
 ·obtain ⟨ds,μ,Q3,r,m,q,ks⟩:=h;rw [<- r.length]; exact len _ _ _ q
 ·obtain ⟨ds,μ,Q3,r,m,q,ks⟩:=h;obtain ⟨tv,p,rt⟩:=body cdv A outer s H E hr;exact ⟨tv,p,rt _ H _ _ μ _ (RSt.start N r) m (rd ds μ Q3 q) ⟨λ ρ μ' σ H' h' k' s' m'=>ks _ _ _ _ h' k' .non m',λ ρ μ' σ H' h'=>False.elim h',λ ρ μ' σ H' h'=>False.elim h',ks⟩⟩
theorem uk0 {x:Str} {st:Stmt} {f:Addr} {fd:FuncData} {N ps:List Str} {k:Nat} {sp:Sp3} {t:TS3} (F:Fun K x x st f fd) (hm:mg x=some (.ref f)) (hb:Binds K fd ps []) (S:FnScope N ps (za0 st))
    (len:∀ ds μ Q,sp ds μ Q->ds.length=ps.length)
    (body:∀ (cdv:Value) (A:Around) (outer:List Env) (s:Shared) (H:Hp) (E:XK),Room k (A.deeper (envOfC x (za0 st) s.heap.objs.size f cdv))->RSs (cxOf CX0 P w K mg base N x (za0 st) f cdv A outer s H E).nox (xe0 st) t)
    (rd:∀ ds μ Q,sp ds μ Q->t { nx:=λ _ μ'=>Q .non μ',rt:=Q } (ua0 N ds) μ):Cal P w K mg base (k + 1) x ps sp :=
 ⟨f,fd,uc2 F S len body rd,hm,F.kp,hb⟩
theorem vx2 {st:Stmt} (F:Fun K x x st f fd) (hm:mg x=some (.ref f)) (hb:Binds K fd ps []) (no:∀ ds μ Q,¬ sp ds μ Q):Cal P w K mg base 0 x ps sp:=by
 have no':∀ vs H Q E,¬ lift K sp vs H Q E:=λ vs H Q E ⟨ds,μ,Q3,_,_,q,_⟩=>no _ _ _ q;exact ⟨f,fd,⟨λ vs H Q E h=>absurd h (no' vs H Q E),λ A outer s H args us vs Q E _ _ _ _ h=>absurd h (no' vs H Q E)⟩,hm,F.kp,hb⟩
end
variable {g3:Int->Int->D} {i:Int}
section
theorem RdO.i0 {g:Int->Int->V} (hg:∀ i j H,RelD K H (g3 i j) (g i j)):RdO K (rI0 g) (zh0 g3):=λ x y v u H Q μ Q3 m rx ry h k=>by
 cases rx with
 | int i =>
  cases ry with
  | int j=>exact ⟨i,j,rfl,rfl,k _ _ _ _ h (Kp.refl _) (hg i j H) m⟩
  | _=>exact False.elim h
 | _=>trivial
theorem RdO.i2 {C:Int->Int->Prop} {g:Int->Int->V} (hg:∀ i j H,RelD K H (g3 i j) (g i j)):RdO K (rI C g) (int2 C g3):=λ x y v u H Q μ Q3 m rx ry h k=>by
 cases rx with
 | int i =>
  cases ry with
  | int j=>exact ⟨i,j,rfl,rfl,h.1,k _ _ _ _ h.2 (Kp.refl _) (hg i j H) m⟩
  | _=>exact False.elim h
 | _=>trivial
theorem q_sub:RO X (binaryOp .Sub) subR:=⟨_,ye5,RdO.i0 λ _ _ _=>.int _⟩
theorem q_mod:RO X (binaryOp .Mod) modR:=⟨_,ue5,RdO.i2 λ _ _ _=>.int _⟩
theorem q_pow:RO X (binaryOp .Pow) powR:=⟨_,we5,RdO.i2 λ _ _ _=>.int _⟩
theorem log2_lt {n k:Nat} (hk:0 < k) (h:n < 2 ^ k):n.log2 < k:=by
 rcases Nat.eq_zero_or_pos n with h0 | hp
 ·simp_all
 ·exact (Nat.log2_lt (Nat.ne_of_gt hp)).mpr h
theorem yt2:OpR X (binaryOp .FloorDiv) (rI (λ _ j=>0 < j /\ j < 2 ^ 120) λ i j=>.int (i / j)):=opI λ i j _ _ _ _ _ hc q=>by
 have h1:(0:Int) < j:=hc.1;have h2:j < 2 ^ 120:=hc.2;refine floordiv_int [2] (by rw [Int.fdiv_eq_ediv_of_nonneg i [2]]; exact q) (.inl (PyProof.noPylong_of_log2 ?_));have h3:j.natAbs < 2 ^ 120:=by omega
 exact Nat.lt_trans (log2_lt (by decide) h3) (by decide)
theorem xa5:RO X (binaryOp .FloorDiv) yw2:=⟨_,yt2,RdO.i2 λ _ _ _=>.int _⟩
theorem CMul.mulok {j:Int} (h:CMul i j):IntMulOk i j:=by
 rcases h with h | ⟨h1,h2⟩
 ·exact L2.CMul.ok h
 ·unfold IntMulOk;intro e;rw [Bool.and_eq_true] at e;have e2:=e.2;unfold Builtin.Int.intTooBig at e2
  have hb:∀ x:Int,x.natAbs < Big->Builtin.Int.intBits x<=1000:=λ x hx=>by
   unfold Builtin.Int.intBits;split
   ·exact Nat.zero_le _
   ·exact log2_lt (by decide) hx
  have b1:=hb i h1;have b2:=hb j h2;have e3:=of_decide_eq_true e2;have e4:(2000:Nat) < bitsLine:=by decide
  omega
theorem op_mulB:OpR X (binaryOp .Mult) (rI CMul λ i j=>.int (i * j)):=opI λ _ _ _ _ _ _ _ hc q=>mul_int q hc.mulok
theorem q_neg:RU X (unaryOp .USub) negR:=⟨_,sb4,λ x v H Q μ Q3 m r h k=>by
 cases r with
 | int i=>exact ⟨i,rfl,k _ _ _ _ h (Kp.refl _) (.int _) m⟩
 | _=>exact False.elim h⟩
theorem q_lt:RO X (compareOp .Lt) ltR:=⟨_,op_lt,RdO.i0 λ _ _ _=>.bl _⟩
theorem q_le:RO X (compareOp .LtE) leR:=⟨_,op_le,RdO.i0 λ _ _ _=>.bl _⟩
theorem q_gt:RO X (compareOp .Gt) gtR:=⟨_,op_gt,RdO.i0 λ _ _ _=>.bl _⟩
theorem q_ge:RO X (compareOp .GtE) geR:=⟨_,op_ge,RdO.i0 λ _ _ _=>.bl _⟩
noncomputable def rCatA (K:Fg):R2:=λ x y H Q=>∃ a b xs ys,x=.ref a /\ y=.ref b /\ SqT K H a xs /\ SqT K H b ys /\ xs.length + ys.length<=sizeLine ∧
 (xs=[]->Q (.ref b) H) /\ (ys=[]->Q (.ref a) H) /\ (∀ p,H p=none->Q (.ref p) (upd H p (.tup (xs ++ ys))))
theorem ws3:OpR X (binaryOp .Add) (rCatA X.K):=by
 intro pins s σ H x y v u Q I rx ry h;obtain ⟨a,b,xs,ys,rfl,rfl,ha,hb,hz,q1,q2,q3⟩:=h;by_cases hx:xs=[]
 ·cases rx;cases ry;obtain ⟨its,r,ht,_⟩:=I.tuple ha;obtain ⟨its2,r2,ht2,_⟩:=I.tuple hb;have hi:its=[]:=by subst hx; cases r; rfl
  obtain ⟨⟨cls,dd,data,sl⟩,ho,hc,n,hd⟩:=id ht;obtain ⟨⟨cls2,dd2,data2,sl2⟩,ho2,hc2,n2,hd2⟩:=id ht2;simp only at hc hd hc2 hd2;subst hc hd hc2 hd2
  exact concat_meets ⟨_,ho,rfl⟩ ⟨_,ho2,rfl⟩ noFill_tuple_add seq_tuple_add slot_tuple_add entry_tuple_add (args_tuple_add_2 _ _)
   (tuple_addW0 a b its.toArray its2.toArray n n2 dd dd2 sl sl2 (by simp [hi])) ⟨ho,ho2,⟨.ref b,H,I,rfl,q1 hx⟩⟩
 ·exact zs3 pins s σ H _ _ v u Q I rx ry ⟨a,b,xs,ys,rfl,rfl,ha,hb,hx,hz,q2,λ _=>q3⟩
theorem q_add:RO X (binaryOp .Add) addR:=by
 refine ⟨_,(op_add.or zt1).or (op_cat.or ws3),λ x y v u H Q μ Q3 m rx ry h k=>?_⟩;cases rx with
 | int i =>
  cases ry with
  | int j=>exact .inl (.inl ⟨i,j,rfl,rfl,k _ _ _ _ h (Kp.refl _) (.int _) m⟩)
  | _=>exact False.elim h
 | str i =>
  cases ry with
  | str j=>exact .inl (.inr ⟨i,j,rfl,rfl,h.1,k _ _ _ _ h.2 (Kp.refl _) (.str _) m⟩)
  | _=>exact False.elim h
 | ref p =>
  cases ry with
  | ref q =>
   dsimp only [addR] at h;cases e:μ p with
   | none=>simp_all
   | some oo =>
    cases oo with
    | ins _ _=>simp_all
    | dct _=>simp_all
    | dcl _=>simp_all
    | lst xs =>
     cases e2:μ q with
     | none=>simp_all
     | some o2 =>
      cases o2 with
      | ins _ _=>simp_all
      | dct _=>simp_all
      | dcl _=>simp_all
      | lst ys =>
       rw [e,e2] at h;obtain ⟨vs,hv,rv⟩:=m p xs e;obtain ⟨us,hu,ru⟩:=m q ys e2;refine .inr (.inl ⟨p,q,vs,us,rfl,rfl,hv,hu,by rw [<- rv.length,<- ru.length]; exact h.1,λ t ht=>?_⟩);exact k _ _ _ _ (h.2 t (m.free ht)) (Kp.new ht) (.ref t) (m.newL ht (rv.append ru))
  | _=>exact False.elim h
 | tup hq rs =>
  cases ry with
  | tup hq2 rs2 =>
   rename_i a l vs b l2 us;refine .inr (.inr ⟨a,b,vs,us,rfl,rfl,(SqT.of hq),(SqT.of hq2),by rw [<- rs.length,<- rs2.length]; exact h.1,λ e=>?_,λ e=>?_,λ t ht=>?_⟩)
   ·subst e; cases rs;exact k _ _ _ _ h.2 (Kp.refl _) (.tup hq2 rs2) m
   ·subst e; cases rs2;have h2:=h.2;rw [append_nil] at h2;exact k _ _ _ _ h2 (Kp.refl _) (.tup hq rs) m
   ·exact k _ _ _ _ h.2 (Kp.new ht) (.tup xg0 ((rs.append rs2).mono (Kp.new ht))) (m.newT ht)
  | _=>exact False.elim h
 | _=>trivial
theorem RelDs.atI {K:Fg} {H:Hp} {l:List D} {vs:List V} {i:Int} {d:D} (r:RelDs K H l vs) (e:Pv.atI l i=some d):∃ v,L2.atI vs i=some v /\ RelD K H d v:=by
 unfold Pv.atI at e;unfold L2.atI;rw [zi5,<- r.length];cases q:ixN l.length i with
 | none=>simp_all
 | some j =>
  rw [q] at e;exact r.get e
theorem q_ix:RX X ixR:=by
 refine ⟨_,ix_list.or sf0,λ x y v u H Q μ Q3 m rx ry h k=>?_⟩;cases ry with
 | int i =>
  cases rx with
  | tup hq rs =>
   rename_i a l vs;dsimp only [ixR] at h;cases e:Pv.atI l i with
   | none=>simp_all
   | some d =>
    rw [e] at h;obtain ⟨w,e1,r1⟩:=rs.atI e;exact .inr ⟨a,vs,i,w,rfl,rfl,(SqT.of hq),e1,k _ _ _ _ h (Kp.refl _) r1 m⟩
  | ktp hq rs =>
   rename_i a l vs;dsimp only [ixR] at h;cases e:Pv.atI l i with
   | none=>simp_all
   | some d =>
    rw [e] at h;obtain ⟨w,e1,r1⟩:=rs.atI e;exact .inr ⟨a,vs,i,w,rfl,rfl,hq,e1,k _ _ _ _ h (Kp.refl _) r1 m⟩
  | fls hq rs =>
   rename_i a l vs;dsimp only [ixR] at h;cases e:Pv.atI l i with
   | none=>simp_all
   | some d =>
    rw [e] at h;obtain ⟨w,e1,r1⟩:=rs.atI e;exact .inl ⟨a,vs,i,w,rfl,rfl,hq.l,e1,k _ _ _ _ h (Kp.refl _) r1 m⟩
  | ref p =>
   dsimp only [ixR] at h;cases e0:μ p with
   | none=>simp_all
   | some oo =>
    cases oo with
    | ins _ _=>simp_all
    | dct _=>simp_all
    | dcl _=>simp_all
    | lst l =>
     rw [e0] at h;dsimp only at h;obtain ⟨vs,hv,rs⟩:=m p l e0;cases e:Pv.atI l i with
     | none=>simp_all
     | some d =>
      rw [e] at h;obtain ⟨w,e1,r1⟩:=rs.atI e;exact .inl ⟨p,vs,i,w,rfl,rfl,SqL.of hv,e1,k _ _ _ _ h (Kp.refl _) r1 m⟩
  | _=>exact False.elim h
 | _=>cases rx <;> exact False.elim h
theorem xz0 {K:Fg} {H:Hp}:∀ {l:List D} {vs:List V} {zs:List Str},RelDs K H l vs->strs? l=some zs->vs=zs.map V.str
 | _,_,zs,.nil,e=>by simp [strs?] at e; subst e; rfl
 | _,_,zs,.cons h r,e=>by
  cases h with
  | str x =>
   simp only [strs?] at e;split at e
   ·next ys e1 =>
    simp only [Option.some.injEq] at e;subst e;rw [xz0 r e1]; rfl
   ·cases e
  | _=>simp [strs?] at e
theorem vp1 (z:Str) (zs:List Str):inV (.str z) (zs.map V.str)=zs.contains z:=by
 unfold inV;rw [List.any_map]
 induction zs with
 | nil=>rfl
 | cons y r ih =>
  rw [any_cons,ih,List.contains_cons];congr 1;show (y == z)=(z == y);rw [Bool.eq_iff_iff,beq_iff_eq,beq_iff_eq];exact eq_comm
theorem vg1 (zs:List Str):(zs.map V.str).all tb1=true:=by
 rw [List.all_map,List.all_eq_true]; intro _ _; rfl
theorem q_len:RC X (.builtin "len") lenR:=by
 refine ⟨_,call_len_seq.or wh1,λ xs vs H Q μ Q3 m r h k=>?_⟩;cases r with
 | nil=>exact False.elim h
 | cons r1 r2 =>
  cases r2 with
  | cons _ _=>cases r1 <;> exact False.elim h
  | nil =>
   cases r1 with
   | tup hq rs =>
    rename_i a l vs;refine .inl ⟨a,vs,rfl,.inr (SqT.of hq),?_⟩;rw [<- rs.length];exact k _ _ _ _ h (Kp.refl _) (.int _) m
   | fls hq rs =>
    rename_i a l vs;refine .inl ⟨a,vs,rfl,.inl hq.l,?_⟩;rw [<- rs.length];exact k _ _ _ _ h (Kp.refl _) (.int _) m
   | str z=>exact .inr ⟨z,rfl,h.1,k _ _ _ _ h.2 (Kp.refl _) (.int _) m⟩
   | ref p =>
    dsimp only [lenR] at h;cases e:μ p with
    | none=>simp_all
    | some oo =>
     cases oo with
     | ins _ _=>simp_all
     | dct _=>simp_all
     | dcl _=>simp_all
     | lst l =>
      rw [e] at h;obtain ⟨vs,hv,rs⟩:=m p l e;refine .inl ⟨p,vs,rfl,.inl (SqL.of hv),?_⟩;rw [<- rs.length];exact k _ _ _ _ h (Kp.refl _) (.int _) m
   | _=>exact False.elim h
theorem q_abs:RC X (.builtin "abs") absR:=by
 refine ⟨_,wx2,λ xs vs H Q μ Q3 m r h k=>?_⟩;cases r with
 | nil=>exact False.elim h
 | cons r1 r2 =>
  cases r2 with
  | cons _ _=>cases r1 <;> exact False.elim h
  | nil =>
   cases r1 with
   | int i=>exact ⟨i,rfl,k _ _ _ _ h (Kp.refl _) (.int _) m⟩
   | _=>exact False.elim h
theorem to3:RC X (.type "tuple") tupR:=by
 refine ⟨_,vc1,λ xs vs H Q μ Q3 m r h k=>?_⟩;cases r with
 | nil=>exact False.elim h
 | cons r1 r2 =>
  cases r2 with
  | cons _ _=>cases r1 <;> exact False.elim h
  | nil =>
   cases r1 with
   | tup hq rs=>exact ⟨_,_,rfl,.inr ⟨(SqT.of hq),k _ _ _ _ h (Kp.refl _) (.tup hq rs) m⟩⟩
   | ref p =>
    dsimp only [tupR] at h;cases e:μ p with
    | none=>simp_all
    | some oo =>
     cases oo with
     | ins _ _=>simp_all
     | dct _=>simp_all
     | dcl _=>simp_all
     | lst l =>
      rw [e] at h;obtain ⟨vs,hv,rs⟩:=m p l e;exact ⟨p,vs,rfl,.inl ⟨SqL.of hv,λ t ht=>k _ _ _ _ h (Kp.new ht) (.tup xg0 (rs.mono (Kp.new ht))) (m.newT ht)⟩⟩
   | _=>exact False.elim h
theorem vs0 {K:Fg} {H:Hp}:∀ {l:List D} {vs:List V} {zs:List Int},RelDs K H l vs->ints? l=some zs->vs=zs.map V.int
 | _,_,zs,.nil,e=>by simp [ints?] at e; subst e; rfl
 | _,_,zs,.cons h r,e=>by
  cases h with
  | int x =>
   simp only [ints?] at e;split at e
   ·next ys e1 =>
    simp only [Option.some.injEq] at e;subst e;rw [vs0 r e1]; rfl
   ·cases e
  | _=>simp [ints?] at e
theorem yx2:X.calm=true->CallR X (.builtin "sum") (λ xs H Q=>∃ (p:Addr) (ns:List Int),xs=[.ref p] /\ SqL X.K H p (ns.map V.int) /\ Q (.int ns.sum) H):=by
 intro hc pins s σ H xs us Q I r h;obtain ⟨p,ns,rfl,hq,q⟩:=h;obtain ⟨u,rfl,rx⟩:=ww0 r;cases rx;obtain ⟨its,r',pl,hz⟩:=I.list hq;have hi:=yq0 r';obtain ⟨ys,e⟩:=hi.allInts.items;have hl:=pl.isList;rw [e] at hl;refine sum_intListG (I.ok.hd hc) hl λ h' tk t' hk=>?_;refine ⟨.int ns.sum,H,I.kept (t':=tk) hk,⟨t',?_⟩,q⟩;rw [preSum_eq,take_of_length_le (by simp),<- nums_intItems,<- e];show Value.int (numsOf its).sum t'=_;rw [hi.numsOf]
theorem q_sum (hc:X.calm=true:=by rfl):RC X (.builtin "sum") sumR:=by
 refine ⟨_,yx2 hc,λ xs vs H Q μ Q3 m r h k=>?_⟩;cases r with
 | nil=>exact False.elim h
 | cons r1 r2 =>
  cases r2 with
  | cons _ _=>cases r1 <;> exact False.elim h
  | nil =>
   cases r1 with
   | ref p =>
    dsimp only [sumR] at h;cases e:μ p with
    | none=>simp_all
    | some oo =>
     cases oo with
     | ins _ _=>simp_all
     | dct _=>simp_all
     | dcl _=>simp_all
     | lst l =>
      rw [e] at h;dsimp only at h;obtain ⟨vs,hv,rs⟩:=m p l e;cases e1:ints? l with
      | none=>simp_all
      | some ns =>
       rw [e1] at h;have ev:=vs0 rs e1;subst ev;exact ⟨p,ns,rfl,SqL.of hv,k _ _ _ _ h (Kp.refl _) (.int _) m⟩
   | _=>exact False.elim h
end
variable {pins:List (Addr × Obj)} {σ:L2.St} {H:Hp} {s:Shared} {μ:Mu} {d:D} {v:V} {A:Around} {neg:Bool} {Q:VK}
section
mutual
theorem vi0 (I:Inv X pins σ H s):∀ {d:D} {v:V} {p:PyData} {u:Value},RelD X.K H d v->dat d=some p->RelV v u->∃ as,Reads s.heap u p as
 | _,_,p,u,.non,e,r=>by simp only [dat,Option.some.injEq] at e; subst e; cases r; exact ⟨_,Reads.none⟩
 | _,_,p,u,.bl b,e,r=>by simp only [dat,Option.some.injEq] at e; subst e; cases r; exact ⟨_,Reads.bool b⟩
 | _,_,p,u,.int i,e,r=>by simp only [dat,Option.some.injEq] at e; subst e; obtain ⟨t,rfl⟩:=r; exact ⟨_,Reads.int i t⟩
 | _,_,p,u,.str x,e,r=>by
  simp only [dat] at e;split at e
  ·simp only [Option.some.injEq] at e; subst e; obtain ⟨t,rfl⟩:=r; exact ⟨_,Reads.str x t⟩
  ·cases e
 | _,_,p,u,.ref a,e,r=>by simp [dat] at e
 | _,_,p,u,.ty n,e,r=>by simp [dat] at e
 | _,_,p,u,.fls _ _,e,r=>by simp [dat] at e
 | _,_,p,u,.exc _ _ _,e,r=>by simp [dat] at e
 | _,_,p,u,.tup hq rs,e,r=>by
  simp only [dat] at e;split at e
  ·next ps e1 =>
   simp only [Option.some.injEq] at e; subst e;cases r;obtain ⟨its,rv,⟨o,ho,hc,n,hd⟩,hz⟩:=I.tuple (SqT.of hq);obtain ⟨as,q⟩:=ui0 I rs e1 rv;exact ⟨_,Reads.tuple ho hc hd (by simpa using q)⟩
  ·cases e
 | _,_,p,u,.ktp hq rs,e,r=>by
  simp only [dat] at e;split at e
  ·next ps e1 =>
   simp only [Option.some.injEq] at e; subst e;cases r;obtain ⟨its,rv,⟨o,ho,hc,n,hd⟩,hz⟩:=I.tuple hq;obtain ⟨as,q⟩:=ui0 I rs e1 rv;exact ⟨_,Reads.tuple ho hc hd (by simpa using q)⟩
  ·cases e
theorem ui0 (I:Inv X pins σ H s):∀ {l:List D} {vs:List V} {ps:List PyData} {us:List Value},RelDs X.K H l vs->dats l=some ps->Vals vs us->∃ as,ReadsAll s.heap us ps as
 | _,_,ps,us,.nil,e,r=>by simp only [dats,Option.some.injEq] at e; subst e; cases r; exact ⟨_,ReadsAll.nil⟩
 | _,_,ps,us,.cons h rs,e,r=>by
  simp only [dats] at e;split at e
  ·next p e1 =>
   split at e
   ·next qs e2 =>
    simp only [Option.some.injEq] at e; subst e;cases r with
    | cons r1 r2 =>
     obtain ⟨as,q1⟩:=vi0 I h e1 r1;obtain ⟨bs,q2⟩:=ui0 I rs e2 r2;exact ⟨_,ReadsAll.cons q1 q2⟩
   ·cases e
  ·cases e
end
theorem zf0 (I:Inv X pins σ H s) (m:RelM X.K μ H) {p:PyData} {u:Value} (h:RelD X.K H d v) (e:datM μ d=some p) (r:RelV v u):∃ as,Reads s.heap u p as:=by
 cases h with
 | ref a =>
  simp only [datM] at e;split at e
  ·next l e0 =>
   split at e
   ·next ps e1 =>
    simp only [Option.some.injEq] at e; subst e;cases r;obtain ⟨vs,hv,rs⟩:=m a l e0;obtain ⟨its,rv,pl,hz⟩:=I.list (SqL.of hv);obtain ⟨o,ho,hc,n,hd⟩:=pl.isList;obtain ⟨as,q⟩:=ui0 I rs e1 rv;exact ⟨_,Reads.list ho hc hd (by simpa using q)⟩
   ·cases e
  ·cases e
 | non=>exact vi0 I .non e r
 | bl b=>exact vi0 I (.bl b) e r
 | int i=>exact vi0 I (.int i) e r
 | str x=>exact vi0 I (.str x) e r
 | ty n=>trivial
 | tup hq rs=>exact vi0 I (.tup hq rs) e r
 | ktp hq rs=>exact vi0 I (.ktp hq rs) e r
 | fls hq rs=>trivial
 | exc a1 a2 a3=>trivial
mutual
theorem te0:∀ (d:D) (p:PyData),dat d=some p->p.canLay0=true
 | .non,p,e=>by simp only [dat,Option.some.injEq] at e; subst e; rfl
 | .bl b,p,e=>by simp only [dat,Option.some.injEq] at e; subst e; rfl
 | .int b,p,e=>by simp only [dat,Option.some.injEq] at e; subst e; rfl
 | .str x,p,e=>by
  simp only [dat] at e;split at e
  ·next h=>simp only [Option.some.injEq] at e; subst e; exact h
  ·cases e
 | .tup l,p,e=>by
  simp only [dat] at e;split at e
  ·next ps e1=>simp only [Option.some.injEq] at e; subst e; simp only [PyData.canLay0]; exact zj0 l ps e1
  ·cases e
 | .ktp l,p,e=>by
  simp only [dat] at e;split at e
  ·next ps e1=>simp only [Option.some.injEq] at e; subst e; simp only [PyData.canLay0]; exact zj0 l ps e1
  ·cases e
 | .fls _,p,e=>by simp [dat] at e
 | .ref _,p,e=>by simp [dat] at e
 | .ty _,p,e=>by simp [dat] at e
theorem zj0:∀ (l:List D) (ps:List PyData),dats l=some ps->PyData.canLayAll0 ps=true
 | [],ps,e=>by simp only [dats,Option.some.injEq] at e; subst e; rfl
 | d :: r,ps,e=>by
  simp only [dats] at e;split at e
  ·next p e1 =>
   split at e
   ·next qs e2 =>
    simp only [Option.some.injEq] at e; subst e;simp only [PyData.canLayAll0,Bool.and_eq_true];exact ⟨te0 d p e1,zj0 r qs e2⟩
   ·cases e
  ·cases e
end
theorem tk1 {p:PyData} (e:datM μ d=some p):p.canLay0=true:=by
 cases d with
 | ref a =>
  simp only [datM] at e;split at e
  ·next l e0 =>
   split at e
   ·next ps e1=>simp only [Option.some.injEq] at e; subst e; simp only [PyData.canLay0]; exact zj0 l ps e1
   ·cases e
  ·cases e
 | non=>exact te0 _ p e
 | bl b=>exact te0 _ p e
 | int i=>exact te0 _ p e
 | str x=>exact te0 _ p e
 | ty n=>trivial
 | tup l=>exact te0 _ p e
 | ktp l=>exact te0 _ p e
 | fls l=>trivial
 | exc c=>trivial
theorem ub0 {p:PyData} (e:datM μ d=some p) (h:p.depth<=64):PySem.SeqAt.shaped p=true:=by
 unfold PySem.SeqAt.shaped;rw [tk1 e,decide_eq_true h]; rfl
noncomputable def rEqD (K:Fg) (neg:Bool):R2:=λ x y H Q=>∃ d e μ p q,RelM K μ H /\ RelD K H d x /\ RelD K H e y /\ datM μ d=some p /\ datM μ e=some q /\ p.depth<=64 /\ q.depth<=64 /\ Q (.bl (if neg then !PyData.eqv p q else PyData.eqv p q)) H
theorem xf5 (hu:X.A.units + 64 < cLine):OpR X (compareOp .Eq) (rEqD X.K false):=by
 intro pins s σ H x y v u Q I rx ry h;obtain ⟨d,e,μ,p,q,m,rd,re,e1,e2,h1,h2,k⟩:=h;obtain ⟨as,q1⟩:=zf0 I m rd e1 rx;obtain ⟨bs,q2⟩:=zf0 I m re e2 ry;exact eq_dataH q1 q2 (ub0 e1 h1) (ub0 e2 h2) hu ⟨.bl _,H,I,rfl,k⟩
theorem ve5 (hu:X.A.units + 64 < cLine):OpR X (compareOp .NotEq) (rEqD X.K true):=by
 intro pins s σ H x y v u Q I rx ry h;obtain ⟨d,e,μ,p,q,m,rd,re,e1,e2,h1,h2,k⟩:=h;obtain ⟨as,q1⟩:=zf0 I m rd e1 rx;obtain ⟨bs,q2⟩:=zf0 I m re e2 ry;exact ne_dataH q1 q2 (ub0 e1 h1) (ub0 e2 h2) hu ⟨.bl _,H,I,rfl,k⟩
theorem wj5 {x y:D} {u:V} {c:Bool} (rx:RelD K H x v) (ry:RelD K H y u) (e:eqS x y=some c):scal v u=true /\ decide (v=u)=c:=by
 unfold eqS at e;split at e <;> first | (cases e; done) | (cases rx; cases ry; cases e; exact ⟨rfl,rfl⟩) | (cases rx; cases ry; cases e; refine ⟨rfl,?_⟩; simp)
theorem hu64 (hr:Room k A):A.units + 64 < cLine:=by have:=hr.un; omega
noncomputable def rInD (K:Fg) (neg:Bool):R2:=λ x y H Q=>∃ d e μ p xs,∃ b:Bool,RelM K μ H /\ RelD K H d x /\ RelD K H e y /\ datM μ d=some p /\ datM μ e=some (if b then .list xs else .tuple xs) /\ p.depth<=64 /\ (if b then PyData.list xs else PyData.tuple xs).depth<=64 ∧
 Q (.bl (if neg then !(xs.any λ e=>PyData.eqv e p) else xs.any λ e=>PyData.eqv e p)) H
theorem se5 (hu:X.A.units + 65 < cLine):OpR X (compareOp .In) (rInD X.K false):=by
 intro pins s σ H x y v u Q I rx ry h;obtain ⟨d,e,μ,p,xs,b,m,rd,re,e1,e2,h1,h2,k⟩:=h;obtain ⟨as,q1⟩:=zf0 I m rd e1 rx;obtain ⟨bs,q2⟩:=zf0 I m re e2 ry;cases b
 ·exact PySem.SeqAt.in_tuple_reads q2 q1 (PySem.SeqAt.canLay_of_shaped (ub0 e2 h2)) (PySem.SeqAt.canLay_of_shaped (ub0 e1 h1)) (room_in_shaped (ub0 e1 h1) hu) ⟨.bl _,H,I,rfl,k⟩
 ·exact PySem.SeqAt.in_list_reads q2 q1 (PySem.SeqAt.canLay_of_shaped (ub0 e2 h2)) (PySem.SeqAt.canLay_of_shaped (ub0 e1 h1)) (room_in_shaped (ub0 e1 h1) hu) ⟨.bl _,H,I,rfl,k⟩
theorem wz1 (hu:X.A.units + 65 < cLine):OpR X (compareOp .NotIn) (rInD X.K true):=by
 intro pins s σ H x y v u Q I rx ry h;obtain ⟨d,e,μ,p,xs,b,m,rd,re,e1,e2,h1,h2,k⟩:=h;obtain ⟨as,q1⟩:=zf0 I m rd e1 rx;obtain ⟨bs,q2⟩:=zf0 I m re e2 ry;cases b
 ·exact PySem.SeqAt.notIn_tuple_reads q2 q1 (PySem.SeqAt.canLay_of_shaped (ub0 e2 h2)) (PySem.SeqAt.canLay_of_shaped (ub0 e1 h1)) (room_in_shaped (ub0 e1 h1) hu) ⟨.bl _,H,I,rfl,k⟩
 ·exact PySem.SeqAt.notIn_list_reads q2 q1 (PySem.SeqAt.canLay_of_shaped (ub0 e2 h2)) (PySem.SeqAt.canLay_of_shaped (ub0 e1 h1)) (room_in_shaped (ub0 e1 h1) hu) ⟨.bl _,H,I,rfl,k⟩
theorem hu65 (hr:Room k A):A.units + 65 < cLine:=by have:=hr.un; omega
theorem zu3 {x y:D} {u:V} {Q3:VK3} (m:RelM K μ H) (rx:RelD K H x v) (ry:RelD K H y u) (h:inD neg x y μ Q3) (k:Ks K H Q3 Q):rInD K neg v u H Q:=by
 unfold inD at h;split at h
 ·next d xs e1 e2=>exact ⟨x,y,μ,d,xs,true,m,rx,ry,e1,e2,h.1.1,h.1.2,k _ _ _ _ h.2 (Kp.refl _) (.bl _) m⟩
 ·next d xs e1 e2=>exact ⟨x,y,μ,d,xs,false,m,rx,ry,e1,e2,h.1.1,h.1.2,k _ _ _ _ h.2 (Kp.refl _) (.bl _) m⟩
 ·exact h.elim
theorem RdO.inn:RdO K (λ x y H Q=>(rIn K neg x y H Q \/ ∃ i j,x=.str i /\ y=.str j /\ Q (.bl (if neg then !(!(Builtin.Str.occurrences j i 0 j.length 1).isEmpty) else !(Builtin.Str.occurrences j i 0 j.length 1).isEmpty)) H) \/ rInD K neg x y H Q) (inR neg):=λ x y v u H Q μ Q3 m rx ry h k=>by
 unfold inR at h;split at h
 ·next z l =>
  cases e:strs? l with
  | none=>rw [e] at h; exact .inr (zu3 m rx ry h k)
  | some zs =>
   rw [e] at h;cases rx;cases ry with
   | tup hq rs =>
    rename_i a vs;have ev:=xz0 rs e;refine .inl <| .inl ⟨a,vs,rfl,.inr (SqT.of hq),rfl,by rw [ev]; exact vg1 zs,?_⟩;rw [ev,vp1];exact k _ _ _ _ h (Kp.refl _) (.bl _) m
 ·next z l =>
  cases e:strs? l with
  | none=>rw [e] at h; exact .inr (zu3 m rx ry h k)
  | some zs =>
   rw [e] at h;cases rx;cases ry with
   | ktp hq rs =>
    rename_i a vs;have ev:=xz0 rs e;refine .inl <| .inl ⟨a,vs,rfl,.inr hq,rfl,by rw [ev]; exact vg1 zs,?_⟩;rw [ev,vp1];exact k _ _ _ _ h (Kp.refl _) (.bl _) m
 ·next z y =>
  cases rx;cases ry;exact .inl <| .inr ⟨z,y,rfl,rfl,k _ _ _ _ h (Kp.refl _) (.bl _) m⟩
 ·exact .inr (zu3 m rx ry h k)
theorem q_in (hu:X.A.units + 65 < cLine):RO X (compareOp .In) (inR false):=⟨_,(op_in_seq.or vz1).or (se5 hu),RdO.inn⟩
theorem xp3 (hu:X.A.units + 65 < cLine):RO X (compareOp .NotIn) (inR true):=⟨_,(op_notIn_seq.or vf1).or (wz1 hu),RdO.inn⟩
theorem q_eq (hu:X.A.units + 64 < cLine):RO X (compareOp .Eq) eqR:=by
 refine ⟨_,op_eq.or (xf5 hu),λ x y v u H Q μ Q3 m rx ry h k=>?_⟩;unfold eqR at h;cases e:eqS x y with
 | some c =>
  rw [e] at h;obtain ⟨h1,h2⟩:=wj5 rx ry e;refine .inl ⟨h1,?_⟩;rw [h2];exact k _ _ _ _ h (Kp.refl _) (.bl _) m
 | none =>
  rw [e] at h;dsimp only at h;cases e1:datM μ x with
  | none=>simp_all
  | some p =>
   cases e2:datM μ y with
   | none=>simp_all
   | some q =>
    rw [e1,e2] at h;exact .inr ⟨x,y,μ,p,q,m,rx,ry,e1,e2,h.1.1,h.1.2,k _ _ _ _ h.2 (Kp.refl _) (.bl _) m⟩
theorem q_ne (hu:X.A.units + 64 < cLine):RO X (compareOp .NotEq) neR:=by
 refine ⟨_,op_ne.or (ve5 hu),λ x y v u H Q μ Q3 m rx ry h k=>?_⟩;unfold neR at h;cases e:eqS x y with
 | some c =>
  rw [e] at h;obtain ⟨h1,h2⟩:=wj5 rx ry e;refine .inl ⟨h1,?_⟩;rw [h2];exact k _ _ _ _ h (Kp.refl _) (.bl _) m
 | none =>
  rw [e] at h;dsimp only at h;cases e1:datM μ x with
  | none=>simp_all
  | some p =>
   cases e2:datM μ y with
   | none=>simp_all
   | some q =>
    rw [e1,e2] at h;exact .inr ⟨x,y,μ,p,q,m,rx,ry,e1,e2,h.1.1,h.1.2,k _ _ _ _ h.2 (Kp.refl _) (.bl _) m⟩
theorem yu3 (K:Fg):∀ t ∈ ["int", "str", "tuple", "bool", "NoneType", "list"],∀ T ∈ ["int", "str", "tuple", "bool", "list"],kitOne K (.type t) (.type T)=some (t == T || (t == "bool" && T == "int")):=by
 intro t ht T hT;simp only [mem_cons,not_mem_nil,or_false] at ht hT;rcases ht with rfl | rfl | rfl | rfl | rfl | rfl <;> rcases hT with rfl | rfl | rfl | rfl | rfl <;> with_unfolding_all rfl
theorem vi5 {t:String} {b:Bool} (e:isIn t T=some b) (ht:t ∈ ["int", "str", "tuple", "bool", "NoneType", "list"]) (hT:T ∈ ["int", "str", "tuple", "bool", "list"]):kitOne K (.type t) (.type T)=some b:=by
 rw [yu3 K t ht T hT];simp only [mem_cons,not_mem_nil,or_false] at ht hT;rcases ht with rfl | rfl | rfl | rfl | rfl | rfl <;> rcases hT with rfl | rfl | rfl | rfl | rfl <;> simp [isIn] at e <;> subst e <;> rfl
theorem ui5 {t:String} {b:Bool} (e:isIn t T=some b) (ht:t ∈ ["int", "str", "tuple", "bool", "NoneType", "list"]):T ∈ ["int", "str", "tuple", "bool", "list"] \/ (t=T /\ b=true):=by
 unfold isIn at e;simp only [mem_cons,not_mem_nil,or_false] at ht ⊢;split at e
 ·simp_all
 ·split at e
  ·simp_all
  simp_all
theorem vu2 (K:Fg) (t:String):kitOne K (.type t) (.type t)=some true:=by
 unfold kitOne;simp
noncomputable def rIsi (K:Fg):List V->Hp->VK->Prop:=λ xs H Q=>∃ d v μ t T b,xs=[v,.ty T] /\ RelM K μ H /\ RelD K H d v /\ tyN μ d=some t /\ isIn t T=some b /\ Q (.bl b) H
theorem zx2:CallR X (.builtin "isinstance") (rIsi X.K):=by
 intro pins s σ H xs us Q I r h;obtain ⟨d,v,μ,t,T,b,rfl,m,rd,e1,e2,q⟩:=h;obtain ⟨u,w',rfl,rx,ry⟩:=ys1 r;cases ry;have fin:∀ tk,EP X pins σ Q (.bool b) { s with toks:=tk }:=λ tk=>⟨.bl b,H,I.tok tk,rfl,q⟩
 have hk:∀ t',t' ∈ ["int", "str", "tuple", "bool", "NoneType", "list"]->isIn t' T=some b->kitOne X.K (.type t') (.type T)=some b:=λ t' h1 h2=>by
  rcases ui5 h2 h1 with z | ⟨rfl,rfl⟩
  ·exact vi5 h2 h1 z
  ·exact vu2 _ _
 cases rd with
 | non=>simp only [tyN,Option.some.injEq] at e1; subst e1; cases rx; exact kia_one PySem.W.kitx_none I.kIn True.intro (hk _ (by simp) e2) (λ z=>nomatch z) fin
 | bl y=>simp only [tyN,Option.some.injEq] at e1; subst e1; cases rx; exact kia_one PySem.W.kitx_bool I.kIn True.intro (hk _ (by simp) e2) (λ z=>nomatch z) fin
 | int i=>simp only [tyN,Option.some.injEq] at e1; subst e1; obtain ⟨tk,rfl⟩:=rx; exact kia_one PySem.W.kitx_int I.kIn True.intro (hk _ (by simp) e2) (λ z=>nomatch z) fin
 | str y=>simp only [tyN,Option.some.injEq] at e1; subst e1; obtain ⟨tk,rfl⟩:=rx; exact kia_one PySem.W.kitx_str I.kIn True.intro (hk _ (by simp) e2) (λ z=>nomatch z) fin
 | tup hq rs =>
  simp only [tyN,Option.some.injEq] at e1; subst e1; cases rx;obtain ⟨its,rv,⟨o,ho,hc,_⟩,hz⟩:=I.tuple (SqT.of hq);exact kia_one PySem.W.kitx_tuple I.kIn ⟨o,ho,hc⟩ (hk _ (by simp) e2) (λ z=>nomatch z) fin
 | ref p =>
  simp only [tyN] at e1;split at e1
  ·next l e0 =>
   simp only [Option.some.injEq] at e1; subst e1; cases rx;obtain ⟨vs,hv,rs⟩:=m p l e0;obtain ⟨its,rv,pl,hz⟩:=I.list (SqL.of hv);obtain ⟨o,ho,hc,_⟩:=pl.isList;exact kia_one PySem.W.kitx_list I.kIn ⟨o,ho,hc⟩ (hk _ (by simp) e2) (λ z=>nomatch z) fin
  ·cases e1
 | ty n=>simp [tyN] at e1
 | fls _ _=>simp [tyN] at e1
 | ktp _ _=>simp [tyN] at e1
 | exc _ _ _=>simp [tyN] at e1
theorem q_isi:RC X (.builtin "isinstance") isiR:=by
 refine ⟨_,zx2,λ xs vs H Q μ Q3 m r h k=>?_⟩;cases r with
 | nil=>exact False.elim h
 | cons r1 r2 =>
  cases r2 with
  | nil=>exact False.elim h
  | cons r2 r3 =>
   cases r3 with
   | cons _ _=>cases r2 <;> exact False.elim h
   | nil =>
    cases r2 with
    | ty T =>
     rename_i d v;dsimp only [isiR] at h;cases e:tyN μ d with
     | none=>simp_all
     | some t =>
      rw [e] at h;dsimp only at h;cases e2:isIn t T with
      | none=>simp_all
      | some b =>
       rw [e2] at h;exact ⟨d,v,μ,t,T,b,rfl,m,r1,e,e2,k _ _ _ _ h (Kp.refl _) (.bl _) m⟩
    | _=>exact False.elim h
variable {o:Expr} {to:TE3} {apos cpos:Pos}
theorem xt4 {name:Str} {id:String} {r:V->List V->Hp->VK->Prop} {r3:D->List D->Mu->VK3->Prop} (slot:Slot "list" name id) (hty:typeOf (.builtin id)=pure (.type "method_descriptor")) (hm:MtR X id r)
    (hrd:∀ p xs v vs H Q μ Q3,RelM X.K μ H->RelD X.K H (.ref p) v->RelDs X.K H xs vs->r3 (.ref p) xs μ Q3->Ks X.K H Q3 Q->r v vs H Q) (ho:RE X o to) (ha:RA X (e :: es) t)
    (hbase:attributeBase o name X.env (eval o X.env)=eval o X.env)
    (hfew:((backTo cpos (starEach (e :: es) X.env)).all (λ x=>!x.1) && (backToKw cpos (keywordEach [] X.env)).all (λ x=>x.1.isSome)
     && decide ((e :: es).length + ([]:List Keyword).length + (if ([]:List Keyword).isEmpty then 0 else 1) < 30))=true)
    (hline:(apos.endLine == cpos.line)=true) (hs:starEach (e :: es) X.env=(false,eval e X.env) :: starEach es X.env) (hplain:(backTo cpos (starEach es X.env)).any (·.1)=false) :
    RE X (.Call (.Attribute o name apos) (e :: es) [] cpos) (mt3 r3 to t):=by
 obtain ⟨va,pa,ra⟩:=ho;obtain ⟨vb,pb,rb⟩:=ha;refine ⟨_,pe_bm PySem.F.plainAttrs_list slot hty hm pa pb hbase hfew hline hs hplain,λ σ H Q ρ μ Q3 s m h k=>ra σ H _ ρ μ _ s m h λ d μ1 v H1 h1 k1 r1 m1=>?_⟩;cases r1 with
 | ref p =>
  dsimp only at h1;cases e0:μ1 p with
  | none=>simp_all
  | some oo =>
   cases oo with
   | ins _ _=>simp_all
   | dct _=>simp_all
   | dcl _=>simp_all
   | lst l =>
    rw [e0] at h1;obtain ⟨vs,hv,rs⟩:=m1 p l e0;refine ⟨.inl ⟨rfl,vs,SqL.of hv⟩,rb σ H1 _ ρ μ1 _ (s.mono k1) m1 h1 λ xs μ2 ys H2 h2 k2 r2 m2=>?_⟩;exact hrd p xs _ ys H2 Q μ2 Q3 m2 (.ref p) r2 h2 (k.after (k1.trans k2))
 | _=>exact False.elim h1
theorem sx1 (ho:RE X o to) (ha:RA X (e :: es) t) (hbase:attributeBase o "append" X.env (eval o X.env)=eval o X.env:=by rfl)
    (hfew:((backTo cpos (starEach (e :: es) X.env)).all (λ x=>!x.1) && (backToKw cpos (keywordEach [] X.env)).all (λ x=>x.1.isSome)
     && decide ((e :: es).length + ([]:List Keyword).length + (if ([]:List Keyword).isEmpty then 0 else 1) < 30))=true:=by rfl)
    (hline:(apos.endLine == cpos.line)=true:=by rfl) (hs:starEach (e :: es) X.env=(false,eval e X.env) :: starEach es X.env:=by rfl) (hplain:(backTo cpos (starEach es X.env)).any (·.1)=false:=by rfl) :
    RE X (.Call (.Attribute o "append" apos) (e :: es) [] cpos) (mt3 appR to t):=by
 refine xt4 PySem.F.slot_list_append PySem.F.type_list_append uf1 (λ p xs v vs H Q μ Q3 m rp rx h k=>?_) ho ha hbase hfew hline hs hplain;cases rp;cases rx with
 | nil=>exact False.elim h
 | cons r1 r2 =>
  cases r2 with
  | cons _ _=>exact False.elim h
  | nil =>
   dsimp only [appR] at h;cases e0:μ p with
   | none=>simp_all
   | some oo =>
    cases oo with
    | ins _ _=>simp_all
    | dct _=>simp_all
    | dcl _=>simp_all
    | lst l =>
     rw [e0] at h;obtain ⟨vs,hv,rs⟩:=m p l e0;exact ⟨p,vs,_,rfl,rfl,hv,by rw [<- rs.length]; exact h.1,k _ _ _ _ h.2 (Kp.wr hv) .non (m.wr hv (rs.append (.cons r1 .nil)))⟩
theorem tx1 (ho:RE X o to) (ha:RA X (e :: es) t) (hbase:attributeBase o "extend" X.env (eval o X.env)=eval o X.env:=by rfl)
    (hfew:((backTo cpos (starEach (e :: es) X.env)).all (λ x=>!x.1) && (backToKw cpos (keywordEach [] X.env)).all (λ x=>x.1.isSome)
     && decide ((e :: es).length + ([]:List Keyword).length + (if ([]:List Keyword).isEmpty then 0 else 1) < 30))=true:=by rfl)
    (hline:(apos.endLine == cpos.line)=true:=by rfl) (hs:starEach (e :: es) X.env=(false,eval e X.env) :: starEach es X.env:=by rfl) (hplain:(backTo cpos (starEach es X.env)).any (·.1)=false:=by rfl) :
    RE X (.Call (.Attribute o "extend" apos) (e :: es) [] cpos) (mt3 extR to t):=by
 refine xt4 PySem.F.slot_list_extend PySem.F.type_list_extend za2 (λ p xs v vs H Q μ Q3 m rp rx h k=>?_) ho ha hbase hfew hline hs hplain;cases rp;cases rx with
 | nil=>exact False.elim h
 | cons r1 r2 =>
  cases r2 with
  | cons _ _=>cases r1 <;> exact False.elim h
  | nil =>
   cases r1 with
   | ref q =>
    dsimp only [extR] at h;cases e0:μ p with
    | none=>simp_all
    | some oo =>
     cases oo with
     | ins _ _=>simp_all
     | dct _=>simp_all
     | dcl _=>simp_all
     | lst l =>
      cases e2:μ q with
      | none=>simp_all
      | some o2 =>
       cases o2 with
       | ins _ _=>simp_all
       | dct _=>simp_all
       | dcl _=>simp_all
       | lst l2 =>
        rw [e0,e2] at h;obtain ⟨vs,hv,rs⟩:=m p l e0;obtain ⟨us,hu,ru⟩:=m q l2 e2;exact ⟨p,q,vs,us,rfl,rfl,hv,hu,by rw [<- rs.length,<- ru.length]; exact h.1,k _ _ _ _ h.2 (Kp.wr hv) .non (m.wr hv (rs.append ru))⟩
   | _=>exact False.elim h
end
noncomputable abbrev uc0 (X:Cx) (NN:List Str) (scope:Scope) (cl:List (Str × Addr)) (C:Addr) (fp:List Addr) (s₀:Shared) (H₀:Hp) (pn:List (Addr × Obj)):Cx :=
 { X with N:=NN,s₀:=s₀,H₀:=H₀,env:=compEnvC scope cl C X.env,outer:=X.stack,ex:=fp,fn:=λ _=>false,pn:=pn,xe:=λ _ _=>False }
structure CompSc (X:Cx) (NN:List Str) (scope:Scope) (cl:List (Str × Addr)) (js:List (Option Nat)):Prop where
 clos:closureFor scope X.env=pure cl
 cell:∀ y ∈ scope.names,y.2 ≠ .cell
 kind:scope.kind=.function
 names:∀ y ∈ scope.names,y.2=.local->scope.names.lookup y.1=some .local
 sub:∀ x c,cl.lookup x=some c->X.env.cells.lookup x=some c
 has:∀ x,((relabel scope X.env).names.lookup x=some .cell \/ (relabel scope X.env).names.lookup x=some .free)->∃ c,cl.lookup x=some c
 len:js.length=NN.length
 out:∀ (i j:Nat),js[i]?=some (some j)->∃ x,NN[i]?=some x /\ X.N[j]?=some x /\ Vis X.env.scope x /\ X.env.scope.names.lookup x ≠ some .local /\ ((relabel scope X.env).names.lookup x=some .cell \/ (relabel scope X.env).names.lookup x=some .free)
theorem wi0 {α:Type} {x:Str} {k:α}:∀ {l:List (Str × α)},l.lookup x=some k->(x,k) ∈ l
 | [],h=>by simp at h
 | (n,k') :: r,h=>by
  rw [lookup_cons] at h;split at h
  ·simp_all
  ·exact mem_cons_of_mem _ (wi0 h)
variable {NN:List Str} {scope:Scope}
theorem CompSc.closed (hf:∀ y ∈ scope.names,y.2 ≠ .free) (hc:∀ y ∈ scope.names,y.2 ≠ .cell) (hk:scope.kind=.function) (hn:∀ y ∈ scope.names,y.2=.local->scope.names.lookup y.1=some .local) :
    CompSc X NN scope [] (NN.map λ _=>none) where
 clos:=closureFor_none hf
 cell:=hc
 kind:=hk
 names:=hn
 sub:=λ x c h=>by simp at h
 has:=λ x h=>by
  exfalso
  have e:(relabel scope X.env).names=scope.names:=map_eq_self (l:=scope.names) (λ y hy=>by
   simp [*])
  rw [e] at h;rcases h with h | h
  ·exact hc _ (wi0 h) rfl
  ·exact hf _ (wi0 h) rfl
 len:=by simp
 out:=λ i j h=>by
  simp_all
noncomputable def uu0 (js:List (Option Nat)) (σ:L2.St):L2.St:=js.map λ j=>j.bind λ j=>(σ[j]?).bind id
noncomputable def PTs (X:Cx) (ifs:List Expr) (t:TT):Prop:=∀ (pins:List (Addr × Obj)) (s:Shared) (σ:L2.St) (H:Hp) (Q:Bool->Hp->Prop),Inv X pins σ H s->t σ H Q ->
 wpAny (model X.prog X.w) X.A (forIn ifs true λ c r=>if r=true then do let ok <- isTrue c X.env (eval c X.env); pure (ForInStep.yield ok) else pure (ForInStep.yield r)) (TP X pins σ Q) X.xe s
theorem up3:PTs X [] (λ _ H Q=>Q true H):=λ _ _ _ H _ I h=>wpAny_tests_nil ⟨H,I,h⟩
theorem vp3 {t:TT} (h:PT X c t):PTs X [c] t:=λ pins s σ H Q I q=>wpAny_tests_one (h pins s σ H Q I q)
noncomputable def zv1 (js:List (Option Nat)) (wi:TI) (g:TG) (tc:TT) (te:TE):TE:=λ σ H Q=>wi σ H λ J H1=>∀ p,H1 p=none ->
 ∃ W:Nat->Nat->L2.St->Hp->Prop,(∃ m,W 0 m (uu0 js σ) (upd H1 p (.lst []))) /\ ∀ i m σ' H',W i m σ' H' ->
  ((J.stop i H' /\ Q (.ref p) H') \/ (J.go i H' /\ ∀ x H2,J.yld i H' x H2->g x σ' H2 λ σ3 H3=>tc σ3 H3 λ b H4 =>
   if b=true then te σ3 H4 λ y H5=>∃ ys,H5 p=some (.lst ys) /\ ys.length < sizeLine /\ ∃ m',m' < m /\ W (i + 1) m' σ3 (upd H5 p (.lst (ys ++ [y]))) else ∃ m',m' < m /\ W (i + 1) m' σ3 H4))
variable {cl:List (Str × Addr)} {js:List (Option Nat)} {fp:List Addr} {elt target:Expr} {ifs:List Expr} {wi:TI}
section
theorem sv3 {pn:List (Addr × Obj)} (hc:X.calm=true) (S:CompSc X NN scope cl js) (I:Inv X pins σ H s) (f:∀ b ∈ fp,FpOk X pins H b /\ b < s.heap.objs.size) :
    (uc0 X NN scope cl s.heap.objs.size fp s H pn).Ok where
 mod:=I.ok.mod
 kind:=S.kind
 glob:=I.ok.glob
 blt:=I.ok.blt
 above:=Nat.le_refl _
 inj:=λ x y c h1 h2=>I.ok.inj x y c (S.sub x c h1) (S.sub y c h2)
 has:=λ x h=>S.has x h
 cab:=λ x c h=>by cases h
 hd:=λ _=>I.ok.hd hc
 frames:=I.ok.frames
 stk:=.inl rfl
 exf:=λ b hb=>⟨Nat.ne_of_lt (f b hb).2,λ x c e=>(f b hb).1.2.2.2.2.1 x c (S.sub x c e)⟩
 bs:=I.bs
 bsz:=Nat.le_trans I.ok.bsz I.sz
 noex:=λ b o e hb=>by
  rcases (f b hb).1.2.2.2.1 with z | z
  ·exact I.ok.noex b o e z
  ·exact absurd (Nat.lt_of_lt_of_le (Heap.lt_size e) (Nat.le_trans I.ok.bsz z)) (Nat.lt_irrefl _)
 exfs:=λ b hb hfs=>by
  rcases List.mem_cons.mp (I.stkSub b hfs) with z | z
  ·exact (f b hb).1.2.1 z
  ·exact (f b hb).1.2.2.1 z
 funs:=I.stack
 frf:=I.stkFree
theorem tb2 {i:Nat} (h:(uu0 js σ)[i]?=some (some v)):∃ j,js[i]?=some (some j) /\ σ[j]?=some (some v):=by
 unfold uu0 at h;rw [getElem?_map] at h;cases q:js[i]? with
 | none=>simp_all
 | some o =>
  rw [q] at h;cases o with
  | none=>simp at h
  | some j =>
   refine ⟨j,rfl,?_⟩;simp only [Option.map_some,Option.bind_some,Option.some.injEq] at h;cases e:σ[j]? with
   | none=>simp_all
   | some w=>simp_all
theorem xe2 {h₁:Heap} {m:Str->Option Value} {tk:Nat} (hc:X.calm=true) (S:CompSc X NN scope cl js) (I:Inv X pins σ H s) (f:∀ b ∈ fp,FpOk X pins H b /\ b < s.heap.objs.size)
    (hn:h₁.Ns s.heap.objs.size m) (k:∀ b u,s.heap.get? b=some u->h₁.get? b=some u):Inv (uc0 X NN scope cl s.heap.objs.size fp s H (X.pn ++ pins)) [] (uu0 js σ) H { s with heap:=h₁,toks:=tk } where
 ok:=sv3 hc S I f
 os:=rfl
 bare:=I.bare
 base:=Un.kept k
 loc:=by
  refine ⟨m,hn,λ i x v h1 h2 h3=>?_⟩;obtain ⟨j,e1,e2⟩:=tb2 h2;obtain ⟨y,q1,q2,q3,q4,q5⟩:=S.out i j e1;have q1':NN[i]?=some x:=h1;rw [q1] at q1'; cases q1';obtain ⟨mX,_,hl⟩:=I.loc;obtain ⟨u,r,l⟩:=hl j x v q2 e2 q3;refine ⟨u,r,.inr ⟨q5,?_⟩⟩;rcases l with ⟨z,_⟩ | ⟨_,c,hc',hcell⟩
  ·exact absurd z q4
  ·obtain ⟨c',hc2⟩:=S.has x q5;have e:=S.sub x c' hc2;rw [hc'] at e; cases e;obtain ⟨o,ho,hd⟩:=hcell;exact ⟨c,hc2,o,k _ _ ho,hd⟩
 cell:=λ x c e=>by
  obtain ⟨v,o,ho,hd⟩:=I.cell x c (S.sub x c e);exact ⟨v,o,k _ _ ho,hd⟩
 free:=I.hok.fresh (Nat.le_refl _)
 freeC:=λ x c e=>I.freeC x c (S.sub x c e)
 pin:=λ p hp=>by
  have hp':p ∈ X.pn ++ pins:=by simpa using hp
  obtain ⟨h1,h2,h3,h4,h5⟩:=I.pin p hp';refine ⟨k _ _ h1,h2,Nat.ne_of_lt (Heap.lt_size h1),λ z=>?_,h5⟩;rcases List.mem_cons.mp (I.stkSub _ z) with z | z
  ·exact h3 z
  ·exact h4 z
 hok:=I.hok.kept k
 len:=by show (uu0 js σ).length=NN.length; unfold uu0; rw [length_map]; exact S.len
theorem ye2 {pos:Pos} {g:TG} {tc:TT} {te:TE} (hc:X.calm=true) (S:CompSc X NN scope cl js) (hi:PI X target iter wi)
    (hg:∀ C fp s₀ H₀ pn,PG (uc0 X NN scope cl C fp s₀ H₀ pn) target g) (ht:∀ C fp s₀ H₀ pn,PTs (uc0 X NN scope cl C fp s₀ H₀ pn) ifs tc) (he:∀ C fp s₀ H₀ pn,PE (uc0 X NN scope cl C fp s₀ H₀ pn) elt te)
    (hs:∀ x,foldedSetIterable iter X.env x=pure x) {use:Option (Value->Sem Unit)} {Q':[8]} (I:Inv X pins σ H s) (h:zv1 js wi g tc te σ H Q)
    (hu:∀ (p0 C:Addr) (H':Hp) (s':Shared) (m':Str->Option Value),Inv X pins σ H' s'->s'.heap.Ns C m'->H' C=none->C ≠ X.env.locals->X.s₀.heap.objs.size<=C->(∀ x c,X.env.cells.lookup x=some c->c ≠ C)->(∀ p ∈ X.pn ++ pins,p.1 ≠ C)->Q (.ref p0) H' ->
     compPost (model X.prog X.w) X.A X.xe use Q' (.ref p0) C (.ok .next) s') :
    wpAny (model X.prog X.w) X.A (comprehension (.ListComp elt [⟨target,iter,ifs,0⟩] scope pos) scope X.env (firstIterPos [⟨target,iter,ifs,0⟩] pos) (newList []) (firstAsync [⟨target,iter,ifs,0⟩]) (firstIter [⟨target,iter,ifs,0⟩] X.env) use) Q' X.xe s:=by
 refine wpAny_comprehension_free (use:=use) rfl hs S.clos S.kind S.names (thn (hi pins s σ H _ I h) λ xv s1 h1=>thn h1 λ itv s2 h2=>?_);obtain ⟨it,fp,tn,J,H2,rfl,I2,T,st2,f2,hW⟩:=h2;refine wpAny_newObj_type (wpAny_newFunctionEnv S.cell (by simp) (λ h₁ hns₁ hsb₁=>?_) S.kind);dsimp only at hns₁ hsb₁ ⊢;have hD:H2 s2.heap.objs.size=none:=I2.hok.fresh (Nat.le_refl _)
 have I3:Inv X pins σ (upd H2 s2.heap.objs.size (.lst [])) { s2 with heap:=s2.heap.push { cls:=.type "list",dict:=none,data:=.seq ([]:List Value).toArray } } :=
  I2.lnew (t':=s2.toks) (its:=[]) .nil (by trivial)
 generalize hsD:({ s2 with heap:=s2.heap.push { cls:=.type "list",dict:=none,data:=.seq ([]:List Value).toArray } }:Shared)=sD at I3;have eh:sD.heap=s2.heap.push { cls:=.type "list",dict:=none,data:=.seq ([]:List Value).toArray }:=by rw [<- hsD]
 have es:∀ (h:Heap) (tk:Nat),({ s2 with heap:=h,toks:=tk }:Shared)={ sD with heap:=h,toks:=tk }:=λ h tk=>by rw [<- hsD]
 have hsz:s2.heap.objs.size < sD.heap.objs.size:=by simp_all
 rw [<- eh] at hns₁ hsb₁ ⊢;generalize hp0:s2.heap.objs.size=p0 at *;have up:∀ b u,s2.heap.get? b=some u->sD.heap.get? b=some u:=λ b u e=>by rw [eh]; exact Heap.get?_push_of_some _ e
 have k:∀ b u,sD.heap.get? b=some u->h₁.get? b=some u:=λ b u e=>hsb₁.extBut b u (Nat.ne_of_lt (Heap.lt_size e)) (Heap.get?_push_of_some _ e)
 have f3:∀ b ∈ fp,FpOk X pins (upd H2 p0 (.lst [])) b /\ b < sD.heap.objs.size:=λ b hb=>by
  obtain ⟨o,ho,_⟩:=T.obj 0 _ st2 b hb;have hlt:b < p0:=by rw [<- hp0]; exact Heap.lt_size ho
  refine ⟨⟨?_,(f2 b hb).2⟩,Nat.lt_trans hlt hsz⟩;rw [zc0 (Nat.ne_of_lt hlt)]; exact (f2 b hb).1
 obtain ⟨W,⟨m0,w0⟩,turn⟩:=hW p0 hD;have I4:=xe2 (tk:=s2.toks + ([]:List (Str × Value)).length) hc S I3 f3 hns₁ k;have st4:tn 0 h₁:=T.keep 0 _ _ st2 λ b _ o e=>k b o (up b o e);rw [es];generalize hX':uc0 X NN scope cl sD.heap.objs.size fp sD (upd H2 p0 (.lst [])) (X.pn ++ pins)=X' at I4;have a1:X'.env=compEnvC scope cl sD.heap.objs.size X.env:=by rw [<- hX']
 have a2:X'.prog=X.prog:=by rw [<- hX']
 have a3:X'.w=X.w:=by rw [<- hX']
 have a4:X'.A=X.A:=by rw [<- hX']
 have a5:X'.K=X.K:=by rw [<- hX']
 have a6:X'.calm=true:=by rw [<- hX']; exact hc
 have a7:X'.xe=λ _ _=>False:=by rw [<- hX']
 have a8:X'.ex=fp:=by rw [<- hX']
 have T':Turn X'.prog X'.w X'.K target J fp it tn:=by simp_all
 have hg':PG X' target g:=by rw [<- hX']; exact hg _ _ _ _ _
 have ht':PTs X' ifs tc:=by rw [<- hX']; exact ht _ _ _ _ _
 have he':PE X' elt te:=by rw [<- hX']; exact he _ _ _ _ _
 have fin:∀ {σ':L2.St} {H':Hp} {s':Shared},Inv X' [] σ' H' s'->Q (.ref p0) H'->compPost (model X.prog X.w) X.A X.xe use Q' (.ref p0) sD.heap.objs.size (.ok .next) s':=λ {σ' H' s'} I' q=>by
  obtain ⟨m',hn',_⟩:=I'.loc;rw [a1] at hn'
  have u:Un (frs X.stack) fp (upd H2 p0 (.lst [])) H' sD.heap s'.heap:=by
   have:=I'.base;rw [<- hX'] at this;exact this
  have hch:∀ b ∈ fp,(b ∈ X.ex \/ X.s₀.heap.objs.size<=b) /\ b ≠ X.env.locals /\ (∀ x c,X.env.cells.lookup x=some c->c ≠ b) /\ ∀ p ∈ X.pn ++ pins,p.1 ≠ b:=λ b hb=>by
   obtain ⟨_,z1,_,z3,z4,z5⟩:=(f3 b hb).1;trivial
  have os':s'.os=sD.os:=by
   have:=I'.os;rw [<- hX'] at this;exact this
  have hok':HOk X.prog X.w H' s'.heap:=by
   have:=I'.hok
   simp_all
  have I5:Inv X pins σ H' s':=I3.call' os' u hok' I'.bare hch
  have hC:H' sD.heap.objs.size=none:=by
   have:=I'.free;rw [a1] at this;exact this
  refine hu p0 _ H' s' m' I5 hn' hC (Nat.ne_of_gt I3.lt) I3.sz (λ x c e=>?_) (λ p hp=>?_) q
  ·obtain ⟨v,o,ho,_⟩:=I3.cell x c e;exact Nat.ne_of_lt (Heap.lt_size ho)
  ·exact Nat.ne_of_lt (Heap.lt_size (I3.pin p hp).1)
 have fp4:∀ {H':Hp},(∀ b ∈ fp,H' b=none)->∀ b ∈ fp,FpOk X' [] H' b:=λ hn b hb=>by
  obtain ⟨_,z1,z2,z3,z4,z5⟩:=(f3 b hb).1;rw [<- hX'];refine ⟨hn b hb,Nat.ne_of_lt (f3 b hb).2,λ z=>?_,.inl hb,λ x c e=>z4 x c (S.sub x c e),λ p hp=>z5 p (by simpa using hp)⟩;rcases List.mem_cons.mp (I3.stkSub _ z) with z | z
  ·exact z1 z
  ·exact z2 z
 have loop:∀ s₃:Shared,Inv X' [] (uu0 js σ) (upd H2 p0 (.lst [])) s₃->tn 0 s₃.heap ->
     codeAny (model X.prog X.w) X.A (.compLoop (.ListComp elt [⟨target,iter,ifs,0⟩] scope pos) 0 (.ref it) (.ref p0) (compEnvC scope cl sD.heap.objs.size X.env)) (compPost (model X.prog X.w) X.A X.xe use Q' (.ref p0) sD.heap.objs.size) s₃:=by
  intro s₃ I₃ st₃;refine codeAny_loop rfl (λ n s'=>∃ i σ' H',Inv X' [] σ' H' s' /\ tn i s'.heap /\ (∀ b ∈ fp,H' b=none) /\ W i n σ' H') (λ n s' hI=>?_) m0 ⟨0,uu0 js σ,_,I₃,st₃,λ b hb=>(f3 b hb).1.1,w0⟩;obtain ⟨i,σ3,H3,J3,st3,fr3,w3⟩:=hI;have tr:=turn i n σ3 H3 w3;show wpAny _ X.A ((compTurn (.ListComp elt [⟨target,iter,ifs,0⟩] scope pos) 0 (.ref it) (.ref p0) (compEnvC scope cl sD.heap.objs.size X.env)).onRaise (λ x=>do noteFrame x (compEnvC scope cl sD.heap.objs.size X.env); theTreesLotGoes x)) _ _ s';refine wpAny_noted ?_;rw [compTurn_list,<- a1,<- a2,<- a3,<- a4];have nof:∀ {α:Type} {t:Sem α} {Q':α->Shared->Prop} {s'':Shared} {E:[8]},wpAny (model X'.prog X'.w) X'.A t Q' X'.xe s''->wpAny (model X'.prog X'.w) X'.A t Q' E s'':=λ h=>wpAny_mono h (λ _ _ q=>q) λ _ _ z=>by simp_all
  rcases tr with ⟨stop,qn⟩ | ⟨go,step⟩
  ·refine wpAny_bind (wpAny_standAt (wpAny_bind (nof (thn (T'.done X' rfl rfl rfl a6 i [] s' σ3 H3 X'.xe J3 (fp4 fr3) st3 stop) λ r s4 ⟨hr,J4⟩=>?_))));subst hr;refine wpAny_pure ?_;show compPost (model X'.prog X'.w) X'.A X.xe use Q' (.ref p0) sD.heap.objs.size (.ok .next) s4;rw [a2,a3,a4];exact fin J4 qn
  ·refine wpAny_bind (wpAny_standAt (wpAny_bind (nof (thn (T'.item X' rfl rfl rfl a6 i [] s' σ3 H3 X'.xe J3 (fp4 fr3) st3 go) λ r s4 ⟨u,hr,h4⟩=>?_))));subst hr;refine wpAny_bind (nof (thn h4 λ _ s5 ⟨x,H5,I5,r5,y5,st5,fr5⟩=>?_));have I5':=I5.pinned (fp4 fr5) (T.obj _ _ st5);refine wpAny_bind (nof (thn (hg' _ s5 σ3 H5 x u _ I5' r5 (step x H5 y5)) λ _ s6 ⟨σ6,H6,I6,q6⟩=>?_));refine wpAny_bind (nof (thn (ht' _ s6 σ6 H6 _ I6 q6) λ ok s7 ⟨H7,I7,q7⟩=>?_))
   have again:∀ {s8:Shared} {σ8:L2.St} {H8:Hp},Inv X' ([] ++ zf1 fp s5.heap) σ8 H8 s8->(∃ m',m' < n /\ W (i + 1) m' σ8 H8)->∃ m,m < n /\ ∃ i σ' H',Inv X' [] σ' H' s8 /\ tn i s8.heap /\ (∀ b ∈ fp,H' b=none) /\ W i m σ' H':=λ {s8 σ8 H8} I8 ⟨m',hm,w8⟩=>by
    refine ⟨m',hm,i + 1,σ8,H8,I8.unpinned,T.keep _ _ _ st5 λ b hb o e=>(I8.pin (b,o) (mem_append_right _ (mem_append_right _ (xl0 hb e)))).1,λ b hb=>?_,w8⟩;obtain ⟨o,e,d⟩:=T.obj _ _ st5 b hb;exact (I8.pin (b,o) (mem_append_right _ (mem_append_right _ (xl0 hb e)))).2.1
   cases ok with
   | false=>exact wpAny_pure ⟨rfl,again I7 q7⟩
   | true =>
    refine wpAny_bind (wpAny_bind (nof (thn (he' _ s7 σ6 H7 _ I7 q7) λ xv s8 ⟨y,H8,I8,r8,ys,q8,hlen,q9⟩=>wpAny_bind (nof ?_))));refine thn (uf1 (X:=X') _ s8 σ6 H8 (.ref p0) [y] (.ref p0) [xv] (λ v H9=>v=.non /\ H9=upd H8 p0 (.lst (ys ++ [y]))) I8 rfl (.cons r8 .nil) ⟨p0,ys,y,rfl,rfl,q8,hlen,rfl,rfl⟩) λ rv s9 ⟨v9,H9,I9,_,_,e9⟩=>?_;subst e9;exact wpAny_pure (wpAny_pure ⟨rfl,again I9 q9⟩)
 exact codeAny_compStart_list (loop _ I4 st4) (T.self X.A 0 _ _ _ st4 (loop _ I4 st4))
theorem zr3 {pos:Pos} {g:TG} {tc:TT} {te:TE} (hc:X.calm=true) (S:CompSc X NN scope cl js) (hi:PI X target iter wi)
    (hg:∀ C fp s₀ H₀ pn,PG (uc0 X NN scope cl C fp s₀ H₀ pn) target g) (ht:∀ C fp s₀ H₀ pn,PTs (uc0 X NN scope cl C fp s₀ H₀ pn) ifs tc) (he:∀ C fp s₀ H₀ pn,PE (uc0 X NN scope cl C fp s₀ H₀ pn) elt te)
    (hs:∀ x,foldedSetIterable iter X.env x=pure x):PE X (.ListComp elt [⟨target,iter,ifs,0⟩] scope pos) (zv1 js wi g tc te):=by
 intro pins s σ H Q I h;rw [eval_ListComp];refine ye2 (use:=none) (Q':=EP X pins σ Q) hc S hi hg ht he hs I h λ p0 C H' s' m' I5 hn hC n1 n2 n3 n4 q=>⟨m',hn,λ h' sb=>?_⟩;exact ⟨.ref p0,H',I5.turned (t':=s'.toks) (it:=C) (λ b o hb e=>sb.extBut b o hb e) hC n1 (.inr n2) n3 n4,rfl,q⟩
end
theorem bz_len:bootBuiltins "len" = some (.builtin "len"):=by decide +kernel
theorem bz_abs:bootBuiltins "abs" = some (.builtin "abs"):=by decide +kernel
theorem uc1:bootBuiltins "isinstance" = some (.builtin "isinstance"):=by decide +kernel
theorem bz_sum:bootBuiltins "sum" = some (.builtin "sum"):=by decide +kernel
theorem yr1:bootBuiltins "tuple" = some (.type "tuple"):=by decide +kernel
theorem tf3:bootBuiltins "int" = some (.type "int"):=by decide +kernel
theorem yw3:bootBuiltins "list" = some (.type "list"):=by decide +kernel
theorem bz_set:bootBuiltins "set" = some (.type "set"):=by decide +kernel
theorem bz_min:bootBuiltins "min" = some (.builtin "min"):=by decide +kernel
theorem bz_max:bootBuiltins "max" = some (.builtin "max"):=by decide +kernel
theorem zf2:bootBuiltins "sorted" = some (.builtin "sorted"):=by decide +kernel
theorem ux2:bootBuiltins "range" = some (.type "range"):=by decide +kernel
noncomputable def RTs (X:Cx) (ifs:List Expr) (t:TT3):Prop:=∃ tv,PTs X ifs tv /\ RdT X.K tv t
theorem tm3:RTs X [] tt3:=⟨_,up3,λ σ H Q ρ μ Q3 s m h k=>k _ _ _ h (Kp.refl _) m⟩
theorem um3 {t:TT3} (h:RT X c t):RTs X [c] t:=let ⟨tv,p,r⟩:=h; ⟨tv,vp3 p,r⟩
theorem yv2 {ρ:St3} (s:RSt K H ρ σ) (js:List (Option Nat)):RSt K H (js.map λ j=>j.bind (getI ρ)) (uu0 js σ):=by
 refine ⟨by simp [uu0],λ i d e=>?_⟩;rw [wk1,getElem?_map] at e;unfold uu0;rw [getElem?_map];cases q:js[i]? with
 | none=>simp_all
 | some o =>
  rw [q] at e;cases o with
  | none=>simp at e
  | some j =>
   have e':getI ρ j=some d:=by simpa using e
   obtain ⟨v,h1,h2⟩:=s.at' j d e'
   simp_all
theorem RdE.comp {g:TG} {tc:TT} {te:TE} {g3:TG3} {tc3:TT3} {te3:TE3} (ri:RdI K wi ti) (rg:RdG K g g3) (rt:RdT K tc tc3) (re:RdE K te te3):RdE K (zv1 js wi g tc te) (wm0 js ti g3 tc3 te3):=by
 intro σ H Q ρ μ Q3 s m h k;refine ri σ H _ ρ μ _ s m h λ l S μ1 J H1 h1 k1 m1 ok p hp=>?_;obtain ⟨W,w0,hS,hn,hs⟩:=h1 p (m1.free hp);have kn:Kp H1 (upd H1 p (.lst [])):=Kp.new hp;refine ⟨λ i n σ2 H2=>n=l.length - i /\ i<=l.length /\ ∃ ρ2 μ2 ys,RSt K H2 ρ2 σ2 /\ RelM K μ2 H2 /\ Kp H1 H2 /\ W (l.drop i) ys ρ2 μ2,⟨l.length,rfl,Nat.zero_le _,_,_,[],(yv2 (s.mono k1) js).mono kn,m1.newL hp .nil,kn,w0⟩,?_⟩;rintro i n σ2 H2 ⟨rfl,hi,ρ2,μ2,ys,s2,m2,k2,w2⟩;obtain ⟨hS2,hp2⟩:=hS _ _ _ _ w2;by_cases hlt:i < l.length
 ·rw [List.drop_eq_getElem_cons hlt] at w2;obtain ⟨hz,h2⟩:=hs _ _ _ _ _ w2;obtain ⟨ok1,_⟩:=ok i H2 μ2 k2 m2 hS2;obtain ⟨go,yl⟩:=ok1 l[i] (getElem?_eq_getElem hlt);refine .inr ⟨go,λ x H3 y=>?_⟩;obtain ⟨k3,m3,r3⟩:=yl x H3 y;refine rg x l[i] σ2 H3 _ ρ2 μ2 _ (s2.mono k3) m3 r3 h2 λ ρ4 μ4 σ4 H4 h4 k4 s4 m4=>?_;refine rt σ4 H4 _ ρ4 μ4 _ s4 m4 h4 λ b μ5 H5 h5 k5 m5=>?_;have k15:Kp H1 H5:=k2.trans (k3.trans (k4.trans k5));cases b with
  | false=>exact ⟨l.length - (i + 1),by omega,rfl,hlt,ρ4,μ5,ys,s4.mono k5,m5,k15,h5⟩
  | true =>
   refine re σ4 H5 _ ρ4 μ5 _ (s4.mono k5) m5 h5 λ d μ6 v H6 h6 k6 r6 m6=>?_;obtain ⟨vs,hv,rv⟩:=m6 p ys h6.1;refine ⟨vs,hv,by rw [<- rv.length]; exact hz,l.length - (i + 1),by omega,rfl,hlt,ρ4,_,_,((s4.mono k5).mono k6).mono (Kp.wr hv),m6.wr hv (rv.append (.cons r6 .nil)),(k15.trans k6).trans (Kp.wr hv),h6.2⟩
 ·have e:i=l.length:=by omega
  subst e;rw [List.drop_length] at w2;exact .inl ⟨(ok _ H2 μ2 k2 m2 hS2).2 (Nat.le_refl _),k _ _ _ _ (hn _ _ _ w2) (k1.trans k2) (.ref p) m2⟩
section
variable {pos:Pos} {g:TG3} {tc:TT3} 
theorem tn1 (hc:X.calm=true) (S:CompSc X NN scope cl js) (hi:RI X target iter ti) (hg:∀ C fp s₀ H₀ pn,RG (uc0 X NN scope cl C fp s₀ H₀ pn) target g)
    (ht:∀ C fp s₀ H₀ pn,RTs (uc0 X NN scope cl C fp s₀ H₀ pn) ifs tc) (he:∀ C fp s₀ H₀ pn,RE (uc0 X NN scope cl C fp s₀ H₀ pn) elt te)
    (hs:∀ x,foldedSetIterable iter X.env x=pure x):RE X (.ListComp elt [⟨target,iter,ifs,0⟩] scope pos) (wm0 js ti g tc te):=by
 obtain ⟨wi,pi,ri⟩:=hi
 let gU:TG:=λ v σ H Q=>∀ (r:TG3),r=g->∃ d ρ μ Q3,RSt X.K H ρ σ /\ RelM X.K μ H /\ RelD X.K H d v /\ g d ρ μ Q3 /\ (∀ ρ' μ' σ' H',Q3 ρ' μ'->Kp H H'->RSt X.K H' ρ' σ'->RelM X.K μ' H'->Q σ' H')
 let tU:TT:=λ σ H Q=>∃ ρ μ Q3,RSt X.K H ρ σ /\ RelM X.K μ H /\ tc ρ μ Q3 /\ (∀ b μ' H',Q3 b μ'->Kp H H'->RelM X.K μ' H'->Q b H')
 let eU:TE:=λ σ H Q=>∃ ρ μ Q3,RSt X.K H ρ σ /\ RelM X.K μ H /\ te ρ μ Q3 /\ Ks X.K H Q3 Q
 have hg':∀ C fp s₀ H₀ pn,PG (uc0 X NN scope cl C fp s₀ H₀ pn) target gU:=λ C fp s₀ H₀ pn=>by
  obtain ⟨tv,p,r⟩:=hg C fp s₀ H₀ pn;intro pins s σ H v u Q I rv h;obtain ⟨d,ρ,μ,Q3,a1,a2,a3,a4,a5⟩:=h g rfl;exact p pins s σ H v u Q I rv (r v d σ H Q ρ μ Q3 a1 a2 a3 a4 a5)
 have ht':∀ C fp s₀ H₀ pn,PTs (uc0 X NN scope cl C fp s₀ H₀ pn) ifs tU:=λ C fp s₀ H₀ pn=>by
  obtain ⟨tv,p,r⟩:=ht C fp s₀ H₀ pn;intro pins s σ H Q I h;obtain ⟨ρ,μ,Q3,a1,a2,a3,a4⟩:=h;exact p pins s σ H Q I (r σ H Q ρ μ Q3 a1 a2 a3 a4)
 have he':∀ C fp s₀ H₀ pn,PE (uc0 X NN scope cl C fp s₀ H₀ pn) elt eU:=λ C fp s₀ H₀ pn=>by
  obtain ⟨tv,p,r⟩:=he C fp s₀ H₀ pn;intro pins s σ H Q I h;obtain ⟨ρ,μ,Q3,a1,a2,a3,a4⟩:=h;exact p pins s σ H Q I (r σ H Q ρ μ Q3 a1 a2 a3 a4)
 exact ⟨_,zr3 hc S pi hg' ht' he' hs,RdE.comp ri (λ v d σ H Q ρ μ Q3 a1 a2 a3 a4 a5 _ _=>⟨d,ρ,μ,Q3,a1,a2,a3,a4,a5⟩) (λ σ H Q ρ μ Q3 a1 a2 a3 a4=>⟨ρ,μ,Q3,a1,a2,a3,a4⟩) (λ σ H Q ρ μ Q3 a1 a2 a3 a4=>⟨ρ,μ,Q3,a1,a2,a3,a4⟩)⟩
theorem zo3 (hf:∀ y ∈ scope.names,y.2 ≠ .free) (hcl:∀ y ∈ scope.names,y.2 ≠ .cell) (hn:∀ y ∈ scope.names,y.2=.local->scope.names.lookup y.1=some .local) (hi:RI X target iter ti) (hg:∀ C fp s₀ H₀ pn,RG (uc0 X NN scope [] C fp s₀ H₀ pn) target g)
    (ht:∀ C fp s₀ H₀ pn,RTs (uc0 X NN scope [] C fp s₀ H₀ pn) ifs tc) (he:∀ C fp s₀ H₀ pn,RE (uc0 X NN scope [] C fp s₀ H₀ pn) elt te) (hc:X.calm=true:=by rfl) (hk:scope.kind=.function:=by rfl)
    (hs:∀ x,foldedSetIterable iter X.env x=pure x:=by intro _; rfl):RE X (.ListComp elt [⟨target,iter,ifs,0⟩] scope pos) (wm0 (NN.map λ _=>none) ti g tc te) :=
 tn1 hc (CompSc.closed hf hcl hk hn) hi hg ht he hs
end
mutual
inductive TupK (K:Fg):List D->Addr->Prop where
 | mk {a:Addr} {l:List D} {its:Array Value} {n:Nat} {od:Option Addr} {sl:Array (Option Value)}:K.lookup a=some ⟨.type "tuple",od,.seq its n,sl⟩->its.size<=sizeLine->ItK K l its.toList->TupK K l a
inductive ItK (K:Fg):List D->List Value->Prop where
 | nil:ItK K [] []
 | int {i:Int} {t:Tok} {l:List D} {us:List Value}:ItK K l us->ItK K (.int i :: l) (.int i t :: us)
 | str {x:Str} {t:Tok} {l:List D} {us:List Value}:ItK K l us->ItK K (.str x :: l) (.str x t :: us)
 | bl {b:Bool} {l:List D} {us:List Value}:ItK K l us->ItK K (.bl b :: l) (.bool b :: us)
 | tup {a:Addr} {l' l:List D} {us:List Value}:TupK K l' a->ItK K l us->ItK K (.ktp l' :: l) (.ref a :: us)
end
mutual
theorem TupK.rel {K:Fg}:∀ {l:List D} {a:Addr},TupK K l a->∀ H,RelD K H (.ktp l) (.ref a)
 | _,_,.mk h1 h2 h3,H=>by
  obtain ⟨vs,r,rd⟩:=h3.rel;exact .ktp (.inr ⟨_,_,_,h1,rfl,rfl,h2,r⟩) (rd H)
theorem ItK.rel {K:Fg}:∀ {l:List D} {us:List Value},ItK K l us->∃ vs,Vals vs us /\ ∀ H,RelDs K H l vs
 | _,_,.nil=>⟨[],.nil,λ _=>.nil⟩
 | _,_,.int h=>let ⟨vs,r,rd⟩:=h.rel; ⟨_,.cons (show RelV (.int _) _ from ⟨_,rfl⟩) r,λ H=>.cons (.int _) (rd H)⟩
 | _,_,.str h=>let ⟨vs,r,rd⟩:=h.rel; ⟨_,.cons (show RelV (.str _) _ from ⟨_,rfl⟩) r,λ H=>.cons (.str _) (rd H)⟩
 | _,_,.bl h=>let ⟨vs,r,rd⟩:=h.rel; ⟨_,.cons (show RelV (.bl _) _ from rfl) r,λ H=>.cons (.bl _) (rd H)⟩
 | _,_,.tup h0 h=>let ⟨vs,r,rd⟩:=h.rel; ⟨_,.cons (show RelV (.ref _) _ from rfl) r,λ H=>.cons (h0.rel H) (rd H)⟩
end
section
variable {h:Heap} 
theorem xq1 {t:Tok} (X:K.In h) (G:h.Ns mainGlobals mg) (e:nsIn K mainGlobals x=some (some (.int i t))):Gd K mg x (.int i):=⟨_,.int i,mg_of X G e,⟨_,rfl⟩,λ _=>.int i⟩
theorem zg1 {a:Addr} {l:List D} (X:K.In h) (G:h.Ns mainGlobals mg) (e:nsIn K mainGlobals x=some (some (.ref a))) (r:TupK K l a):Gd K mg x (.ktp l):=⟨_,.ref a,mg_of X G e,rfl,λ H=>r.rel H⟩
end
theorem yg1 {K:Fg} {H:Hp}:∀ ns:List Int,RelDs K H (ns.map D.int) (ns.map V.int)
 | []=>.nil
 | n :: r=>.cons (.int n) (yg1 r)
theorem zu2 {a:Addr} {ns:List Int} (hO:Only H) (hS:SqL K H a (ns.map V.int)) (h:sp [.fls (ns.map D.int)] (λ _=>none) (λ d _=>d=.bl true)) :
    lift K sp [.ref a] H (λ v _=>v=.bl true) λ _ _ _=>False:=by
 have hF:SqF K H a (ns.map V.int):=by
  rcases hS with (h1 | ⟨o,h1⟩) | h1
  ·rcases hO a with z | ⟨o,xs,z⟩
   ·simp_all
   simp_all
  ·exact .inl ⟨o,h1⟩
  ·exact .inr h1
 refine ⟨_,_,_,.cons (.fls hF (yg1 ns)) .nil,(⟨λ p xs e=>(by cases e),λ p c fs e=>(by cases e),λ p kvs e=>(by cases e),λ p kvs e=>(by cases e)⟩),h,λ d μ' v H' q _ r _=>?_⟩;subst q;cases r;rfl
open PySem.AutoSeq1 (wpAny_loadPart')
theorem ui1 (l:Addr) (items:Array Value) (n:Nat) (dd:Option Addr) (sl:Array (Option Value)) (x:Int) (u:Tok) (hc0:(decide (x < -(2 ^ 63)) || decide (x ≥ 2 ^ 63))=false) (hc1:(items.isEmpty || x == 1)=true) :
    Meets (Builtin.«tuple.__mul__» ⟨[.ref l,.int x u],[]⟩) (λ _ R s=>s.heap.get? l=some { cls:=.type "tuple",dict:=dd,data:=.seq items n,slots:=sl } /\ R (.ok (.ret (.ref l))) s) :=
 .of_wp λ prog w A R s h=>by
  obtain ⟨hp,g,d,tk,os⟩:=s; obtain ⟨hl,h⟩:=h;have f1:=AutoSeq1.idx_int;have f2:=AutoSeq1.sub_tuple_tuple
  wp_walk using wpAny_loadPart' hl
  refine wpAny_ite_false (decide_eq_false (by simp_all)) ?_
  wp_walk using wpAny_loadPart' hl
  simp_all
theorem vi1 (l:Addr) (items:Array Value) (n:Nat) (dd:Option Addr) (sl:Array (Option Value)) (x:Int) (u:Tok) (hc0:(decide (x < -(2 ^ 63)) || decide (x ≥ 2 ^ 63))=false) (hc1:(items.isEmpty || x == 1)=false) (hc2:(decide (x<=0) || items.isEmpty)=true) :
    Meets (Builtin.«tuple.__mul__» ⟨[.ref l,.int x u],[]⟩) (λ _ R s=>s.heap.get? l=some { cls:=.type "tuple",dict:=dd,data:=.seq items n,slots:=sl } /\ R (.ok (.ret (.ref s.heap.objs.size))) { s with heap:=s.heap.push { cls:=.type "tuple",data:=.seq #[] } }) :=
 .of_wp λ prog w A R s h=>by
  obtain ⟨hp,g,d,tk,os⟩:=s; obtain ⟨hl,h⟩:=h;have f1:=AutoSeq1.idx_int;have f2:=AutoSeq1.sub_tuple_tuple
  wp_walk using wpAny_loadPart' hl
  refine wpAny_ite_false (decide_eq_false (by simp_all)) ?_
  wp_walk using wpAny_loadPart' hl
  simp_all
theorem wi1 (l:Addr) (items:Array Value) (n:Nat) (dd:Option Addr) (sl:Array (Option Value)) (x:Int) (u:Tok) (hc0:(decide (x < -(2 ^ 63)) || decide (x ≥ 2 ^ 63))=false) (hc1:(items.isEmpty || x == 1)=false) (hc2:(decide (x<=0) || items.isEmpty)=false)
    (hc3:¬ ((items.size:Int) * x > (2 ^ 63 - 1) / 8)) (hc4:Builtin.Tuple.tupleTooMany ((items.size:Int) * x)=false) (hz:((List.replicate x.toNat items).foldl (· ++ ·) #[]).size<=sizeLine) :
    Meets (Builtin.«tuple.__mul__» ⟨[.ref l,.int x u],[]⟩) (λ _ R s=>s.heap.get? l=some { cls:=.type "tuple",dict:=dd,data:=.seq items n,slots:=sl } /\ R (.ok (.ret (.ref s.heap.objs.size))) { s with heap:=s.heap.push { cls:=.type "tuple",data:=.seq ((List.replicate x.toNat items).foldl (· ++ ·) #[]) } }) :=
 .of_wp λ prog w A R s h=>by
  obtain ⟨hp,g,d,tk,os⟩:=s; obtain ⟨hl,h⟩:=h;have f1:=AutoSeq1.idx_int;have f2:=AutoSeq1.sub_tuple_tuple
  wp_walk using wpAny_loadPart' hl
  refine wpAny_ite_false (decide_eq_false (by simp_all)) ?_
  wp_walk using wpAny_loadPart' hl
  refine wpAny_ite_false (decide_eq_false hc3) ?_
  wp_walk using wpAny_loadPart' hl
  simp_all
theorem xu0:fillsNumberSlot (.type "tuple") "mul" = pure false :=
 PySem.fillsNumberSlot_seq (id := "tuple.__mul__") (r:=some (.builtin "tuple.__rmul__")) F.slot_tuple_mul.lookup (by decide +kernel) F.slot_tuple_rmul.lookup (by decide +kernel)
theorem tt0:seqRepeat? (.type "tuple")=pure (some (.builtin "tuple.__mul__")):=by
 rfl
theorem tw0 (a:Int) (t:Tok) (l:Addr) (its:Array Value) (n:Nat) (dd:Option Addr) (sl:Array (Option Value)) :
    Meets (Builtin.«int.__rmul__» ⟨[.int a t,.ref l],[]⟩) (λ _ R s=>s.heap.get? l=some ⟨.type "tuple",dd,.seq its n,sl⟩ /\ R (.ok (.ret .notImplemented)) s) :=
 .of_wp λ prog w A R s h=>by
  obtain ⟨hp,g,d,tk,os⟩:=s;obtain ⟨hl,h⟩:=h
  wp_walk using wpAny_loadPart' hl
  simp_all
section
noncomputable def rRepT (K:Fg):R2:=λ x y H Q=>∃ a k xs,x=.ref a /\ y=.int k /\ SqT K H a xs /\ -(2 ^ 62)<=k /\ k < 2 ^ 62 /\ xs.length * k.toNat<=1000000 /\ (xs=[] \/ k=1->Q (.ref a) H) /\ ∀ p,H p=none->Q (.ref p) (upd H p (.tup (List.replicate k.toNat xs).flatten))
theorem op_repT:OpR X (binaryOp .Mult) (rRepT X.K):=by
 intro pins s σ H x y v u Q I rx ry h;obtain ⟨a,k,xs,rfl,rfl,hq,h1,h2,hz,q1,q2⟩:=h;cases rx;obtain ⟨t,rfl⟩:=ry;obtain ⟨its,r,⟨⟨cls,dd,data,sl⟩,ho,hc,n,hd⟩,hl⟩:=I.tuple hq;simp only at hc hd;subst hc hd;have hlen:its.length=xs.length:=r.length.symm
 have c0:(decide (k < -(2 ^ 63)) || decide (k ≥ 2 ^ 63))=false:=by
  simp_all;omega
 refine wpAny_binaryOp_repeat_ref (T := "tuple") (U := "int") (by decide) ⟨_,ho,rfl⟩ (λ s'=>typeIs_int s' k t) xu0 F.fills_int_mul F.slot_int_rmul tt0 F.slot_int_index.lookup
  (call_meets F.slot_int_rmul (typeIs_int s k t) F.entry_int_rmul (F.args_int_rmul_2 _ _) (tw0 k t a its.toArray n dd sl) ⟨ho,rfl,⟨_,ho,rfl⟩,?_⟩)
 by_cases e1:xs=[] \/ k=1
 ·refine call_meets F.slot_tuple_mul ⟨_,ho,rfl⟩ F.entry_tuple_mul (F.args_tuple_mul_2 _ _) (ui1 a its.toArray n dd sl k t c0 ?_) ⟨ho,⟨.ref a,H,I,rfl,q1 e1⟩⟩;rcases e1 with e1 | e1
  ·simp_all
  ·subst e1; simp
 ·have hne:its ≠ []:=λ z=>e1 (.inl (by subst z; cases r; rfl));have hk1:k ≠ 1:=λ z=>e1 (.inr z);have c1:(its.toArray.isEmpty || k == 1)=false:=by simp [hne,hk1]
  have hf:H s.heap.objs.size=none:=I.hok.fresh (Nat.le_refl _);by_cases e2:k<=0
  ·have hk0:k.toNat=0:=by omega
   refine call_meets F.slot_tuple_mul ⟨_,ho,rfl⟩ F.entry_tuple_mul (F.args_tuple_mul_2 _ _) (vi1 a its.toArray n dd sl k t c0 c1 (by simp [e2])) ⟨ho,?_⟩;refine ⟨.ref _,upd H s.heap.objs.size (.tup []),I.laid (t':=s.toks) (λ b ob q=>Heap.get?_push_of_some _ q) (Nat.le_refl _) ⟨by trivial,[],.nil,IsTup.new _ _⟩,rfl,?_⟩
   simp_all
  ·have fr:List.foldl (· ++ ·) #[] (List.replicate k.toNat its.toArray)=(List.replicate k.toNat its).flatten.toArray:=by
     have:=su0 its k.toNat [];assumption
   have hb:(1000000:Nat)<=sizeLine:=by trivial
   have hm:(its.toArray.size:Int) * k<=1000000:=by
    rw [size_toArray,hlen];have:((xs.length * k.toNat:Nat):Int)<=1000000:=by omega
    rw [Int.natCast_mul,Int.toNat_of_nonneg [2]] at this;exact this
   have hsz:(List.replicate k.toNat its).flatten.length<=sizeLine:=by rw [xb2,Nat.mul_comm,hlen]; omega
   refine call_meets F.slot_tuple_mul ⟨_,ho,rfl⟩ F.entry_tuple_mul (F.args_tuple_mul_2 _ _) (wi1 a its.toArray n dd sl k t c0 c1 (by simp [hne]; omega) [2] ?_ (by simp_all)) ⟨ho,?_⟩
   ·unfold Builtin.Tuple.tupleTooMany
    simp_all;omega
   ·rw [fr];refine ⟨.ref _,upd H s.heap.objs.size (.tup (List.replicate k.toNat xs).flatten),I.laid (t':=s.toks) (λ b ob q=>Heap.get?_push_of_some _ q) (Nat.le_refl _) ⟨?_,_,r.rep k.toNat,IsTup.new _ _⟩,rfl,q2 _ hf⟩
    simp_all
theorem q_mul:RO X (binaryOp .Mult) mulR:=by
 refine ⟨_,op_mulB.or (op_repT.or ze5),λ x y v u H Q μ Q3 m rx ry h k=>?_⟩;cases ry with
 | int j =>
  cases rx with
  | int i=>exact .inl ⟨i,j,rfl,rfl,h.1,k _ _ _ _ h.2 (Kp.refl _) (.int _) m⟩
  | tup hq rs =>
   rename_i a l vs;refine .inr (.inl ⟨a,j,vs,rfl,rfl,(SqT.of hq),h.1.1.1,h.1.1.2,by rw [<- rs.length]; exact h.1.2,λ e=>?_,λ p hp=>?_⟩)
   ·rcases e with e | e
    ·subst e; cases rs;have h2:=h.2;have e:(List.replicate j.toNat ([]:List D)).flatten=[]:=by simp
     rw [e] at h2;exact k _ _ _ _ h2 (Kp.refl _) (.tup hq .nil) m
    ·subst e;have h2:=h.2;have e:(List.replicate (1:Int).toNat l).flatten=l:=by simp
     rw [e] at h2;exact k _ _ _ _ h2 (Kp.refl _) (.tup hq rs) m
   ·exact k _ _ _ _ h.2 (Kp.new hp) (.tup xg0 ((rs.rep _).mono (Kp.new hp))) (m.newT hp)
  | ref p =>
   dsimp only [mulR] at h;cases e:μ p with
   | none=>simp_all
   | some oo =>
    cases oo with
    | ins _ _=>simp_all
    | dct _=>simp_all
    | dcl _=>simp_all
    | lst l =>
     rw [e] at h;obtain ⟨vs,hv,rv⟩:=m p l e;have hb:(1000000:Nat)<=sizeLine:=by trivial
     refine .inr (.inr ⟨p,j,vs,rfl,rfl,hv,by omega,by omega,by rw [<- rv.length]; omega,λ t ht=>?_⟩);exact k _ _ _ _ (h.2 t (m.free ht)) (Kp.new ht) (.ref t) (m.newL ht (rv.rep _))
  | _=>exact False.elim h
 | _=>cases rx <;> exact False.elim h
theorem yf2:CallR X (.type "int") (λ xs H Q=>∃ z n,xs=[.str z] /\ PySem.intText? z=some n /\ z.length<=640 /\ Q (.int n) H):=by
 intro pins s σ H xs us Q I r h;obtain ⟨z,n,rfl,e,hl,q⟩:=h;obtain ⟨u,rfl,t,rfl⟩:=ww0 r;exact PySem.W.KIN.call_text e hl ⟨.int n,H,I.tok _,⟨_,rfl⟩,q⟩
theorem q_int:RC X (.type "int") intR:=by
 refine ⟨_,call_int1.or yf2,λ xs vs H Q μ Q3 m r h k=>?_⟩;cases r with
 | nil=>exact False.elim h
 | cons r1 r2 =>
  cases r2 with
  | cons _ _=>cases r1 <;> exact False.elim h
  | nil =>
   cases r1 with
   | int i=>exact .inl (.inl ⟨i,rfl,k _ _ _ _ h (Kp.refl _) (.int _) m⟩)
   | bl b=>exact .inl (.inr ⟨b,rfl,k _ _ _ _ h (Kp.refl _) (.int _) m⟩)
   | str z =>
    dsimp only [intR] at h;cases e:PySem.intText? z with
    | none=>simp_all
    | some n =>
     rw [e] at h;exact .inr ⟨z,n,rfl,e,h.1,k _ _ _ _ h.2 (Kp.refl _) (.int _) m⟩
   | _=>exact False.elim h
theorem su1 {prog:Program} {E:[8]} {t sl:Addr} {items:Array Value} {vl vu:Value} {lo hi:Option Int} {Q:[8]} (ht:IsTup s.heap t items) (hs:s.heap.IsSliceOf sl vl vu .none) (pl:IsPart vl lo) (pu:IsPart vu hi)
    (hw:HT.sIx items.size 0 lo=0 /\ HT.sIx items.size items.size hi=items.size) (h:Q (.ref t) s):wpAny [5] A (getItem (.ref t) (.ref sl)) Q E s:=by
 obtain ⟨os,hos,hcs,hds⟩:=id hs;have hTs:s.TypeIs (.ref sl) "slice" := ⟨os,hos,hcs⟩;unfold getItem
 try with_reducible refine wpAny_holding ?_
 first | refine wpAny_bind (wpAny_pure ?_) | skip
 refine wpAny_bind (wpAny_sequenceKey ht.typeIs (by decide) ?_);refine wpAny_bind (wpAny_callSpecial?_slot ht.typeIs (name:=Str.ofString "__getitem__") PyProof.Rows.slot_tuple_getitem (wpAny_call_entry PyProof.Rows.slot_tuple_getitem ht.typeIs entry_tuple_getitem ?_ (args_tuple_getitem _ _)));show wpAny _ _ (Builtin.Tuple.tupleItemsOf (.ref t) >>= _) _ _ s;refine wpAny_bind (tupleItemsOf_ ht ?_);refine wpAny_bind (wpAny_typeOf hTs ?_);rw [if_pos (by decide)];refine wpAny_bind (HT.sliceApplied_gen hs pl pu ?_);rw [hw.1,hw.2];show wpAny _ _ (if ((((0:Nat):Int) == 0 && (1:Int) == 1 && (items.size - 0) == items.size)=true) then _ else _) _ _ s;rw [if_pos (by simp)];refine wpAny_bind (m:=Builtin.Tuple.tupleIsExact _) (wpAny_bind (wpAny_typeOf ht.typeIs (wpAny_pure ?_)));rw [if_pos (by decide)];refine wpAny_bind (wpAny_rule ?_)
 first
  | exact wpAny_pure ⟨_,rfl,wpAny_pure h⟩
  | exact wpAny_bind (wpAny_pure (wpAny_pure ⟨_,rfl,wpAny_pure h⟩))
  | exact wpAny_bind (wpAny_bind (wpAny_pure (wpAny_pure (wpAny_pure ⟨_,rfl,wpAny_pure h⟩))))
noncomputable def rSlA (K:Fg):V->Option Int->Option Int->Hp->VK->Prop:=λ x lo hi H Q=>∃ a xs,x=.ref a /\ SqT K H a xs /\ (cutV xs lo hi=xs->Q (.ref a) H) /\ ∀ p,H p=none->Q (.ref p) (upd H p (.tup (cutV xs lo hi)))
theorem sl_tupA:SlR X (rSlA X.K):=by
 intro pins s σ H x v vl vu lo hi sl Q I rx hs pl pu h;obtain ⟨a,xs,rfl,hx,q1,q2⟩:=h;by_cases hw:HT.sIx xs.length 0 lo=0 /\ HT.sIx xs.length xs.length hi=xs.length
 ·cases rx;obtain ⟨its,r,ht,hz⟩:=I.tuple hx;have hlen:its.toArray.size=xs.length:=by rw [size_toArray]; exact r.length.symm
  have e:cutV xs lo hi=xs:=by unfold cutV; simp_all
  exact ⟨"tuple",_,PyProof.Rows.slot_tuple_getitem.lookup,ht.typeIs,su1 ht hs pl pu (by rw [hlen]; exact hw) ⟨.ref a,H,I,rfl,q1 e⟩⟩
 ·exact si4 pins s σ H _ v vl vu lo hi sl Q I rx hs pl pu ⟨a,xs,rfl,hx,hw,q2⟩
theorem wm3:∀ (n d:Nat) (o:Option Int),HT.sIx n d o=sIx3 n d o
 | _,_,none=>rfl
 | _,_,some _=>rfl
theorem RelDs.cut {l:List D} (r:RelDs K H l vs) (lo hi:Option Int):RelDs K H (cut3 l lo hi) (cutV vs lo hi):=by
 unfold cut3 cutV;rw [<- r.length];simp only [wm3];exact (r.drop _).take _
noncomputable def RdP (K:Fg) (tv:TO) (t:TO3):Prop:=∀ σ H Q ρ μ Q3,RSt K H ρ σ->RelM K μ H->t ρ μ Q3->(∀ o μ' H',Q3 o μ'->Kp H H'->RelM K μ' H'->Q o H')->tv σ H Q
noncomputable def RP (X:Cx) (e:Option Expr) (t:TO3):Prop:=∃ tv,PO X e tv /\ RdP X.K tv t
theorem vn3:RP X none np3:=⟨_,vq3,λ σ H Q ρ μ Q3 s m h k=>k _ _ _ h (Kp.refl _) m⟩
theorem wn3 (h:RE X e te):RP X (some e) (pt3 te):=by
 obtain ⟨tv,p,r⟩:=h;refine ⟨_,wq3 p,λ σ H Q ρ μ Q3 s m h k=>r σ H _ ρ μ _ s m h λ d μ1 v H1 h1 k1 r1 m1=>?_⟩;cases r1 with
 | int i=>exact ⟨i,rfl,k _ _ _ h1 k1 m1⟩
 | _=>exact False.elim h1
noncomputable def RL (X:Cx) (r3:D->Option Int->Option Int->Mu->VK3->Prop):Prop:=∃ r,SlR X r /\ ∀ x v lo hi H Q μ Q3,RelM X.K μ H->RelD X.K H x v->r3 x lo hi μ Q3->Ks X.K H Q3 Q->r v lo hi H Q
noncomputable def rSlS:V->Option Int->Option Int->Hp->VK->Prop:=λ x lo hi H Q=>∃ z:Str,x=.str z /\ z.length<=sizeLine /\ Q (.str ⟨(cut3 z.cps.toList lo hi).toArray⟩) H
theorem sg4 (lo hi:Option Int) (n:Nat):Builtin.Str.strSliceIndices lo hi 1 n=sliceRange ((sIx3 n 0 lo:Nat):Int) ((sIx3 n n hi:Nat):Int) 1:=by
 unfold Builtin.Str.strSliceIndices
 have a1:∀ (d:Nat) (v:Option Int),(match v with | none=>((d:Nat):Int) | some i=>(if (1:Int) > 0 then max 0 (min (if i < 0 then i + (n:Int) else i) (n:Int)) else max (-1) (min (if i < 0 then i + (n:Int) else i) ((n:Int) - 1))))=((sIx3 n d v:Nat):Int):=λ d v=>by
  cases v with
  | none=>rfl
  | some i =>
   simp only [sIx3,show (1:Int) > 0 by decide,if_true];by_cases h:i < 0
   ·simp_all;omega
   ·simp only [h,if_false]; omega
 have e1:=a1 0 lo;have e2:=a1 n hi;simp only [show (1:Int) > 0 by decide,if_true] at e1 e2 ⊢;rw [<- e1,<- e2];rfl
theorem zj4 (n:Nat) (o:Option Int):sIx3 n n o<=n:=by
 cases o with
 | none=>exact Nat.le_refl _
 | some v =>
  show (if v < 0 then (v + (n:Int)).toNat else min v.toNat n)<=n;split <;> omega
theorem xj4:SlR X rSlS:=by
 intro pins s σ H x v vl vu lo hi sl Q I rx hs pl pu h;obtain ⟨z,rfl,hz,q⟩:=h;obtain ⟨t,rfl⟩:=rx;refine ⟨"str",_,F.slot_str_getitem.lookup,typeIs_str _ _ _,?_⟩
 have hl:∃ l:Option (Int × Tok),partValue l=vl /\ l.map (·.1)=lo:=by
  cases pl with
  | none=>exact ⟨none,rfl,rfl⟩
  | int i t=>exact ⟨some (i,t),rfl,rfl⟩
 have hu:∃ u:Option (Int × Tok),partValue u=vu /\ u.map (·.1)=hi:=by
  cases pu with
  | none=>exact ⟨none,rfl,rfl⟩
  | int i t=>exact ⟨some (i,t),rfl,rfl⟩
 obtain ⟨l,rfl,rfl⟩:=hl;obtain ⟨u,rfl,rfl⟩:=hu;refine wpAny_getItem_str_slice (l:=l) (u:=u) (st:=none) hs rfl ?_
 have e:(slicePicked z l u none).filterMap (z.cps[·]?)=cut3 z.cps.toList (l.map (·.1)) (u.map (·.1)):=by
  unfold slicePicked;show (Builtin.Str.strSliceIndices _ _ 1 z.length).filterMap (z.cps[·]?)=_;rw [sg4,sliceRange_one,pick_run];rfl
 unfold sliceMade;split
 ·next hw =>
  have hlen:(slicePicked z l u none).length=z.length:=by
   simp_all
  have ez:cut3 z.cps.toList (l.map (·.1)) (u.map (·.1))=z.cps.toList:=by
   have h1:(Builtin.Str.strSliceIndices (l.map (·.1)) (u.map (·.1)) 1 z.length).length=z.length:=hlen;rw [sg4,sliceRange_one,length_map,length_range] at h1;have h2:=zj4 z.length (u.map (·.1));have hs:z.length=z.cps.size:=rfl;unfold cut3;rw [length_toList,<- hs];rcases Nat.eq_zero_or_pos z.length with h0 | h0
   ·have:z.cps.toList=[]:=List.eq_nil_of_length_eq_zero (by assumption);rw [this]; simp
   ·have ha:sIx3 z.length 0 (l.map (·.1))=0:=by omega
    rw [ha,List.drop_zero];exact take_of_length_le (by simp_all)
  rw [ez] at q;exact ⟨.str z,H,I,⟨t,rfl⟩,q⟩
 ·rw [e];refine ⟨?_,.str _,H,I.tok _,⟨_,rfl⟩,q⟩;refine Nat.le_trans ?_ hz;show (cut3 z.cps.toList (l.map (·.1)) (u.map (·.1))).toArray.size<=z.cps.size;rw [size_toArray];unfold cut3
  simp_all;omega
theorem q_sl:RL X slR:=by
 refine ⟨_,(sl_tupA.or zl3).or xj4,λ x v lo hi H Q μ Q3 m rx h k=>?_⟩;cases rx with
 | str z=>exact .inr ⟨z,rfl,h.1,k _ _ _ _ h.2 (Kp.refl _) (.str _) m⟩
 | tup hq rs =>
  refine .inl <| .inl ⟨_,_,rfl,(SqT.of hq),λ e=>?_,λ p hp=>k _ _ _ _ h (Kp.new hp) (.tup xg0 ((rs.cut lo hi).mono (Kp.new hp))) (m.newT hp)⟩;refine k _ _ _ _ h (Kp.refl _) (.tup hq ?_) m;have:=rs.cut lo hi
  simp_all
 | fls hq rs=>exact .inl <| .inr ⟨_,_,rfl,hq.l,λ p hp=>k _ _ _ _ (h p (m.free hp)) (Kp.new hp) (.ref p) (m.newL hp (rs.cut lo hi))⟩
 | ref p =>
  dsimp only [slR] at h;cases e:μ p with
  | none=>simp_all
  | some oo =>
   cases oo with
   | ins _ _=>simp_all
   | dct _=>simp_all
   | dcl _=>simp_all
   | lst l =>
    rw [e] at h;obtain ⟨vs,hv,rs⟩:=m p l e;exact .inl <| .inr ⟨p,vs,rfl,SqL.of hv,λ t ht=>k _ _ _ _ (h t (m.free ht)) (Kp.new ht) (.ref t) (m.newL ht (rs.cut lo hi))⟩
 | _=>exact False.elim h
theorem zr2 {lo hi:Option Expr} {tl th:TO3} {pos p2:Pos} {r3:D->Option Int->Option Int->Mu->VK3->Prop} (hr:RL X r3) (he:RE X e te) (hl:RP X lo tl) (hu:RP X hi th):RE X (.Subscript e (.Slice lo hi none p2) pos) (sl3 r3 te tl th):=by
 obtain ⟨r,pr,rr⟩:=hr;obtain ⟨va,pa,ra⟩:=he;obtain ⟨vb,pb,rb⟩:=hl;obtain ⟨vc,pc,rc⟩:=hu
 exact ⟨_,us2 pr pa pb pc,λ σ H Q ρ μ Q3 s m h k=>ra σ H _ ρ μ _ s m h λ x μ1 v H1 h1 k1 r1 m1=>rb σ H1 _ ρ μ1 _ (s.mono k1) m1 h1 λ l μ2 H2 h2 k2 m2=>rc σ H2 _ ρ μ2 _ ((s.mono k1).mono k2) m2 h2 λ u μ3 H3 h3 k3 m3 =>
  rr x v l u H3 Q μ3 Q3 m3 (r1.mono (k2.trans k3)) h3 (k.after (k1.trans (k2.trans k3)))⟩
end
end Pv
namespace Pv
open PySem
noncomputable def isN:D->Bool
 | .non=>true
 | _=>false
noncomputable def isNR (neg:Bool):R3:=λ x y μ Q=>match y with
 | .non=>Q (.bl (if neg then !isN x else isN x)) μ
 | _=>False
noncomputable def maxR:C3:=λ ds μ Q=>match ds with
 | [.int i,.int j]=>Q (.int (if j > i then j else i)) μ
 | _=>False
noncomputable def min2R:C3:=λ ds μ Q=>match ds with
 | [.int i,.int j]=>Q (.int (if j < i then j else i)) μ
 | _=>False
noncomputable def ch3 (r r':R3) (ta tb tc:TE3):TE3:=λ ρ μ Q=>ta ρ μ λ x μ1=>tb ρ μ1 λ y μ2=>r x y μ2 λ d μ3=>match d with
 | .bl true=>tc ρ μ3 λ z μ4=>r' y z μ4 Q
 | .bl false=>Q (.bl false) μ3
 | _=>False
end Pv
namespace Pv
open PySem PySem.Spec PyProof.Rows L2
section
variable {X:Cx}
theorem wi5 {K:Fg} {H:Hp} {x:D} {v:V} (r:RelD K H x v):decide (v=.non)=isN x:=by
 cases r <;> simp [isN]
theorem q_isN:RO X (compareOp .Is) (isNR false):=by
 refine ⟨_,te5,λ x y v u H Q μ Q3 m rx ry h k=>?_⟩;cases ry with
 | non =>
  refine ⟨rfl,?_⟩;rw [wi5 rx];exact k _ _ _ _ h (Kp.refl _) (.bl _) m
 | _=>exact False.elim h
theorem wr2:RO X (compareOp .IsNot) (isNR true):=by
 refine ⟨_,ys3,λ x y v u H Q μ Q3 m rx ry h k=>?_⟩;cases ry with
 | non =>
  refine ⟨rfl,?_⟩;rw [wi5 rx];exact k _ _ _ _ h (Kp.refl _) (.bl _) m
 | _=>exact False.elim h
theorem q_max (hc:X.calm=true):RC X (.builtin "max") maxR:=by
 refine ⟨_,xf2 hc,λ xs vs H Q μ Q3 m r h k=>?_⟩;cases r with
 | nil=>exact False.elim h
 | cons r1 r2 =>
  cases r1 with
  | int i =>
   cases r2 with
   | nil=>exact False.elim h
   | cons r2 r3 =>
    cases r2 with
    | int j =>
     cases r3 with
     | nil=>exact ⟨i,j,rfl,k _ _ _ _ h (Kp.refl _) (.int _) m⟩
     | cons _ _=>exact False.elim h
    | _=>exact False.elim h
  | _=>exact False.elim h
theorem tz4 (hc:X.calm=true):RC X (.builtin "min") min2R:=by
 refine ⟨_,te2 hc,λ xs vs H Q μ Q3 m r h k=>?_⟩;cases r with
 | nil=>exact False.elim h
 | cons r1 r2 =>
  cases r1 with
  | int i =>
   cases r2 with
   | nil=>exact False.elim h
   | cons r2 r3 =>
    cases r2 with
    | int j =>
     cases r3 with
     | nil=>exact ⟨i,j,rfl,k _ _ _ _ h (Kp.refl _) (.int _) m⟩
     | cons _ _=>exact False.elim h
    | _=>exact False.elim h
  | _=>exact False.elim h
end
end Pv
namespace L2
open PySem PySem.Spec PyProof.Rows
noncomputable def NoSl (i:Expr):Prop:=∀ ov iv,subscripted i false ov iv=operate [ov,iv] (getItem ov iv)
theorem wv1 {prog:Program} {w:World} {A:Around} {E:[8]} {s:Shared} {env:Env} {value slice:Expr} {pos:Pos} {T id:String} {Q:[8]}
    (hl:typeLookup (.type T) "__getitem__" = pure (some (.builtin id))) (hs:NoSl slice)
    (h:wpAny [5] A (eval value env) (λ o s₁=>wpAny [5] A (eval slice env) (λ i s₂=>s₂.TypeIs o T /\ wpAny [5] A (getItem o i) Q E s₂) E s₁) E s) :
    wpAny [5] A (eval (.Subscript value slice pos) env) Q E s:=by
 refine Subscript_ (wpAny_mono h (λ o s₁ h₁=>wpAny_mono h₁ (λ i s₂ h₂=>?_) λ _ _ x=>x) λ _ _ x=>x);obtain ⟨hT,h₂⟩:=h₂;unfold subscriptTail;refine wpAny_bind ?_;rw [getitemInPython_of_ne hT.not_modules];refine wpAny_bind (wpAny_specialOf hT hl ?_)
 have fin:wpAny [5] A (subscripted slice false o i) (λ r s₃=>wpAny [5] A (letTemporaryGo value o r >>= λ _=>pure r) Q E s₃) E s₂:=by
  rw [hs o i];exact wpAny_operating (wpAny_mono h₂ (λ r s₃ h₃=>wpAny_bind (wpAny_letTemporaryGo (wpAny_pure h₃))) λ _ _ x=>x)
 first
  | exact wpAny_pure (wpAny_bind fin)
  | exact wpAny_bind (wpAny_pure (wpAny_bind fin))
  | exact wpAny_bind fin
structure M1 (X:Cx) (o:Expr) (m:Str) (apos:Pos) (e:Expr) (cpos:Pos):Prop where
 base:attributeBase o m X.env (eval o X.env)=eval o X.env
 few:((backTo cpos (starEach [e] X.env)).all (λ x=>!x.1) && (backToKw cpos (keywordEach [] X.env)).all (λ x=>x.1.isSome)
  && decide (([e]:List Expr).length + ([]:List Keyword).length + (if ([]:List Keyword).isEmpty then 0 else 1) < 30))=true
 line:(apos.endLine == cpos.line)=true
 trees:backTo cpos (starEach [e] X.env)=[(false,eval e X.env)]
structure M2 (X:Cx) (o:Expr) (m:Str) (apos:Pos) (e f:Expr) (cpos:Pos):Prop where
 base:attributeBase o m X.env (eval o X.env)=eval o X.env
 few:((backTo cpos (starEach [e,f] X.env)).all (λ x=>!x.1) && (backToKw cpos (keywordEach [] X.env)).all (λ x=>x.1.isSome)
  && decide (([e,f]:List Expr).length + ([]:List Keyword).length + (if ([]:List Keyword).isEmpty then 0 else 1) < 30))=true
 line:(apos.endLine == cpos.line)=true
 trees:backTo cpos (starEach [e,f] X.env)=[(false,eval e X.env),(false,eval f X.env)]
end L2
namespace Pv
open PySem
noncomputable def mnR:C3:=λ ds μ Q=>match ds with
 | [.int i,.int j]=>Q (.int (if j < i then j else i)) μ
 | [.tup [.int a,.int b],.tup [.int c,.int d]]=>Q (if ltP c d a b then .tup [.int c,.int d] else .tup [.int a,.int b]) μ
 | [.ref p]=>match μ p with
  | some (.lst l)=>match ints? l with
   | some ns=>0 < ns.length /\ ∀ m,m ∈ ns->(∀ a,a ∈ ns->m<=a)->Q (.int m) μ
   | none=>False
  | _=>False
 | _=>False
noncomputable def mxR:C3:=λ ds μ Q=>match ds with
 | [.int i,.int j]=>Q (.int (if j > i then j else i)) μ
 | [.ref p]=>match μ p with
  | some (.lst l)=>match ints? l with
   | some ns=>0 < ns.length /\ ∀ m,m ∈ ns->(∀ a,a ∈ ns->a<=m)->Q (.int m) μ
   | none=>False
  | _=>False
 | _=>False
theorem yg5 (i j:Int) (μ:Mu) (Q:VK3):mnR [.int i,.int j] μ Q=Q (.int (if j < i then j else i)) μ:=propext ⟨λ h=>h,λ h=>h⟩
theorem xg5 (a b c d:Int) (μ:Mu) (Q:VK3):mnR [.tup [.int a,.int b],.tup [.int c,.int d]] μ Q=Q (if ltP c d a b then .tup [.int c,.int d] else .tup [.int a,.int b]) μ:=propext ⟨λ h=>h,λ h=>h⟩
noncomputable def tt2 (to:TE3):TE3:=λ ρ μ Q=>xa0 to nil3 ρ μ λ ds μ1=>match ds with
 | [.int j]=>((-(2 ^ 62)<=j /\ j < 2 ^ 62) /\ j<=2 ^ 24) /\ ∀ r,μ1 r=none->Q (.ref r) (updM μ1 r (.lst (rngD 0 j.toNat)))
 | _=>False
noncomputable abbrev XE3:=Str->Mu->Prop
end Pv
namespace Pv
open PySem PySem.Spec PyProof.Rows L2
noncomputable def CXn (P:Program) (w:World):CXT:=λ outer H s E e s'=>∃ (ea:Addr) (cls a0:Value) (H':Hp) (B:Heap),e=.ref ea /\ s'.os=s.os /\ AllBare s'.gens /\ Un (frs outer) [] H H' s.heap s'.heap /\ HOk P w H' s'.heap ∧
 Heap.FlyingW B outer ea cls a0 s'.heap /\ H' ea=none /\ (∀ b o,s'.heap.get? b=some o->b ∉ frs outer->(∃ o',s.heap.get? b=some o')->B.get? b=some o) /\ (∀ b,H' b ≠ none->∃ o,s'.heap.get? b=some o /\ B.get? b=some o) /\ E cls none H'
section
variable {P:Program} {w:World} {K:Fg} {mg:Str->Option Value} {base:Heap} {N:List Str} {qual:Str} {scope:Scope} {f:Addr} {cd:Value} {A:Around} {outer:List Env} {s0:Shared} {H0:Hp} {E:XK}
noncomputable def EXok (K:Fg) (mg:Str->Option Value) (XE:XE3) (E:XK):Prop:=∀ x C μ' H',XE x μ'->mg x=some (.ref C)->RelM K μ' H'->E (.ref C) none H'
noncomputable def liftX (K:Fg) (mg:Str->Option Value) (spx:XE3->Sp3):Sp:=λ vs H Q E=>∃ ds μ Q3 XE,RelDs K H ds vs /\ RelM K μ H /\ spx XE ds μ Q3 /\ Ks K H Q3 Q /\ EXok K mg XE E
noncomputable def CalX (P:Program) (w:World) (K:Fg) (mg:Str->Option Value) (base:Heap) (k:Nat) (x:Str) (ps:List Str) (spx:XE3->Sp3):Prop :=
 ∃ f fd,FnOk P w K mg base (CXn P w) k f fd ps (liftX K mg spx) /\ mg x=some (.ref f) /\ keepIn K (.ref f)=true /\ Binds K fd ps []
theorem CalX.mono {j k:Nat} {x:Str} {ps:List Str} {spx:XE3->Sp3} (c:CalX P w K mg base j x ps spx) (h:j<=k):CalX P w K mg base k x ps spx:=by
 obtain ⟨f,fd,F,r⟩:=c;exact ⟨f,fd,F.mono h,r⟩
variable {XE:XE3}
end
end Pv
namespace Pv
open PySem PySem.Spec PyProof.Rows L2 PySem.Calls
end Pv
namespace Pv
open PySem PySem.Spec PyProof.Rows L2
noncomputable def mdg3 (tab:Str->Option Int) (t:TE3):TE3:=λ ρ μ Q=>t ρ μ λ d μ1=>match d with
 | .str x=>match tab x with
  | some i=>Q (.int i) μ1
  | none=>False
 | _=>False
noncomputable def mdn3 (neg:Bool) (tab:Str->Option Bool) (t:TE3):TE3:=λ ρ μ Q=>t ρ μ λ d μ1=>match d with
 | .str x=>match tab x with
  | some c=>Q (.bl (if neg then !c else c)) μ1
  | none=>False
 | _=>False
noncomputable def mdc3 (tab:Str->Option Sp3) (tk:TE3) (t:TA3):TE3:=λ ρ μ Q=>tk ρ μ λ d μ1=>match d with
 | .str x=>match tab x with
  | some sp=>t ρ μ1 λ ds μ2=>sp ds μ2 Q
  | none=>False
 | _=>False
structure Mdc (w:World) (K:Fg) (mg:Str->Option Value) (name:Str) (a:Addr):Prop where
 mg:mg name=some (.ref a)
 sm:(a == sysModules)=false
 lk:∃ es n,K.lookup a=some ⟨.type "dict",none,.dict es n,#[]⟩ /\ KeysLit w.params es.toList
noncomputable def MdI (K:Fg) (a:Addr) (tab:Str->Option Int):Prop:=∀ x i,tab x=some i->∃ t,nsIn K a x=some (some (.int i t))
noncomputable def MdN (K:Fg) (a:Addr) (tab:Str->Option Bool):Prop:=∀ x c,tab x=some c->∃ r,nsIn K a x=some r /\ r.isSome=c
noncomputable def MdF (P:Program) (w:World) (K:Fg) (mg:Str->Option Value) (base:Heap) (k:Nat) (a:Addr) (tab:Str->Option Sp3):Prop:=∀ x sp,tab x=some sp->∃ f fn ps,nsIn K a x=some (some (.ref f)) /\ mg fn=some (.ref f) /\ Cal P w K mg base k fn ps sp
variable {tab:Str->Option Bool} {e:Expr} {es:List Expr} {k:Nat}
section
variable {X:Cx} {i:Expr} {ti:TE3} {ty:TE} {a:Addr} {x:Str} {p pos pos':Pos}
theorem sc5 (M:Mdc X.w X.K X.mg x a) (hg:Gl X x) (hi:PE X i ty) (hs:NoSl i) (hdb:(x == ("__debug__" : Str))=false) :
    PE X (.Subscript (.Name x p) i pos) (λ σ H Q=>ty σ H λ y H1=>∃ z v u,y=.str z /\ nsIn X.K a z=some (some u) /\ RelV v u /\ Q v H1):=by
 intro pins s σ H Q I h;obtain ⟨es,n,hl,hk⟩:=M.lk;refine wv1 PySem.F.slot_dict_getitem.lookup hs (zu0 I hg M.mg (thn (hi pins s σ H _ I h) λ iv s2 ⟨y,H2,I2,ry,z,v,u,ex,e,rv,q⟩=>?_) hdb);subst ex;obtain ⟨t,rfl⟩:=ry;have hm:=mapOf_K (prog:=X.prog) (w:=X.w) I2.kIn hl hk;exact ⟨hm.typeIs,wpAny_getItem_of (strKind_is X.prog X.w z t) hm (find_K hl e) ⟨v,H2,I2.tok _,rv,q⟩⟩
theorem vs4 {tab:Str->Option Int} (M:Mdc X.w X.K X.mg x a) (T:MdI X.K a tab) (hi:RE X i ti) (hg:Gl X x:=by rfl) (hs:NoSl i:=by intro _ _; rfl) (hdb:(x == ("__debug__" : Str))=false:=by decide):RE X (.Subscript (.Name x p) i pos) (mdg3 tab ti):=by
 obtain ⟨vi,pi,ri⟩:=hi;refine ⟨_,sc5 M hg pi hs hdb,λ σ H Q ρ μ Q3 s m h k=>ri σ H _ ρ μ _ s m h λ y μ1 v H1 h1 k1 r1 m1=>?_⟩;split at h1
 ·next z =>
  split at h1
  ·next j ej =>
   obtain ⟨t,e⟩:=T z j ej;cases r1;exact ⟨z,.int j,_,rfl,e,⟨t,rfl⟩,k _ _ _ _ h1 k1 (.int _) m1⟩
  ·exact h1.elim
 ·exact h1.elim
theorem vd5 (neg:Bool) (M:Mdc X.w X.K X.mg x a) (hg:Gl X x) (hi:PE X i ty) (hdb:(x == ("__debug__" : Str))=false) :
    PC X (if neg then .NotIn else .In) i (.Name x p) (λ σ H Q=>ty σ H λ y H1=>∃ z r,y=.str z /\ nsIn X.K a z=some r /\ Q (.bl (if neg then !r.isSome else r.isSome)) H1):=by
 intro pins s σ H Q I h;obtain ⟨es,n,hl,hk⟩:=M.lk;refine thn (hi pins s σ H _ I h) λ iv s1 ⟨y,H1,I1,ry,z,r,ex,e,q⟩=>zu0 I1 hg M.mg ?_ hdb;subst ex;obtain ⟨t,rfl⟩:=ry;have hm:=mapOf_K (prog:=X.prog) (w:=X.w) I1.kIn hl hk;cases neg with
 | true=>exact wpAny_notIn_of (strKind_is X.prog X.w z t) M.sm hm (by rw [find_K hl e]; exact ⟨.bl (!r.isSome),H1,I1.tok _,rfl,q⟩)
 | false=>exact wpAny_in_of (strKind_is X.prog X.w z t) M.sm hm (by rw [find_K hl e]; exact ⟨.bl r.isSome,H1,I1.tok _,rfl,q⟩)
theorem vz4 {neg:Bool} {K:Fg} (T:MdN K a tab) (ri:RdE K ty ti):RdE K (λ σ H Q=>ty σ H λ y H1=>∃ z r,y=.str z /\ nsIn K a z=some r /\ Q (.bl (if neg then !r.isSome else r.isSome)) H1) (mdn3 neg tab ti):=by
 intro σ H Q ρ μ Q3 s m h k;refine ri σ H _ ρ μ _ s m h λ y μ1 v H1 h1 k1 r1 m1=>?_;split at h1
 ·next z =>
  split at h1
  ·next c ec =>
   obtain ⟨r,e,rc⟩:=T z c ec;cases r1;exact ⟨z,r,rfl,e,by rw [rc]; exact k _ _ _ _ h1 k1 (.bl _) m1⟩
  ·exact h1.elim
 ·exact h1.elim
theorem us1 (M:Mdc X.w X.K X.mg x a) (T:MdN X.K a tab) (hi:RE X i ti) (hg:Gl X x:=by rfl) (hdb:(x == ("__debug__" : Str))=false:=by decide):RT X (.Compare i [.NotIn] [.Name x p] pos) (b3 (mdn3 true tab ti)):=by
 obtain ⟨vi,pi,ri⟩:=hi;exact ⟨_,ua5 (vd5 true M hg pi hdb),RdT.test (vz4 T ri)⟩
theorem xd5 {t:TA} (M:Mdc X.w X.K X.mg x a) (hg:Gl X x) (hi:PE X i ty) (hr:Room k X.A) (ha:PA X (e :: es) t) (hs:NoSl i) (hdb:(x == ("__debug__" : Str))=false)
    (he:starEach (e :: es) X.env=(false,eval e X.env) :: starEach es X.env) (hpl:(backTo pos' (starEach es X.env)).any (·.1)=false) :
    PE X (.Call (.Subscript (.Name x p) i pos) (e :: es) [] pos') (λ σ H Q=>ty σ H λ y H1=>∃ z f fd ps sp,y=.str z /\ nsIn X.K a z=some (some (.ref f)) /\ FnOk X.prog X.w X.K X.mg X.base CX0 k f fd ps sp /\ keepIn X.K (.ref f)=true /\ Binds X.K fd ps [] ∧
     t σ H1 λ vs H2=>sp (vs ++ []) H2 Q (λ _ _ _=>False)):=by
 intro pins s σ H Q I h;obtain ⟨es',n,hl,hk⟩:=M.lk;show wpAny _ _ (eval (.Subscript (.Name x p) i pos) X.env >>= λ f=>callWith pos' f [] (backTo pos' (starEach (e :: es) X.env)) (backToKw pos' (keywordEach [] X.env))) _ _ _;refine wpAny_bind (wv1 PySem.F.slot_dict_getitem.lookup hs (zu0 I hg M.mg (thn (hi pins s σ H _ I h) λ iv s2 ⟨y,H2,I2,ry,z,f,fd,ps,sp,ex,ef,F,hkf,hb,q⟩=>?_) hdb));subst ex;obtain ⟨tk,rfl⟩:=ry;have hm:=mapOf_K (prog:=X.prog) (w:=X.w) I2.kIn hl hk;refine ⟨hm.typeIs,wpAny_getItem_of (strKind_is X.prog X.w z tk) hm (find_K hl ef) ?_⟩;have I3:=I2.tok (s2.toks + 1);refine callWith_K (h₀:=X.base) I.ok.mod.kin hkf (thn (ha pos' pins _ σ H2 _ I3 q) λ us s1 ⟨vs,H1,I1,r,q1⟩=>⟨I1.kIn,?_⟩) he hpl;exact xc3 F hr hb .nil ud5 I1 r q1
theorem us4 {t:TA3} {tab:Str->Option Sp3} (M:Mdc X.w X.K X.mg x a) (T:MdF X.prog X.w X.K X.mg X.base k a tab) (hi:RE X i ti) (hr:Room k X.A) (ha:RA X (e :: es) t) (hg:Gl X x:=by rfl) (hs:NoSl i:=by intro _ _; rfl) (hdb:(x == ("__debug__" : Str))=false:=by decide)
    (he:starEach (e :: es) X.env=(false,eval e X.env) :: starEach es X.env:=by rfl) (hpl:(backTo pos' (starEach es X.env)).any (·.1)=false:=by rfl):RE X (.Call (.Subscript (.Name x p) i pos) (e :: es) [] pos') (mdc3 tab ti t):=by
 obtain ⟨vi,pi,ri⟩:=hi;obtain ⟨va,pa,ra⟩:=ha;refine ⟨_,xd5 M hg pi hr pa hs hdb he hpl,λ σ H Q ρ μ Q3 s m h k=>ri σ H _ ρ μ _ s m h λ y μ1 v H1 h1 k1 r1 m1=>?_⟩;split at h1
 ·next z =>
  split at h1
  ·next sp ej =>
   obtain ⟨f,fn,ps,e1,e2,f',fd,F,hm,hk,hb⟩:=T z sp ej;rw [e2] at hm;cases hm;cases r1;refine ⟨z,f,fd,ps,_,rfl,e1,F,hk,hb,ra σ H1 _ ρ μ1 _ (s.mono k1) m1 h1 λ ds μ2 vs H2 h2 k2 r2 m2=>?_⟩;rw [append_nil];exact ⟨ds,μ2,Q3,r2,m2,h2,k.after (k1.trans k2)⟩
  ·exact h1.elim
 ·exact h1.elim
theorem zn1 {a b c:Expr} {ta tb tc:TE3} {op op':CmpOp} {r r':R3} {pos:Pos} (ho:RO X (compareOp op) r) (ho':RO X (compareOp op') r') (ha:RE X a ta) (hb:RE X b tb) (hc:RE X c tc)
    (hm:lastMarks [op,op'] [b,c]=false:=by with_unfolding_all rfl):RT X (.Compare a [op,op'] [b,c] pos) (b3 (ch3 r r' ta tb tc)):=by
 obtain ⟨o,po,ro⟩:=ho;obtain ⟨o',po',ro'⟩:=ho';obtain ⟨va,pa,ra⟩:=ha;obtain ⟨vb,pb,rb⟩:=hb;obtain ⟨vc,pc,rc⟩:=hc
 refine ⟨_,ur2 po po' pa pb pc hm,RdT.test λ σ H Q ρ μ Q3 s m h k=>ra σ H _ ρ μ _ s m h λ x μ1 v H1 h1 k1 r1 m1=>rb σ H1 _ ρ μ1 _ (s.mono k1) m1 h1 λ y μ2 u H2 h2 k2 r2 m2 =>
  ro x y v u H2 _ μ2 _ m2 (r1.mono k2) r2 h2 λ d μ3 z H3 h3 k3 r3 m3=>?_⟩
 cases r3 with
 | bl e =>
  cases e with
  | false=>exact ⟨false,rfl,k _ _ _ _ h3 (k1.trans (k2.trans k3)) (.bl _) m3⟩
  | true =>
   refine ⟨true,rfl,?_⟩;show vc σ H3 _;exact rc σ H3 _ ρ μ3 _ (((s.mono k1).mono k2).mono k3) m3 h3 λ w μ4 x4 H4 h4 k4 r4 m4=>ro' y w u x4 H4 Q μ4 Q3 m4 (r2.mono (k3.trans k4)) r4 h4 (k.after (k1.trans (k2.trans (k3.trans k4))))
 | _=>exact False.elim h3
end
end Pv
namespace PySem
variable {t:Addr} {vs:Array Value}
section
variable {prog:Program} {w:World} {A:Around} {E:[8]} {s:Shared}
theorem vq1 {it t:Addr} {vs:Array Value} (n0:t ≠ it):∀ (n i:Nat) (s:Shared) (Q:List Value->Shared->Prop),s.heap.IsListIter it t i->s.heap.IsList t vs->i + n<=vs.size ->
    (∀ h',h'.IsListIter it t (i + n)->Heap.SameBut it s.heap h'->Q ((vs.toList.drop i).take n) { s with heap:=h' })->wpAny [5] A (draw (.ref it) n) Q E s
 | 0,i,s,Q,g0,_,_,q0=>by
  show wpAny _ _ (pure []) Q E s;exact wpAny_pure (by simpa using q0 s.heap g0 (Heap.SameBut.refl ..))
 | n + 1,i,s,Q,g0,l0,le0,q0=>by
  have c0:i < vs.size:=by omega
  show wpAny _ _ (pyNext (.ref it) >>= _) Q E s;refine wpAny_bind (wpAny_pyNext_list_item g0 l0 (x:=vs[i]) (by simp [c0]) λ h₁ g1 k1=>?_);refine wpAny_bind (wpAny_holding (vq1 n0 n (i + 1) _ _ g1 (l0.extBut k1.extBut n0) [2] λ h₂ g2 k2=>wpAny_pure ?_));have d0:vs.toList.drop i=vs[i] :: vs.toList.drop (i + 1):=by simp [List.drop_eq_getElem_cons,c0]
  have:=q0 h₂ (by rw [show i + (n + 1)=i + 1 + n by omega]; exact g2) (k1.trans k2)
  simp_all
theorem xu3 {Q:List Value->Shared->Prop} (u0:A.handled=none) (l0:s.heap.IsList t vs)
    (q0:∀ h',Heap.ExtBut s.heap.objs.size s.heap h'->Q vs.toList { s with heap:=h' }):wpAny [5] A (unpackItems (.ref t) vs.size none) Q E s:=by
 have c0:t ≠ s.heap.objs.size:=by obtain ⟨o,ho,_⟩:=l0; exact Nat.ne_of_lt (Heap.lt_size ho)
 unfold unpackItems;refine wpAny_bind ?_;unfold notIterableAtAll;refine wpAny_bind (wpAny_specialOf l0.typeIs slot_list_iter.lookup (wpAny_pure ?_));simp only [Bool.false_eq_true,if_false];refine wpAny_bind (wpAny_holding (wpAny_pyIter_list l0 (wpAny_bind (wpAny_holding (vq1 c0 vs.size 0 _ _ ⟨_,Heap.get?_push_size _ rfl,rfl,rfl⟩ (l0.push _) [2] λ h₁ g1 k1=>?_)))));rw [show List.take vs.size (List.drop 0 vs.toList)=vs.toList by rw [List.drop_zero]; exact take_of_length_le (by simp),if_neg (by simp)];refine wpAny_bind (wpAny_holding (wpAny_pyNext_list_end u0 g1 ((l0.push _).extBut k1.extBut c0) (by simp) λ h₂ x2=>?_));simp only [Option.isSome_none,Bool.false_eq_true,if_false];exact wpAny_pure (q0 h₂ λ b o hb e=>x2 b o hb (k1.extBut b o hb (Heap.get?_push_of_some _ e)))
theorem vw3 {env:Env} {elts:List Expr} {x1} {pos:Pos} {Q:Unit->Shared->Prop} (u0:A.handled=none) (l0:s.heap.IsList t vs)
    (hn:(assignEach elts env).length=vs.size) (st0:(assignEach elts env).findIdx? (·.1)=none)
    (h:∀ h',Heap.ExtBut s.heap.objs.size s.heap h'->wpAny [5] A (assignInOrder ((assignEach elts env).map (·.2)) vs.toList) Q E { s with heap:=h' }) :
    wpAny [5] A (assign (.Tuple elts x1 pos) env (.ref t)) Q E s:=by
 rw [arm_assign_Tuple];refine wpAny_bind (wpAny_standAt ?_);unfold unpack;rw [hn,st0];exact wpAny_bind (wpAny_holding (xu3 u0 l0 h))
end
end PySem
namespace Pv
open PySem PySem.Spec PyProof.Rows L2
noncomputable def wc2 (n:Nat) (t:TGs3):TG3:=λ d ρ μ Q=>match d with
 | .ref p=>match μ p with
  | some (.lst l)=>l.length=n /\ t l ρ μ Q
  | _=>False
 | _=>False
variable {X:Cx} {es:List Expr} {n:Nat}
section
variable {pos:Pos}
theorem yc5 {k:Nat} {t:TGs} (hc:X.calm=true) (h:PGs X es t) (hn:(assignEach es X.env).length=n:=by rfl) (hst:(assignEach es X.env).findIdx? (·.1)=none:=by rfl) :
    PG X (.Tuple es k pos) (λ v σ H Q=>∃ a xs,v=.ref a /\ H a=some (.lst xs) /\ xs.length=n /\ t xs σ H Q):=by
 intro pins s σ H v u Q I r hw;obtain ⟨a,xs,e1,hq,hl,hw⟩:=hw;subst e1;cases r;obtain ⟨_,its,m,rv,e⟩:xs.length<=sizeLine /\ ∃ (its:List Value) (n:Nat),Vals xs its /\ s.heap.get? a=some { cls:=.type "list",data:=.seq its.toArray n }:=I.hok a _ hq;refine vw3 (I.ok.hd hc) ⟨_,e,rfl,m,rfl⟩ (by simp [hn,<- hl,rv.length]) hst λ h' hx=>?_;have I1:Inv X pins σ H { s with heap:=h' }:=I.kept (t':=s.toks) λ b o e=>hx b o (Nat.ne_of_lt (Heap.lt_size e)) e;exact h pins _ σ H xs _ Q I1 (by simpa using rv) hw
theorem ur4 {kk:Nat} {gs:TGs3} (hc:X.calm=true) (h:RGs X es gs) (hn:(assignEach es X.env).length=n:=by rfl) (hst:(assignEach es X.env).findIdx? (·.1)=none:=by rfl):RG X (.Tuple es kk pos) (wc2 n gs):=by
 obtain ⟨va,pa,ra⟩:=h;refine ⟨_,yc5 hc pa hn hst,λ v d σ H Q ρ μ Q3 s m r h k=>?_⟩;unfold wc2 at h;split at h
 ·next p =>
  split at h
  ·next l e =>
   obtain ⟨hl,h⟩:=h;cases r;obtain ⟨vs,hv,rs⟩:=m.lst p l e;exact ⟨p,vs,rfl,hv,by rw [<- rs.length]; exact hl,ra _ _ σ H Q ρ μ Q3 s m rs h k⟩
  ·exact h.elim
 ·exact h.elim
end
open PySem.AutoSeq1 (wpAny_loadPart')
theorem zt3 (p q:Addr) (a b c d:Int) (t1 t2 t3 t4:Tok) (n m:Nat) (dd dd2:Option Addr) (sl sl2:Array (Option Value)) :
    Meets (Builtin.«tuple.__lt__» ⟨[.ref p,.ref q],[]⟩) (λ A R s=>s.heap.get? p=some { cls:=.type "tuple",dict:=dd,data:=.seq #[.int a t1,.int b t2] n,slots:=sl } /\ s.heap.get? q=some { cls:=.type "tuple",dict:=dd2,data:=.seq #[.int c t3,.int d t4] m,slots:=sl2 } ∧
     R (.ok (.ret (.bool (ltP a b c d)))) s) :=
 .of_wp λ prog w A R s h=>by
  obtain ⟨hp,g,dr,tk,os⟩:=s; obtain ⟨hl,hb,h⟩:=h;have f2:=AutoSeq1.sub_tuple_tuple;have lt:∀ (x y:Int) (tx ty:Tok) {Q:[8]} {E:[8]} {A:Around} {s:Shared},Q (.bool (decide (x < y))) s->wpAny [5] A (richCompare .Lt (.int x tx) (.int y ty)) Q E s:=λ x y tx ty Q E A s hq=>wpAny_lt_int hq;have eqb:∀ (x y:Int) (tx ty:Tok) {Q:Bool->Shared->Prop} {E:[8]} {A:Around} {s:Shared},Q (x == y) s->wpAny [5] A (eqBool (.int x tx) (.int y ty)) Q E s:=λ x y tx ty Q E A s hq=>wpAny_eqBool_int hq
  wp_walk using wpAny_loadPart' hl,wpAny_loadPart' hb,eqb a c t1 t3
  by_cases h1:a=c
  ·rw [show (a == c)=true by simpa using h1]
   wp_walk using eqb b d t2 t4
   by_cases h2:b=d
   ·rw [show (b == d)=true by simpa using h2]
    wp_walk
    have h':R (.ok (.ret (.bool false))) ⟨hp,g,dr,tk,os⟩:=by simpa [ltP,h1,h2] using h
    exact ⟨_,rfl,h'⟩
   ·rw [show (b == d)=false by simpa using h2]
    wp_walk using lt b d t2 t4
    exact ⟨_,rfl,by simpa [ltP,h1] using h⟩
  ·rw [show (a == c)=false by simpa using h1]
   wp_walk using lt a c t1 t3
   exact ⟨_,rfl,by simpa [ltP,h1] using h⟩
variable {prog:Program} {w:World} {A:Around}
section
variable {R:Result->Shared->Prop} {I:Addr} {fp wr:List Addr} {P:Nat->Value->Prop} {St:Nat->Heap->Prop}
theorem wv2:(toString "min" ++ toString ".loop" : String) = "min.loop" := by decide
theorem ud3 (W:Walks prog w A.in1 I fp wr n P St) (S:Addr) (hSf:S ∉ fp) (s:Shared) (vb:Value) (c:Nat) (hst:St n s.heap)
    (hS:s.heap.get? S=some { cls:=.type "list",dict:=none,data:=.seq #[vb,vb] c,slots:=#[] })
    (hR:∀ h' tk,(∀ b o,b ∉ wr->b ≠ S->s.heap.get? b=some o->h'.get? b=some o)->R (.ok (.ret vb)) { s with heap:=h',toks:=tk }) :
    codeAny [5] A (.builtin "min.loop" ⟨[.ref I,.none,.ref S],[]⟩) R s:=by
 have hSw:S ∉ wr:=λ h=>hSf (W.sub _ h);refine codeAny_builtin F.entry_min_loop ?_;rw [Around.under_plainId F.plain_min_loop _];show wpAny _ A.in1 (seqItems? (.ref S) >>= _) _ _ s;refine wpAny_bind (wpAny_seqItems hS rfl ?_);show wpAny _ A.in1 (tryCatch (pyNext (.ref I)) _ >>= _) _ _ s;refine wpAny_bind (wpAny_tryCatch (W.done s _ _ hst λ h' tk hk'=>?_));have hS':=hk' S _ hSw hS;show wpAny _ A.in1 (updateSeq S (λ _=>#[]) >>= _) _ _ _;refine wpAny_bind ?_;refine wpAny_updateSeq hS' rfl (wpAny_bind (wpAny_letGo (wpAny_pure ?_)));exact hR _ tk λ b o hbw hbS e=>(Heap.get?_update_other _ _ (Ne.symm hbS)).trans (hk' b o hbw e)
theorem yt3 (W:Walks prog w A.in1 I fp wr n P St) (S:Addr) (hSf:S ∉ fp) (s:Shared) (vb v0:Value) (r:Bool) (c j:Nat) (hlt:j < n) (hj:j + 1=n) (hst:St j s.heap) (hv:∀ v,P j v->v=v0)
    (hcmp:∀ (h':Heap) (tk:Nat) (Q:[8]) (E:[8]),(∀ b o,b ∉ wr->s.heap.get? b=some o->h'.get? b=some o)->Q (.bool r) { s with heap:=h',toks:=tk }->wpAny [5] A.in1 (richCompare .Lt v0 vb) Q E { s with heap:=h',toks:=tk })
    (hS:s.heap.get? S=some { cls:=.type "list",dict:=none,data:=.seq #[vb,vb] c,slots:=#[] })
    (hR:∀ h' tk,(∀ b o,b ∉ wr->b ≠ S->s.heap.get? b=some o->h'.get? b=some o)->R (.ok (.ret (if r then v0 else vb))) { s with heap:=h',toks:=tk }) :
    codeAny [5] A (.builtin "min.loop" ⟨[.ref I,.none,.ref S],[]⟩) R s:=by
 have hSw:S ∉ wr:=λ h=>hSf (W.sub _ h);refine codeAny_builtin F.entry_min_loop ?_;rw [Around.under_plainId F.plain_min_loop _];show wpAny _ A.in1 (seqItems? (.ref S) >>= _) _ _ s;refine wpAny_bind (wpAny_seqItems hS rfl ?_);show wpAny _ A.in1 (tryCatch (pyNext (.ref I)) _ >>= _) _ _ s;refine wpAny_bind (wpAny_tryCatch (W.item j s _ _ hlt hst λ v h' tk hP hst' hk'=>?_));obtain rfl:=hv v hP;have hS':=hk' S _ hSw hS;show wpAny _ A.in1 (tryCatch (holding [v,v] (richCompare .Lt v vb >>= _)) _ >>= _) _ _ _;refine wpAny_bind (wpAny_tryCatch (wpAny_holding (wpAny_bind (hcmp h' tk _ _ hk' ?_))));refine wpAny_bind (wpAny_holding (wpAny_truthy_bool ?_));refine wpAny_bind (wpAny_letGo (wpAny_pure ?_));cases r with
 | true =>
  simp only [if_true];refine wpAny_bind ?_;refine wpAny_updateSeq hS' rfl (wpAny_bind (wpAny_letGo ?_));rw [wv2];refine wpAny_pure ⟨plainId_quiet F.plain_min_loop _,ud3 W S hSf _ v _ (hj ▸ W.frame _ _ _ hst' λ b hbf o e=>?_) (Heap.get?_update_self _ hS' rfl) λ h'' tk'' hk''=>?_⟩
  ·exact (Heap.get?_update_other _ _ (λ h:S=b=>hSf (by rw [h]; exact hbf))).trans e
  ·exact hR h'' tk'' λ b o hbw hbS e=>hk'' b o hbw hbS ((Heap.get?_update_other _ _ (Ne.symm hbS)).trans (hk' b o hbw e))
 | false =>
  simp only [Bool.false_eq_true,if_false];refine wpAny_bind (wpAny_letGo ?_);rw [wv2];refine wpAny_pure ⟨plainId_quiet F.plain_min_loop _,ud3 W S hSf _ vb c (hj ▸ hst') hS' λ h'' tk'' hk''=>?_⟩;exact hR h'' tk'' λ b o hbw hbS e=>hk'' b o hbw hbS (hk' b o hbw e)
theorem wg5 (W:Walks prog w A.in1 I fp wr 2 P St) (S:Addr) (hSf:S ∉ fp) (s:Shared) (va vb:Value) (r:Bool) (c:Nat) (hst:St 0 s.heap) (hva:∀ v,P 0 v->v=va) (hvb:∀ v,P 1 v->v=vb)
    (hcmp:∀ (h':Heap) (tk:Nat) (Q:[8]) (E:[8]),(∀ b o,b ∉ wr->b ≠ S->s.heap.get? b=some o->h'.get? b=some o)->Q (.bool r) { s with heap:=h',toks:=tk }->wpAny [5] A.in1 (richCompare .Lt vb va) Q E { s with heap:=h',toks:=tk })
    (hS:s.heap.get? S=some { cls:=.type "list",dict:=none,data:=.seq #[] c,slots:=#[] })
    (hR:∀ h' tk,(∀ b o,b ∉ wr->b ≠ S->s.heap.get? b=some o->h'.get? b=some o)->R (.ok (.ret (if r then vb else va))) { s with heap:=h',toks:=tk }) :
    codeAny [5] A (.builtin "min.loop" ⟨[.ref I,.none,.ref S],[]⟩) R s:=by
 have hSw:S ∉ wr:=λ h=>hSf (W.sub _ h);refine codeAny_builtin F.entry_min_loop ?_;rw [Around.under_plainId F.plain_min_loop _];show wpAny _ A.in1 (seqItems? (.ref S) >>= _) _ _ s;refine wpAny_bind (wpAny_seqItems hS rfl ?_);show wpAny _ A.in1 (tryCatch (pyNext (.ref I)) _ >>= _) _ _ s;refine wpAny_bind (wpAny_tryCatch (W.item 0 s _ _ (by decide) hst λ v h' tk hP hst' hk'=>?_));obtain rfl:=hva v hP;have hS':=hk' S _ hSw hS;show wpAny _ A.in1 (updateSeq S (λ _=>#[v,v]) >>= _) _ _ _;refine wpAny_bind ?_;refine wpAny_updateSeq hS' rfl ?_;rw [wv2];have up:∀ (f:Obj->Obj) b o,b ∉ wr->b ≠ S->s.heap.get? b=some o->Heap.get? (h'.update S f) b=some o:=λ f b o hbw hbS e=>(Heap.get?_update_other _ _ (Ne.symm hbS)).trans (hk' b o hbw e);refine wpAny_pure ⟨plainId_quiet F.plain_min_loop _,yt3 W S hSf _ v vb r _ 1 (by decide) rfl (W.frame _ _ _ hst' λ b hbf o e=>?_) hvb (λ h2 tk2 Q E hk2 hq=>?_) (Heap.get?_update_self _ hS' rfl) λ h'' tk'' hk''=>?_⟩
 ·exact (Heap.get?_update_other _ _ (λ h:S=b=>hSf (by rw [h]; exact hbf))).trans e
 ·exact hcmp h2 tk2 Q E (λ b o hbw hbS e=>hk2 b o hbw (up _ b o hbw hbS e)) hq
 ·exact hR h'' tk'' λ b o hbw hbS e=>hk'' b o hbw hbS (up _ b o hbw hbS e)
end
variable {Q:[8]}
section
variable {E:[8]} {s:Shared}
theorem wt1 {va vb:Value} {r:Bool} (hh:A.handled=none)
    (hcmp:∀ (h':Heap) (tk:Nat) (Q:[8]) (E:[8]),(∀ b o,s.heap.get? b=some o->h'.get? b=some o)->Q (.bool r) { s with heap:=h',toks:=tk }->wpAny [5] A.in1 (richCompare .Lt vb va) Q E { s with heap:=h',toks:=tk })
    (h:∀ h' tk,(∀ c o,s.heap.get? c=some o->h'.get? c=some o)->Q (if r then vb else va) { s with heap:=h',toks:=tk }) :
    wpAny [5] A (call (.builtin "min") [va,vb]) Q E s:=by
 refine call_function_tree F.kind_min F.plain_min F.entry_min (F.args_min2 _ _) ?_;show wpAny _ A.in1 (Builtin.Builtins.bindParams "min" ["key", "default"] 0 ⟨[],[]⟩ >>= _) _ _ s;refine wpAny_bind (wpAny_of_eq (show Builtin.Builtins.bindParams "min" ["key", "default"] 0 ⟨[],[]⟩=pure [none,none] from rfl) ?_);show wpAny _ A.in1 (newTuple [va,vb] >>= _) _ _ s;refine wpAny_bind (wpAny_newObj_type ?_);have hT:(s.heap.push { cls:=.type "tuple",data:=.seq #[va,vb] }).IsTuple s.heap.objs.size #[va,vb]:=⟨_,Heap.get?_push_size _ rfl,rfl,0,rfl⟩;refine wpAny_bind (wpAny_pyIter_tuple (s:={ s with heap:=s.heap.push { cls:=.type "tuple",data:=.seq #[va,vb] } }) hT ?_);have hsz:(s.heap.push { cls:=.type "tuple",data:=.seq #[va,vb] }).objs.size=s.heap.objs.size + 1:=Heap.size_push ..;refine wpAny_bind (wpAny_newObj_type ?_);rw [wv2];have hsz2:((s.heap.push { cls:=.type "tuple",data:=.seq #[va,vb] }).push { cls:=.type "tuple_iterator",data:=.fields #[.ref s.heap.objs.size,.int 0 0] }).objs.size=s.heap.objs.size + 2:=by simp
 have keep:∀ c o,s.heap.get? c=some o->Heap.get? (((s.heap.push { cls:=.type "tuple",data:=.seq #[va,vb] }).push { cls:=.type "tuple_iterator",data:=.fields #[.ref s.heap.objs.size,.int 0 0] }).push { cls:=.type "list",data:=.seq #[] }) c=some o:=λ c o e=>Heap.get?_push_of_some _ (Heap.get?_push_of_some _ (Heap.get?_push_of_some _ e))
 have off:∀ (c:Addr) (o:Obj),s.heap.get? c=some o->c ∉ [(s.heap.push { cls:=.type "tuple",data:=.seq #[va,vb] }).objs.size] /\ c ≠ ((s.heap.push { cls:=.type "tuple",data:=.seq #[va,vb] }).push { cls:=.type "tuple_iterator",data:=.fields #[.ref s.heap.objs.size,.int 0 0] }).objs.size:=λ c o e=>by
  have h1:=Heap.lt_size e;rw [hsz2,hsz];refine ⟨λ hm=>?_,Nat.ne_of_lt (Nat.lt_succ_of_lt (Nat.lt_succ_of_lt h1))⟩;rw [List.mem_singleton.mp hm] at h1;exact absurd h1 (Nat.not_lt.mpr (Nat.le_succ _))
 refine wpAny_pure ⟨plainId_quiet F.plain_min_loop _,wg5 (Walks.tuple (A:=A.in1) hh _ s.heap.objs.size (by simp) #[va,vb]) _ ?_ _ va vb r _ ?_ (λ v hP=>by simpa using hP.symm) (λ v hP=>by simpa using hP.symm) ?_ (Heap.get?_push_size _ rfl) ?_⟩
 ·simp [*]
 ·exact ⟨⟨_,Heap.get?_push_of_some _ (Heap.get?_push_size _ rfl),rfl,rfl⟩,(hT.push _).push _⟩
 ·intro h' tk Q E hk hq;exact hcmp h' tk Q E (λ c o e=>hk c o (off c o e).1 (off c o e).2 (keep c o e)) hq
 ·intro h' tk hk;exact h h' tk λ c o e=>hk c o (off c o e).1 (off c o e).2 (keep c o e)
theorem vt2 {p q:Addr} {a b c d:Int} {t1 t2 t3 t4:Tok} (hh:A.handled=none) (hu:A.units + 64 < cLine) (hp:IsTup s.heap p #[.int a t1,.int b t2]) (hq:IsTup s.heap q #[.int c t3,.int d t4])
    (h:∀ h' tk,(∀ c o,s.heap.get? c=some o->h'.get? c=some o)->Q (if ltP c d a b then .ref q else .ref p) { s with heap:=h',toks:=tk }) :
    wpAny [5] A (call (.builtin "min") [.ref p,.ref q]) Q E s:=by
 refine wt1 hh (λ h' tk Q E hk hq'=>?_) h;obtain ⟨⟨cp,dp,datp,slp⟩,ep,hcp,np,hdp⟩:=hp;obtain ⟨⟨cq,dq,datq,slq⟩,eq,hcq,nq,hdq⟩:=hq;dsimp only at hcp hdp hcq hdq;subst hcp hdp hcq hdq;refine richCompare_meets_room (T := "tuple") (s:={ s with heap:=h',toks:=tk }) ⟨_,hk _ _ eq,rfl⟩ ⟨_,hk _ _ ep,rfl⟩ F.slot_tuple_lt F.entry_tuple_lt (F.args_tuple_lt_2 _ _) (zt3 q p c d a b t3 t4 t1 t2 nq np dq dp slq slp) ⟨hk _ _ eq,hk _ _ ep,by simp,hq'⟩ ?_
 simp_all;omega
end
section
theorem ve2 (hc:X.calm=true) (hu:X.A.units + 64 < cLine):CallR X (.builtin "min") (λ xs H Q=>∃ p q a b c d,xs=[.ref p,.ref q] /\ SqT X.K H p [.int a,.int b] /\ SqT X.K H q [.int c,.int d] /\ Q (.ref (if ltP c d a b then q else p)) H):=by
 intro pins s σ H xs us Q I r h;obtain ⟨p,q,a,b,c,d,rfl,hp,hq,k⟩:=h;obtain ⟨u,w',rfl,e1,e2⟩:=ys1 r;cases e1;cases e2;obtain ⟨its,rv,pp,hz⟩:=I.tuple hp;obtain ⟨its2,rv2,pp2,hz2⟩:=I.tuple hq;obtain ⟨v1,v2,rfl,⟨t1,rfl⟩,⟨t2,rfl⟩⟩:=ys1 rv;obtain ⟨v3,v4,rfl,⟨t3,rfl⟩,⟨t4,rfl⟩⟩:=ys1 rv2;refine vt2 (I.ok.hd hc) hu pp pp2 λ h' tk kk=>⟨_,H,I.kept kk,?_,k⟩;cases ltP c d a b
 ·exact rfl
 ·exact rfl
theorem q_min (hc:X.calm=true) (hu:X.A.units + 64 < cLine):RC X (.builtin "min") minR:=by
 refine ⟨_,ve2 hc hu,λ xs vs H Q μ Q3 m r h k=>?_⟩;unfold minR at h;split at h
 ·next a b c d =>
  cases r with
  | cons r1 r2 =>
   cases r2 with
   | cons r2 r3 =>
    cases r3;cases r1 with
    | tup hq rs =>
     cases r2 with
     | tup hq2 rs2 =>
      cases rs with
      | cons x1 y1 =>
       cases y1 with
       | cons x2 y2 =>
        cases y2;cases x1;cases x2;cases rs2 with
        | cons x3 y3 =>
         cases y3 with
         | cons x4 y4 =>
          cases y4;cases x3;cases x4;rename_i p q;refine ⟨p,q,a,b,c,d,rfl,(SqT.of hq),(SqT.of hq2),k _ _ _ _ h (Kp.refl _) ?_ m⟩;cases ltP c d a b
          ·exact .tup hq (.cons (.int _) (.cons (.int _) .nil))
          ·exact .tup hq2 (.cons (.int _) (.cons (.int _) .nil))
 ·exact h.elim
end
end Pv
namespace Ms
open PySem.W PyProof.Rows
noncomputable def run (lt:Nat->Nat->Bool) {α:Type}:KasT α->α
 | .ret a=>a
 | .ask i j k=>run lt (k (lt i j))
theorem xn1 (lt:Nat->Nat->Bool) {α β:Type} (f:α->KasT β):∀ t:KasT α,run lt (t.bind f)=run lt (f (run lt t))
 | .ret _=>rfl
 | .ask i j k=>xn1 lt f (k (lt i j))
structure Ord (lt:Nat->Nat->Bool):Prop where
 ir:∀ a,lt a a=false
 tr:∀ a b c,lt a b=true->lt b c=true->lt a c=true
 ng:∀ a b c,lt a c=true->lt a b=true \/ lt b c=true
variable {p:Array Nat}
section
variable {lt:Nat->Nat->Bool} (O:Ord lt)
noncomputable abbrev at' (p:Array Nat) (i:Nat):Nat:=p.getD i 0
noncomputable def le (lt:Nat->Nat->Bool) (a b:Nat):Prop:=lt b a=false
include O
theorem le_rf (a:Nat):le lt a a:=O.ir a
theorem le_tr {a b c:Nat} (h:le lt a b) (k:le lt b c):le lt a c:=by
 unfold le at *;cases e:lt c a with
 | false=>rfl
 | true =>
  rcases O.ng c b a e with h1 | h1
  ·simp_all
  simp_all
theorem le_lt {a b:Nat} (h:lt a b=true):le lt a b:=by
 unfold le;cases e:lt b a with
 | false=>rfl
 | true=>have:=O.tr a b a h e; rw [O.ir] at this; cases this
omit O
noncomputable def Up (lt:Nat->Nat->Bool) (p:Array Nat) (n:Nat):Prop:=∀ a b,a<=b->b < n->le lt (at' p a) (at' p b)
theorem xg3 {k l:Nat} (hk:k < p.size) (hl:l<=k) (i:Nat):at' (bubble p k (k - l)) i=if i=l then at' p k else if l < i /\ i<=k then at' p (i - 1) else at' p i:=by
 have h:=getElem?_bubble (xs:=p) hk (k - l) [2] i;rw [show k - (k - l)=l by omega] at h;by_cases c:i=l
 ·simp_all
 ·rw [if_neg c] at h ⊢;by_cases c2:l < i /\ i<=k
  ·simp_all
  simp [*]
include O
theorem tg3 {n:Nat} (h:Up lt p n) (h1:1<=n) (k:le lt (at' p (n - 1)) (at' p n)):Up lt p (n + 1):=λ a b hab hb=>by
 by_cases e:b=n
 ·subst e;by_cases e2:a=b
  ·subst e2; exact le_rf O _
  ·exact le_tr O (h a (b - 1) [2] [2]) k
 ·exact h a b hab [2]
theorem ur1 (p:Array Nat):∀ (f n:Nat),1<=n->Up lt p n->n<=run lt (kas_asc p f n) /\ run lt (kas_asc p f n)<=n + f /\ Up lt p (run lt (kas_asc p f n)) /\ (run lt (kas_asc p f n) < n + f->lt (at' p (run lt (kas_asc p f n))) (at' p (run lt (kas_asc p f n) - 1))=true)
 | 0,n,h1,h=>⟨Nat.le_refl _,Nat.le_refl _,h,λ z=>absurd z (Nat.lt_irrefl _)⟩
 | f + 1,n,h1,h=>by
  cases e:lt (at' p n) (at' p (n - 1)) with
  | true =>
   have r:run lt (kas_asc p (f + 1) n)=n:=by
    show run lt (if lt (at' p n) (at' p (n - 1))=true then .ret n else kas_asc p f (n + 1))=n;rw [e]; rfl
   simp_all
  | false =>
   have r:run lt (kas_asc p (f + 1) n)=run lt (kas_asc p f (n + 1)):=by
    show run lt (if lt (at' p n) (at' p (n - 1))=true then .ret n else kas_asc p f (n + 1))=_;rw [e]; rfl
   rw [r];obtain ⟨a1,a2,a3,a4⟩:=ur1 p f (n + 1) [2] (tg3 O h h1 e);exact ⟨by omega,by omega,a3,λ z=>a4 [2]⟩
omit O
include O
omit O
include O
omit O
include O
theorem za1 {p:Array Nat} {k:Nat} (h:Up lt p k):∀ (f l r:Nat),l<=r->r<=k->r - l<=f->(∀ a,a < l->le lt (at' p a) (at' p k))->(∀ b,r<=b->b < k->lt (at' p k) (at' p b)=true) ->
    run lt (kas_place p k f l r)<=k /\ (∀ a,a < run lt (kas_place p k f l r)->le lt (at' p a) (at' p k)) /\ ∀ b,run lt (kas_place p k f l r)<=b->b < k->lt (at' p k) (at' p b)=true
 | 0,l,r,hlr,hrk,hf,h1,h2=>⟨by show l<=k; omega,h1,λ b hb1 hb2=>h2 b (by have:l<=b:=hb1; omega) hb2⟩
 | f + 1,l,r,hlr,hrk,hf,h1,h2=>by
  by_cases c:l ≥ r
  ·have e:run lt (kas_place p k (f + 1) l r)=l:=by
     show run lt (if l ≥ r then .ret l else _)=l;rw [if_pos c]; rfl
   rw [e];exact ⟨by omega,h1,λ b hb1 hb2=>h2 b [2] hb2⟩
  ·cases e:lt (at' p k) (at' p ((l + r) / 2)) with
   | true =>
    have e2:run lt (kas_place p k (f + 1) l r)=run lt (kas_place p k f l ((l + r) / 2)):=by
     show run lt (if l ≥ r then .ret l else .ask (at' p k) (at' p ((l + r) / 2)) λ c=>if c=true then kas_place p k f l ((l + r) / 2) else kas_place p k f ((l + r) / 2 + 1) r)=_;rw [if_neg c];show run lt (if lt (at' p k) (at' p ((l + r) / 2))=true then _ else _)=_;rw [e,if_pos rfl]
    rw [e2];refine za1 h f l ((l + r) / 2) [2] [2] [2] h1 λ b hb1 hb2=>?_;have z:=h ((l + r) / 2) b hb1 hb2;rcases O.ng (at' p k) (at' p b) (at' p ((l + r) / 2)) e with y | y
    ·exact y
    ·unfold le at z; simp_all
   | false =>
    have e2:run lt (kas_place p k (f + 1) l r)=run lt (kas_place p k f ((l + r) / 2 + 1) r):=by
     show run lt (if l ≥ r then .ret l else .ask (at' p k) (at' p ((l + r) / 2)) λ c=>if c=true then kas_place p k f l ((l + r) / 2) else kas_place p k f ((l + r) / 2 + 1) r)=_;rw [if_neg c];show run lt (if lt (at' p k) (at' p ((l + r) / 2))=true then _ else _)=_
     simp_all
    rw [e2];exact za1 h f ((l + r) / 2 + 1) r [2] hrk [2] (λ a ha=>le_tr O (h a ((l + r) / 2) [2] [2]) e) h2
theorem uf2 {p0:Array Nat}:∀ (f:Nat) (p:Array Nat) (k:Nat),p.Perm p0->1<=k->k + f<=p0.size->Up lt p k->(run lt (kas_bin f p k)).Perm p0 /\ Up lt (run lt (kas_bin f p k)) (k + f)
 | 0,p,k,hp,h1,hs,h=>⟨hp,h⟩
 | f + 1,p,k,hp,h1,hs,h=>by
  have hsz:p.size=p0.size:=hp.size_eq
  have e:run lt (kas_bin (f + 1) p k)=run lt (kas_bin f (bubble p k (k - run lt (kas_place p k k 0 k))) (k + 1)):=by
   show run lt ((kas_place p k k 0 k).bind λ l=>kas_bin f (bubble p k (k - l)) (k + 1))=_;rw [xn1]
  rw [e];obtain ⟨b1,b2,b3⟩:=za1 O h k 0 k [2] (Nat.le_refl _) [2] (λ a ha=>absurd ha (Nat.not_lt_zero _)) (λ b hb1 hb2=>by omega);generalize run lt (kas_place p k k 0 k)=l at b1 b2 b3
  have u:Up lt (bubble p k (k - l)) (k + 1):=λ a b hab hb=>by
   rw [xg3 [2] b1,xg3 [2] b1];by_cases ca:a=l
   ·rw [if_pos ca];by_cases cb:b=l
    ·rw [if_pos cb]; exact le_rf O _
    ·rw [if_neg cb,if_pos ⟨by omega,by omega⟩]; exact le_lt O (b3 _ [2] [2])
   ·rw [if_neg ca];by_cases cb:b=l
    ·rw [if_pos cb,if_neg [2]]; exact b2 _ [2]
    ·rw [if_neg cb];by_cases ca2:l < a /\ a<=k
     ·rw [if_pos ca2,if_pos ⟨by omega,by omega⟩]; exact h _ _ [2] [2]
     ·rw [if_neg ca2];by_cases cb2:l < b /\ b<=k
      ·rw [if_pos cb2]; exact h _ _ [2] [2]
      ·rw [if_neg cb2]; exact h _ _ [2] [2]
  have z:=uf2 f (bubble p k (k - l)) (k + 1) ((bubble_perm _ _ _).trans hp) [2] [2] u;rw [show k + 1 + f=k + (f + 1) by omega] at z;exact z
end
end Ms
namespace Ts
open PySem PyProof.Rows
noncomputable def gal:Bool->Keyed->Array Keyed->Nat->Nat->Nat->StateT SortSt Sem (Option Nat):=sortPriv% PySem.Builtin.gallop
variable {prog:Program} {w:World} {A:Around} {E:[8]} {s:Shared} {κ:SortKind} {M:Keyed->Prop} {x y:Keyed} {Q:Option Nat->SortSt->Prop} {arr:Array Keyed} {i base n:Nat} {B:Nat->Bool}
section
structure Cm (prog:Program) (w:World) (A:Around) (s:Shared) (κ:SortKind) (lt:Keyed->Keyed->Bool) (M:Keyed->Prop):Prop where
 ask:∀ x y,M x->M y->∀ C:Bool->Shared->Prop,C (lt x y) s->wpAny (model prog w) A (keyLt' κ x.1 y.1) C (λ _ _=>False) s
 ir:∀ x,lt x x=false
 tr:∀ x y z,lt x y=true->lt y z=true->lt x z=true
 ng:∀ x y z,lt x z=true->lt x y=true \/ lt y z=true
variable {lt:Keyed->Keyed->Bool} 
noncomputable def le (lt:Keyed->Keyed->Bool) (x y:Keyed):Prop:=lt y x=false
theorem Cm.rf (c:Cm prog w A s κ lt M) (x:Keyed):le lt x x:=c.ir x
theorem Cm.lt_le (c:Cm prog w A s κ lt M) (h:lt x y=true):le lt x y:=by
 unfold le;cases e:lt y x with
 | false=>rfl
 | true=>have:=c.tr x y x h e; rw [c.ir] at this; cases this
theorem Cm.le_tr (c:Cm prog w A s κ lt M) {z:Keyed} (h:le lt x y) (k:le lt y z):le lt x z:=by
 unfold le at h k ⊢;cases e:lt z x with
 | false=>rfl
 | true =>
  rcases c.ng z y x e with q | q
  ·simp_all
  simp_all
structure Ok (κ:SortKind) (st:SortSt):Prop where
 kd:kindOf st=κ
 fl:failedOf st=none
theorem va2 (c:Cm prog w A s κ lt M) {st:SortSt} {Q:Option Bool->SortSt->Prop} (o:Ok κ st) (hx:M x) (hy:M y) (h:Q (some (lt x y)) st):wpS [5] A E s (lt' x y) Q st:=by
 rw [lt'_eq];refine wpS_bind (wpS_get ?_);rw [o.kd];refine wpS_bind (wpS_lift (wpAny_attempt (wpAny_mono (c.ask x y hx hy (λ b s'=>s'=s /\ b=lt x y) ⟨rfl,rfl⟩) (λ b s' hb=>?_) λ _ _ hF=>hF.elim)));obtain ⟨rfl,rfl⟩:=hb;exact ⟨rfl,wpS_pure h⟩
theorem yc0 {st:SortSt} {Q:Keyed->SortSt->Prop} (hi:arr[i]?=some x) (h:Q x st):wpS [5] A E s (elem' arr i) Q st:=by
 rw [elem'_eq,hi];exact wpS_pure h
structure By (lt:Keyed->Keyed->Bool) (M:Keyed->Prop) (l:Bool) (key:Keyed) (arr:Array Keyed) (base n:Nat) (B:Nat->Bool):Prop where
 ky:M key
 it:∀ i,i < n->∃ x,arr[base + i]?=some x /\ M x /\ B i=(if l=true then lt x key else !lt key x)
 mono:∀ i j,i<=j->j < n->B j=true->B i=true
theorem By.no {l:Bool} {key:Keyed} (b:By lt M l key arr base n B) {j:Nat} (h:i<=j) (hj:j < n) (k:B i=false):B j=false:=by
 cases e:B j with
 | false=>rfl
 | true=>have:=b.mono i j h hj e; simp_all
theorem zr1 (c:Cm prog w A s κ lt M) {l:Bool} {key:Keyed} (b:By lt M l key arr base n B) (hi:i < n) {st:SortSt} {Q:Option Bool->SortSt->Prop} (o:Ok κ st) (h:Q (some (B i)) st) :
    wpS [5] A E s (elem' arr (base + i) >>= λ x=>if l=true then lt' x key else lt' key x >>= λ r=>pure (r.map λ y=>!y)) Q st:=by
 obtain ⟨x,ex,mx,e⟩:=b.it i hi;refine wpS_bind (yc0 ex ?_);cases l with
 | true =>
  rw [if_pos rfl];rw [if_pos rfl] at e;exact va2 c o mx b.ky (e ▸ h)
 | false =>
  rw [if_neg (by simp)];rw [if_neg (by simp)] at e;exact wpS_bind (va2 c o b.ky mx (wpS_pure (by simp_all)))
theorem zy0 (c:Cm prog w A s κ lt M) {l:Bool} {key:Keyed} {hint:Nat} {st:SortSt} (o:Ok κ st) (b:By lt M l key arr base n B) (hh:hint < n)
    (h:∀ k,k<=n->(∀ i,i < k->B i=true)->(∀ i,k<=i->i < n->B i=false)->Q (some k) st):wpS [5] A E s (gal l key arr base n hint) Q st:=by
 refine wpS_bind (zr1 c b hh o ?_)
 have tail:∀ lo hi:Nat,lo<=hi->hi<=n->(∀ i,i < lo->B i=true)->(∀ i,hi<=i->i < n->B i=false)->∀ (f:Nat->Option (Option Nat) × Nat × Nat->StateT SortSt Sem (ForInStep (Option (Option Nat) × Nat × Nat))),
     (∀ x lo hi,lo < hi->hi<=n->f x (none,lo,hi)=((elem' arr (base + (lo + (hi - lo) / 2)) >>= λ x=>if l=true then lt' x key else lt' key x >>= λ r=>pure (r.map λ y=>!y)) >>= λ r=>match r with
      | some true=>pure (.yield (none,lo + (hi - lo) / 2 + 1,hi))
      | some false=>pure (.yield (none,lo,lo + (hi - lo) / 2))
      | none=>pure (.done (some none,lo,hi))))->(∀ x lo hi,¬ lo < hi->f x (none,lo,hi)=pure (.done (none,lo,hi))) ->
     wpS [5] A E s (forIn [0:n] (none,lo,hi) f) (λ r st'=>st'=st /\ r.1=none /\ r.2.2<=n /\ (∀ i,i < r.2.2->B i=true) /\ ∀ i,r.2.2<=i->i < n->B i=false) st:=by
  intro lo hi h1 h2 h3 h4 f f1 f2;refine wpS_forRange (λ x r st'=>st'=st /\ r.1=none /\ r.2.1<=r.2.2 /\ r.2.2<=n /\ r.2.2 - r.2.1<=n - x /\ (∀ i,i < r.2.1->B i=true) /\ ∀ i,r.2.2<=i->i < n->B i=false) ?_ ?_ ⟨rfl,rfl,h1,h2,by simp_all;omega,h3,h4⟩
  ·rintro x ⟨r,lo,hi⟩ st' _ hx ⟨rfl,rfl,a1,a2,a3,a4,a5⟩;dsimp only at a1 a2 a3 a4 a5;by_cases z:lo < hi
   ·rw [f1 x lo hi z a2];have hm:lo + (hi - lo) / 2 < n:=by omega
    refine wpS_bind (zr1 c b hm o ?_);cases e:B (lo + (hi - lo) / 2) with
    | true=>exact wpS_pure ⟨rfl,rfl,by show _ + 1<=hi; omega,a2,by simp_all;omega,λ i hi'=>b.mono i _ (by simp_all;omega) hm e,a5⟩
    | false=>exact wpS_pure ⟨rfl,rfl,by simp,by simp_all;omega,by simp_all;omega,a4,λ i h5 h6=>b.no h5 h6 e⟩
   ·rw [f2 x lo hi z];have:lo=hi:=by omega
    subst this;exact wpS_pure ⟨rfl,rfl,a2,a4,a5⟩
  ·rintro ⟨r,lo,hi⟩ st' ⟨rfl,rfl,a1,a2,a3,a4,a5⟩;have a1':lo<=hi:=a1;have a3':hi - lo<=n - max 0 n:=a3;have:lo=hi:=by omega
   simp_all
 have fin:∀ lo hi:Nat,lo<=hi->hi<=n->(∀ i,i < lo->B i=true)->(∀ i,hi<=i->i < n->B i=false)->∀ (f:Nat->Option (Option Nat) × Nat × Nat->StateT SortSt Sem (ForInStep (Option (Option Nat) × Nat × Nat))) (g:Option (Option Nat) × Nat × Nat->StateT SortSt Sem (Option Nat)),
     (∀ x lo hi,lo < hi->hi<=n->f x (none,lo,hi)=((elem' arr (base + (lo + (hi - lo) / 2)) >>= λ x=>if l=true then lt' x key else lt' key x >>= λ r=>pure (r.map λ y=>!y)) >>= λ r=>match r with
      | some true=>pure (.yield (none,lo + (hi - lo) / 2 + 1,hi))
      | some false=>pure (.yield (none,lo,lo + (hi - lo) / 2))
      | none=>pure (.done (some none,lo,hi))))->(∀ x lo hi,¬ lo < hi->f x (none,lo,hi)=pure (.done (none,lo,hi))) ->
     (∀ lo hi,g (none,lo,hi)=pure (some hi))->wpS [5] A E s (forIn [0:n] (none,lo,hi) f >>= g) Q st:=by
  intro lo hi h1 h2 h3 h4 f g f1 f2 g1;refine wpS_bind (wpS_mono (tail lo hi h1 h2 h3 h4 f f1 f2) ?_);rintro ⟨r,lo,hi⟩ st' ⟨rfl,rfl,a2,a4,a5⟩;rw [g1];exact wpS_pure (h hi a2 a4 a5)
 cases e:B hint with
 | true =>
  refine wpS_bind (wpS_mono (wpS_forRange (λ x (r:Option (Option Nat) × Nat × Nat) st'=>st'=st /\ r.1=none /\ r.2.1 < r.2.2 /\ x + 1<=r.2.2 /\ hint + r.2.1 < n /\ B (hint + r.2.1)=true) (Q:=λ (r:Option (Option Nat) × Nat × Nat) st'=>st'=st /\ r.1=none /\ r.2.1 < r.2.2 /\ hint + r.2.1 < n /\ B (hint + r.2.1)=true /\ (n - hint<=r.2.2 \/ (hint + r.2.2 < n /\ B (hint + r.2.2)=false))) ?_ ?_ ⟨rfl,rfl,by decide,by decide,hh,e⟩) ?_)
  ·rintro x ⟨r,la,of⟩ st' _ hx ⟨rfl,rfl,a1,a2,a3,a4⟩;dsimp only at a1 a2 a3 a4 ⊢;by_cases z:of ≥ n - hint
   ·rw [if_pos z];exact wpS_pure ⟨rfl,rfl,a1,a3,a4,.inl z⟩
   ·rw [if_neg z];have hm:hint + of < n:=by omega
    refine wpS_bind (zr1 c b hm o ?_);cases e2:B (hint + of) with
    | true=>exact wpS_pure ⟨rfl,rfl,by simp_all;omega,by simp_all;omega,hm,e2⟩
    | false=>exact wpS_pure ⟨rfl,rfl,a1,a3,a4,.inr ⟨hm,e2⟩⟩
  ·simp_all;omega
  ·rintro ⟨r,la,of⟩ st' ⟨rfl,rfl,a1,a3,a4,a5⟩;dsimp only at a1 a3 a4 a5 ⊢;refine fin (hint + la + 1) (hint + min of (n - hint)) [2] [2] (λ i hi=>b.mono i _ [2] a3 a4) (λ i h5 h6=>?_) _ _ ?_ ?_ ?_
   ·rcases a5 with z | ⟨z1,z2⟩
    ·omega
    ·exact b.no [2] h6 z2
   ·intro x lo hi z _;dsimp only;rw [if_neg [2]];refine congrArg _ (funext λ r=>?_);rcases r with _ | _ | _ <;> rfl
   ·simp_all
   ·intro lo hi; rfl
 | false =>
  refine wpS_bind (wpS_mono (wpS_forRange (λ x (r:Option (Option Nat) × Nat × Nat) st'=>st'=st /\ r.1=none /\ r.2.1 < r.2.2 /\ x + 1<=r.2.2 /\ r.2.1<=hint /\ B (hint - r.2.1)=false) (Q:=λ (r:Option (Option Nat) × Nat × Nat) st'=>st'=st /\ r.1=none /\ r.2.1 < r.2.2 /\ r.2.1<=hint /\ B (hint - r.2.1)=false /\ (hint + 1<=r.2.2 \/ (r.2.2<=hint /\ B (hint - r.2.2)=true))) ?_ ?_ ⟨rfl,rfl,by decide,by decide,Nat.zero_le _,e⟩) ?_)
  ·rintro x ⟨r,la,of⟩ st' _ hx ⟨rfl,rfl,a1,a2,a3,a4⟩;dsimp only at a1 a2 a3 a4 ⊢;by_cases z:of ≥ hint + 1
   ·rw [if_pos z];exact wpS_pure ⟨rfl,rfl,a1,a3,a4,.inl z⟩
   ·rw [if_neg z];have hm:hint - of < n:=by omega
    refine wpS_bind (zr1 c b hm o ?_);cases e2:B (hint - of) with
    | false=>exact wpS_pure ⟨rfl,rfl,by simp_all;omega,by simp_all;omega,by show of<=hint; omega,e2⟩
    | true=>exact wpS_pure ⟨rfl,rfl,a1,a3,a4,.inr ⟨by show of<=hint; omega,e2⟩⟩
  ·simp_all;omega
  ·rintro ⟨r,la,of⟩ st' ⟨rfl,rfl,a1,a3,a4,a5⟩;dsimp only at a1 a3 a4 a5 ⊢;refine fin (hint + 1 - min of (hint + 1)) (hint - la) [2] [2] (λ i hi=>?_) (λ i h5 h6=>b.no h5 h6 a4) _ _ ?_ ?_ ?_
   ·rcases a5 with z | ⟨z1,z2⟩
    ·omega
    ·exact b.mono i _ [2] [2] z2
   ·intro x lo hi z _;dsimp only;rw [if_neg [2]];refine congrArg _ (funext λ r=>?_);rcases r with _ | _ | _ <;> rfl
   ·simp_all
   ·intro lo hi; rfl
end
noncomputable def mlo:Array Keyed->Array Keyed->StateT SortSt Sem (Array Keyed):=sortPriv% PySem.Builtin.mergeLo
noncomputable abbrev GR:=Option (Array Keyed) × Array Keyed × Nat × Nat × Nat × Nat × Nat
noncomputable def galC (a b:Array Keyed) (k1 k:Nat) (u:Array Keyed) (i j g:Nat):StateT SortSt Sem (ForInStep GR) :=
 let nx:Array Keyed->Nat->StateT SortSt Sem (ForInStep GR):=λ u j=>elem' a i >>= λ v =>
  if (i + 1 + 1 == a.size)=true then pure (.done (some (u.push v ++ b.extract j b.size ++ a.extract (i + 1) a.size),u.push v,i + 1,j,g,k1,k))
  else if (decide (k1 < 7) && decide (k < 7))=true then pure (.done (none,u.push v,i + 1,j,g,k1,k)) else pure (.yield (none,u.push v,i + 1,j,g,k1,k))
 if k > 0 then (if (j + k == b.size)=true then pure (.done (some (u ++ b.extract j (j + k) ++ a.extract i a.size ++ b.extract (j + k) b.size),u ++ b.extract j (j + k),i,j + k,g,k1,k)) else nx (u ++ b.extract j (j + k)) (j + k)) else nx u j
theorem sg0 {α:Type} {l:List α} {x:α} (h:l[i]?=some x):l.drop i=x :: l.drop (i + 1):=by
 obtain ⟨h1,h2⟩:=List.getElem?_eq_some_iff.mp h;rw [List.drop_eq_getElem_cons h1,h2]
variable {la lb out:List Keyed} {ia ib:Nat}
section
variable {lt:Keyed->Keyed->Bool}
structure MI (lt:Keyed->Keyed->Bool) (la lb out:List Keyed) (ia ib:Nat):Prop where
 so:out.Pairwise (le lt)
 xa:∀ x ∈ out,∀ y ∈ la.drop ia,le lt x y
 xb:∀ x ∈ out,∀ y ∈ lb.drop ib,le lt x y
 pm:(out ++ (la.drop ia ++ lb.drop ib)).Perm (la ++ lb)
noncomputable def Fin (lt:Keyed->Keyed->Bool) (la lb r:List Keyed):Prop:=r.Perm (la ++ lb) /\ r.Pairwise (le lt)
theorem wj1 {l:List Keyed} (h:l.Pairwise (le lt)) (e:l[i]?=some x):∀ y ∈ l.drop (i + 1),le lt x y:=by
 have h2:(l.drop i).Pairwise (le lt):=h.sublist (drop_sublist i l);rw [sg0 e] at h2;exact (List.pairwise_cons.mp h2).1
theorem MI.a (m:MI lt la lb out ia ib) (sa:la.Pairwise (le lt)) (e:la[ia]?=some x) (k:∀ y ∈ lb.drop ib,le lt x y):MI lt la lb (out ++ [x]) (ia + 1) ib:=by
 have d:=sg0 e;refine ⟨List.pairwise_append.mpr ⟨m.so,pairwise_singleton _ _,λ z hz y hy=>?_⟩,λ z hz y hy=>?_,λ z hz y hy=>?_,?_⟩
 ·rw [mem_singleton] at hy; subst hy;exact m.xa z hz y (by rw [d]; exact .head _)
 ·rcases List.mem_append.mp hz with hz | hz
  ·exact m.xa z hz y (by rw [d]; exact .tail _ hy)
  ·rw [mem_singleton] at hz; subst hz;exact wj1 sa e y hy
 ·rcases List.mem_append.mp hz with hz | hz
  ·exact m.xb z hz y hy
  ·rw [mem_singleton] at hz; subst hz;exact k y hy
 ·have p:=m.pm;rw [d] at p;rw [append_assoc];exact p
theorem MI.b (m:MI lt la lb out ia ib) (sb:lb.Pairwise (le lt)) (e:lb[ib]?=some x) (k:∀ y ∈ la.drop ia,le lt x y):MI lt la lb (out ++ [x]) ia (ib + 1):=by
 have d:=sg0 e;refine ⟨List.pairwise_append.mpr ⟨m.so,pairwise_singleton _ _,λ z hz y hy=>?_⟩,λ z hz y hy=>?_,λ z hz y hy=>?_,?_⟩
 ·rw [mem_singleton] at hy; subst hy;exact m.xb z hz y (by rw [d]; exact .head _)
 ·rcases List.mem_append.mp hz with hz | hz
  ·exact m.xa z hz y hy
  ·rw [mem_singleton] at hz; subst hz;exact k y hy
 ·rcases List.mem_append.mp hz with hz | hz
  ·exact m.xb z hz y (by rw [d]; exact .tail _ hy)
  ·rw [mem_singleton] at hz; subst hz;exact wj1 sb e y hy
 ·have p:=m.pm;rw [d] at p;rw [append_assoc];refine .trans (List.Perm.append_left _ ?_) p;show (x :: (la.drop ia ++ lb.drop (ib + 1))).Perm _;exact List.perm_middle.symm
theorem wd1 {α:Type} {l:List α} {k:Nat} {x:α} (e:l[i + k]?=some x):(l.drop i).take (k + 1)=(l.drop i).take k ++ [x]:=by
 rw [List.take_succ,getElem?_drop,e]; rfl
theorem MI.as {la lb out:List Keyed} {ia ib:Nat} (m:MI lt la lb out ia ib) (sa:la.Pairwise (le lt)):∀ k,ia + k<=la.length->(∀ i x,i < k->la[ia + i]?=some x->∀ y ∈ lb.drop ib,le lt x y)->MI lt la lb (out ++ (la.drop ia).take k) (ia + k) ib
 | 0,_,_=>by rw [take_zero,append_nil]; exact m
 | k + 1,h,q=>by
  have e:la[ia + k]?=some la[ia + k]:=getElem?_eq_getElem [2];rw [wd1 e,<- append_assoc];exact (m.as sa k [2] λ i x hi=>q i x [2]).a sa e (q k _ [2] e)
theorem MI.bs {la lb out:List Keyed} {ia ib:Nat} (m:MI lt la lb out ia ib) (sb:lb.Pairwise (le lt)):∀ k,ib + k<=lb.length->(∀ i x,i < k->lb[ib + i]?=some x->∀ y ∈ la.drop ia,le lt x y)->MI lt la lb (out ++ (lb.drop ib).take k) ia (ib + k)
 | 0,_,_=>by rw [take_zero,append_nil]; exact m
 | k + 1,h,q=>by
  have e:lb[ib + k]?=some lb[ib + k]:=getElem?_eq_getElem [2];rw [wd1 e,<- append_assoc];exact (m.bs sb k [2] λ i x hi=>q i x [2]).b sb e (q k _ [2] e)
theorem MI.endB (m:MI lt la lb out ia ib) (sa:la.Pairwise (le lt)) (h:lb.length<=ib):Fin lt la lb (out ++ la.drop ia ++ lb.drop ib):=by
 have e:lb.drop ib=[]:=List.drop_eq_nil_of_le h;have p:=m.pm;rw [e] at p ⊢;rw [append_nil] at p ⊢;exact ⟨p,List.pairwise_append.mpr ⟨m.so,sa.sublist (drop_sublist _ _),m.xa⟩⟩
theorem MI.endA (m:MI lt la lb out ia ib) (sb:lb.Pairwise (le lt)) (h:la.length<=ia):Fin lt la lb (out ++ la.drop ia ++ lb.drop ib):=by
 have e:la.drop ia=[]:=List.drop_eq_nil_of_le h;have p:=m.pm;rw [e] at p ⊢;rw [append_nil];exact ⟨p,List.pairwise_append.mpr ⟨m.so,sb.sublist (drop_sublist _ _),m.xb⟩⟩
theorem MI.last (m:MI lt la lb out ia ib) (sb:lb.Pairwise (le lt)) (h:ia + 1=la.length) (k:∀ x,la[la.length - 1]?=some x->∀ y ∈ lb,le lt y x):Fin lt la lb (out ++ lb.drop ib ++ la.drop ia):=by
 have e:la[ia]?=some la[ia]:=getElem?_eq_getElem [2];have d:=sg0 e;have e2:la.drop (ia + 1)=[]:=List.drop_eq_nil_of_le [2];rw [e2] at d;refine ⟨?_,?_⟩
 ·refine .trans ?_ m.pm;rw [append_assoc];exact List.Perm.append_left _ List.perm_append_comm
 ·rw [append_assoc];refine List.pairwise_append.mpr ⟨m.so,List.pairwise_append.mpr ⟨sb.sublist (drop_sublist _ _),?_,λ x hx y hy=>?_⟩,λ x hx y hy=>?_⟩
  ·rw [d]; exact pairwise_singleton _ _
  ·rw [d,mem_singleton] at hy;subst hy;exact k _ (by rw [show la.length - 1=ia by omega]; exact e) x (mem_of_mem_drop hx)
  ·rcases List.mem_append.mp hy with hy | hy
   ·exact m.xb x hx y hy
   ·exact m.xa x hx y hy
noncomputable def Mid (lt:Keyed->Keyed->Bool) (la lb:List Keyed) (n:Nat) (r:Option (Array Keyed)) (out:Array Keyed) (ia ib:Nat):Prop:=match r with
 | some z=>Fin lt la lb z.toList
 | none=>MI lt la lb out.toList ia ib /\ ia + 1 < la.length /\ ib < lb.length /\ n<=ia + ib
end
structure Same (κ:SortKind) (st0 st:SortSt):Prop where
 ok:Ok κ st
 ar:arrOf st=arrOf st0
 pe:pendingOf st=pendingOf st0
theorem zg0 (a:Array Keyed) (i:Nat):(a.extract i a.size).toList=a.toList.drop i:=by
 rw [Array.toList_extract];simp only [List.extract];exact take_of_length_le (by rw [length_drop,length_toList]; omega)
theorem xv3 (a:Array Keyed) (i k:Nat):(a.extract i (i + k)).toList=(a.toList.drop i).take k:=by
 rw [Array.toList_extract];simp [List.extract]
variable {Md:Model}
section
variable {lt:Keyed->Keyed->Bool} 
theorem vm0 {a:Array Keyed} (h:i < a.toList.length):∃ x,a[i]?=some x /\ a.toList[i]?=some x /\ x ∈ a.toList:=by
 refine ⟨a.toList[i],?_,getElem?_eq_getElem h,getElem_mem h⟩;rw [<- getElem?_toList,getElem?_eq_getElem h]
theorem getD_some {l:List Keyed} {d:Keyed} (h:l[i]?=some x):l.getD i d=x:=by rw [getD_eq_getElem?_getD,h]; rfl
theorem wp0 {l:List Keyed} (h:l.Pairwise (le lt)) {j:Nat} (hij:i < j) (ex:l[i]?=some x) (ey:l[j]?=some y):le lt x y:=by
 obtain ⟨h1,rfl⟩:=List.getElem?_eq_some_iff.mp ex;obtain ⟨h2,rfl⟩:=List.getElem?_eq_some_iff.mp ey;exact List.pairwise_iff_getElem.mp h i j h1 h2 hij
theorem byF (c:Cm prog w A s κ lt M) {a:Array Keyed} (ma:∀ x ∈ a.toList,M x) {key:Keyed} (hn:ia + n<=a.size) (mk:M key) (sa:a.toList.Pairwise (le lt)):By lt M false key a ia n (λ i=>!lt key (a.toList.getD (ia + i) key)) where
 ky:=mk
 it:=λ i hi=>by
  obtain ⟨x,e1,e2,e3⟩:=vm0 (a:=a) (i:=ia + i) (by rw [length_toList]; omega);exact ⟨x,e1,ma x e3,by rw [getD_some e2,if_neg (by simp)]⟩
 mono:=λ i j hij hj h=>by
  by_cases z:i=j
  ·subst z; exact h
  obtain ⟨x,_,e2,_⟩:=vm0 (a:=a) (i:=ia + i) (by rw [length_toList]; omega);obtain ⟨y,_,e5,_⟩:=vm0 (a:=a) (i:=ia + j) (by rw [length_toList]; omega);have l:=wp0 sa (show ia + i < ia + j by omega) e2 e5;rw [getD_some e5] at h;rw [getD_some e2];have h':le lt y key:=(by simpa using h:lt key y=false);have q:lt key x=false:=c.le_tr l h';simpa using q
theorem byT (c:Cm prog w A s κ lt M) {a:Array Keyed} (ma:∀ x ∈ a.toList,M x) {key:Keyed} (hn:ia + n<=a.size) (mk:M key) (sa:a.toList.Pairwise (le lt)):By lt M true key a ia n (λ i=>lt (a.toList.getD (ia + i) key) key) where
 ky:=mk
 it:=λ i hi=>by
  obtain ⟨x,e1,e2,e3⟩:=vm0 (a:=a) (i:=ia + i) (by rw [length_toList]; omega);exact ⟨x,e1,ma x e3,by rw [getD_some e2,if_pos rfl]⟩
 mono:=λ i j hij hj h=>by
  by_cases z:i=j
  ·subst z; exact h
  obtain ⟨x,_,e2,_⟩:=vm0 (a:=a) (i:=ia + i) (by rw [length_toList]; omega);obtain ⟨y,_,e5,_⟩:=vm0 (a:=a) (i:=ia + j) (by rw [length_toList]; omega);have l:=wp0 sa (show ia + i < ia + j by omega) e2 e5;rw [getD_some e5] at h;rw [getD_some e2];rcases c.ng y x key h with q | q
  ·rw [show lt y x=false from l] at q; cases q
  ·exact q
noncomputable def Pst (κ:SortKind) (lt:Keyed->Keyed->Bool) (a b:Array Keyed) (st:SortSt) (x:Nat):ForInStep GR->SortSt->Prop:=λ r st'=>match r with
 | .done c'=>Same κ st st' /\ Mid lt a.toList b.toList (x + 2) c'.1 c'.2.1 c'.2.2.1 c'.2.2.2.1
 | .yield c'=>Same κ st st' /\ c'.1=none /\ Mid lt a.toList b.toList (x + 2) none c'.2.1 c'.2.2.1 c'.2.2.2.1
theorem ua3 {α:Type} {C:Nat->Prop} [I:∀ g,Decidable (C g)] {t e:Nat->StateT SortSt Sem α} {Q:α->SortSt->Prop} {st:SortSt} (ht:∀ g,t g=e (g - 1)) (h:∀ g,wpS Md A E s (e g) Q st) (g:Nat):wpS Md A E s (@ite _ (C g) (I g) (t g) (e g)) Q st:=by
 by_cases q:C g
 ·rw [if_pos q,ht]; exact h _
 ·rw [if_neg q]; exact h _
theorem at_k {a:Array Keyed} (h:i < a.toList.length) {G:Prop} (k:∀ x,a[i]?=some x->a.toList[i]?=some x->x ∈ a.toList->G):G:=by
 obtain ⟨x,h1,h2,h3⟩:=vm0 h;exact k x h1 h2 h3
theorem wb0 {α:Type} {M:Model} {c:Prop} [Decidable c] {t u:StateT SortSt Sem α} {Q:α->SortSt->Prop} {st:SortSt} (h1:c->wpS M A E s t Q st) (h2:¬ c->wpS M A E s u Q st):wpS M A E s (if c then t else u) Q st:=by
 by_cases h:c
 ·rw [if_pos h]; exact h1 h
 ·rw [if_neg h]; exact h2 h
theorem n5 {α β γ δ ε:Type} {H G:Option α × β × γ × δ × ε->SortSt->Prop} (hn:∀ r s,H r s->r.1=none) (h:∀ b c d e s,H (none,b,c,d,e) s->G (none,b,c,d,e) s) (r:Option α × β × γ × δ × ε) (s:SortSt) (k:H r s):G r s:=by
 obtain ⟨r,b,c,d,e⟩:=r;cases (hn _ _ k:r=none);exact h _ _ _ _ _ k
theorem d5 {α β γ δ ε:Type} {P:α × β × γ × δ × ε->SortSt->Prop} (h:∀ a b c d e s,P (a,b,c,d,e) s) (r:α × β × γ × δ × ε) (s:SortSt):P r s:=h _ _ _ _ _ s
theorem zg5 (c:Cm prog w A s κ lt M) {a b:Array Keyed} {st:SortSt} {Q:Array Keyed->SortSt->Prop} (o:Ok κ st) (ma:∀ x ∈ a.toList,M x) (mb:∀ x ∈ b.toList,M x) (sa:a.toList.Pairwise (le lt)) (sb:b.toList.Pairwise (le lt))
    (na:0 < a.toList.length) (nb:0 < b.toList.length) (h0:∀ x y,b.toList[0]?=some x->a.toList[0]?=some y->le lt x y) (hl:∀ x,a.toList[a.toList.length - 1]?=some x->∀ y ∈ b.toList,le lt y x)
    (h:∀ r st',Same κ st st'->Fin lt a.toList b.toList r.toList->Q r st'):wpS [5] A E s (mlo a b) Q st:=by
 refine wpS_bind (wpS_lift (wpAny_rule ⟨rfl,?_⟩));refine at_k (a:=b) nb λ b0 eb eb' hb0=>?_;refine wpS_bind (yc0 eb ?_);dsimp only;refine at_k (a:=a) na λ a0 ea ea' ha0=>?_
 have dn:∀ {l:List Keyed} {x:Keyed} {i:Nat},l.Pairwise (le lt)->l[i]?=some x->∀ z,le lt z x->∀ y ∈ l.drop i,le lt z y:=by
  intro l x i sl e z hz y hy;rw [sg0 e] at hy;rcases List.mem_cons.mp hy with rfl | hy
  ·exact hz
  ·exact c.le_tr hz (wj1 sl e y hy)
 have m0:MI lt a.toList b.toList #[b0].toList 0 1:=by
  have m:MI lt a.toList b.toList [] 0 0:=⟨List.Pairwise.nil,λ _ h=>(nomatch h),λ _ h=>(nomatch h),.refl _⟩;exact m.b sb eb' (dn sa ea' b0 (h0 _ _ eb' ea'))
 have doneB:∀ {out:Array Keyed} {ia ib:Nat},MI lt a.toList b.toList out.toList ia ib->b.size<=ib->Fin lt a.toList b.toList (out ++ a.extract ia a.size ++ b.extract ib b.size).toList:=by
  intro out ia ib m hi;rw [toList_append,toList_append,zg0,zg0];exact m.endB sa hi
 have doneA:∀ {out:Array Keyed} {ia ib:Nat},MI lt a.toList b.toList out.toList ia ib->a.size<=ia->Fin lt a.toList b.toList (out ++ a.extract ia a.size ++ b.extract ib b.size).toList:=by
  intro out ia ib m hi;rw [toList_append,toList_append,zg0,zg0];exact m.endA sb hi
 have lastA:∀ {out:Array Keyed} {ia ib:Nat},MI lt a.toList b.toList out.toList ia ib->ia + 1=a.size->Fin lt a.toList b.toList (out ++ b.extract ib b.size ++ a.extract ia a.size).toList:=by
  intro out ia ib m hi;rw [toList_append,toList_append,zg0,zg0];exact m.last sb hi hl
 have sza:a.toList.length=a.size:=length_toList;have szb:b.toList.length=b.size:=length_toList
 have nxA:∀ (x k1 k2 g:Nat) (out:Array Keyed) (i j:Nat) (st3:SortSt),Same κ st st3->MI lt a.toList b.toList out.toList i j->i + 1 < a.size->j < b.size->x + 2<=i + j + 1->(∀ v,a.toList[i]?=some v->∀ y ∈ b.toList.drop j,le lt v y) ->
     wpS [5] A E s (elem' a i >>= λ v=>if (i + 1 + 1 == a.size)=true then pure (.done (some (out.push v ++ b.extract j b.size ++ a.extract (i + 1) a.size),out.push v,i + 1,j,g,k1,k2))
      else if (decide (k1 < 7) && decide (k2 < 7))=true then pure (.done (none,out.push v,i + 1,j,g,k1,k2)) else pure (.yield (none,out.push v,i + 1,j,g,k1,k2))) (Pst κ lt a b st x) st3:=by
  intro x k1 k2 g out i j st3 s3 m h1 h2 h3 hle;refine at_k (a:=a) (i:=i) [2] λ va e4 e5 e6=>?_;refine wpS_bind (yc0 e4 ?_);have m':=m.a sa e5 (hle va e5);rw [<- toList_push] at m';refine wb0 (λ z=>?_) λ z=>?_
  ·exact wpS_pure ⟨s3,lastA m' (eq_of_beq z)⟩
  ·have z':i + 1 + 1 ≠ a.size:=λ e=>z (beq_iff_eq.mpr e);refine wb0 (λ y1=>?_) λ y1=>?_
   ·exact wpS_pure ⟨s3,m',by show i + 1 + 1 < _; omega,by show j < _; omega,by show _<=i + 1 + j; omega⟩
   ·exact wpS_pure ⟨s3,rfl,m',by show i + 1 + 1 < _; omega,by show j < _; omega,by show _<=i + 1 + j; omega⟩
 have nxB:∀ (x k bc g:Nat) (out:Array Keyed) {i j:Nat} {st3:SortSt} {vb:Keyed},Same κ st st3->MI lt a.toList b.toList out.toList i j->i + 1 < a.size->j < b.toList.length->x + 2<=i + j->b[j]?=some vb->b.toList[j]?=some vb->(∀ y ∈ a.toList.drop i,le lt vb y) ->
     ∀ (G:Keyed->Keyed->Option Nat->StateT SortSt Sem (ForInStep GR)),(∀ v y k2,G v y (some k2)=galC a b k k2 (out.push v) i (j + 1) g) ->
     wpS [5] A E s (elem' b j >>= λ v=>if (j + 1 == b.size)=true then pure (.done (some (out.push v ++ a.extract i a.size ++ b.extract (j + 1) b.size),out.push v,i,j + 1,g,k,bc))
      else elem' a i >>= λ y=>gal true y b (j + 1) (b.size - (j + 1)) 0 >>= G v y) (Pst κ lt a b st x) st3:=by
  intro x k bc g out i j st3 vb s3 m h1 h2 h3 e1 e2 lo G hG;refine wpS_bind (yc0 e1 ?_);have m':=m.b sb e2 lo;rw [<- toList_push] at m';refine wb0 (λ z=>?_) λ z=>?_
  ·exact wpS_pure ⟨s3,doneB m' (Nat.le_of_eq (eq_of_beq z).symm)⟩
  ·have z':j + 1 ≠ b.size:=λ e=>z (beq_iff_eq.mpr e);refine at_k (a:=a) (i:=i) [2] λ va e4 e5 e6=>?_;refine wpS_bind (yc0 e4 ?_);refine wpS_bind (zy0 c s3.ok (byT c mb [2] (ma _ e6) sb) [2] λ k2 q1 q2 q3=>?_);rw [hG];unfold galC;dsimp only
   have mk:=m'.bs sb k2 [2] λ i y hi ey=>dn sa e5 y (by
    have q:=q2 i hi;rw [getD_some ey] at q;exact c.lt_le q)
   have lo2:∀ v,a.toList[i]?=some v->∀ y ∈ b.toList.drop (j + 1 + k2),le lt v y:=by
    intro v ev y hy;rw [e5] at ev;cases ev;obtain ⟨n,hn,ey⟩:=List.mem_drop_iff_getElem.mp hy;have q:=q3 (k2 + n) [2] [2];rw [getD_some (x:=y) (by rw [show j + 1 + (k2 + n)=j + 1 + k2 + n by omega,getElem?_eq_getElem [2]]; exact congrArg some ey)] at q;exact q
   refine wb0 (λ kp=>?_) λ kp=>?_
   ·rw [<- xv3,<- toList_append] at mk;refine wb0 (λ zz=>?_) λ zz=>?_
    ·exact wpS_pure ⟨s3,doneB mk (Nat.le_of_eq (eq_of_beq zz).symm)⟩
    ·have zz':j + 1 + k2 ≠ b.size:=λ e=>zz (beq_iff_eq.mpr e);exact nxA x _ _ _ _ _ _ _ s3 mk h1 [2] [2] lo2
   ·have k0:k2=0:=by omega
    subst k0;exact nxA x _ _ _ _ _ _ _ s3 m' h1 [2] [2] lo2
 refine wb0 (λ z1=>?_) λ z1=>?_
 ·exact wpS_pure (h _ _ ⟨o,rfl,rfl⟩ (doneB m0 (by have:=eq_of_beq z1; omega)))
 refine wb0 (λ z2=>?_) λ z2=>?_
 ·exact wpS_pure (h _ _ ⟨o,rfl,rfl⟩ (lastA m0 (eq_of_beq z2)))
 have n1:b.size ≠ 1:=λ e=>z1 (beq_iff_eq.mpr e.symm);have n2:a.size ≠ 1:=λ e=>z2 (beq_iff_eq.mpr e.symm);refine wpS_bind (wpS_get ?_)
 refine wpS_bind (wpS_mono (wpS_forRange (λ x (r:Option (Array Keyed) × Array Keyed × Nat × Nat × Nat) st'=>Same κ st st' /\ r.1=none /\ Mid lt a.toList b.toList (x + 1) none r.2.1 r.2.2.1 r.2.2.2.1)
  (Q:=λ (r:Option (Array Keyed) × Array Keyed × Nat × Nat × Nat) st'=>Same κ st st' /\ ∃ z,r.1=some z /\ Fin lt a.toList b.toList z.toList) ?_ ?_ ⟨⟨o,rfl,rfl⟩,rfl,m0,by show 0 + 1 < _; omega,by show 1 < _; omega,Nat.le_refl 1⟩) ?_)
 ·intro x r st1 _ hx h;revert r st1;refine n5 (λ _ _ h=>h.2.1) λ out ia ib mg st1 h=>?_;dsimp only
  refine wpS_bind (wpS_mono (wpS_forRange (λ y (r:Option (Array Keyed) × Array Keyed × Nat × Nat × Nat × Nat) st'=>Same κ st st' /\ r.1=none /\ Mid lt a.toList b.toList (x + 1 + y) none r.2.1 r.2.2.1 r.2.2.2.1)
   (Q:=λ (r:Option (Array Keyed) × Array Keyed × Nat × Nat × Nat × Nat) st'=>Same κ st st' /\ Mid lt a.toList b.toList (x + 2) r.1 r.2.1 r.2.2.1 r.2.2.2.1) ?_ ?_ ⟨h.1,rfl,h.2.2⟩) ?_)
  ·intro y r st2 _ hy h;revert r st2;refine n5 (λ _ _ h=>h.2.1) λ out ia ib z st2 h=>?_;obtain ⟨ac,bc⟩:=z;have s2:=h.1;have ⟨m,i1,i2,i3⟩:=h.2.2;dsimp only at m i1 i2 i3 ⊢;refine at_k (a:=b) i2 λ vb e1 e2 e3=>?_;refine at_k (a:=a) (i:=ia) [2] λ va e4 e5 e6=>?_;refine wpS_bind (yc0 e1 (wpS_bind (yc0 e4 (wpS_bind (va2 c s2.ok (mb _ e3) (ma _ e6) ?_)))));cases q:lt vb va with
   | true =>
    dsimp only;rw [if_pos rfl];refine wpS_bind (yc0 e1 ?_);have m':=m.b sb e2 (dn sa e5 vb (c.lt_le q));rw [<- toList_push] at m';refine wb0 (λ z=>?_) λ z=>?_
    ·exact wpS_pure ⟨s2,doneB m' (Nat.le_of_eq (eq_of_beq z).symm)⟩
    ·have z':ib + 1 ≠ b.size:=λ e=>z (beq_iff_eq.mpr e);refine wb0 (λ y1=>?_) λ y1=>?_
     ·exact wpS_pure ⟨s2,m',i1,by show ib + 1 < _; omega,by show _<=ia + (ib + 1); omega⟩
     ·exact wpS_pure ⟨s2,rfl,m',i1,by show ib + 1 < _; omega,by show _<=ia + (ib + 1); omega⟩
   | false =>
    dsimp only;rw [if_neg (by simp)];refine wpS_bind (yc0 e4 ?_);have m':=m.a sa e5 (dn sb e2 va q);rw [<- toList_push] at m';refine wb0 (λ z=>?_) λ z=>?_
    ·exact wpS_pure ⟨s2,lastA m' (eq_of_beq z)⟩
    ·have z':ia + 1 + 1 ≠ a.size:=λ e=>z (beq_iff_eq.mpr e);refine wb0 (λ y1=>?_) λ y1=>?_
     ·exact wpS_pure ⟨s2,m',by show ia + 1 + 1 < _; omega,i2,by show _<=ia + 1 + ib; omega⟩
     ·exact wpS_pure ⟨s2,rfl,m',by show ia + 1 + 1 < _; omega,i2,by show _<=ia + 1 + ib; omega⟩
  ·rintro ⟨r,out,ia,ib,ac,bc⟩ st2 ⟨s2,rfl,m,i1,i2,i3⟩;exact ⟨s2,m,i1,i2,by omega⟩
  ·refine d5 λ r out ia ib z st2 h=>?_;dsimp only;cases r with
   | some z=>exact wpS_pure ⟨h.1,z,rfl,h.2⟩
   | none =>
    dsimp only;refine wpS_bind (wpS_lift (wpAny_rule ⟨rfl,?_⟩))
    refine wpS_bind (wpS_mono (wpS_forRange (λ y (r:Option (Array Keyed) × Array Keyed × Nat × Nat × Nat × Nat × Nat) st'=>Same κ st st' /\ r.1=none /\ Mid lt a.toList b.toList (x + 2) none r.2.1 r.2.2.1 r.2.2.2.1)
     (Q:=λ (r:Option (Array Keyed) × Array Keyed × Nat × Nat × Nat × Nat × Nat) st'=>Same κ st st' /\ Mid lt a.toList b.toList (x + 2) r.1 r.2.1 r.2.2.1 r.2.2.2.1) ?_ ?_ ⟨h.1,rfl,h.2⟩) ?_)
    ·intro y r st3 _ hy h;revert r st3;refine n5 (λ _ _ h=>h.2.1) λ out ia ib z st3 h=>?_;obtain ⟨mg,ac,bc⟩:=z;have s3:=h.1;have ⟨m,i1,i2,i3⟩:=h.2.2;dsimp only at m i1 i2 i3 ⊢;have s3':∀ g:Nat,Same κ st (SortSt.mk' (kindOf st3) (arrOf st3) (pendingOf st3) g (failedOf st3)):=λ g=>⟨⟨s3.ok.kd,s3.ok.fl⟩,s3.ar,s3.pe⟩;refine at_k (a:=b) i2 λ vb e1 e2 e3=>?_;clear h;revert mg;refine ua3 (λ _=>rfl) λ mg=>?_;refine wpS_bind (wpS_modify ?_);refine wpS_bind (yc0 e1 ?_);refine wpS_bind (zy0 c (s3' _).ok (byF c ma [2] (mb _ e3) sa) [2] λ k k1 k2 k3=>?_);dsimp only
     have mk:=m.as sa k [2] λ i y hi ey=>dn sb e2 y (by
      have q:=k2 i hi;rw [getD_some ey] at q;exact (by simpa using q:lt vb y=false))
     have lo:∀ y ∈ a.toList.drop (ia + k),le lt vb y:=by
      intro y hy;obtain ⟨i,hi,ey⟩:=List.mem_drop_iff_getElem.mp hy;have q:=k3 (k + i) [2] [2];rw [getD_some (x:=y) (by rw [show ia + (k + i)=ia + k + i by omega,getElem?_eq_getElem [2]]; exact congrArg some ey)] at q;exact c.lt_le (by simpa using q)
     refine wb0 (λ kp=>?_) λ kp=>?_
     ·have mk':=mk;rw [<- xv3,<- toList_append] at mk';refine wb0 (λ z=>?_) λ z=>?_
      ·exact wpS_pure ⟨s3' _,lastA mk' (eq_of_beq z)⟩
      ·have z':ia + k + 1 ≠ a.size:=λ e=>z (beq_iff_eq.mpr e);refine wb0 (λ zz=>?_) λ zz=>?_
       ·exact wpS_pure ⟨s3' _,doneA mk' (Nat.le_of_eq (eq_of_beq zz).symm)⟩
       ·have zz':ia + k ≠ a.size:=λ e=>zz (beq_iff_eq.mpr e);refine wpS_mono (nxB x k bc _ _ (s3' _) mk' [2] i2 [2] e1 e2 lo _ ?_) ?_
        ·intro _ _ _; rfl
        ·intro r st' q; cases r <;> exact q
     ·have k0:k=0:=by omega
      subst k0;rw [take_zero,append_nil] at mk;refine wpS_mono (nxB x 0 bc _ _ (s3' _) m [2] i2 [2] e1 e2 lo _ ?_) ?_
      ·intro _ _ _; rfl
      ·intro r st' q; cases r <;> exact q
    ·rintro ⟨r,out,ia,ib,mg,ac,bc⟩ st3 ⟨s3,rfl,m,i1,i2,i3⟩;exact ⟨s3,m,i1,i2,i3⟩
    ·refine d5 λ r out ia ib z st3 h=>?_;dsimp only;cases r with
     | some z=>exact wpS_pure ⟨h.1,z,rfl,h.2⟩
     | none =>
      dsimp only;exact wpS_bind (wpS_modify (wpS_pure ⟨⟨⟨h.1.ok.kd,h.1.ok.fl⟩,h.1.ar,h.1.pe⟩,rfl,h.2⟩))
 ·rintro ⟨r,out,ia,ib,mg⟩ st1 ⟨s1,rfl,m,i1,i2,i3⟩;exfalso;dsimp only at i1 i2 i3;omega
 ·rintro ⟨r,out,ia,ib,mg⟩ st1 ⟨s1,z,e,f⟩;dsimp only at e ⊢;subst e;exact wpS_pure (h z st1 s1 f)
end
noncomputable def mhi:Array Keyed->Array Keyed->StateT SortSt Sem (Array Keyed):=sortPriv% PySem.Builtin.mergeHi
variable {nb na:Nat}
section
variable {lt:Keyed->Keyed->Bool}
theorem yd0 {α:Type} {l:List α} {x:α} (h:l[i]?=some x):l.take (i + 1)=l.take i ++ [x]:=by rw [List.take_succ,h]; rfl
theorem uo1 {α:Type} {l:List α} {x:α} (h:l[i]?=some x) (hi:i < n):x ∈ l.take n:=List.mem_iff_getElem?.mpr ⟨i,by simp_all⟩
structure MH (lt:Keyed->Keyed->Bool) (la lb ro:List Keyed) (na nb:Nat):Prop where
 so:ro.Pairwise (le lt)
 xa:∀ x ∈ la.take na,∀ y ∈ ro,le lt x y
 xb:∀ x ∈ lb.take nb,∀ y ∈ ro,le lt x y
 pm:(la.take na ++ (lb.take nb ++ ro)).Perm (la ++ lb)
theorem zh3 {l:List Keyed} (h:l.Pairwise (le lt)) (e:l[n]?=some x):∀ z ∈ l.take n,le lt z x:=by
 intro z hz;obtain ⟨i,hi,ez⟩:=List.mem_take_iff_getElem.mp hz;exact wp0 h [2] (List.getElem?_eq_some_iff.mpr ⟨by omega,ez⟩) e
theorem MH.a {ro:List Keyed} (m:MH lt la lb ro (n + 1) nb) (sa:la.Pairwise (le lt)) (e:la[n]?=some x) (k:∀ y ∈ lb.take nb,le lt y x):MH lt la lb (x :: ro) n nb:=by
 have d:=yd0 e;refine ⟨List.pairwise_cons.mpr ⟨λ y hy=>m.xa x (uo1 e [2]) y hy,m.so⟩,λ z hz y hy=>?_,λ z hz y hy=>?_,?_⟩
 ·rcases List.mem_cons.mp hy with rfl | hy
  ·exact zh3 sa e z hz
  ·exact m.xa z (by simp_all) y hy
 ·rcases List.mem_cons.mp hy with rfl | hy
  ·exact k z hz
  ·exact m.xb z hz y hy
 ·refine .trans ?_ m.pm;rw [d,append_assoc];refine List.Perm.append_left _ ?_;simp
theorem MH.b {ro:List Keyed} (m:MH lt la lb ro na (n + 1)) (sb:lb.Pairwise (le lt)) (e:lb[n]?=some x) (k:∀ y ∈ la.take na,le lt y x):MH lt la lb (x :: ro) na n:=by
 have d:=yd0 e;refine ⟨List.pairwise_cons.mpr ⟨λ y hy=>m.xb x (uo1 e [2]) y hy,m.so⟩,λ z hz y hy=>?_,λ z hz y hy=>?_,?_⟩
 ·rcases List.mem_cons.mp hy with rfl | hy
  ·exact k z hz
  ·exact m.xa z hz y hy
 ·rcases List.mem_cons.mp hy with rfl | hy
  ·exact zh3 sb e z hz
  ·exact m.xb z (by simp_all) y hy
 ·have p:=m.pm
  simp_all
theorem MH.as {la lb:List Keyed} {nb:Nat} (sa:la.Pairwise (le lt)) {at_:Nat}:∀ (k:Nat) {ro:List Keyed},MH lt la lb ro (at_ + k) nb->at_ + k<=la.length->(∀ i x,at_<=i->i < at_ + k->la[i]?=some x->∀ y ∈ lb.take nb,le lt y x)->MH lt la lb ((la.take (at_ + k)).drop at_ ++ ro) at_ nb
 | 0,ro,m,_,_=>by
  simp_all
 | k + 1,ro,m,h,q=>by
  have e:la[at_ + k]?=some la[at_ + k]:=getElem?_eq_getElem [2];have m2:=MH.a (n:=at_ + k) m sa e (q _ _ [2] [2] e);have r:=MH.as sa k m2 [2] λ i x h1 h2=>q i x h1 [2]
  have e2:(la.take (at_ + (k + 1))).drop at_=(la.take (at_ + k)).drop at_ ++ [la[at_ + k]]:=by
   rw [show at_ + (k + 1)=at_ + k + 1 from rfl,yd0 e,List.drop_append_of_le_length (by simp_all;omega)]
  simp_all
theorem MH.bs {la lb:List Keyed} {na:Nat} (sb:lb.Pairwise (le lt)) {at_:Nat}:∀ (k:Nat) {ro:List Keyed},MH lt la lb ro na (at_ + k)->at_ + k<=lb.length->(∀ i x,at_<=i->i < at_ + k->lb[i]?=some x->∀ y ∈ la.take na,le lt y x)->MH lt la lb ((lb.take (at_ + k)).drop at_ ++ ro) na at_
 | 0,ro,m,_,_=>by
  simp_all
 | k + 1,ro,m,h,q=>by
  have e:lb[at_ + k]?=some lb[at_ + k]:=getElem?_eq_getElem [2];have m2:=MH.b (n:=at_ + k) m sb e (q _ _ [2] [2] e);have r:=MH.bs sb k m2 [2] λ i x h1 h2=>q i x h1 [2]
  have e2:(lb.take (at_ + (k + 1))).drop at_=(lb.take (at_ + k)).drop at_ ++ [lb[at_ + k]]:=by
   rw [show at_ + (k + 1)=at_ + k + 1 from rfl,yd0 e,List.drop_append_of_le_length (by simp_all;omega)]
  simp_all
theorem MH.endA {ro:List Keyed} (m:MH lt la lb ro 0 nb) (sb:lb.Pairwise (le lt)):Fin lt la lb (la.take 0 ++ lb.take nb ++ ro):=by
 have p:=m.pm;rw [take_zero,nil_append] at p ⊢;exact ⟨p,List.pairwise_append.mpr ⟨sb.sublist (take_sublist _ _),m.so,m.xb⟩⟩
theorem MH.endB {ro:List Keyed} (m:MH lt la lb ro na 0) (sa:la.Pairwise (le lt)):Fin lt la lb (la.take na ++ lb.take 0 ++ ro):=by
 have p:=m.pm;rw [take_zero,nil_append] at p;rw [take_zero,append_nil];exact ⟨p,List.pairwise_append.mpr ⟨sa.sublist (take_sublist _ _),m.so,m.xa⟩⟩
theorem MH.first {ro:List Keyed} (m:MH lt la lb ro na 1) (sa:la.Pairwise (le lt)) (hb:0 < lb.length) (k:∀ x,lb[0]?=some x->∀ y ∈ la,le lt x y):Fin lt la lb (lb.take 1 ++ la.take na ++ ro):=by
 have e:lb[0]?=some lb[0]:=getElem?_eq_getElem hb;have d:=yd0 e;rw [take_zero,nil_append] at d;refine ⟨?_,?_⟩
 ·refine .trans ?_ m.pm;rw [<- append_assoc];exact List.Perm.append_right _ List.perm_append_comm
 ·refine List.pairwise_append.mpr ⟨List.pairwise_append.mpr ⟨?_,sa.sublist (take_sublist _ _),λ x hx y hy=>?_⟩,m.so,λ x hx y hy=>?_⟩
  ·simp_all
  ·rw [d,mem_singleton] at hx;subst hx;exact k _ e y (mem_of_mem_take hy)
  ·rcases List.mem_append.mp hx with hx | hx
   ·exact m.xb x hx y hy
   ·exact m.xa x hx y hy
noncomputable def MidH (lt:Keyed->Keyed->Bool) (la lb:List Keyed) (n:Nat) (r:Option (Array Keyed)) (na nb:Nat) (out:Array Keyed):Prop:=match r with
 | some z=>Fin lt la lb z.toList
 | none=>MH lt la lb out.toList.reverse na nb /\ 0 < na /\ na<=la.length /\ 1 < nb /\ nb<=lb.length /\ na + nb + n<=la.length + lb.length
end
theorem ext0 (a:Array Keyed) (n:Nat):(a.extract 0 n).toList=a.toList.take n:=by
 simp
theorem su3 (a:Array Keyed) (i n:Nat):(a.extract i n).toList=(a.toList.take n).drop i:=by
 rw [Array.toList_extract,List.extract_eq_drop_take,List.drop_take]
theorem zs0 (u:Array Keyed) (v:Keyed):(u.push v).toList.reverse=v :: u.toList.reverse:=by simp
theorem wx1 (u t:Array Keyed):(u ++ t.reverse).toList.reverse=t.toList ++ u.toList.reverse:=by simp
noncomputable abbrev GH:=Option (Array Keyed) × Nat × Nat × Array Keyed × Nat × Nat × Nat
noncomputable def PstH (κ:SortKind) (lt:Keyed->Keyed->Bool) (a b:Array Keyed) (st:SortSt) (x:Nat):ForInStep GH->SortSt->Prop:=λ r st'=>match r with
 | .done c'=>Same κ st st' /\ MidH lt a.toList b.toList (x + 2) c'.1 c'.2.1 c'.2.2.1 c'.2.2.2.1
 | .yield c'=>Same κ st st' /\ c'.1=none /\ MidH lt a.toList b.toList (x + 2) none c'.2.1 c'.2.2.1 c'.2.2.2.1
noncomputable def galH (a b:Array Keyed) (k1 t:Nat) (u:Array Keyed) (i j g:Nat):StateT SortSt Sem (ForInStep GH) :=
 let nx:Nat->Array Keyed->StateT SortSt Sem (ForInStep GH):=λ m u=>elem' a (i - 1) >>= λ v =>
  if (i - 1 == 0)=true then pure (.done (some (a.extract 0 (i - 1) ++ b.extract 0 m ++ (u.push v).reverse),i - 1,m,u.push v,g,k1,j - t))
  else if (decide (k1 < 7) && decide (j - t < 7))=true then pure (.done (none,i - 1,m,u.push v,g,k1,j - t)) else pure (.yield (none,i - 1,m,u.push v,g,k1,j - t))
 if j - t > 0 then (if (t == 1)=true then pure (.done (some (b.extract 0 t ++ a.extract 0 i ++ (u ++ (b.extract t j).reverse).reverse),i,t,u ++ (b.extract t j).reverse,g,k1,j - t))
  else if (t == 0)=true then pure (.done (some (a.extract 0 i ++ b.extract 0 t ++ (u ++ (b.extract t j).reverse).reverse),i,t,u ++ (b.extract t j).reverse,g,k1,j - t)) else nx t (u ++ (b.extract t j).reverse)) else nx j u
section
variable {lt:Keyed->Keyed->Bool} 
theorem tg5 (c:Cm prog w A s κ lt M) {a b:Array Keyed} {st:SortSt} {Q:Array Keyed->SortSt->Prop} (o:Ok κ st) (ma:∀ x ∈ a.toList,M x) (mb:∀ x ∈ b.toList,M x) (sa:a.toList.Pairwise (le lt)) (sb:b.toList.Pairwise (le lt))
    (na:0 < a.toList.length) (nb:0 < b.toList.length) (h0:∀ x y,b.toList[0]?=some x->a.toList[0]?=some y->le lt x y) (hl:∀ x,a.toList[a.toList.length - 1]?=some x->∀ y ∈ b.toList,le lt y x)
    (h:∀ r st',Same κ st st'->Fin lt a.toList b.toList r.toList->Q r st'):wpS [5] A E s (mhi a b) Q st:=by
 refine wpS_bind (wpS_lift (wpAny_rule ⟨rfl,?_⟩));have sza:a.toList.length=a.size:=length_toList;have szb:b.toList.length=b.size:=length_toList;refine at_k (a:=a) (i:=a.size - 1) [2] λ vl el el' hvl=>?_;refine wpS_bind (yc0 el ?_);dsimp only;refine at_k (a:=a) na λ a0 ea ea' ha0=>?_
 have up:∀ {l:List Keyed} {x:Keyed} {n:Nat},l.Pairwise (le lt)->l[n]?=some x->∀ z,le lt x z->∀ y ∈ l.take (n + 1),le lt y z:=by
  intro l x n sl e z hz y hy;rw [yd0 e] at hy;rcases List.mem_append.mp hy with hy | hy
  ·exact c.le_tr (zh3 sl e y hy) hz
  simp_all
 have fb:∀ x,b.toList[0]?=some x->∀ y ∈ a.toList,le lt x y:=by
  intro x ex y hy;obtain ⟨i,hi,rfl⟩:=List.mem_iff_getElem.mp hy;have e:=getElem?_eq_getElem hi;have q:=h0 x a0 ex ea';by_cases z:i=0
  ·simp_all
  ·exact c.le_tr q (wp0 sa [2] ea' e)
 have m0:MH lt a.toList b.toList #[vl].toList.reverse (a.size - 1) b.size:=by
  have m:MH lt a.toList b.toList [] (a.size - 1 + 1) b.size:=⟨List.Pairwise.nil,λ _ _ _ h=>(nomatch h),λ _ _ _ h=>(nomatch h),by
   rw [take_of_length_le [2],take_of_length_le [2],append_nil]⟩
  exact m.a sa el' λ y hy=>hl vl (by rw [sza]; exact el') y (mem_of_mem_take hy)
 have doneA:∀ {out:Array Keyed} {j:Nat} {i:Nat},MH lt a.toList b.toList out.toList.reverse i j->i=0->Fin lt a.toList b.toList (a.extract 0 i ++ b.extract 0 j ++ out.reverse).toList:=by
  intro out j i m hi;subst hi;rw [toList_append,toList_append,ext0,ext0,Array.toList_reverse];exact m.endA sb
 have doneB:∀ {out:Array Keyed} {j:Nat} {i:Nat},MH lt a.toList b.toList out.toList.reverse i j->j=0->Fin lt a.toList b.toList (a.extract 0 i ++ b.extract 0 j ++ out.reverse).toList:=by
  intro out j i m hi;subst hi;rw [toList_append,toList_append,ext0,ext0,Array.toList_reverse];exact m.endB sa
 have firstB:∀ {out:Array Keyed} {j:Nat} {i:Nat},MH lt a.toList b.toList out.toList.reverse i j->j=1->Fin lt a.toList b.toList (b.extract 0 j ++ a.extract 0 i ++ out.reverse).toList:=by
  intro out j i m hi;subst hi;rw [toList_append,toList_append,ext0,ext0,Array.toList_reverse];exact m.first sa nb fb
 have nxA:∀ (x k1 k2 g:Nat) (out:Array Keyed) (i j:Nat) (st3:SortSt),Same κ st st3->MH lt a.toList b.toList out.toList.reverse i j->0 < i->i<=a.size->1 < j->j<=b.size->i + j + (x + 1)<=a.size + b.size->(∀ v,a.toList[i - 1]?=some v->∀ y ∈ b.toList.take j,le lt y v) ->
     wpS [5] A E s (elem' a (i - 1) >>= λ v=>if (i - 1 == 0)=true then pure (.done (some (a.extract 0 (i - 1) ++ b.extract 0 j ++ (out.push v).reverse),i - 1,j,out.push v,g,k1,k2))
      else if (decide (k1 < 7) && decide (k2 < 7))=true then pure (.done (none,i - 1,j,out.push v,g,k1,k2)) else pure (.yield (none,i - 1,j,out.push v,g,k1,k2))) (PstH κ lt a b st x) st3:=by
  intro x k1 k2 g out i j st3 s3 m p1 p2 p3 p4 p5 hle;obtain ⟨n,rfl⟩:∃ n,i=n + 1:=⟨i - 1,by omega⟩;rw [Nat.add_sub_cancel] at hle ⊢;refine at_k (a:=a) (i:=n) [2] λ va e4 e5 e6=>?_;refine wpS_bind (yc0 e4 ?_);have m':=m.a sa e5 (hle va e5);rw [<- zs0] at m';refine wb0 (λ z=>?_) λ z=>?_
  ·exact wpS_pure ⟨s3,doneA m' (eq_of_beq z)⟩
  ·have z':n ≠ 0:=λ e=>z (beq_iff_eq.mpr e);refine wb0 (λ y1=>?_) λ y1=>?_
   ·exact wpS_pure ⟨s3,m',by show 0 < n; omega,by show n<=_; omega,p3,by show j<=_; omega,by simp_all;omega⟩
   ·exact wpS_pure ⟨s3,rfl,m',by show 0 < n; omega,by show n<=_; omega,p3,by show j<=_; omega,by simp_all;omega⟩
 have nxB:∀ (x k bc g:Nat) (out:Array Keyed) {i j:Nat} {st3:SortSt} {vb:Keyed},Same κ st st3->MH lt a.toList b.toList out.toList.reverse i j->0 < i->i<=a.size->1 < j->j<=b.size->i + j + (x + 2)<=a.size + b.size->b[j - 1]?=some vb->b.toList[j - 1]?=some vb->(∀ y ∈ a.toList.take i,le lt y vb) ->
     ∀ (G:Keyed->Keyed->Option Nat->StateT SortSt Sem (ForInStep GH)),(∀ v y t,G v y (some t)=galH a b k t (out.push v) i (j - 1) g) ->
     wpS [5] A E s (elem' b (j - 1) >>= λ v=>if (j - 1 == 1)=true then pure (.done (some (b.extract 0 (j - 1) ++ a.extract 0 i ++ (out.push v).reverse),i,j - 1,out.push v,g,k,bc))
      else elem' a (i - 1) >>= λ y=>gal true y b 0 (j - 1) (j - 1 - 1) >>= G v y) (PstH κ lt a b st x) st3:=by
  intro x k bc g out i j st3 vb s3 m p1 p2 p3 p4 p5 e1 e2 lo G hG;obtain ⟨n,rfl⟩:∃ n,j=n + 1:=⟨j - 1,by omega⟩;rw [Nat.add_sub_cancel] at e1 e2 ⊢;refine wpS_bind (yc0 e1 ?_);have m':=m.b sb e2 lo;rw [<- zs0] at m';refine wb0 (λ z=>?_) λ z=>?_
  ·exact wpS_pure ⟨s3,firstB m' (eq_of_beq z)⟩
  ·have z':n ≠ 1:=λ e=>z (beq_iff_eq.mpr e);refine at_k (a:=a) (i:=i - 1) [2] λ va e4 e5 e6=>?_;refine wpS_bind (yc0 e4 ?_);refine wpS_bind (zy0 c s3.ok (byT c mb [2] (ma _ e6) sb) [2] λ t q1 q2 q3=>?_);rw [hG,Nat.add_sub_cancel];unfold galH;dsimp only;obtain ⟨k2,rfl⟩:∃ k2,n=t + k2:=⟨n - t,by omega⟩
   have mk:=MH.bs sb k2 m' [2] λ ii y h1 h2 ey=>by
    have q:=q3 ii h1 h2;rw [getD_some (x:=y) (by simp_all)] at q;have u:=up sa e5 y q;rw [show i - 1 + 1=i by omega] at u;exact u
   have lo2:∀ v,a.toList[i - 1]?=some v->∀ y ∈ b.toList.take t,le lt y v:=by
    intro v ev y hy;rw [e5] at ev;cases ev;obtain ⟨ii,hi,ey⟩:=List.mem_take_iff_getElem.mp hy;have q:=q2 ii [2];rw [getD_some (x:=y) (by rw [Nat.zero_add]; exact List.getElem?_eq_some_iff.mpr ⟨by omega,ey⟩)] at q;exact c.lt_le q
   refine wb0 (λ kp=>?_) λ kp=>?_
   ·rw [<- su3,<- wx1] at mk;refine wb0 (λ zz=>?_) λ zz=>?_
    ·exact wpS_pure ⟨s3,firstB mk (eq_of_beq zz)⟩
    ·have zz':t ≠ 1:=λ e=>zz (beq_iff_eq.mpr e);refine wb0 (λ zy=>?_) λ zy=>?_
     ·exact wpS_pure ⟨s3,doneB mk (eq_of_beq zy)⟩
     ·have zy':t ≠ 0:=λ e=>zy (beq_iff_eq.mpr e);exact nxA x _ _ _ _ _ _ _ s3 mk p1 p2 [2] [2] [2] lo2
   ·have k0:k2=0:=by omega
    subst k0;exact nxA x _ _ _ _ _ _ _ s3 m' p1 p2 [2] [2] [2] lo2
 refine wb0 (λ z1=>?_) λ z1=>?_
 ·exact wpS_pure (h _ _ ⟨o,rfl,rfl⟩ (doneA m0 (eq_of_beq z1)))
 refine wb0 (λ z2=>?_) λ z2=>?_
 ·exact wpS_pure (h _ _ ⟨o,rfl,rfl⟩ (firstB m0 (eq_of_beq z2)))
 have n1:b.size ≠ 1:=λ e=>z2 (beq_iff_eq.mpr e);have n2:a.size - 1 ≠ 0:=λ e=>z1 (beq_iff_eq.mpr e);refine wpS_bind (wpS_get ?_)
 refine wpS_bind (wpS_mono (wpS_forRange (λ x (r:Option (Array Keyed) × Nat × Nat × Array Keyed × Nat) st'=>Same κ st st' /\ r.1=none /\ MidH lt a.toList b.toList (x + 1) none r.2.1 r.2.2.1 r.2.2.2.1)
  (Q:=λ (r:Option (Array Keyed) × Nat × Nat × Array Keyed × Nat) st'=>Same κ st st' /\ ∃ z,r.1=some z /\ Fin lt a.toList b.toList z.toList) ?_ ?_ ⟨⟨o,rfl,rfl⟩,rfl,m0,by show 0 < a.size - 1; omega,by simp,by show 1 < b.size; omega,by simp,by show a.size - 1 + b.size + (0 + 1)<=_; omega⟩) ?_)
 ·intro x r st1 _ hx h;revert r st1;refine n5 (λ _ _ h=>h.2.1) λ i j out mg st1 h=>?_;dsimp only
  refine wpS_bind (wpS_mono (wpS_forRange (λ y (r:Option (Array Keyed) × Nat × Nat × Array Keyed × Nat × Nat) st'=>Same κ st st' /\ r.1=none /\ MidH lt a.toList b.toList (x + 1 + y) none r.2.1 r.2.2.1 r.2.2.2.1)
   (Q:=λ (r:Option (Array Keyed) × Nat × Nat × Array Keyed × Nat × Nat) st'=>Same κ st st' /\ MidH lt a.toList b.toList (x + 2) r.1 r.2.1 r.2.2.1 r.2.2.2.1) ?_ ?_ ⟨h.1,rfl,h.2.2⟩) ?_)
  ·intro y r st2 _ hy h;revert r st2;refine n5 (λ _ _ h=>h.2.1) λ i j out z0 st2 h=>?_;obtain ⟨ac,bc⟩:=z0;have s2:=h.1;have ⟨m,p1,p2,p3,p4,p5⟩:=h.2.2;clear h;dsimp only at m p1 p2 p3 p4 p5 ⊢;obtain ⟨n,rfl⟩:∃ n,i=n + 1:=⟨i - 1,by omega⟩;obtain ⟨l,rfl⟩:∃ l,j=l + 1:=⟨j - 1,by omega⟩;simp only [Nat.add_sub_cancel];refine at_k (a:=b) (i:=l) [2] λ vb e1 e2 e3=>?_;refine at_k (a:=a) (i:=n) [2] λ va e4 e5 e6=>?_;refine wpS_bind (yc0 e1 (wpS_bind (yc0 e4 (wpS_bind (va2 c s2.ok (mb _ e3) (ma _ e6) ?_)))));cases q:lt vb va with
   | true =>
    dsimp only;rw [if_pos rfl];refine wpS_bind (yc0 e4 ?_);have m':=m.a sa e5 (up sb e2 va (c.lt_le q));rw [<- zs0] at m';refine wb0 (λ z=>?_) λ z=>?_
    ·exact wpS_pure ⟨s2,doneA m' (eq_of_beq z)⟩
    ·have z':n ≠ 0:=λ e=>z (beq_iff_eq.mpr e);refine wb0 (λ y1=>?_) λ y1=>?_
     ·exact wpS_pure ⟨s2,m',by show 0 < n; omega,by show n<=_; omega,p3,p4,by show n + (l + 1) + (x + 2)<=_; omega⟩
     ·exact wpS_pure ⟨s2,rfl,m',by show 0 < n; omega,by show n<=_; omega,p3,p4,by show n + (l + 1) + (x + 1 + (y + 1))<=_; omega⟩
   | false =>
    dsimp only;rw [if_neg (by simp)];refine wpS_bind (yc0 e1 ?_);have m':=m.b sb e2 (up sa e5 vb q);rw [<- zs0] at m';refine wb0 (λ z=>?_) λ z=>?_
    ·exact wpS_pure ⟨s2,firstB m' (eq_of_beq z)⟩
    ·have z':l ≠ 1:=λ e=>z (beq_iff_eq.mpr e);refine wb0 (λ y1=>?_) λ y1=>?_
     ·exact wpS_pure ⟨s2,m',p1,p2,by show 1 < l; omega,by show l<=_; omega,by show n + 1 + l + (x + 2)<=_; omega⟩
     ·exact wpS_pure ⟨s2,rfl,m',p1,p2,by show 1 < l; omega,by show l<=_; omega,by show n + 1 + l + (x + 1 + (y + 1))<=_; omega⟩
  ·rintro ⟨r,i,j,out,ac,bc⟩ st2 ⟨s2,rfl,m,p1,p2,p3,p4,p5⟩;omega
  ·refine d5 λ r i j out z0 st2 h=>?_;dsimp only;cases r with
   | some z=>exact wpS_pure ⟨h.1,z,rfl,h.2⟩
   | none =>
    dsimp only;refine wpS_bind (wpS_lift (wpAny_rule ⟨rfl,?_⟩))
    refine wpS_bind (wpS_mono (wpS_forRange (λ y (r:Option (Array Keyed) × Nat × Nat × Array Keyed × Nat × Nat × Nat) st'=>Same κ st st' /\ r.1=none /\ MidH lt a.toList b.toList (x + 2) none r.2.1 r.2.2.1 r.2.2.2.1)
     (Q:=λ (r:Option (Array Keyed) × Nat × Nat × Array Keyed × Nat × Nat × Nat) st'=>Same κ st st' /\ MidH lt a.toList b.toList (x + 2) r.1 r.2.1 r.2.2.1 r.2.2.2.1) ?_ ?_ ⟨h.1,rfl,h.2⟩) ?_)
    ·intro y r st3 _ hy h;revert r st3;refine n5 (λ _ _ h=>h.2.1) λ i j out z0 st3 h=>?_;obtain ⟨mg,ac,bc⟩:=z0;have s3:=h.1;have ⟨m,p1,p2,p3,p4,p5⟩:=h.2.2;clear h;dsimp only at m p1 p2 p3 p4 p5 ⊢;have s3':∀ g:Nat,Same κ st (SortSt.mk' (kindOf st3) (arrOf st3) (pendingOf st3) g (failedOf st3)):=λ g=>⟨⟨s3.ok.kd,s3.ok.fl⟩,s3.ar,s3.pe⟩;refine at_k (a:=b) (i:=j - 1) [2] λ vb e1 e2 e3=>?_;revert mg;refine ua3 (λ _=>rfl) λ mg=>?_;refine wpS_bind (wpS_modify ?_);refine wpS_bind (yc0 e1 ?_);refine wpS_bind (zy0 c (s3' _).ok (byF c ma [2] (mb _ e3) sa) [2] λ t k1 k2 k3=>?_);dsimp only;obtain ⟨k,rfl⟩:∃ k,i=t + k:=⟨i - t,by omega⟩
     have mk:=MH.as sa k m [2] λ ii y h1 h2 ey=>by
      have q:=k3 ii h1 h2;rw [getD_some (x:=y) (by simp [*])] at q;have u:=up sb e2 y (c.lt_le (by simpa using q));rw [show j - 1 + 1=j by omega] at u;exact u
     have lo:∀ y ∈ a.toList.take t,le lt y vb:=by
      intro y hy;obtain ⟨ii,hi,ey⟩:=List.mem_take_iff_getElem.mp hy;have q:=k2 ii [2];rw [getD_some (x:=y) (by rw [Nat.zero_add]; exact List.getElem?_eq_some_iff.mpr ⟨by omega,ey⟩)] at q;exact (by simpa using q:lt vb y=false)
     refine wb0 (λ kp=>?_) λ kp=>?_
     ·rw [<- su3,<- wx1] at mk;refine wb0 (λ z=>?_) λ z=>?_
      ·exact wpS_pure ⟨s3' _,doneA mk (eq_of_beq z)⟩
      ·have z':t ≠ 0:=λ e=>z (beq_iff_eq.mpr e);refine wpS_mono (nxB x _ bc _ _ (s3' _) mk [2] [2] p3 [2] [2] e1 e2 lo _ ?_) ?_
       ·intro _ _ _; rfl
       ·intro r st' q; cases r <;> exact q
     ·have k0:k=0:=by omega
      subst k0;refine wpS_mono (nxB x _ bc _ _ (s3' _) m [2] [2] p3 [2] [2] e1 e2 lo _ ?_) ?_
      ·intro _ _ _; rfl
      ·intro r st' q; cases r <;> exact q
    ·rintro ⟨r,i,j,out,mg,ac,bc⟩ st3 ⟨s3,rfl,m,p1,p2,p3,p4,p5⟩;trivial
    ·refine d5 λ r i j out z0 st3 h=>?_;dsimp only;cases r with
     | some z=>exact wpS_pure ⟨h.1,z,rfl,h.2⟩
     | none =>
      dsimp only;exact wpS_bind (wpS_modify (wpS_pure ⟨⟨⟨h.1.ok.kd,h.1.ok.fl⟩,h.1.ar,h.1.pe⟩,rfl,h.2⟩))
 ·rintro ⟨r,i,j,out,mg⟩ st1 ⟨s1,rfl,m,p1,p2,p3,p4,p5⟩;omega
 ·rintro ⟨r,i,j,out,mg⟩ st1 ⟨s1,z,e,f⟩;dsimp only at e ⊢;subst e;exact wpS_pure (h z st1 s1 f)
end
variable {xs:Array Keyed} {U W:List Keyed}
theorem wt2 {V:List Keyed} {j:Nat} (h:xs.toList=U ++ (V ++ W)) (hi:i=U.length) (hj:j=U.length + V.length):(mirror xs i j ((j - i) / 2)).toList=U ++ (V.reverse ++ W):=by
 have hs:xs.size=U.length + (V.length + W.length):=by rw [<- length_toList,h]; simp
 apply ext_getElem?;intro k;rw [getElem?_toList,getElem?_mirror_all [2]];simp only [<- getElem?_toList,h];by_cases c:i<=k /\ k < j
 ·rw [if_pos c,getElem?_append_right [2],getElem?_append_left [2],getElem?_append_right [2],getElem?_append_left (by simp_all;omega),List.getElem?_reverse [2]];congr 1;omega
 ·rw [if_neg c];by_cases d:k < i
  ·clear c;rw [getElem?_append_left [2],getElem?_append_left [2]]
  ·have g:j<=k:=by omega
   clear c d;rw [getElem?_append_right [2],getElem?_append_right [2],getElem?_append_right [2],getElem?_append_right (by rw [List.length_reverse]; omega),List.length_reverse]
theorem sx2 {V:List Keyed} {j:Nat} (h:xs.toList=U ++ (V ++ x :: W)) (hi:i=U.length + V.length) (hj:j=U.length):(bubble xs i (i - j)).toList=U ++ x :: (V ++ W):=by
 have hs:xs.size=U.length + (V.length + (W.length + 1)):=by rw [<- length_toList,h]; simp
 apply ext_getElem?;intro k;rw [getElem?_toList,getElem?_bubble [2] (i - j) [2],show i - (i - j)=j by omega];simp only [<- getElem?_toList,h];by_cases c:k=j
 ·simp_all
 ·rw [if_neg c];by_cases d:j < k /\ k<=i
  ·rw [if_pos d,getElem?_append_right [2],getElem?_append_left [2],getElem?_append_right [2],show k - U.length=(k - 1 - U.length) + 1 by omega,getElem?_cons_succ,getElem?_append_left [2]]
  ·rw [if_neg d];by_cases f:k < j
   ·clear d;rw [getElem?_append_left [2],getElem?_append_left [2]]
   ·have g:i < k:=by omega
    clear c d f;rw [getElem?_append_right [2],getElem?_append_right [2],getElem?_append_right [2],show k - U.length=(k - 1 - U.length) + 1 by omega,getElem?_cons_succ,getElem?_append_right [2],show k - 1 - U.length + 1 - V.length=(k - 1 - U.length - V.length) + 1 by omega,getElem?_cons_succ]
structure At (κ:SortKind) (p:Array (Nat × Nat × Nat)) (st:SortSt) (L:List Keyed):Prop where
 ok:Ok κ st
 pe:pendingOf st=p
 ls:(arrOf st).toList=L
variable {p:Array (Nat × Nat × Nat)} {P R:List Keyed} {lo:Nat} {f:FA}
section
variable {lt:Keyed->Keyed->Bool} 
theorem xi1 (c:Cm prog w A s κ lt M) {st:SortSt} {L:List Keyed} {j:Nat} {Q:Option Bool->SortSt->Prop} (a:At κ p st L) (hM:∀ x ∈ L,M x) (ex:L[i]?=some x) (ey:L[j]?=some y) (h:Q (some (lt x y)) st):wpS [5] A E s (ltAt' i j) Q st:=by
 rw [ltAt'_eq];refine wpS_bind (wpS_get ?_);refine wpS_bind (yc0 (x:=x) (by rw [<- getElem?_toList,a.ls]; exact ex) (wpS_bind (yc0 (x:=y) (by rw [<- getElem?_toList,a.ls]; exact ey) ?_)));exact va2 c a.ok (hM x (mem_of_getElem? ex)) (hM y (mem_of_getElem? ey)) h
theorem vn1 {st:SortSt} {V:List Keyed} {j:Nat} {Q:Unit->SortSt->Prop} (a:At κ p st (U ++ (V ++ W))) (hi:i=U.length) (hj:j=U.length + V.length) (h:∀ st',At κ p st' (U ++ (V.reverse ++ W))->Q () st'):wpS [5] A E s (reverseSlice' i j) Q st:=by
 rw [reverseSlice'_eq];exact wpS_modify (h _ ⟨⟨a.ok.kd,a.ok.fl⟩,a.pe,wt2 a.ls hi hj⟩)
theorem sf5 {st:SortSt} {V:List Keyed} {j:Nat} {Q:Unit->SortSt->Prop} (a:At κ p st (U ++ (V ++ x :: W))) (hi:i=U.length + V.length) (hj:j=U.length) (h:∀ st',At κ p st' (U ++ x :: (V ++ W))->Q () st'):wpS [5] A E s (moveDown' i j) Q st:=by
 rw [moveDown'_eq];exact wpS_modify (h _ ⟨⟨a.ok.kd,a.ok.fl⟩,a.pe,sx2 a.ls hi hj⟩)
noncomputable abbrev FA:=Nat->Option (Option Nat) × Nat->StateT SortSt Sem (ForInStep (Option (Option Nat) × Nat))
noncomputable def isA (lo:Nat) (f:FA):Prop:=∀ x n,f x (none,n)=(ltAt' (lo + n) (lo + n - 1) >>= λ r=>match r with
 | some true=>pure (.done (none,n))
 | some false=>pure (.yield (none,n + 1))
 | none=>pure (.done (some none,n)))
theorem yp3 (c:Cm prog w A s κ lt M) {l:List Keyed} (h:(l.take (n + 1)).Pairwise (le lt)) (ex:l[n]?=some x) (ey:l[n + 1]?=some y) (k:le lt x y):(l.take (n + 2)).Pairwise (le lt):=by
 rw [yd0 ey];refine List.pairwise_append.mpr ⟨h,pairwise_singleton _ _,λ z hz v hv=>?_⟩;rw [mem_singleton] at hv;subst hv;rw [yd0 ex] at h hz;rcases List.mem_append.mp hz with hz | hz
 ·exact c.le_tr ((List.pairwise_append.mp h).2.2 z hz x (List.mem_singleton.mpr rfl)) k
 simp_all
theorem ur1 (c:Cm prog w A s κ lt M) {st:SortSt} {n0:Nat} (hf:isA lo f) (a:At κ p st (P ++ R)) (hM:∀ x ∈ P ++ R,M x) (hlo:lo=P.length) (h1:1<=n0) (h2:n0<=R.length) (so:(R.take n0).Pairwise (le lt)) :
    wpS [5] A E s (forIn [n0:R.length] (none,n0) f) (λ r st'=>st'=st /\ r.1=none /\ n0<=r.2 /\ r.2<=R.length /\ (R.take r.2).Pairwise (le lt) /\ (r.2=R.length \/ ∃ x y,R[r.2]?=some y /\ R[r.2 - 1]?=some x /\ lt y x=true)) st:=by
 refine wpS_forRange (λ x (r:Option (Option Nat) × Nat) st'=>st'=st /\ r=(none,x) /\ n0<=x /\ x<=R.length /\ (R.take x).Pairwise (le lt)) ?_ ?_ ⟨rfl,rfl,Nat.le_refl _,h2,so⟩
 ·rintro x r st' _ hx ⟨rfl,rfl,a1,a2,a3⟩;rw [hf];obtain ⟨n,rfl⟩:∃ n,x=n + 1:=⟨x - 1,by omega⟩;have ey:R[n + 1]?=some R[n + 1]:=getElem?_eq_getElem hx;have ex:R[n]?=some R[n]:=getElem?_eq_getElem [2];refine wpS_bind (xi1 c a hM (x:=R[n + 1]) (y:=R[n]) (by simp_all) (by rw [getElem?_append_right [2],show lo + (n + 1) - 1 - P.length=n by omega]; exact ex) ?_);cases q:lt R[n + 1] R[n] with
  | true=>exact wpS_pure ⟨rfl,rfl,a1,a2,a3,.inr ⟨R[n],R[n + 1],ey,ex,q⟩⟩
  | false=>exact wpS_pure ⟨rfl,rfl,by omega,by omega,yp3 c a3 ex ey q⟩
 simp_all
theorem fin3 (c:Cm prog w A s κ lt M) {st:SortSt} {V:List Keyed} {N:Nat} {g:Option (Option Nat) × Nat->StateT SortSt Sem (Option Nat)} (hf:isA lo f) (hg:∀ n,g (none,n)=pure (some n)) (a:At κ p st (P ++ (V ++ W))) (hM:∀ x ∈ P ++ (V ++ W),M x) (hlo:lo=P.length)
    (hn:n=V.length) (hN:N=V.length + W.length) (h1:1<=n) (so:V.Pairwise λ x y=>le lt y x) (h:∀ m st' R,At κ p st' (P ++ R)->R.Perm (V ++ W)->1<=m->m<=N->(R.take m).Pairwise (le lt)->Q (some m) st') :
    wpS [5] A E s (reverseSlice' lo (lo + n) >>= λ _=>forIn [n:N] (none,n) f >>= g) Q st:=by
 refine wpS_bind (vn1 a hlo [2] λ st1 a1=>?_);have e:N=(V.reverse ++ W).length:=by simp_all
 have pm:(V.reverse ++ W).Perm (V ++ W):=List.Perm.append_right _ (reverse_perm V);subst e
 refine wpS_bind (wpS_mono (ur1 c hf a1 (λ x hx=>hM x (by
  simp_all)) hlo h1 [2] ?_) ?_)
 ·rw [hn,List.take_append_of_le_length (by simp),take_of_length_le (by simp)];exact List.pairwise_reverse.mpr so
 ·rintro ⟨r,m⟩ st2 ⟨rfl,rfl,b1,b2,b3,_⟩;dsimp only at b1 b2 b3 ⊢;rw [hg];exact wpS_pure (h m _ _ a1 pm [2] b2 b3)
noncomputable abbrev FD:=Nat->Option (Option Nat) × Nat × Nat->StateT SortSt Sem (ForInStep (Option (Option Nat) × Nat × Nat))
noncomputable def isD (lo:Nat) (f:FD):Prop:=∀ x n q,f x (none,n,q)=(ltAt' (lo + n) (lo + n - 1) >>= λ r=>match r with
 | some true=>if q > 0 then reverseSlice' (lo + n - (q + 1)) (lo + n) >>= λ _=>pure (.yield (none,n + 1,0)) else pure (.yield (none,n + 1,0))
 | some false=>ltAt' (lo + n - 1) (lo + n) >>= λ r=>match r with
  | some true=>pure (.done (none,n,q))
  | some false=>pure (.yield (none,n + 1,q + 1))
  | none=>pure (.done (some none,n,q))
 | none=>pure (.done (some none,n,q)))
structure Fall (κ:SortKind) (p:Array (Nat × Nat × Nat)) (lt:Keyed->Keyed->Bool) (P R:List Keyed) (st:SortSt) (n q:Nat) (X B W:List Keyed) (b:Keyed):Prop where
 at_:At κ p st (P ++ (X ++ (B ++ b :: W)))
 hn:n=X.length + B.length + 1
 hq:q=B.length
 pm:(X ++ (B ++ b :: W)).Perm R
 dn:(X ++ (B ++ [b])).Pairwise λ x y=>le lt y x
 eq:∀ x ∈ B,le lt x b /\ le lt b x
theorem Fall.low {X B:List Keyed} {st:SortSt} {q:Nat} {b:Keyed} (F:Fall κ p lt P R st n q X B W b):∀ z ∈ X ++ B,le lt b z:=by
 have d:=F.dn;rw [<- append_assoc] at d;exact λ z hz=>(List.pairwise_append.mp d).2.2 z hz b (List.mem_singleton.mpr rfl)
theorem Fall.rest {X B:List Keyed} {st:SortSt} {q:Nat} {b:Keyed} (F:Fall κ p lt P R st n q X B W b) (hx:n < R.length):∃ y W',W=y :: W':=by
 cases W with
 | cons y W'=>simp
 | nil =>
  have:=F.pm.length_eq;rw [length_append,length_append,length_cons,length_nil] at this;have:=F.hn;omega
theorem sj5 (c:Cm prog w A s κ lt M) {X B:List Keyed} {st:SortSt} {q:Nat} {b:Keyed} (F:Fall κ p lt P R st n q X B W b):(X ++ (B ++ [b]).reverse).Pairwise λ x y=>le lt y x:=by
 obtain ⟨d1,d2,d3⟩:=List.pairwise_append.mp F.dn;refine List.pairwise_append.mpr ⟨d1,?_,λ x hx y hy=>d3 x hx y (List.mem_reverse.mp hy)⟩
 have all:∀ x ∈ B ++ [b],le lt x b /\ le lt b x:=λ x hx=>by
  rcases List.mem_append.mp hx with h | h
  ·exact F.eq x h
  ·rw [mem_singleton] at h; subst h; exact ⟨c.rf x,c.rf x⟩
 rw [List.pairwise_reverse];exact List.Pairwise.imp_of_mem (λ {x y} hx hy _=>c.le_tr (all x hx).1 (all y hy).2) d2
theorem ug5 (c:Cm prog w A s κ lt M) {st:SortSt} {X:List Keyed} {n1 N:Nat} {f:FD} {g:Option (Option Nat) × Nat × Nat->StateT SortSt Sem (Option Nat)} (hf:isD lo f)
    (hg:∀ n q,∃ J,g (none,n,q)=(if q > 0 then reverseSlice' (lo + n - (q + 1)) (lo + n) >>= λ _=>J else J) /\ ∀ st' V W,At κ p st' (P ++ (V ++ W))->(V ++ W).Perm R->n=V.length->1<=n->V.Pairwise (λ x y=>le lt y x)->wpS [5] A E s J Q st') (hlo:lo=P.length) (hN:N=R.length) (hR:∀ x ∈ P,M x) (hM:∀ x ∈ R,M x) (hn:n1=X.length) (a:At κ p st (P ++ (X ++ y :: W))) (pm:(X ++ y :: W).Perm R) (dn:(X ++ [y]).Pairwise λ x y=>le lt y x) :
    wpS [5] A E s (forIn [n1 + 1:N] (none,n1 + 1,0) f >>= g) Q st:=by
 have mem:∀ {L:List Keyed},L.Perm R->∀ x ∈ P ++ L,M x:=λ e x hx=>by
  rcases List.mem_append.mp hx with h | h
  ·exact hR x h
  ·exact hM x (e.mem_iff.mp h)
 refine wpS_bind (wpS_mono (wpS_forRange (λ x (r:Option (Option Nat) × Nat × Nat) st'=>∃ q X B W b,r=(none,x,q) /\ Fall κ p lt P R st' x q X B W b) (Q:=λ (r:Option (Option Nat) × Nat × Nat) st'=>∃ n q X B W b,r=(none,n,q) /\ Fall κ p lt P R st' n q X B W b) ?_ ?_ ⟨0,X,[],W,y,rfl,⟨a,by simp [hn],rfl,pm,dn,λ _ h=>nomatch h⟩⟩) ?_)
 ·rintro x r st1 _ hx ⟨q,X,B,W,b,rfl,F⟩;obtain ⟨v,W',rfl⟩:=F.rest [2];rw [hf];have L:=F.at_;have hn':=F.hn;have hq':=F.hq
  have e1:(P ++ (X ++ (B ++ b :: v :: W')))[lo + x]?=some v:=by
   rw [getElem?_append_right [2],getElem?_append_right [2],getElem?_append_right [2],show lo + x - P.length - X.length - B.length=1 by omega]; rfl
  have e2:(P ++ (X ++ (B ++ b :: v :: W')))[lo + x - 1]?=some b:=by
   simp_all
  refine wpS_bind (xi1 c L (mem F.pm) e1 e2 ?_);cases s1:lt v b with
  | true =>
   dsimp only
   have low:∀ z ∈ X ++ (B ++ [b]),le lt v z:=λ z hz=>by
    rw [<- append_assoc] at hz;rcases List.mem_append.mp hz with h | h
    ·exact c.le_tr (c.lt_le s1) (F.low z h)
    ·rw [mem_singleton] at h; subst h; exact c.lt_le s1
   by_cases z:q > 0
   ·rw [if_pos z];refine wpS_bind (vn1 (U:=P ++ X) (V:=B ++ [b]) (W:=v :: W') (by simp_all;omega) (by simp_all;omega) (by simp_all;omega) λ st2 a2=>wpS_pure ⟨0,X ++ (B ++ [b]).reverse,[],W',v,rfl,?_⟩);refine ⟨by simp_all,by simp_all;omega,rfl,?_,?_,λ _ h=>nomatch h⟩
    ·refine .trans ?_ F.pm;rw [nil_append,append_assoc];refine List.Perm.append_left _ (.trans (List.Perm.append_right _ (reverse_perm _)) ?_);simp
    ·rw [nil_append];refine List.pairwise_append.mpr ⟨sj5 c F,pairwise_singleton _ _,λ z1 hz1 y1 hy1=>?_⟩;rw [mem_singleton] at hy1; subst hy1;refine low z1 ?_;rcases List.mem_append.mp hz1 with h | h
     ·simp_all
     ·exact mem_append_right _ (List.mem_reverse.mp h)
   ·rw [if_neg z];have b0:B=[]:=List.eq_nil_of_length_eq_zero [2];subst b0;refine wpS_pure ⟨0,X ++ [b],[],W',v,rfl,⟨by simp_all,by simp_all,rfl,by simpa [append_assoc] using F.pm,?_,λ _ h=>nomatch h⟩⟩;refine List.pairwise_append.mpr ⟨F.dn,pairwise_singleton _ _,λ z1 hz1 y1 hy1=>?_⟩
    simp_all
  | false =>
   dsimp only;refine wpS_bind (xi1 c L (mem F.pm) e2 e1 ?_);cases s2:lt b v with
   | true=>exact wpS_pure ⟨x,q,X,B,v :: W',b,rfl,F⟩
   | false =>
    refine wpS_pure ⟨q + 1,X,B ++ [b],W',v,rfl,⟨by simp_all,by simp_all;omega,by simp_all,by simpa [append_assoc] using F.pm,?_,?_⟩⟩
    ·rw [<- append_assoc];refine List.pairwise_append.mpr ⟨F.dn,pairwise_singleton _ _,λ z1 hz1 y1 hy1=>?_⟩;rw [mem_singleton] at hy1; subst hy1;rw [<- append_assoc] at hz1;rcases List.mem_append.mp hz1 with h | h
     ·exact c.le_tr s2 (F.low z1 h)
     ·rw [mem_singleton] at h; subst h; exact s2
    ·intro z hz;rcases List.mem_append.mp hz with h | h
     ·exact ⟨c.le_tr (F.eq z h).1 s1,c.le_tr s2 (F.eq z h).2⟩
     ·rw [mem_singleton] at h; subst h; exact ⟨s1,s2⟩
 ·rintro r st1 ⟨q,X,B,W,b,rfl,F⟩;exact ⟨_,q,X,B,W,b,rfl,F⟩
 ·rintro r st1 ⟨n,q,X,B,W,b,rfl,F⟩;obtain ⟨J,eJ,hJ⟩:=hg n q;rw [eJ];have hn':=F.hn;have hq':=F.hq;by_cases z:q > 0
  ·rw [if_pos z];refine wpS_bind (vn1 (U:=P ++ X) (V:=B ++ [b]) (W:=W) (by simpa [append_assoc] using F.at_) (by simp_all;omega) (by simp_all;omega) λ st2 a2=>?_);refine hJ st2 (X ++ (B ++ [b]).reverse) W (by simp_all) ?_ (by simp_all;omega) [2] (sj5 c F);refine .trans ?_ F.pm;rw [append_assoc];refine List.Perm.append_left _ (.trans (List.Perm.append_right _ (reverse_perm _)) ?_);simp
  ·rw [if_neg z];exact hJ st1 (X ++ (B ++ [b])) W (by simpa [append_assoc] using F.at_) (by simpa [append_assoc] using F.pm) (by simp_all) [2] F.dn
theorem zk5 (c:Cm prog w A s κ lt M) {st:SortSt} (a:At κ p st (P ++ R)) (hM:∀ x ∈ P ++ R,M x) (hlo:lo=P.length) (h1:1<=R.length)
    (h:∀ m st' R',At κ p st' (P ++ R')->R'.Perm R->1<=m->m<=R.length->(R'.take m).Pairwise (le lt)->Q (some m) st'):wpS [5] A E s (countRun' lo R.length) Q st:=by
 have isa:∀ {f:FA},f=(λ x __s=>(ltAt' (lo + __s.2) (lo + __s.2 - 1) >>= λ r=>match r with
  | some b=>if b=true then pure (.done (none,__s.2)) else pure (.yield (none,__s.2 + 1))
  | x=>pure (.done (some none,__s.2))))->isA lo f:=by
  rintro f rfl x n;refine congrArg _ (funext λ r=>?_);rcases r with _ | _ | _ <;> rfl
 have r0:R[0]?=some R[0]:=getElem?_eq_getElem h1
 have fall:∀ {st1:SortSt} {X W:List Keyed} {y:Keyed},At κ p st1 (P ++ (X ++ y :: W))->(X ++ y :: W).Perm R->(X ++ [y]).Pairwise (λ x y=>le lt y x)->∀ {n1:Nat},n1=X.length->∀ {f:FD} {g:Option (Option Nat) × Nat × Nat->StateT SortSt Sem (Option Nat)},isD lo f ->
     (∀ n q,∃ (J:StateT SortSt Sem (Option Nat)) (f:FA) (g':Option (Option Nat) × Nat->StateT SortSt Sem (Option Nat)),g (none,n,q)=(if q > 0 then reverseSlice' (lo + n - (q + 1)) (lo + n) >>= λ _=>J else J) /\ isA lo f /\ (∀ n,g' (none,n)=pure (some n)) /\ J=(reverseSlice' lo (lo + n) >>= λ _=>forIn [n:R.length] (none,n) f >>= g')) ->
     wpS [5] A E s (forIn [n1 + 1:R.length] (none,n1 + 1,0) f >>= g) Q st1:=by
  intro st1 X W y a1 pm dn n1 hn f g hf hg;refine ug5 c hf (λ n q=>?_) hlo rfl (λ x hx=>hM x (mem_append_left _ hx)) (λ x hx=>hM x (mem_append_right _ hx)) hn a1 pm dn;obtain ⟨J,f,g',e1,hf,hg,e⟩:=hg n q;refine ⟨J,e1,?_⟩;intro st2 V W a2 pm2 hn2 h2 so;rw [e];have ll:=pm2.length_eq;rw [length_append] at ll;refine fin3 c hf hg a2 (λ x hx=>?_) hlo hn2 ll.symm h2 so λ m st' R' a3 pm3 m1 m2 so3=>h m st' R' a3 (pm3.trans pm2) m1 m2 so3;rcases List.mem_append.mp hx with q | q
  ·simp_all
  ·exact hM x (mem_append_right _ (pm2.mem_iff.mp q))
 refine wpS_bind (wpS_mono (ur1 c (f:=_) (isa rfl) a hM hlo (Nat.le_refl 1) h1 (by rw [yd0 r0]; simp)) ?_);rintro ⟨r,n⟩ st1 ⟨rfl,rfl,b1,b2,b3,b4⟩;dsimp only at b1 b2 b3 b4 ⊢;by_cases z:(n == R.length)=true
 ·rw [if_pos z];exact wpS_pure (h n _ R a (.refl _) b1 b2 b3)
 rw [if_neg z];have z':n ≠ R.length:=λ e=>z (beq_iff_eq.mpr e);rcases b4 with b4 | ⟨x,y,ey,ex,q⟩
 ·exact absurd b4 z'
 have d:R=R.take n ++ y :: R.drop (n + 1):=by
  have:=take_append_drop n R;rw [sg0 ey] at this;exact this.symm
 by_cases n1:n > 1
 ·rw [if_pos n1];refine wpS_bind (xi1 c a hM (x:=R[0]) (y:=x) (by rw [getElem?_append_right [2],show lo - P.length=0 by omega]; exact r0) (by rw [getElem?_append_right [2],show lo + n - 1 - P.length=n - 1 by omega]; exact ex) ?_);cases q2:lt R[0] x with
  | true=>exact wpS_pure (h n _ R a (.refl _) b1 b2 b3)
  | false =>
   dsimp only;rw [if_neg (by simp)]
   have all:∀ u ∈ R.take n,le lt u x /\ le lt x u:=by
    have e0:(R.take n)[0]?=some R[0]:=by rw [getElem?_take_of_lt [2]]; exact r0
    have el:(R.take n)[n - 1]?=some x:=by rw [getElem?_take_of_lt [2]]; exact ex
    intro u hu;obtain ⟨i,hi⟩:=List.mem_iff_getElem?.mp hu
    have li:i < n:=by
     have:=(List.getElem?_eq_some_iff.mp hi).1;rw [length_take] at this;omega
    constructor
    ·by_cases e:i=n - 1
     ·subst e; rw [el] at hi; cases hi; exact c.rf _
     ·exact wp0 b3 [2] hi el
    ·by_cases e:i=0
     ·subst e; rw [e0] at hi; cases hi; exact q2
     ·exact c.le_tr q2 (wp0 b3 [2] e0 hi)
   have lt1:(R.take n).length=n:=by rw [length_take]; omega
   refine wpS_bind (vn1 (U:=P) (V:=R.take n) (W:=y :: R.drop (n + 1)) (by rw [<- d]; exact a) hlo [2] λ st2 a2=>?_);refine wpS_bind (wpS_lift (wpAny_rule ⟨rfl,?_⟩));refine fall a2 ?_ ?_ (by rw [List.length_reverse]; exact lt1.symm) ?_ ?_
   ·refine .trans (List.Perm.append_right _ (reverse_perm _)) ?_;rw [<- d]
   ·refine List.pairwise_append.mpr ⟨?_,pairwise_singleton _ _,λ u hu v hv=>?_⟩
    ·rw [List.pairwise_reverse];exact b3
    ·rw [mem_singleton] at hv; subst hv;exact c.le_tr (c.lt_le q) (all u (List.mem_reverse.mp hu)).2
   ·intro x n q;refine congrArg _ (funext λ r=>?_);rcases r with _ | _ | _
    ·rfl
    ·dsimp only;rw [if_neg (by simp)];refine congrArg _ (funext λ r=>?_);rcases r with _ | _ | _ <;> rfl
    ·rfl
   ·intro n q;exact ⟨_,_,_,rfl,isa rfl,λ _=>rfl,rfl⟩
 ·rw [if_neg n1];have e1:n=1:=by omega
  subst e1;refine wpS_bind (wpS_lift (wpAny_rule ⟨rfl,?_⟩));have t1:=yd0 r0;rw [take_zero,nil_append] at t1;have ex0:x=R[0]:=by rw [show 1 - 1=0 from rfl,r0] at ex; cases ex; rfl
  rw [show (0:Nat) + 1=1 from rfl] at t1;rw [t1] at d;refine fall (X:=[R[0]]) (y:=y) (W:=R.drop (1 + 1)) (by rw [<- d]; exact a) (by rw [<- d]) ?_ rfl ?_ ?_
  ·refine List.pairwise_append.mpr ⟨pairwise_singleton _ _,pairwise_singleton _ _,λ u hu v hv=>?_⟩;rw [mem_singleton] at hu hv;subst hu hv;rw [<- ex0];exact c.lt_le q
  ·intro x n q;refine congrArg _ (funext λ r=>?_);rcases r with _ | _ | _
   ·rfl
   ·dsimp only;rw [if_neg (by simp)];refine congrArg _ (funext λ r=>?_);rcases r with _ | _ | _ <;> rfl
   ·rfl
  ·intro n q;exact ⟨_,_,_,rfl,isa rfl,λ _=>rfl,rfl⟩
end
section
variable {lt:Keyed->Keyed->Bool} 
theorem uf2 (c:Cm prog w A s κ lt M) {st:SortSt} {ok:Nat} {Q:Bool->SortSt->Prop} (a:At κ p st (P ++ R)) (hM:∀ x ∈ P ++ R,M x) (hlo:lo=P.length) (h1:1<=ok) (h2:ok<=n) (h3:n<=R.length) (so:(R.take ok).Pairwise (le lt))
    (h:∀ st' R',At κ p st' (P ++ R')->R'.Perm R->(R'.take n).Pairwise (le lt)->Q true st'):wpS [5] A E s (binarySort' lo n ok) Q st:=by
 refine wpS_bind (wpS_mono (wpS_forRange (λ x (r:Option Bool × Unit) st'=>r=(none,()) /\ ∃ R',At κ p st' (P ++ R') /\ R'.Perm R /\ (R'.take x).Pairwise (le lt)) (Q:=λ (r:Option Bool × Unit) st'=>r=(none,()) /\ ∃ R',At κ p st' (P ++ R') /\ R'.Perm R /\ (R'.take n).Pairwise (le lt)) ?_ ?_ ⟨rfl,R,a,.refl _,by simp_all⟩) ?_)
 ·rintro k r st1 hk0 hk ⟨rfl,R',a1,pm,so1⟩;have ll:=pm.length_eq
  have hM1:∀ x ∈ P ++ R',M x:=λ x hx=>by
   rcases List.mem_append.mp hx with q | q
   ·simp_all
   ·exact hM x (mem_append_right _ (pm.mem_iff.mp q))
  have ev:R'[k]?=some R'[k]:=getElem?_eq_getElem [2];have at':∀ {m:Nat} {x:Keyed},R'[m]?=some x->m < k->(R'.take k)[m]?=some x:=λ e l=>by simp_all
  dsimp only
  refine wpS_bind (wpS_mono (wpS_forRange (λ y (r:Option Bool × Nat × Nat) st'=>st'=st1 /\ r.1=none /\ r.2.1<=r.2.2 /\ r.2.2<=k /\ r.2.2 - r.2.1<=k - y /\ (∀ i x,i < r.2.1->R'[i]?=some x->le lt x R'[k]) /\ ∀ i x,r.2.2<=i->i < k->R'[i]?=some x->le lt R'[k] x)
   (Q:=λ (r:Option Bool × Nat × Nat) st'=>st'=st1 /\ r.1=none /\ r.2.1<=k /\ (∀ i x,i < r.2.1->R'[i]?=some x->le lt x R'[k]) /\ ∀ i x,r.2.1<=i->i < k->R'[i]?=some x->le lt R'[k] x) ?_ ?_ ⟨rfl,rfl,Nat.zero_le _,Nat.le_refl _,Nat.le_refl _,λ i x hi=>absurd hi (Nat.not_lt_zero _),λ i x h1 h2=>absurd h2 (by simp_all;omega)⟩) ?_)
  ·rintro y ⟨r,l,u⟩ st2 _ hy ⟨rfl,rfl,b1,b2,b3,b4,b5⟩;dsimp only at b1 b2 b3 b4 b5 ⊢;by_cases z:l ≥ u
   ·rw [if_pos z];have:l=u:=by omega
    subst this;exact wpS_pure ⟨rfl,rfl,b2,b4,b5⟩
   ·rw [if_neg z];have em:R'[(l + u) / 2]?=some R'[(l + u) / 2]:=getElem?_eq_getElem [2];refine wpS_bind (xi1 c a1 hM1 (x:=R'[k]) (y:=R'[(l + u) / 2]) (by rw [getElem?_append_right [2],show lo + k - P.length=k by omega]; exact ev) (by rw [getElem?_append_right [2],show lo + (l + u) / 2 - P.length=(l + u) / 2 by omega]; exact em) ?_);cases q:lt R'[k] R'[(l + u) / 2] with
    | true =>
     refine wpS_pure ⟨rfl,rfl,by simp_all;omega,by simp_all;omega,by simp_all;omega,b4,λ i x h1 h2 ex=>?_⟩;by_cases e:i=(l + u) / 2
     ·subst e; rw [em] at ex; cases ex; exact c.lt_le q
     ·have h1':(l + u) / 2<=i:=h1;exact c.le_tr (c.lt_le q) (wp0 so1 (show (l + u) / 2 < i by omega) (at' em [2]) (at' ex h2))
    | false =>
     refine wpS_pure ⟨rfl,rfl,by simp_all;omega,b2,by simp_all;omega,λ i x h1 ex=>?_,b5⟩;have h1':i < (l + u) / 2 + 1:=h1;by_cases e:i=(l + u) / 2
     ·subst e; rw [em] at ex; cases ex; exact q
     ·exact c.le_tr (wp0 so1 (show i < (l + u) / 2 by omega) (at' ex [2]) (at' em [2])) q
  ·rintro ⟨r,l,u⟩ st2 ⟨rfl,rfl,b1,b2,b3,b4,b5⟩;dsimp only at b1 b2 b3 b4 b5 ⊢;have:l=u:=by omega
   subst this;trivial
  ·rintro ⟨r,l,u⟩ st2 ⟨rfl,rfl,b2,b4,b5⟩;dsimp only at b2 b4 b5 ⊢
   have d:R'=R'.take l ++ ((R'.take k).drop l ++ R'[k] :: R'.drop (k + 1)):=by
    have e1:=take_append_drop k R';rw [sg0 ev] at e1;have e2:=take_append_drop l (R'.take k);rw [List.take_take,show min l k=l by omega] at e2;rw [<- append_assoc,e2];exact e1.symm
   have t1:(R'.take l).length=l:=by rw [length_take]; omega
   have t2:((R'.take k).drop l).length=k - l:=by rw [length_drop,length_take]; omega
   refine wpS_bind (sf5 (U:=P ++ R'.take l) (V:=(R'.take k).drop l) (x:=R'[k]) (W:=R'.drop (k + 1)) (by rw [append_assoc,<- d]; exact a1) (by rw [length_append]; omega) (by rw [length_append]; omega) λ st3 a3=>wpS_pure ⟨rfl,R'.take l ++ R'[k] :: ((R'.take k).drop l ++ R'.drop (k + 1)),by rw [append_assoc] at a3; exact a3,?_,?_⟩)
   ·refine .trans ?_ pm
    conv=>rhs; rw [d]
    exact List.Perm.append_left _ List.perm_middle.symm
   ·have e:(R'.take l ++ R'[k] :: ((R'.take k).drop l ++ R'.drop (k + 1))).take (k + 1)=R'.take l ++ R'[k] :: (R'.take k).drop l:=by
      rw [<- cons_append,<- append_assoc];exact List.take_left' (by simp only [length_append,length_cons]; omega)
    rw [e]
    have m1:∀ z ∈ R'.take l,le lt z R'[k]:=λ z hz=>by
     obtain ⟨i,hi,ez⟩:=List.mem_take_iff_getElem.mp hz;exact b4 i z [2] (List.getElem?_eq_some_iff.mpr ⟨by omega,ez⟩)
    have m2:∀ z ∈ (R'.take k).drop l,le lt R'[k] z:=λ z hz=>by
     obtain ⟨i,hi,ez⟩:=List.mem_drop_iff_getElem.mp hz;have hi':i + l < k:=by rw [length_take] at hi; omega
     rw [List.getElem_take] at ez;exact b5 (l + i) z [2] [2] (List.getElem?_eq_some_iff.mpr ⟨by omega,ez⟩)
    have so2:=so1;have e2:=take_append_drop l (R'.take k);rw [List.take_take,show min l k=l by omega] at e2;rw [<- e2] at so2;obtain ⟨p1,p2,p3⟩:=List.pairwise_append.mp so2;refine List.pairwise_append.mpr ⟨p1,List.pairwise_cons.mpr ⟨m2,p2⟩,λ z hz v hv=>?_⟩;rcases List.mem_cons.mp hv with rfl | hv
    ·exact m1 z hz
    ·exact p3 z hz v hv
 ·simp_all
 ·rintro r st1 ⟨rfl,R',a1,pm,so1⟩;exact wpS_pure (h st1 R' a1 pm so1)
end
theorem wb (s:Nat):∀ (m V U W:List Keyed) (arr:Array Keyed) (o:Nat),arr.toList=U ++ (V ++ W)->V.length=m.length->U.length=s + o ->
    ((m.zipIdx o).foldl (λ (a:Array Keyed) (x:Keyed × Nat)=>match x with | (q,j)=>a.setIfInBounds (s + j) q) arr).toList=U ++ (m ++ W)
 | [],V,U,W,arr,o,h,l,_=>by
  simp_all
 | v :: m,V,U,W,arr,o,h,l,hu=>by
  cases V with
  | nil=>simp at l
  | cons u V =>
   rw [List.zipIdx_cons,List.foldl_cons]
   have:=wb s m V (U ++ [v]) W (arr.setIfInBounds (s + o) v) (o + 1) (by
    simp_all) (by simpa using l) (by simp; omega)
   simp_all
variable {S:List Keyed}
section
variable {lt:Keyed->Keyed->Bool} 
theorem ug3 {σ:Type} {s':σ} {Q:PUnit->σ->Prop} {st:σ} (h:Q ⟨⟩ s'):wpS Md A E s (set s':StateT σ Sem PUnit) Q st:=by
 unfold wpS; rw [StateT.run_set]; exact wpAny_pure ⟨rfl,h⟩
theorem sm1 {r:List Keyed} {b:Nat} (h:arr.toList=P ++ (r ++ S)) (hb:b=P.length) (hi:i < r.length):arr[b + i]?=some r[i]:=by
 rw [<- getElem?_toList,h,getElem?_append_right [2],getElem?_append_left [2],show b + i - P.length=i by omega];simp
theorem bsF (c:Cm prog w A s κ lt M) {r:List Keyed} {b:Nat} {key:Keyed} (h:arr.toList=P ++ (r ++ S)) (hb:b=P.length) (hM:∀ x ∈ r,M x) (mk:M key) (so:r.Pairwise (le lt)):By lt M false key arr b r.length (λ i=>!lt key (r.getD i key)) where
 ky:=mk
 it:=λ i hi=>⟨r[i],sm1 h hb hi,hM _ (getElem_mem hi),by simp_all⟩
 mono:=λ i j hij hj q=>by
  by_cases z:i=j
  ·subst z; exact q
  have e1:=getElem?_eq_getElem (l:=r) (i:=i) [2];have e2:=getElem?_eq_getElem hj;have l:=wp0 so (show i < j by omega) e1 e2;rw [getD_some e2] at q;rw [getD_some e1];have h':le lt r[j] key:=(by simpa using q:lt key r[j]=false);have z:lt key r[i]=false:=c.le_tr l h';simpa using z
theorem bsT (c:Cm prog w A s κ lt M) {r:List Keyed} {b:Nat} {key:Keyed} (h:arr.toList=P ++ (r ++ S)) (hb:b=P.length) (hM:∀ x ∈ r,M x) (mk:M key) (so:r.Pairwise (le lt)):By lt M true key arr b r.length (λ i=>lt (r.getD i key) key) where
 ky:=mk
 it:=λ i hi=>⟨r[i],sm1 h hb hi,hM _ (getElem_mem hi),by simp_all⟩
 mono:=λ i j hij hj q=>by
  by_cases z:i=j
  ·subst z; exact q
  have e1:=getElem?_eq_getElem (l:=r) (i:=i) [2];have e2:=getElem?_eq_getElem hj;have l:=wp0 so (show i < j by omega) e1 e2;rw [getD_some e2] at q;rw [getD_some e1];rcases c.ng r[j] r[i] key q with z | z
  ·rw [show lt r[j] r[i]=false from l] at z; cases z
  ·exact z
theorem xh5 (c:Cm prog w A s κ lt M) {st:SortSt} {r1 r2:List Keyed} {sa pw sb pw2:Nat} {Q:Bool->SortSt->Prop} (a:At κ p st (P ++ (r1 ++ (r2 ++ S)))) (hM:∀ x ∈ r1 ++ r2,M x) (e1:p[i]?=some (sa,na,pw)) (e2:p[i + 1]?=some (sb,nb,pw2)) (hsa:sa=P.length) (hna:na=r1.length) (hsb:sb=P.length + r1.length) (hnb:nb=r2.length)
    (n1:0 < r1.length) (n2:0 < r2.length) (s1:r1.Pairwise (le lt)) (s2:r2.Pairwise (le lt)) (h:∀ st' m,At κ ((p.setIfInBounds i (sa,na + nb,pw)).eraseIdxIfInBounds (i + 1)) st' (P ++ (m ++ S))->m.Perm (r1 ++ r2)->m.Pairwise (le lt)->Q true st') :
    wpS [5] A E s (mergeAt' i) Q st:=by
 refine wpS_bind (wpS_get ?_);obtain rfl:=a.pe;have ls:=a.ls;rw [e1,e2];dsimp only;have M1:∀ x ∈ r1,M x:=λ x hx=>hM x (mem_append_left _ hx);have M2:∀ x ∈ r2,M x:=λ x hx=>hM x (mem_append_right _ hx);have ls2:(arrOf st).toList=(P ++ r1) ++ (r2 ++ S):=by simp_all
 have hsb':sb=(P ++ r1).length:=by simp_all
 have k0:r2[0]?=some r2[0]:=getElem?_eq_getElem n2;have kl:r1[r1.length - 1]?=some r1[r1.length - 1]:=getElem?_eq_getElem [2]
 have fin:∀ {st':SortSt},Ok κ st'->arrOf st'=arrOf st->pendingOf st'=((pendingOf st).setIfInBounds i (sa,na + nb,pw)).eraseIdxIfInBounds (i + 1)->(∀ x ∈ r1,∀ y ∈ r2,le lt x y)->Q true st':=λ o ea ep hx =>
  h _ (r1 ++ r2) ⟨o,ep,by simp_all⟩ (.refl _) (List.pairwise_append.mpr ⟨s1,s2,hx⟩)
 refine wpS_bind (ug3 ?_);refine wpS_bind (yc0 (x:=r2[0]) (by have:=sm1 (i:=0) ls2 hsb' n2; exact this) ?_);subst hna hnb;refine wpS_bind (zy0 c ⟨a.ok.kd,a.ok.fl⟩ (bsF c ls hsa M1 (M2 _ (getElem_mem n2)) s1) n1 λ k k1 k2 k3=>?_);dsimp only
 have lowA:∀ i x,i < k->r1[i]?=some x->le lt x r2[0]:=λ i x hi ex=>by
  have q:=k2 i hi;rw [getD_some ex] at q;exact (by simpa using q:lt r2[0] x=false)
 have highA:∀ i x,k<=i->r1[i]?=some x->le lt r2[0] x:=λ i x hi ex=>by
  have q:=k3 i hi (List.getElem?_eq_some_iff.mp ex).1;rw [getD_some ex] at q;exact c.lt_le (by simpa using q)
 have first2:∀ y ∈ r2,le lt r2[0] y:=λ y hy=>by
  obtain ⟨j,hj,rfl⟩:=List.mem_iff_getElem.mp hy;by_cases z:j=0
  ·subst z; exact c.rf _
  ·exact wp0 s2 [2] k0 (getElem?_eq_getElem hj)
 have last1:∀ x ∈ r1,le lt x r1[r1.length - 1]:=λ x hx=>by
  obtain ⟨j,hj,rfl⟩:=List.mem_iff_getElem.mp hx;by_cases z:j=r1.length - 1
  ·subst z; exact c.rf _
  ·exact wp0 s1 [2] (getElem?_eq_getElem hj) kl
 by_cases z:(r1.length - k == 0)=true
 ·rw [if_pos z];have z':r1.length - k=0:=eq_of_beq z;refine wpS_pure (fin ⟨a.ok.kd,a.ok.fl⟩ rfl rfl λ x hx y hy=>?_);obtain ⟨j,hj,rfl⟩:=List.mem_iff_getElem.mp hx;exact c.le_tr (lowA j _ [2] (getElem?_eq_getElem hj)) (first2 y hy)
 rw [if_neg z];have z':r1.length - k ≠ 0:=λ e=>z (beq_iff_eq.mpr e)
 refine wpS_bind (yc0 (x:=r1[r1.length - 1]) (by
  have:=sm1 (i:=r1.length - 1) ls hsa [2];rw [show sa + k + (r1.length - k) - 1=sa + (r1.length - 1) by omega];exact this) ?_)
 refine wpS_bind (zy0 c ⟨a.ok.kd,a.ok.fl⟩ (bsT c ls2 hsb' M2 (M1 _ (getElem_mem _)) s2) [2] λ t t1 t2 t3=>?_);dsimp only
 have lowB:∀ i y,i < t->r2[i]?=some y->le lt y r1[r1.length - 1]:=λ i y hi ey=>by
  have q:=t2 i hi;rw [getD_some ey] at q;exact c.lt_le q
 have highB:∀ i y,t<=i->r2[i]?=some y->le lt r1[r1.length - 1] y:=λ i y hi ey=>by
  have q:=t3 i hi (List.getElem?_eq_some_iff.mp ey).1;rw [getD_some ey] at q;exact q
 by_cases zt:(t == 0)=true
 ·rw [if_pos zt];have zt':t=0:=eq_of_beq zt;refine wpS_pure (fin ⟨a.ok.kd,a.ok.fl⟩ rfl rfl λ x hx y hy=>?_);obtain ⟨j,hj,rfl⟩:=List.mem_iff_getElem.mp hy;exact c.le_tr (last1 x hx) (highB j _ [2] (getElem?_eq_getElem hj))
 rw [if_neg zt];have zt':t ≠ 0:=λ e=>zt (beq_iff_eq.mpr e)
 have xs:((arrOf st).extract (sa + k) sb).toList=r1.drop k:=by
  rw [su3,ls2,List.take_append_of_le_length [2],take_of_length_le [2],List.drop_append,show sa + k - P.length=k by omega,List.drop_eq_nil_of_le [2],nil_append]
 have ys:((arrOf st).extract sb (sb + t)).toList=r2.take t:=by
  rw [xv3,ls2,List.drop_left' hsb'.symm,List.take_append_of_le_length [2]]
 have dx:∀ x ∈ r1.drop k,∃ j,k<=j /\ r1[j]?=some x:=λ x hx=>by
  obtain ⟨j,hj,rfl⟩:=List.mem_drop_iff_getElem.mp hx;exact ⟨k + j,by omega,getElem?_eq_getElem [2]⟩
 have dy:∀ y ∈ r2.take t,∃ j,j < t /\ r2[j]?=some y:=λ y hy=>by
  obtain ⟨j,hj,rfl⟩:=List.mem_take_iff_getElem.mp hy;exact ⟨j,by omega,getElem?_eq_getElem [2]⟩
 have done:∀ (mg:Array Keyed) (st2:SortSt),Same κ (SortSt.mk' (kindOf st) (arrOf st) (((pendingOf st).setIfInBounds i (sa,r1.length + r2.length,pw)).eraseIdxIfInBounds (i + 1)) (gallopOf st) (failedOf st)) st2->Fin lt (r1.drop k) (r2.take t) mg.toList ->
     ∀ (f:SortSt->SortSt),(∀ u,f u=setArr u (mg.toList.zipIdx.foldl (λ (a:Array Keyed) (x:Keyed × Nat)=>match x with | (q,j)=>a.setIfInBounds (sa + k + j) q) (arrOf u)))->wpS [5] A E s (modify f >>= λ _=>get >>= λ u=>pure (failedOf u).isNone) Q st2:=by
  intro mg st2 sm F f hf;refine wpS_bind (wpS_modify (wpS_bind (wpS_get ?_)));rw [hf]
  have e:(failedOf (setArr st2 (mg.toList.zipIdx.foldl (λ (a:Array Keyed) (x:Keyed × Nat)=>match x with | (q,j)=>a.setIfInBounds (sa + k + j) q) (arrOf st2)))).isNone=true:=by
   show (failedOf st2).isNone=true;rw [sm.ok.fl]; rfl
  rw [e];have l1:(r1.take k).length=k:=by simp_all
  have l2:mg.toList.length=(r1.drop k ++ r2.take t).length:=F.1.length_eq
  have wbk:=wb (sa + k) mg.toList (r1.drop k ++ r2.take t) (P ++ r1.take k) (r2.drop t ++ S) (arrOf st2) 0 (by
   rw [sm.ar];show (arrOf st).toList=_;rw [ls];simp only [append_assoc];rw [<- append_assoc (r1.take k),take_append_drop,<- append_assoc (r2.take t),take_append_drop]) l2.symm (by simp_all)
  refine wpS_pure (h _ (r1.take k ++ mg.toList ++ r2.drop t) ⟨⟨sm.ok.kd,sm.ok.fl⟩,sm.pe,?_⟩ ?_ ?_)
  ·simp_all;omega
  ·have q:=F.1;refine .trans (List.Perm.append_right _ (List.Perm.append_left _ q)) ?_;rw [<- append_assoc (r1.take k),take_append_drop,append_assoc,take_append_drop]
  ·have mem:∀ v ∈ mg.toList,v ∈ r1.drop k \/ v ∈ r2.take t:=λ v hv=>List.mem_append.mp (F.1.mem_iff.mp hv)
   have lowk:∀ x ∈ r1.take k,le lt x r2[0]:=λ x hx=>by
    obtain ⟨j,hj,rfl⟩:=List.mem_take_iff_getElem.mp hx;exact lowA j _ [2] (getElem?_eq_getElem [2])
   have s1':=s1;rw [<- take_append_drop k r1] at s1';have s2':=s2;rw [<- take_append_drop t r2] at s2'
   have hd:∀ y ∈ r2.drop t,le lt r1[r1.length - 1] y:=λ y hy=>by
    obtain ⟨j,hj,rfl⟩:=List.mem_drop_iff_getElem.mp hy;exact highB (t + j) _ [2] (getElem?_eq_getElem [2])
   refine List.pairwise_append.mpr ⟨List.pairwise_append.mpr ⟨(List.pairwise_append.mp s1').1,F.2,λ x hx v hv=>?_⟩,(List.pairwise_append.mp s2').2.1,λ x hx y hy=>?_⟩
   ·rcases mem v hv with q | q
    ·exact (List.pairwise_append.mp s1').2.2 x hx v q
    ·exact c.le_tr (lowk x hx) (first2 v (mem_of_mem_take q))
   ·rcases List.mem_append.mp hx with q | q
    ·exact c.le_tr (lowk x q) (first2 y (mem_of_mem_drop hy))
    ·rcases mem x q with q | q
     ·exact c.le_tr (last1 x (mem_of_mem_drop q)) (hd y hy)
     ·exact (List.pairwise_append.mp s2').2.2 x q y hy
 have pre1:∀ x ∈ ((arrOf st).extract (sa + k) sb).toList,M x:=λ x hx=>M1 x (by rw [xs] at hx; exact mem_of_mem_drop hx);have pre2:∀ x ∈ ((arrOf st).extract sb (sb + t)).toList,M x:=λ x hx=>M2 x (by rw [ys] at hx; exact mem_of_mem_take hx);have pre3:((arrOf st).extract (sa + k) sb).toList.Pairwise (le lt):=by rw [xs]; exact s1.sublist (drop_sublist _ _)
 have pre4:((arrOf st).extract sb (sb + t)).toList.Pairwise (le lt):=by rw [ys]; exact s2.sublist (take_sublist _ _)
 have pre5:0 < ((arrOf st).extract (sa + k) sb).toList.length:=by simp_all;omega
 have pre6:0 < ((arrOf st).extract sb (sb + t)).toList.length:=by simp_all;omega
 have pre7:∀ x y,((arrOf st).extract sb (sb + t)).toList[0]?=some x->((arrOf st).extract (sa + k) sb).toList[0]?=some y->le lt x y:=λ x y hx hy=>by
  rw [ys,getElem?_take_of_lt [2],k0] at hx;cases hx;rw [xs] at hy;obtain ⟨j,hj,ej⟩:=dx y (mem_of_getElem? hy);exact highA j y hj ej
 have pre8:∀ x,((arrOf st).extract (sa + k) sb).toList[((arrOf st).extract (sa + k) sb).toList.length - 1]?=some x->∀ y ∈ ((arrOf st).extract sb (sb + t)).toList,le lt y x:=λ x hx y hy=>by
  rw [xs,length_drop,getElem?_drop,show k + (r1.length - k - 1)=r1.length - 1 by omega,kl] at hx;cases hx;rw [ys] at hy;obtain ⟨j,hj,ej⟩:=dy y hy;exact lowB j y hj ej
 by_cases g:r1.length - k<=t
 ·rw [if_pos g];refine wpS_bind (zg5 c ⟨a.ok.kd,a.ok.fl⟩ pre1 pre2 pre3 pre4 pre5 pre6 pre7 pre8 λ mg st2 sm F=>?_);rw [xs,ys] at F;refine done mg st2 sm F _ ?_;intro u; rfl
 ·rw [if_neg g];refine wpS_bind (tg5 c ⟨a.ok.kd,a.ok.fl⟩ pre1 pre2 pre3 pre4 pre5 pre6 pre7 pre8 λ mg st2 sm F=>?_);rw [xs,ys] at F;refine done mg st2 sm F _ ?_;intro u; rfl
end
noncomputable def pos:Nat->List (List Keyed)->List (Nat × Nat)
 | _,[]=>[]
 | o,r :: rs=>(o,r.length) :: pos (o + r.length) rs
theorem ya1:∀ (o:Nat) (X Y:List (List Keyed)),pos o (X ++ Y)=pos o X ++ pos (o + X.flatten.length) Y
 | o,[],Y=>by simp [pos]
 | o,r :: X,Y=>by
  show (o,r.length) :: pos (o + r.length) (X ++ Y)=_;rw [ya1];simp [pos,Nat.add_assoc]
theorem vj1:∀ (o:Nat) (X:List (List Keyed)),(pos o X).length=X.length
 | _,[]=>rfl
 | o,r :: X=>by show (pos _ X).length + 1=X.length + 1; rw [vj1]
noncomputable abbrev pn (t:Nat × Nat × Nat):Nat × Nat:=(t.1,t.2.1)
structure Lay (κ:SortKind) (lt:Keyed->Keyed->Bool) (L0:List Keyed) (p:Array (Nat × Nat × Nat)) (st:SortSt) (rs:List (List Keyed)) (rest:List Keyed):Prop where
 at_:At κ p st (rs.flatten ++ rest)
 po:p.toList.map pn=pos 0 rs
 so:∀ r ∈ rs,0 < r.length /\ r.Pairwise (le lt)
 pm:(rs.flatten ++ rest).Perm L0
theorem Lay.size {κ:SortKind} {lt:Keyed->Keyed->Bool} {L0:List Keyed} {p:Array (Nat × Nat × Nat)} {st:SortSt} {rs:List (List Keyed)} {rest:List Keyed} (l:Lay κ lt L0 p st rs rest):p.size=rs.length:=by
 have:=congrArg List.length l.po;rw [length_map,vj1] at this;exact this
variable {L0:List Keyed} {rs:List (List Keyed)}
theorem Lay.many {lt:Keyed->Keyed->Bool} {st:SortSt} {rest:List Keyed} (l:Lay κ lt L0 p st rs rest):rs.length<=rs.flatten.length:=by
 have h:=l.so;clear l
 induction rs with
 | nil=>simp
 | cons r rs ih =>
  simp_all;omega
section
variable {lt:Keyed->Keyed->Bool} 
theorem Lay.merge (c:Cm prog w A s κ lt M) {st:SortSt} {rest:List Keyed} {Q:Bool->SortSt->Prop} (hM:∀ x ∈ L0,M x) (l:Lay κ lt L0 p st rs rest) (hi:i + 1 < rs.length)
    (h:∀ st' p' rs',Lay κ lt L0 p' st' rs' rest->rs'.length + 1=rs.length->rs'.flatten.length=rs.flatten.length->Q true st'):wpS [5] A E s (mergeAt' i) Q st:=by
 obtain ⟨X,r1,r2,Y,rfl,hX⟩:∃ X r1 r2 Y,rs=X ++ r1 :: r2 :: Y /\ X.length=i:=by
  refine ⟨rs.take i,rs[i],rs[i + 1],rs.drop (i + 2),?_,by simp_all;omega⟩;simp
 have po:=l.po;rw [ya1] at po;obtain ⟨px,pr,e1,e2,e3⟩:=List.map_eq_append_iff.mp po;obtain ⟨t1,pr1,e4,e5,e6⟩:=List.map_eq_cons_iff.mp e3;obtain ⟨t2,py,e7,e8,e9⟩:=List.map_eq_cons_iff.mp e6;subst e4 e7;obtain ⟨sa,na,pw⟩:=t1;obtain ⟨sb,nb,pw2⟩:=t2;have lp:px.length=i:=by have:=congrArg List.length e2; rw [length_map,vj1] at this; omega
 injection e5 with f1 f2
 injection e8 with f3 f4
 dsimp only at f1 f2 f3 f4;rw [Nat.zero_add] at f1 f3 e9;have g1:p[i]?=some (sa,na,pw):=by rw [<- getElem?_toList,e1,getElem?_append_right [2],show i - px.length=0 by omega]; rfl
 have g2:p[i + 1]?=some (sb,nb,pw2):=by rw [<- getElem?_toList,e1,getElem?_append_right [2],show i + 1 - px.length=1 by omega]; rfl
 have a:=l.at_;have fl:(X ++ r1 :: r2 :: Y).flatten ++ rest=X.flatten ++ (r1 ++ (r2 ++ (Y.flatten ++ rest))):=by simp
 rw [fl] at a;have pm:=l.pm;rw [fl] at pm;have s1:=l.so r1 (by simp);have s2:=l.so r2 (by simp);refine xh5 c a (λ x hx=>hM x (pm.mem_iff.mp ?_)) g1 g2 f1 f2 f3 f4 s1.1 s2.1 s1.2 s2.2 λ st' m a' pm' so'=>?_
 ·rcases List.mem_append.mp hx with q | q
  ·simp_all
  simp_all
 ·have lm:=pm'.length_eq;rw [length_append] at lm;refine h st' ((p.setIfInBounds i (sa,na + nb,pw)).eraseIdxIfInBounds (i + 1)) (X ++ m :: Y) ⟨?_,?_,?_,?_⟩ (by simp; omega) (by simp_all;omega)
  ·simp_all
  ·have pl:((p.setIfInBounds i (sa,na + nb,pw)).eraseIdxIfInBounds (i + 1)).toList=px ++ (sa,na + nb,pw) :: py:=by
     rw [Array.toList_eraseIdxIfInBounds,Array.toList_setIfInBounds,e1,List.set_append_right _ _ [2],show i - px.length=0 by omega,set_cons_zero,List.eraseIdx_append_of_length_le [2],show i + 1 - px.length=1 by omega];rfl
   rw [pl,map_append,e2,ya1,map_cons];refine congrArg _ ?_;show (sa,na + nb) :: _=(0 + X.flatten.length,m.length) :: pos _ Y;rw [Nat.zero_add,f1,show na + nb=m.length by omega,e9,show X.flatten.length + m.length=X.flatten.length + r1.length + r2.length by omega]
  ·intro r hr;rcases List.mem_append.mp hr with q | q
   ·exact l.so r (mem_append_left _ q)
   ·rcases List.mem_cons.mp q with rfl | q
    ·exact ⟨by omega,so'⟩
    ·exact l.so r (mem_append_right _ (.tail _ (.tail _ q)))
  ·refine .trans ?_ pm;have fl2:(X ++ m :: Y).flatten ++ rest=X.flatten ++ (m ++ (Y.flatten ++ rest)):=by simp
   rw [fl2];refine List.Perm.append_left _ ?_;rw [<- append_assoc r1];exact List.Perm.append_right _ pm'
theorem xh4 (c:Cm prog w A s κ lt M) {st:SortSt} {Q:Unit->SortSt->Prop} (a:At κ #[] st L0) (hM:∀ x ∈ L0,M x) (h2:2<=L0.length) (h:∀ st' p L,At κ p st' L->L.Perm L0->L.Pairwise (le lt)->Q () st') :
    wpS [5] A E s sortRuns' Q st:=by
 refine wpS_bind (wpS_get ?_);dsimp only;have sz:(arrOf st).size=L0.length:=by rw [<- length_toList,a.ls]
 generalize hsz:(arrOf st).size=size at *;have hs:size=L0.length:=sz;generalize ((sortPriv% PySem.Builtin.minRun):Nat->Nat->Nat->Nat) size size 0=mr;have st0:Lay κ lt L0 #[] st [] L0:=⟨by simpa using a,rfl,λ _ h=>(nomatch h),by simp⟩
 have llen:∀ {p:Array (Nat × Nat × Nat)} {st':SortSt} {rs:List (List Keyed)} {rest:List Keyed},Lay κ lt L0 p st' rs rest->rs.flatten.length + rest.length=size:=λ l=>by
  have:=l.pm.length_eq
  simp_all
 have push:∀ {p:Array (Nat × Nat × Nat)} {st':SortSt} {rs:List (List Keyed)} {rest:List Keyed} {lo n:Nat},Lay κ lt L0 p st' rs rest->lo=rs.flatten.length->1<=n->n<=rest.length->(rest.take n).Pairwise (le lt) ->
     Lay κ lt L0 (p.push (lo,n,0)) (setPending st' ((pendingOf st').push (lo,n,0))) (rs ++ [rest.take n]) (rest.drop n):=by
  intro p st' rs rest lo n l hlo h1 h2 so;have e:(rs ++ [rest.take n]).flatten ++ rest.drop n=rs.flatten ++ rest:=by simp
  have lt1:(rest.take n).length=n:=by simp_all
  refine ⟨by rw [e]; exact ⟨⟨l.at_.ok.kd,l.at_.ok.fl⟩,by show (pendingOf st').push _=_; rw [l.at_.pe],l.at_.ls⟩,?_,?_,by rw [e]; exact l.pm⟩
  ·rw [toList_push,map_append,l.po,ya1];refine congrArg _ ?_;show [(lo,n)]=[(0 + rs.flatten.length,(rest.take n).length)]
   simp_all
  ·intro r hr;rcases List.mem_append.mp hr with q | q
   ·exact l.so r q
   simp_all;omega
 refine wpS_bind (wpS_mono (wpS_forRange (λ x (r:Option Unit × Nat) st'=>r.1=none /\ x<=r.2 /\ ∃ p rs rest,Lay κ lt L0 p st' rs rest /\ r.2=rs.flatten.length) (Q:=λ (r:Option Unit × Nat) st'=>r.1=none /\ ∃ p rs,Lay κ lt L0 p st' rs []) ?_ ?_ ⟨rfl,Nat.zero_le _,#[],[],L0,st0,rfl⟩) ?_)
 ·rintro x ⟨r,lo⟩ st1 _ hx ⟨rfl,b1,p1,rs,rest,l,hlo⟩;dsimp only at b1 hlo ⊢;have ln:=llen l;by_cases z:lo ≥ size
  ·rw [if_pos z];have e:rest=[]:=List.eq_nil_of_length_eq_zero [2];subst e;exact wpS_pure ⟨rfl,p1,rs,l⟩
  ·rw [if_neg z];have hr:size - lo=rest.length:=by omega
   rw [hr];refine wpS_bind (zk5 c l.at_ (λ x hx=>hM x (l.pm.mem_iff.mp hx)) hlo [2] λ m st2 R2 a2 pm2 m1 m2 so2=>?_);have l2:Lay κ lt L0 p1 st2 rs R2:=⟨a2,l.po,l.so,(List.Perm.append_left _ pm2).trans l.pm⟩;have r2l:=pm2.length_eq
   have jp:∀ (n:Nat) (st3:SortSt) (R3:List Keyed),Lay κ lt L0 p1 st3 rs R3->1<=n->n<=R3.length->(R3.take n).Pairwise (le lt)->∀ (G:SortSt->StateT SortSt Sem (ForInStep (Option Unit × Nat))) (J:StateT SortSt Sem (ForInStep (Option Unit × Nat))),
       (∀ (q:Array (Nat × Nat × Nat)) (st4:SortSt) rs4,Lay κ lt L0 q st4 rs4 R3->rs4.flatten.length=lo->wpS [5] A E s J (λ r st'=>match r with
        | .done c'=>c'.1=none /\ ∃ p rs,Lay κ lt L0 p st' rs []
        | .yield c'=>c'.1=none /\ x + 1<=c'.2 /\ ∃ p rs rest,Lay κ lt L0 p st' rs rest /\ c'.2=rs.flatten.length) st4) ->
       ((pendingOf st3).back?=none->G st3=J)->(∀ s1 n1 o1,(pendingOf st3).back?=some (s1,n1,o1)->∃ (pw:Nat) (f:Nat->Option Unit × Unit->StateT SortSt Sem (ForInStep (Option Unit × Unit))) (g:Option Unit × Unit->StateT SortSt Sem (ForInStep (Option Unit × Nat))),G st3=(forIn [0:size] (none,()) f >>= g) ∧
        (∀ y,f y (none,())=(get >>= λ u=>match (if (pendingOf u).size > 1 then (pendingOf u)[(pendingOf u).size - 2]? else none) with
         | some (_,_,older)=>if older<=pw then pure (.done (none,())) else mergeAt' ((pendingOf u).size - 2) >>= λ b=>if (!b)=true then pure (.done (some (),())) else pure (.yield (none,()))
         | none=>pure (.done (none,())))) ∧
        g (none,())=(modify (λ u=>setPending u ((pendingOf u).modify ((pendingOf u).size - 1) λ t=>(t.1,t.2.1,pw))) >>= λ _=>J)) ->
       wpS [5] A E s (get >>= G) (λ r st'=>match r with
        | .done c'=>c'.1=none /\ ∃ p rs,Lay κ lt L0 p st' rs []
        | .yield c'=>c'.1=none /\ x + 1<=c'.2 /\ ∃ p rs rest,Lay κ lt L0 p st' rs rest /\ c'.2=rs.flatten.length) st3:=by
    intro n st3 R3 l3 h1 h2 so3 G J hJ hG1 hG2;refine wpS_bind (wpS_get ?_);cases hb:(pendingOf st3).back? with
    | none =>
     rw [hG1 hb];exact hJ _ st3 rs l3 hlo.symm
    | some t =>
     obtain ⟨s1,n1,o1⟩:=t;obtain ⟨pw,f,g,e1,e2,e3⟩:=hG2 s1 n1 o1 hb;rw [e1];refine wpS_bind (wpS_mono (wpS_forRange (λ y (r:Option Unit × Unit) st'=>r=(none,()) /\ ∃ q rs4,Lay κ lt L0 q st' rs4 R3 /\ rs4.flatten.length=lo) (Q:=λ (r:Option Unit × Unit) st'=>r=(none,()) /\ ∃ q rs4,Lay κ lt L0 q st' rs4 R3 /\ rs4.flatten.length=lo) ?_ (λ _ _ q=>q) ⟨rfl,p1,rs,l3,hlo.symm⟩) ?_)
     ·rintro y r st4 _ _ ⟨rfl,q,rs4,l4,hl4⟩;rw [e2];refine wpS_bind (wpS_get ?_);have pe:=l4.at_.pe;have ps:=l4.size;by_cases c1:(pendingOf st4).size > 1
      ·rw [if_pos c1];cases c2:(pendingOf st4)[(pendingOf st4).size - 2]? with
       | none=>simp_all;omega
       | some t =>
        obtain ⟨_,_,older⟩:=t;dsimp only;by_cases c3:older<=pw
        ·rw [if_pos c3];exact wpS_pure ⟨rfl,q,rs4,l4,hl4⟩
        ·rw [if_neg c3];refine wpS_bind (l4.merge c hM (by rw [pe] at c1 ⊢; omega) λ st5 p5 rs5 l5 _ hl5=>?_);rw [if_neg (by simp)];exact wpS_pure ⟨rfl,p5,rs5,l5,by omega⟩
      ·rw [if_neg c1];exact wpS_pure ⟨rfl,q,rs4,l4,hl4⟩
     ·rintro r st4 ⟨rfl,q,rs4,l4,hl4⟩;rw [e3];refine wpS_bind (wpS_modify (hJ (q.modify (q.size - 1) λ t=>(t.1,t.2.1,pw)) _ rs4 ⟨⟨⟨l4.at_.ok.kd,l4.at_.ok.fl⟩,?_,l4.at_.ls⟩,?_,l4.so,l4.pm⟩ hl4))
      ·have pe4:=l4.at_.pe
       simp_all
      ·rw [<- l4.po,Array.toList_modify];apply ext_getElem?;intro k;rw [getElem?_map,getElem?_map,List.getElem?_modify];split
       ·cases q.toList[k]? <;> rfl
       simp
   have end_:∀ {n:Nat} {R3:List Keyed},1<=n->n<=R3.length->(R3.take n).Pairwise (le lt)->∀ (q:Array (Nat × Nat × Nat)) (st4:SortSt) rs4,Lay κ lt L0 q st4 rs4 R3->rs4.flatten.length=lo->∀ (f:SortSt->SortSt),(∀ u,f u=setPending u ((pendingOf u).push (lo,n,0)))->wpS [5] A E s (modify f >>= λ _=>pure (ForInStep.yield ((none,lo + n):Option Unit × Nat))) (λ r st'=>match r with
         | .done c'=>c'.1=none /\ ∃ p rs,Lay κ lt L0 p st' rs []
         | .yield c'=>c'.1=none /\ x + 1<=c'.2 /\ ∃ p rs rest,Lay κ lt L0 p st' rs rest /\ c'.2=rs.flatten.length) st4:=by
    intro n R3 h1 h2 so3 q st4 rs4 l4 hl4 f hf;refine wpS_bind (wpS_modify (wpS_pure ?_));rw [hf];refine ⟨rfl,by omega,_,_,_,push l4 hl4.symm h1 h2 so3,?_⟩
    simp_all
   dsimp only;by_cases g:m < mr
   ·rw [if_pos g];refine wpS_bind (wpS_lift (wpAny_rule ⟨rfl,?_⟩));refine wpS_bind (uf2 c a2 (λ x hx=>hM x (l2.pm.mem_iff.mp hx)) hlo m1 (show m<=min rest.length mr by omega) [2] so2 λ st3 R3 a3 pm3 so3=>?_);rw [if_neg (by simp)];have l3:Lay κ lt L0 p1 st3 rs R3:=⟨a3,l.po,l.so,(List.Perm.append_left _ pm3).trans l2.pm⟩;have r3l:=pm3.length_eq;refine wpS_mono (jp _ st3 R3 l3 (show 1<=min rest.length mr by omega) [2] so3 _ _ (λ q st4 rs4 l4 hl4=>end_ [2] [2] so3 q st4 rs4 l4 hl4 _ λ _=>rfl) ?_ ?_) ?_
    ·intro hb; rw [hb]
    ·intro s1 n1 o1 hb;rw [hb];refine ⟨_,_,_,rfl,λ y=>?_,rfl⟩;refine congrArg _ (funext λ u=>?_);generalize (if (pendingOf u).size > 1 then (pendingOf u)[(pendingOf u).size - 2]? else none)=o;rcases o with _ | ⟨_,_,_⟩ <;> rfl
    ·intro r st' q; cases r <;> exact q
   ·rw [if_neg g];refine wpS_mono (jp m st2 R2 l2 m1 [2] so2 _ _ (λ q st4 rs4 l4 hl4=>end_ m1 [2] so2 q st4 rs4 l4 hl4 _ λ _=>rfl) ?_ ?_) ?_
    ·intro hb; rw [hb]
    ·intro s1 n1 o1 hb;rw [hb];refine ⟨_,_,_,rfl,λ y=>?_,rfl⟩;refine congrArg _ (funext λ u=>?_);generalize (if (pendingOf u).size > 1 then (pendingOf u)[(pendingOf u).size - 2]? else none)=o;rcases o with _ | ⟨_,_,_⟩ <;> rfl
    ·intro r st' q; cases r <;> exact q
 ·rintro ⟨r,lo⟩ st1 ⟨rfl,b1,p1,rs,rest,l,hlo⟩;dsimp only at b1 hlo;have ln:=llen l;have b1':max 0 size<=lo:=b1;have e:rest=[]:=List.eq_nil_of_length_eq_zero [2];subst e;exact ⟨rfl,p1,rs,l⟩
 ·rintro ⟨r,lo⟩ st1 ⟨rfl,p1,rs,l⟩;dsimp only;have ln:=llen l;have mn:=l.many;refine wpS_bind (wpS_mono (wpS_forRange (λ x (r:Option Unit × Unit) st'=>r=(none,()) /\ ∃ p rs,Lay κ lt L0 p st' rs [] /\ rs.length + x<=size + 1 + (if rs.length<=1 then x else 0)) (Q:=λ (r:Option Unit × Unit) st'=>r=(none,()) /\ ∃ p rs,Lay κ lt L0 p st' rs [] /\ rs.length<=1) ?_ ?_ ⟨rfl,p1,rs,l,by omega⟩) ?_)
  ·rintro x r st2 _ hx ⟨rfl,p2,rs2,l2,b⟩;refine wpS_bind (wpS_get ?_);have pe:=l2.at_.pe;have ps:=l2.size;have ps':(pendingOf st2).size=rs2.length:=by rw [pe]; exact ps
   by_cases z:(pendingOf st2).size<=1
   ·rw [if_pos z];exact wpS_pure ⟨rfl,p2,rs2,l2,by omega⟩
   ·rw [if_neg z];refine wpS_bind (l2.merge c hM ?_ λ st3 p3 rs3 l3 hl3 _=>?_)
    ·exact (show ∀ (P:Prop) [Decidable P] (n m:Nat),2<=n->n=m->(if P then n - 2 - 1 else n - 2) + 1 < m by intro P _ n m h1 h2; split <;> omega) _ _ _ (show 2<=(pendingOf st2).size by omega) ps'
    ·rw [if_neg (by simp)];refine wpS_pure ⟨rfl,p3,rs3,l3,?_⟩;rw [if_neg [2]] at b;split <;> omega
  ·rintro r st2 ⟨rfl,p2,rs2,l2,b⟩;refine ⟨rfl,p2,rs2,l2,?_⟩;by_cases z:rs2.length<=1
   ·exact z
   simp_all;omega
  ·rintro r st2 ⟨rfl,p2,rs2,l2,b⟩;dsimp only;have pm:=l2.pm;have a2:=l2.at_;rw [append_nil] at pm a2;refine wpS_pure (h st2 p2 _ a2 pm ?_)
   match rs2,b,l2.so with
   | [],_,_=>simp
   | [r],_,so=>simp_all
   | _ :: _ :: _,b,_=>simp at b
end
end Ts
namespace Ts
open PySem PyProof.Rows PySem.W
theorem xz1 {α β:Type} {f:α->β} {L N:List β} (h:L.Perm N):∀ l:List α,N=l.map f->∃ l':List α,l'.Perm l /\ L=l'.map f:=by
 induction h with
 | nil=>simp
 | cons x _ ih =>
  intro l e;obtain ⟨a,l1,rfl,rfl,e3⟩:=List.map_eq_cons_iff.mp e.symm;obtain ⟨l',p,e4⟩:=ih l1 e3.symm;exact ⟨a :: l',p.cons a,by rw [e4]; rfl⟩
 | swap x y t =>
  intro l e;obtain ⟨a,l1,rfl,rfl,e3⟩:=List.map_eq_cons_iff.mp e.symm;obtain ⟨b,l2,rfl,rfl,e5⟩:=List.map_eq_cons_iff.mp e3;exact ⟨b :: a :: l2,.swap a b l2,by rw [<- e5]; rfl⟩
 | trans _ _ ih1 ih2 =>
  intro l e;obtain ⟨l2,p2,e2⟩:=ih2 l e;obtain ⟨l1,p1,e1⟩:=ih1 l2 e2;exact ⟨l1,p1.trans p2,e1⟩
open Classical in
noncomputable def idx (vs:List Value) (x:Keyed):Nat:=if h:∃ i:Nat,vs[i]?=some x.1 then Classical.choose h else 0
variable {vs:List Value}
theorem up1 {x:Keyed} (h:∃ i:Nat,vs[i]?=some x.1):vs[idx vs x]?=some x.1:=by
 unfold idx;rw [dif_pos h];exact Classical.choose_spec h
section
variable {prog:Program} {w:World} {A:Around} {E:[8]} {s:Shared} {κ:SortKind}
theorem run_idx {lt:Nat->Nat->Bool} (O:Ms.Ord lt) (h2:2<=vs.length) (sm:∀ (i j:Nat) v,vs[i]?=some v->vs[j]?=some v->∀ k,lt i k=lt j k /\ lt k i=lt k j)
    (ask:∀ (i j:Nat) x y,vs[i]?=some x->vs[j]?=some y->∀ C:Bool->Shared->Prop,C (lt i j) s->wpAny [5] A (keyLt' κ x y) C (λ _ _=>False) s) :
    wpS [5] A E s sortRuns' (λ _ st'=>∃ p:Array Nat,p.Perm (List.toArray (List.range vs.length)) /\ Ms.Up lt p vs.length /\ arrOf st'=p.map (kas_item (vs.toArray.zip vs.toArray)) /\ failedOf st'=none) (SortSt.mk' κ (vs.toArray.zip vs.toArray) #[] 7 none):=by
 let M:Keyed->Prop:=λ x=>∃ i:Nat,vs[i]?=some x.1
 let lk:Keyed->Keyed->Bool:=λ x y=>lt (idx vs x) (idx vs y)
 have c:Cm prog w A s κ lk M:=⟨λ x y hx hy C h=>ask _ _ _ _ (up1 hx) (up1 hy) C h,λ x=>O.ir _,λ x y z=>O.tr _ _ _,λ x y z=>O.ng _ _ _⟩
 have it:(vs.toArray.zip vs.toArray).toList=(List.range vs.length).map (kas_item (vs.toArray.zip vs.toArray)):=by
  have:=kas_range (vs.toArray.zip vs.toArray);have sz:(vs.toArray.zip vs.toArray).size=vs.length:=by simp
  rw [sz] at this;have e:=congrArg Array.toList this;simpa using e.symm
 have ki:∀ i,i < vs.length->(kas_item (vs.toArray.zip vs.toArray) i).1=vs.getD i .none:=λ i hi=>by
  show ((vs.toArray.zip vs.toArray).getD i _).1=_;simp [*]
 refine xh4 c (L0:=(vs.toArray.zip vs.toArray).toList) ⟨⟨rfl,rfl⟩,rfl,rfl⟩ (λ x hx=>?_) (by simp; exact h2) λ st' p L a pm so=>?_
 ·rw [it] at hx;obtain ⟨i,hi,rfl⟩:=List.mem_map.mp hx;have hi':=List.mem_range.mp hi;exact ⟨i,by rw [ki i hi',getD_eq_getElem?_getD,getElem?_eq_getElem hi']; rfl⟩
 ·obtain ⟨l,pl,el⟩:=xz1 pm _ it;subst el;refine ⟨l.toArray,Array.perm_iff_toList_perm.mpr pl,?_,Array.toList_inj.mp (by rw [a.ls]; simp),a.ok.fl⟩;have ll:l.length=vs.length:=by have:=pl.length_eq; simpa using this
  intro x y hxy hy;show lt (l.toArray.getD y 0) (l.toArray.getD x 0)=false;have gx:∀ z,z < l.length->l.toArray.getD z 0=l.getD z 0:=λ z hz=>by simp
  rw [gx y [2],gx x [2]];by_cases e:x=y
  ·subst e; exact O.ir _
  have ex:l[x]?=some l[x]:=getElem?_eq_getElem [2];have ey:l[y]?=some l[y]:=getElem?_eq_getElem [2];have q:=wp0 so (show x < y by omega) (by rw [getElem?_map,ex]; rfl) (by rw [getElem?_map,ey]; rfl);have rx:l[x] < vs.length:=List.mem_range.mp (pl.mem_iff.mp (getElem_mem _));have ry:l[y] < vs.length:=List.mem_range.mp (pl.mem_iff.mp (getElem_mem _));have vx:vs[l[x]]?=some (kas_item (vs.toArray.zip vs.toArray) l[x]).1:=by rw [ki _ rx,getD_eq_getElem?_getD,getElem?_eq_getElem rx]; rfl
  have vy:vs[l[y]]?=some (kas_item (vs.toArray.zip vs.toArray) l[y]).1:=by rw [ki _ ry,getD_eq_getElem?_getD,getElem?_eq_getElem ry]; rfl
  have jx:=up1 (vs:=vs) (x:=kas_item (vs.toArray.zip vs.toArray) l[x]) ⟨_,vx⟩;have jy:=up1 (vs:=vs) (x:=kas_item (vs.toArray.zip vs.toArray) l[y]) ⟨_,vy⟩;have q':lt (idx vs (kas_item (vs.toArray.zip vs.toArray) l[y])) (idx vs (kas_item (vs.toArray.zip vs.toArray) l[x]))=false:=q;rw [(sm _ _ _ jy vy _).1,(sm _ _ _ jx vx _).2] at q';simp [*]
end
end Ts
namespace Pv
open PySem PySem.Spec PySem.W PyProof.Rows L2
noncomputable abbrev T3:=Int × Int × Int
noncomputable def lt3 (a b:T3):Bool:=decide (a.1 < b.1) || (a.1 == b.1 && (decide (a.2.1 < b.2.1) || (a.2.1 == b.2.1 && decide (a.2.2 < b.2.2))))
noncomputable def IsT3 (h:Heap) (v:Value) (t:T3):Prop:=∃ a o t1 t2 t3 n,v=.ref a /\ h.get? a=some o /\ o.cls=.type "tuple" /\ o.data=.seq #[.int t.1 t1,.int t.2.1 t2,.int t.2.2 t3] n
theorem IsT3.one {h:Heap} {v:Value} {t u:T3} (i:IsT3 h v t) (k:IsT3 h v u):t=u:=by
 obtain ⟨a,o,t1,t2,t3,n,rfl,e2,_,e4⟩:=i;obtain ⟨b,q,u1,u2,u3,m,f1,f2,_,f4⟩:=k;cases f1;rw [e2] at f2;cases f2;rw [e4] at f4;obtain ⟨x,y,z⟩:=t;obtain ⟨x',y',z'⟩:=u;simp only [Data.seq.injEq,Array.mk.injEq,List.cons.injEq,Value.int.injEq] at f4;obtain ⟨⟨⟨h1,_⟩,⟨h2,_⟩,⟨h3,_⟩,_⟩,_⟩:=f4;rw [h1,h2,h3]
theorem lt3_iff {a b:T3}:lt3 a b=true ↔ a.1 < b.1 \/ a.1=b.1 /\ (a.2.1 < b.2.1 \/ a.2.1=b.2.1 /\ a.2.2 < b.2.2):=by simp [lt3]
theorem yh5 {a b c:Int} {P Q R:Prop} (h:a < b \/ a=b /\ P) (k:b < c \/ b=c /\ Q) (f:P->Q->R):a < c \/ a=c /\ R:=by
 rcases h with h | ⟨rfl,p⟩
 ·rcases k with k | ⟨rfl,q⟩
  ·exact .inl (Int.lt_trans h k)
  ·exact .inl h
 ·exact k.imp id λ ⟨e,q⟩=>⟨e,f p q⟩
theorem zh5 {a c:Int} (b:Int) {P Q R:Prop} (h:a < c \/ a=c /\ R) (f:R->P \/ Q):(a < b \/ a=b /\ P) \/ (b < c \/ b=c /\ Q):=by
 rcases Int.lt_trichotomy a b with p | rfl | p
 ·exact .inl (.inl p)
 ·rcases h with h | ⟨e,r⟩
  ·exact .inr (.inl h)
  ·exact (f r).imp (λ x=>.inr ⟨rfl,x⟩) λ x=>.inr ⟨e,x⟩
 ·exact .inr (.inl (h.elim (Int.lt_trans p) λ x=>x.1 ▸ p))
theorem ua2 (ts:List T3):Ms.Ord λ i j=>lt3 (ts.getD i (0,0,0)) (ts.getD j (0,0,0)) where
 ir:=λ a=>by simp [lt3]
 tr:=λ a b c h k=>lt3_iff.mpr (yh5 (lt3_iff.mp h) (lt3_iff.mp k) λ p q=>yh5 p q Int.lt_trans)
 ng:=λ a b c h=>by
  rw [lt3_iff,lt3_iff];refine zh5 _ (lt3_iff.mp h) λ r=>zh5 _ r λ x=>?_;rcases Int.lt_or_le (ts.getD a (0,0,0)).2.2 (ts.getD b (0,0,0)).2.2 with p | p
  ·exact .inl p
  ·exact .inr (Int.lt_of_le_of_lt p x)
variable {n:Nat} {ts:List T3}
section
variable {prog:Program} {w:World} {A:Around} {E:[8]} {s:Shared}
theorem t3_lt {x y:Value} {a b:T3} {Q:Bool->Shared->Prop} (hx:IsT3 s.heap x a) (hy:IsT3 s.heap y b) (h:Q (lt3 a b) s):wpAny [5] A (keyLt' (tuples' true) x y) Q E s:=by
 obtain ⟨x,ox,t1,t2,t3,n,rfl,ex,_,dx⟩:=hx;obtain ⟨y,oy,u1,u2,u3,m,rfl,ey,_,dy⟩:=hy;obtain ⟨a1,a2,a3⟩:=a;obtain ⟨b1,b2,b3⟩:=b;refine kat_lt ex dx ey dy ?_;refine kat_cons (wpAny_eqBool_int ?_);by_cases c1:a1=b1
 ·rw [show (a1 == b1)=true from beq_iff_eq.mpr c1];refine kat_yes (kat_cons (wpAny_eqBool_int ?_));by_cases c2:a2=b2
  ·rw [show (a2 == b2)=true from beq_iff_eq.mpr c2];refine kat_yes (kat_cons (wpAny_eqBool_int ?_));by_cases c3:a3=b3
   ·rw [show (a3 == b3)=true from beq_iff_eq.mpr c3];refine kat_yes (kat_nil ?_);have e:lt3 (a1,a2,a3) (b1,b2,b3)=false:=by subst c1 c2 c3; simp [lt3]
    rw [e] at h;exact h
   ·rw [show (a3 == b3)=false from by simpa using c3];have e:lt3 (a1,a2,a3) (b1,b2,b3)=decide (a3 < b3):=by subst c1 c2; simp [lt3]
    rw [e] at h;exact kat_no (kat_one _ _ (lt_int h))
  ·rw [show (a2 == b2)=false from by simpa using c2];have e:lt3 (a1,a2,a3) (b1,b2,b3)=decide (a2 < b2):=by subst c1; simp [lt3,c2]
   rw [e] at h;exact kat_no (kat_one _ _ (lt_int h))
 ·rw [show (a1 == b1)=false from by simpa using c1];have e:lt3 (a1,a2,a3) (b1,b2,b3)=decide (a1 < b1):=by simp [lt3,c1]
  rw [e] at h;exact kat_no (oneLt_int h)
noncomputable def T3s (h:Heap):List Value->List T3->Prop
 | [],[]=>True
 | v :: vs,t :: ts=>IsT3 h v t /\ T3s h vs ts
 | _,_=>False
theorem T3s.kept {h h':Heap} (k:∀ b o,h.get? b=some o->o.cls=.type "tuple" -> h'.get? b=some o):∀ {vs:List Value} {ts:List T3},T3s h vs ts->T3s h' vs ts
 | [],[],_=>trivial
 | [],_ :: _,i=>i.elim
 | _ :: _,[],i=>i.elim
 | v :: vs,t :: ts,i=>by
  obtain ⟨⟨a,o,t1,t2,t3,n,e1,e2,e3,e4⟩,r⟩:=i;exact ⟨⟨a,o,t1,t2,t3,n,e1,k _ _ e2 e3,e3,e4⟩,T3s.kept k r⟩
theorem T3s.get {h:Heap}:∀ {vs:List Value} {ts:List T3},T3s h vs ts->∀ i,i < vs.length->IsT3 h (vs.getD i .none) (ts.getD i (0,0,0))
 | [],[],_,i,hi=>absurd hi (Nat.not_lt_zero _)
 | [],_ :: _,z,_,_=>z.elim
 | _ :: _,[],z,_,_=>z.elim
 | v :: vs,t :: ts,z,0,_=>z.1
 | v :: vs,t :: ts,z,i + 1,hi=>T3s.get z.2 i (Nat.lt_of_succ_lt_succ hi)
theorem T3s.firsts {h:Heap}:∀ {vs:List Value} {ts:List T3},T3s h vs ts->∃ fs,KatTups h vs fs /\ fs.length=vs.length /\ ∀ v ∈ fs,∃ i t,v=Value.int i t
 | [],[],_=>⟨[],trivial,rfl,λ _ hv=>nomatch hv⟩
 | [],_ :: _,z=>z.elim
 | _ :: _,[],z=>z.elim
 | v :: vs,t :: ts,z=>by
  obtain ⟨fs,f1,f2,f3⟩:=T3s.firsts z.2;obtain ⟨a,o,t1,t2,t3,n,rfl,e2,e3,e4⟩:=z.1;refine ⟨.int t.1 t1 :: fs,KatTups.cons e2 e3 e4 rfl f1,by rw [length_cons,length_cons,f2],λ x hx=>?_⟩;rcases List.mem_cons.mp hx with rfl | hx
  ·exact ⟨_,_,rfl⟩
  ·exact f3 x hx
noncomputable abbrev ltI (ts:List T3):Nat->Nat->Bool:=λ i j=>lt3 (ts.getD i (0,0,0)) (ts.getD j (0,0,0))
noncomputable abbrev outV (vs:List Value) (p:Array Nat):List Value:=p.toList.map λ i=>vs.getD i Value.none
theorem yt1 (vs:List Value):outV vs (List.toArray (List.range vs.length))=vs:=by
 apply List.ext_getElem
 ·simp
 ·intro i h1 h2;simp [getD_eq_getElem?_getD,getElem?_eq_getElem h2]
theorem no_lt {vs:Array Value} {C:Prop} (h:(seqObj "list" vs n).cls=Value.type "tuple"):C:=by
 have h':Value.type "list" = Value.type "tuple" := h;injection h' with e
 exact absurd e (by decide)
theorem ut2 {a:Addr} {vs:List Value} {P:PySem.Fin->Shared->Prop} (ho:s.heap.get? a=some (seqObj "list" vs.toArray n)) (ht:T3s s.heap vs ts) (hz:vs.length<=sizeLine)
    (h:∀ (p:Array Nat) (h':Heap) (c:Nat),p.Perm (List.toArray (List.range vs.length))->Ms.Up (ltI ts) p vs.length->(∀ b o,b ≠ a->s.heap.get? b=some o->h'.get? b=some o) ->
     h'.get? a=some (seqObj "list" (outV vs p).toArray c)->P (.done (.ret .none)) { s with heap:=h' }) :
    wpAny [5] A (Builtin.«list.sort» ⟨[.ref a],[]⟩) P E s:=by
 have ha:a < s.heap.objs.size:=Heap.lt_size ho;obtain ⟨e1,ho1⟩:∃ e1,(s.heap.update a (Obj.mapSeq λ _=>(#[]:Array Value))).get? a=some (seqObj "list" #[] e1):=⟨_,get?_update_seq ho λ _=>#[]⟩
 have kp:∀ b o,b ≠ a->s.heap.get? b=some o->(((s.heap.update a (Obj.mapSeq λ _=>(#[]:Array Value))).push (seqObj "tuple" vs.toArray 0)).push (seqObj "list" #[] 0)).get? b=some o:=λ b o hb e =>
  Heap.get?_push_of_some _ (Heap.get?_push_of_some _ (by rw [Heap.get?_update_ne _ _ _ _ hb]; exact e))
 have ht3:=T3s.kept (h':=((s.heap.update a (Obj.mapSeq λ _=>(#[]:Array Value))).push (seqObj "tuple" vs.toArray 0)).push (seqObj "list" #[] 0)) (λ b o e ec=>kp b o (by intro z; subst z; rw [ho] at e; cases e; exact no_lt ec) e) ht;have hoN:=Heap.get?_push_of_some (seqObj "list" #[] 0) (Heap.get?_push_of_some (seqObj "tuple" vs.toArray 0) ho1);generalize hN:((s.heap.update a (Obj.mapSeq λ _=>(#[]:Array Value))).push (seqObj "tuple" vs.toArray 0)).push (seqObj "list" #[] 0)=hp3 at kp ht3 hoN
 have fin:∀ (p:Array Nat),p.Perm (List.toArray (List.range vs.length))->Ms.Up (ltI ts) p vs.length->P (.done (.ret .none)) { s with heap:=hp3.update a (Obj.mapSeq λ _=>(outV vs p).toArray) }:=λ p hp hu=>by
  refine h p _ _ hp hu (λ b o hb e=>by rw [Heap.get?_update_ne _ _ _ _ hb]; exact kp b o hb e) (get?_update_seq hoN λ _=>(outV vs p).toArray)
 have szO:∀ p:Array Nat,p.Perm (List.toArray (List.range vs.length))->(outV vs p).toArray.size<=sizeLine + 1:=λ p hp=>by
  have:=hp.size_eq;simp at this;simp;omega
 rw [list_sort_plain];refine wpAny_bind (listItems_at ho rfl (wpAny_bind (listUpdate_at ho rfl ?_ (by simpa using hz) (Nat.zero_le _))));refine wpAny_bind (seqEpoch_at ho1 rfl (wpAny_bind (wpAny_newTuple ?_ (by simpa using hz))));refine wpAny_bind (wpAny_newList (wpAny_holding ?_) (Nat.zero_le _));show wpAny [5] A _ P E { s with heap:=((s.heap.update a (Obj.mapSeq λ _=>(#[]:Array Value))).push (seqObj "tuple" vs.toArray 0)).push (seqObj "list" #[] 0) };rw [hN];dsimp only;by_cases c:vs.toArray.size < 2
 ·rw [if_pos c,if_pos c];refine wpAny_bind (wpAny_pure ?_);rw [StateT.run_pure];refine wpAny_bind (wpAny_pure ?_)
  have id1:(arrOf (SortSt.mk' general' (vs.toArray.zip vs.toArray) #[] 7 none)).map (·.2)=(outV vs (List.toArray (List.range vs.length))).toArray:=by
   rw [yt1];show (vs.toArray.zip vs.toArray).map (·.2)=vs.toArray;apply Array.toList_inj.mp;simp [List.map_snd_zip]
  dsimp only;rw [id1];have pr:=Array.Perm.refl (List.toArray (List.range vs.length));refine wpAny_bind (seqEpoch_at hoN rfl (wpAny_bind (listUpdate_at hoN rfl ?_ (Nat.zero_le _) (szO _ pr))));simp only [bne_self_eq_false,Bool.false_eq_true,if_false];refine wpAny_pure (fin _ pr ?_);intro x y hxy hy;have:x=y:=by simp at c; omega
  subst this;exact Ms.le_rf (ua2 ts) _
 ·rw [if_neg c,if_neg c];have c2:2<=vs.length:=by simp at c; omega
  obtain ⟨fs,f1,f2,f3⟩:=ht3.firsts;refine wpAny_bind (kat_kind f1 [2] (T:=.type "int") (λ v hv=>?_) (by decide) ?_)
  ·obtain ⟨i,t,rfl⟩:=f3 v hv;exact Looks.of_pure rfl
  show wpAny _ _ _ _ _ _;rw [show (Value.type "int" != Value.type "tuple")=true by decide];refine wpAny_bind (wpAny_mono (Ts.run_idx (vs:=vs) (lt:=ltI ts) (s:={ s with heap:=hp3 }) (κ:=tuples' true) (ua2 ts) c2 (λ i j v e1 e2 k=>?_) λ i j x y e1 e2 C hc=>?_) ?_ λ _ _ z=>z)
  ·have l1:=(List.getElem?_eq_some_iff.mp e1).1;have l2:=(List.getElem?_eq_some_iff.mp e2).1;have g1:=ht3.get i l1;have g2:=ht3.get j l2;rw [getD_eq_getElem?_getD,e1] at g1;rw [getD_eq_getElem?_getD,e2] at g2;have e:=g1.one g2;show lt3 (ts.getD i _) _=lt3 (ts.getD j _) _ /\ lt3 _ (ts.getD i _)=lt3 _ (ts.getD j _);rw [e];exact ⟨rfl,rfl⟩
  ·have g1:=ht3.get i (List.getElem?_eq_some_iff.mp e1).1;have g2:=ht3.get j (List.getElem?_eq_some_iff.mp e2).1;rw [getD_eq_getElem?_getD,e1] at g1;rw [getD_eq_getElem?_getD,e2] at g2;exact t3_lt g1 g2 hc
  ·rintro ⟨⟨⟩,st'⟩ s' ⟨rfl,p,pp,pu,hp1,hp2⟩;dsimp only;rw [kat_snds rfl hp1];refine wpAny_bind (seqEpoch_at hoN rfl (wpAny_bind (listUpdate_at hoN rfl ?_ (Nat.zero_le _) (szO _ pp))));rw [hp2];simp only [bne_self_eq_false,Bool.false_eq_true,if_false];exact wpAny_pure (fin _ pp pu)
end
noncomputable def V3s (K:Fg) (H:Hp):List V->List T3->Prop
 | [],[]=>True
 | v :: vs,t :: ts=>(∃ a,v=.ref a /\ H a=some (.tup [.int t.1,.int t.2.1,.int t.2.2])) /\ V3s K H vs ts
 | _,_=>False
section
variable {X:Cx}
theorem yl1 {pins:List (Addr × Obj)} {σ:L2.St} {H:Hp} {s:Shared} (I:Inv X pins σ H s):∀ {vs:List V} {ts:List T3} {us:List Value},V3s X.K H vs ts->Vals vs us->T3s s.heap us ts
 | [],[],_,_,.nil=>trivial
 | [],_ :: _,_,z,_=>z.elim
 | _ :: _,[],_,z,_=>z.elim
 | v :: vs,t :: ts,_,z,.cons r rs=>by
  obtain ⟨⟨a,rfl,hq⟩,z⟩:=z;refine ⟨?_,yl1 I z rs⟩;cases r;obtain ⟨its,rv,⟨o,p1,p2,n,p3⟩,_⟩:=I.tuple (SqT.of hq);cases rv with
  | cons r1 rv =>
   cases rv with
   | cons r2 rv =>
    cases rv with
    | cons r3 rv =>
     cases rv;obtain ⟨t1,rfl⟩:=r1;obtain ⟨t2,rfl⟩:=r2;obtain ⟨t3,rfl⟩:=r3;exact ⟨a,o,t1,t2,t3,n,rfl,p1,p2,p3⟩
theorem zd1 {vs:List V} {us:List Value} (r:Vals vs us):∀ (l:List Nat),(∀ i ∈ l,i < vs.length)->Vals (l.map λ i=>vs.getD i .non) (l.map λ i=>us.getD i Value.none)
 | [],_=>.nil
 | i :: l,h=>by
  refine .cons ?_ (zd1 r l λ j hj=>h j (mem_cons_of_mem _ hj));have hi:=h i (mem_cons_self ..);obtain ⟨u,e,z⟩:=Vals.get r (i:=i) (x:=vs.getD i .non) (by simp_all)
  simp_all
end
noncomputable def encT (t:T3):D:=.tup [.int t.1,.int t.2.1,.int t.2.2]
theorem uu1 {K:Fg} {H:Hp}:∀ {ts:List T3} {vs:List V},RelDs K H (ts.map encT) vs->V3s K H vs ts
 | [],_,.nil=>trivial
 | t :: ts,_,.cons r rs=>by
  refine ⟨?_,uu1 rs⟩;cases r with
  | tup hq r2 =>
   cases r2 with
   | cons x r2 =>
    cases r2 with
    | cons y r2 =>
     cases r2 with
     | cons z r2 =>
      cases r2;cases x;cases y;cases z
      simp_all
theorem ux0 {K:Fg} {H:Hp} {ts:List T3} {vs:List V} (r:RelDs K H (ts.map encT) vs):∀ (l:List Nat),(∀ i ∈ l,i < vs.length)->RelDs K H ((l.map λ i=>ts.getD i (0,0,0)).map encT) (l.map λ i=>vs.getD i .non)
 | [],_=>.nil
 | i :: l,h=>by
  refine .cons ?_ (ux0 r l λ j hj=>h j (mem_cons_of_mem _ hj));have hi:=h i (mem_cons_self ..);have hl:=r.length;rw [length_map] at hl;obtain ⟨v,e,z⟩:=r.get (i:=i) (d:=encT (ts.getD i (0,0,0))) (by simp_all)
  simp_all
noncomputable def le3 (a b:T3):Prop:=lt3 b a=false
variable {q:Array Nat}
theorem tv1 (h:q.Perm (List.toArray (List.range ts.length))):(q.toList.map λ i=>ts.getD i (0,0,0)).Perm ts:=by
 have h1:q.toList.Perm (List.range ts.length):=h.toList;refine (h1.map _).trans (List.Perm.of_eq ?_);apply List.ext_getElem
 ·simp
 simp_all
theorem xl3 (h:q.Perm (List.toArray (List.range ts.length))) (u:Ms.Up (ltI ts) q ts.length):(q.toList.map λ i=>ts.getD i (0,0,0)).Pairwise le3:=by
 have sz:q.size=ts.length:=by have:=h.size_eq; simpa using this
 rw [List.pairwise_iff_getElem];intro i j hi hj hij;simp only [length_map,length_toList] at hi hj;have z:=u i j (Nat.le_of_lt hij) [2];simp only [List.getElem_map,Array.getElem_toList];have e1:Ms.at' q i=q[i]:=by simp_all
 have e2:Ms.at' q j=q[j]:=by simp_all
 rw [e1,e2] at z;exact z
end Pv
namespace Pv
open PySem PySem.Spec PyProof.Rows L2
variable {X:Cx} {f:Value}
section
theorem RC.or {R1 R2:C3} (h1:RC X f R1) (h2:RC X f R2):RC X f (λ ds μ Q=>R1 ds μ Q \/ R2 ds μ Q):=by
 obtain ⟨c1,p1,r1⟩:=h1;obtain ⟨c2,p2,r2⟩:=h2
 exact ⟨λ xs H Q=>c1 xs H Q \/ c2 xs H Q,λ pins s σ H xs us Q I r h=>h.elim (p1 pins s σ H xs us Q I r) (p2 pins s σ H xs us Q I r),
  λ xs vs H Q μ Q3 m r h k=>h.elim (λ h=>.inl (r1 xs vs H Q μ Q3 m r h k)) λ h=>.inr (r2 xs vs H Q μ Q3 m r h k)⟩
theorem RC.le {R1 R2:C3} (h:RC X f R1) (e:∀ ds μ Q,R2 ds μ Q->R1 ds μ Q):RC X f R2:=by
 obtain ⟨c1,p1,r1⟩:=h;exact ⟨c1,p1,λ xs vs H Q μ Q3 m r h k=>r1 xs vs H Q μ Q3 m r (e _ _ _ h) k⟩
noncomputable def vg5:C3:=λ ds μ Q=>match ds with
 | [.ref p]=>match μ p with
  | some (.lst l)=>match ints? l with
   | some ns=>0 < ns.length /\ ∀ m,m ∈ ns->(∀ a,a ∈ ns->m<=a)->Q (.int m) μ
   | none=>False
  | _=>False
 | _=>False
noncomputable def sg5:C3:=λ ds μ Q=>match ds with
 | [.ref p]=>match μ p with
  | some (.lst l)=>match ints? l with
   | some ns=>0 < ns.length /\ ∀ m,m ∈ ns->(∀ a,a ∈ ns->a<=m)->Q (.int m) μ
   | none=>False
  | _=>False
 | _=>False
theorem ue2 (hc:X.calm=true):CallR X (.builtin "min") (λ xs H Q=>∃ (p:Addr) (ns:List Int),xs=[.ref p] /\ SqL X.K H p (ns.map V.int) /\ 0 < ns.length /\ ∀ m,m ∈ ns->(∀ a,a ∈ ns->m<=a)->Q (.int m) H):=by
 intro pins s σ H xs us Q I r h;obtain ⟨p,ns,rfl,hq,hne,q⟩:=h;obtain ⟨u,rfl,rx⟩:=ww0 r;cases rx;obtain ⟨its,r',pl,hz⟩:=I.list hq;have hi:=yq0 r';obtain ⟨ys,e⟩:=hi.allInts.items;have hl:=pl.isList;rw [e] at hl;have hns:ns=ys.toList.map (·.1):=by rw [<- hi.numsOf,<- nums_intItems,<- e]
 have hsz:0 < ys.size:=by
  simp_all
 refine min_intList (I.ok.hd hc) hl hsz λ v h' tk hv hk=>?_;obtain ⟨t,rfl⟩:=intItems_at hv;obtain ⟨h1,h2⟩:=argBest_lt (numAt ys) (ys.size - 1);refine ⟨.int _,H,I.kept (t':=tk) hk,⟨t,rfl⟩,q _ ?_ λ a ha=>?_⟩
 ·rw [hns,numAt_eq]; exact getD_mem (by simp_all;omega)
 ·rw [hns] at ha;obtain ⟨j,hj,rfl⟩:=mem_getD ha;rw [length_map,length_toList] at hj;rw [<- numAt_eq]; exact h2 j [2]
theorem se2 (hc:X.calm=true):CallR X (.builtin "max") (λ xs H Q=>∃ (p:Addr) (ns:List Int),xs=[.ref p] /\ SqL X.K H p (ns.map V.int) /\ 0 < ns.length /\ ∀ m,m ∈ ns->(∀ a,a ∈ ns->a<=m)->Q (.int m) H):=by
 intro pins s σ H xs us Q I r h;obtain ⟨p,ns,rfl,hq,hne,q⟩:=h;obtain ⟨u,rfl,rx⟩:=ww0 r;cases rx;obtain ⟨its,r',pl,hz⟩:=I.list hq;have hi:=yq0 r';obtain ⟨ys,e⟩:=hi.allInts.items;have hl:=pl.isList;rw [e] at hl;have hns:ns=ys.toList.map (·.1):=by rw [<- hi.numsOf,<- nums_intItems,<- e]
 have hsz:0 < ys.size:=by
  simp_all
 refine max_intList (I.ok.hd hc) hl hsz λ v h' tk hv hk=>?_;obtain ⟨t,rfl⟩:=intItems_at hv;obtain ⟨h1,h2⟩:=argBest_gt (numAt ys) (ys.size - 1);refine ⟨.int _,H,I.kept (t':=tk) hk,⟨t,rfl⟩,q _ ?_ λ a ha=>?_⟩
 ·rw [hns,numAt_eq]; exact getD_mem (by simp_all;omega)
 ·rw [hns] at ha;obtain ⟨j,hj,rfl⟩:=mem_getD ha;rw [length_map,length_toList] at hj;rw [<- numAt_eq]; exact h2 j [2]
theorem uz4 (hc:X.calm=true):RC X (.builtin "min") vg5:=by
 refine ⟨_,ue2 hc,λ xs vs H Q μ Q3 m r h k=>?_⟩;unfold vg5 at h;split at h
 ·next p =>
  cases r with
  | cons r1 r2 =>
   cases r2;cases r1;split at h
   ·next l e =>
    split at h
    ·next ns e1 =>
     obtain ⟨vs,hv,rs⟩:=m p l e;have ev:=vs0 rs e1;subst ev;exact ⟨p,ns,rfl,SqL.of hv,h.1,λ a h1 h2=>k _ _ _ _ (h.2 a h1 h2) (Kp.refl _) (.int _) m⟩
    ·exact h.elim
   ·exact h.elim
 ·exact h.elim
theorem sz4 (hc:X.calm=true):RC X (.builtin "max") sg5:=by
 refine ⟨_,se2 hc,λ xs vs H Q μ Q3 m r h k=>?_⟩;unfold sg5 at h;split at h
 ·next p =>
  cases r with
  | cons r1 r2 =>
   cases r2;cases r1;split at h
   ·next l e =>
    split at h
    ·next ns e1 =>
     obtain ⟨vs,hv,rs⟩:=m p l e;have ev:=vs0 rs e1;subst ev;exact ⟨p,ns,rfl,SqL.of hv,h.1,λ a h1 h2=>k _ _ _ _ (h.2 a h1 h2) (Kp.refl _) (.int _) m⟩
    ·exact h.elim
   ·exact h.elim
 ·exact h.elim
theorem q_mn (hc:X.calm=true) (hu:X.A.units + 64 < cLine):RC X (.builtin "min") mnR:=by
 refine ((tz4 hc).or ((q_min hc hu).or (uz4 hc))).le λ ds μ Q h=>?_;unfold mnR at h;split at h
 ·exact .inl h
 ·exact .inr (.inl h)
 ·exact .inr (.inr h)
 ·exact h.elim
theorem q_mx (hc:X.calm=true):RC X (.builtin "max") mxR:=by
 refine ((q_max hc).or (sz4 hc)).le λ ds μ Q h=>?_;unfold mxR at h;split at h
 ·exact .inl h
 ·exact .inr h
 ·exact h.elim
end
section
variable {e:Expr} {te:TE3} {p p2 pos pos2:Pos}
noncomputable def tLrng (ta:TA):TE:=λ σ H Q=>ta σ H λ xs H1=>∃ j:Int,xs=[.int j] /\ (-(2 ^ 62)<=j /\ j < 2 ^ 62 /\ j<=2 ^ 24) /\ ∀ r,H1 r=none->Q (.ref r) (upd H1 r (.lst ((List.range j.toNat).map λ i=>V.int (0 + (i:Nat)))))
theorem vb2 {acc:Array Value} {n:Nat} (h:ItemsOf (λ i v=>∃ t,v=.int (0 + (i:Int) * 1) t) acc n):∃ us:List Value,acc=us.toArray /\ Vals ((List.range n).map λ i=>V.int (0 + (i:Nat))) us:=by
 obtain ⟨h0,h2⟩:=h;refine ⟨acc.toList,by simp,?_⟩
 have key:∀ (l:List Value) (k:Nat),(∀ i v,l[i]?=some v->∃ t,v=Value.int (0 + ((k + i:Nat):Int) * 1) t)->Vals ((List.range' k l.length).map λ i=>V.int (0 + (i:Nat))) l:=by
  intro l
  induction l with
  | nil=>intro k _; exact .nil
  | cons v l ih =>
   intro k hk;rw [length_cons,List.range'_succ,map_cons];refine .cons ?_ (ih (k + 1) λ i v' e=>?_)
   ·obtain ⟨t,e⟩:=hk 0 v rfl;exact ⟨t,by simp_all⟩
   ·obtain ⟨t,e'⟩:=hk (i + 1) v' (by simpa using e)
    simp_all;omega
 have:=key acc.toList 0 λ i v e=>by
  simp_all
 rw [length_toList,h0,<- List.range_eq_range'] at this;exact this
theorem xr3 {ta:TA} (hc:X.calm=true) (hg:Gl X "list") (hm:X.mg "list" = none) (hg2:Gl X "range") (hm2:X.mg "range" = none) (ha:PA X [e] ta)
    (hs:starEach [e] X.env=[(false,eval e X.env)]:=by rfl)
    (hs2:starEach [.Call (.Name "range" p2) [e] [] pos2] X.env=[(false,eval (.Call (.Name "range" p2) [e] [] pos2) X.env)]:=by rfl) :
    PE X (.Call (.Name "list" p) [.Call (.Name "range" p2) [e] [] pos2] [] pos) (tLrng ta):=by
 intro pins s σ H Q I h;refine Call_ (sn0 I hg hm yw3 (PyProof.Rows.callWith_type1 ?_ hs2 rfl));rw [hs2];show wpAny _ _ (spliced ((false,eval (.Call (.Name "range" p2) [e] [] pos2) X.env) :: backTo pos (starEach [] X.env))) _ _ s;refine Calls.spliced_cons ?_;refine Call_ (sn0 I hg2 hm2 ux2 (PyProof.Rows.callWith_type1 (thn (ha pos2 pins s σ H _ I h) λ us s1 ⟨vs,H1,I1,r1,q1⟩=>?_) hs rfl));obtain ⟨j,e1,⟨j1,j2,j3⟩,k⟩:=q1;subst e1;cases r1 with
 | cons r rr =>
  cases rr;obtain ⟨t,rfl⟩:=r;refine call_range_1 ?_;refine Calls.spliced_nil ?_;have hsz':Builtin.Range.rangeSize 0 j 1=((j.toNat:Nat):Int):=by rw [rangeSize_one]; split <;> omega
  refine call_list_range (I.ok.hd hc) (IsRange.new ..) (small_one (by decide) (by decide) j1 j2) hsz' [2] λ h' tk acc' c' hk hS' hacc=>?_;obtain ⟨us,rfl,rv⟩:=vb2 hacc;have hk2:∀ b o,s1.heap.get? b=some o->h'.get? b=some o:=λ b o e=>hk b o (Heap.get?_push_of_some _ e);refine ⟨.ref _,_,I1.laid (t':=tk) hk2 (show s1.heap.objs.size<=_ by simp) (show ObjOk X.prog X.w _ h' _ (.lst _) from ⟨?_,us,c',rv,hS'⟩),rfl,k _ (I1.hok.fresh (by simp))⟩;rw [length_map,length_range];have:(2:Nat) ^ 24<=sizeLine:=by decide
  omega
theorem zi1 {K:Fg} {H:Hp}:∀ (l:List Nat),RelDs K H (l.map λ i=>D.int (0 + (i:Nat))) (l.map λ i=>V.int (0 + (i:Nat)))
 | []=>.nil
 | x :: r=>.cons (.int _) (zi1 r)
theorem yo3 (he:RE X e te) (hm:X.mg "list" = none) (hm2:X.mg "range" = none) (hc:X.calm=true:=by rfl) (hg:Gl X "list" := by rfl) (hg2:Gl X "range" := by rfl) (hs:starEach [e] X.env=[(false,eval e X.env)]:=by rfl)
    (hs2:starEach [.Call (.Name "range" p2) [e] [] pos2] X.env=[(false,eval (.Call (.Name "range" p2) [e] [] pos2) X.env)]:=by rfl) :
    RE X (.Call (.Name "list" p) [.Call (.Name "range" p2) [e] [] pos2] [] pos) (tt2 te):=by
 obtain ⟨va,pa,ra⟩:=zp0 he yf1 hs;refine ⟨_,xr3 hc hg hm hg2 hm2 pa hs hs2,λ σ H Q ρ μ Q3 s m h k=>ra σ H _ ρ μ _ s m h λ ds μ1 vs H1 h1 k1 r1 m1=>?_⟩;cases r1 with
 | nil=>exact False.elim h1
 | cons r1 r2 =>
  cases r2 with
  | cons _ _=>simp_all
  | nil =>
   cases r1 with
   | int j =>
    dsimp only at h1;exact ⟨j,rfl,⟨h1.1.1.1,h1.1.1.2,h1.1.2⟩,λ r hr=>k _ _ _ _ (h1.2 r (m1.free hr)) (k1.trans (Kp.new hr)) (.ref r) (m1.newL hr (zi1 _))⟩
   | _=>exact False.elim h1
end
end Pv
namespace Pv
open PySem PySem.Spec PySem.W PyProof.Rows L2
section
variable {X:Cx}
theorem V3s.len {K:Fg} {H:Hp}:∀ {vs:List V} {ts:List T3},V3s K H vs ts->vs.length=ts.length
 | [],[],_=>rfl
 | [],_ :: _,z=>z.elim
 | _ :: _,[],z=>z.elim
 | _ :: vs,_ :: ts,z=>by rw [length_cons,length_cons,V3s.len z.2]
theorem un1 {K:Fg} {H:Hp}:∀ {ts:List T3} {vs:List V},V3s K H vs ts->RelDs K H (ts.map encT) vs
 | [],[],_=>.nil
 | [],_ :: _,z=>z.elim
 | _ :: _,[],z=>z.elim
 | t :: ts,v :: vs,z=>by
  obtain ⟨⟨a,rfl,hq⟩,z⟩:=z;exact .cons (.tup hq (.cons (.int _) (.cons (.int _) (.cons (.int _) .nil)))) (un1 z)
end
open PySem.AutoSeq1 (wpAny_loadPart')
end Pv
namespace Pv
open PySem PySem.Spec PyProof.Rows L2
open PySem.AutoSeq1 (wpAny_loadPart')
noncomputable def wr0 (cells:List (Str × Addr)):List (Str × NameKind)->List (Str × Addr)->List (Str × Addr)
 | [],acc=>acc
 | (n,k) :: r,acc=>if k == .free then wr0 cells r ((n,(cells.lookup n).getD 0) :: acc) else wr0 cells r acc
variable {scope:Scope}
theorem zc1 {env:Env} (h:∀ y ∈ scope.names,y.2=.free->(env.cells.lookup y.1).isSome=true):closureFor scope env=pure (wr0 env.cells scope.names []):=by
 unfold closureFor
 have key:∀ (l:List (Str × NameKind)) (acc:List (Str × Addr)),(∀ y ∈ l,y.2=.free->(env.cells.lookup y.1).isSome=true) ->
     (forIn l acc (λ x r=>if (x.2 == NameKind.free)=true then do let c <- cellOf env x.1; pure (ForInStep.yield ((x.1,c) :: r)) else pure (ForInStep.yield r)):Sem (List (Str × Addr)))=pure (wr0 env.cells l acc):=by
  intro l
  induction l with
  | nil=>intro acc _; rfl
  | cons y r ih =>
   intro acc hl;obtain ⟨n,k⟩:=y;rw [List.forIn_cons];have ih':=λ a=>ih a λ z hz=>hl z (mem_cons_of_mem _ hz);by_cases hk:k=.free
   ·subst hk;have hs:=hl (n,.free) (mem_cons_self ..) rfl;obtain ⟨c,hc⟩:=Option.isSome_iff_exists.mp hs;have ec:cellOf env n=pure c:=by unfold cellOf; rw [hc]
    simp only [wr0,ec,pure_bind,beq_self_eq_true,if_true,hc,Option.getD_some];exact ih' _
   ·have hk':(k == NameKind.free)=false:=by simpa using hk
    simp only [wr0,hk',Bool.false_eq_true,if_false,pure_bind];exact ih' _
 have:=key scope.names [] h
 simp_all
theorem uv0 {cells:List (Str × Addr)} {x:Str} {c:Addr}:∀ (l:List (Str × NameKind)) (acc:List (Str × Addr)),(∀ y ∈ l,y.2=.free->(cells.lookup y.1).isSome=true)->(acc.lookup x=some c->cells.lookup x=some c) ->
    (wr0 cells l acc).lookup x=some c->cells.lookup x=some c
 | [],acc,_,ha,h=>ha h
 | (n,k) :: r,acc,hl,ha,h=>by
  unfold wr0 at h;split at h
  ·next hk =>
   refine uv0 r _ (λ z hz=>hl z (mem_cons_of_mem _ hz)) (λ h2=>?_) h;rw [lookup_cons] at h2;split at h2
   ·next e =>
    have e':x=n:=eq_of_beq e;subst e';obtain ⟨c',hc⟩:=Option.isSome_iff_exists.mp (hl (x,k) (mem_cons_self ..) (eq_of_beq hk))
    simp_all
   ·exact ha h2
  ·exact uv0 r acc (λ z hz=>hl z (mem_cons_of_mem _ hz)) ha h
theorem tv0 {cells:List (Str × Addr)} {x:Str}:∀ (l:List (Str × NameKind)) (acc:List (Str × Addr)),((∃ c,acc.lookup x=some c) \/ (x,NameKind.free) ∈ l)->∃ c,(wr0 cells l acc).lookup x=some c
 | [],acc,h=>by
  rcases h with h | h
  ·exact h
  ·cases h
 | (n,k) :: r,acc,h=>by
  unfold wr0;split
  ·next hk =>
   refine tv0 r _ ?_;by_cases e:x=n
   ·simp_all
   ·rcases h with ⟨c,h⟩ | h
    ·left;refine ⟨c,?_⟩;rw [lookup_cons];have:(x == n)=false:=by simpa using e
     rw [this]; exact h
    simp_all
  ·next hk =>
   refine tv0 r acc ?_;rcases h with h | h
   ·exact .inl h
   ·rcases List.mem_cons.mp h with h | h
    ·simp_all
    ·exact .inr h
theorem CompSc.free {X:Cx} {NN:List Str} {scope:Scope} {js:List (Option Nat)} (hcell:∀ y ∈ scope.names,y.2 ≠ .cell) (hk:scope.kind=.function) (hfn:X.env.scope.kind=.function)
    (hn:∀ y ∈ scope.names,y.2=.local->scope.names.lookup y.1=some .local) (hfree:∀ y ∈ scope.names,y.2=.free->X.env.scope.names.lookup y.1=some .cell) (hlook:∀ y ∈ scope.names,y.2=.free->scope.names.lookup y.1=some .free)
    (hcl:∀ x,X.env.scope.names.lookup x=some .cell->(X.env.cells.lookup x).isSome=true) (len:js.length=NN.length)
    (hout:∀ i ∈ List.range js.length,∀ j,js.getD i none=some j->∃ x,NN[i]?=some x /\ X.N[j]?=some x /\ scope.names.lookup x=some .free) :
    CompSc X NN scope (wr0 X.env.cells scope.names []) js where
 clos:=zc1 λ y hy e=>hcl _ (hfree y hy e)
 cell:=hcell
 kind:=hk
 names:=hn
 sub:=λ x c h=>uv0 scope.names [] (λ y hy e=>hcl _ (hfree y hy e)) (λ h=>by simp at h) h
 has:=λ x h=>by
  refine tv0 scope.names [] (.inr ?_)
  have hm:∃ k,(x,k) ∈ scope.names /\ (k=.free \/ k=.cell):=by
   have key:∀ kk,(relabel scope X.env).names.lookup x=some kk->(kk=.cell \/ kk=.free)->∃ k,(x,k) ∈ scope.names /\ (k=.free \/ k=.cell):=λ kk hkk hc=>by
    have hmem:=wi0 hkk;obtain ⟨⟨n,k⟩,hy,e⟩:=List.mem_map.mp hmem;dsimp only at e;split at e
    ·next hq =>
     cases e;simp only [Bool.and_eq_true] at hq;exact ⟨k,hy,.inl (by simpa using hq.1.1)⟩
    ·cases e;exact ⟨kk,hy,hc.symm⟩
   rcases h with h | h
   ·simp_all
   simp_all
  obtain ⟨k,hk1,hk2⟩:=hm;rcases hk2 with rfl | rfl
  ·exact hk1
  ·exact absurd rfl (hcell _ hk1)
 len:=len
 out:=λ i j h=>by
  have hi:i < js.length:=by
   rcases Nat.lt_or_ge i js.length with z | z
   ·exact z
   simp_all
  obtain ⟨x,e1,e2,e3⟩:=hout i (List.mem_range.mpr hi) j (by simp_all);have hf:=hfree (x,.free) (wi0 e3) rfl;refine ⟨x,e1,e2,.inr (.inl hf),by rw [hf]; simp,?_⟩;left
  have key:∀ (l:List (Str × NameKind)),l.lookup x=some .free->(l.map λ (n,k)=>if (k == NameKind.free && X.env.scope.kind == .function && X.env.kindOf n == some .cell) then (n,NameKind.cell) else (n,k)).lookup x=some .cell:=λ l=>by
   induction l with
   | nil=>intro h; simp at h
   | cons y r ih =>
    obtain ⟨n,k⟩:=y;intro h;rw [lookup_cons] at h;rw [map_cons,lookup_cons];by_cases e:x=n
    ·subst e;simp only [beq_self_eq_true,Option.some.injEq] at h;subst h
     have hkind:(X.env.kindOf x == some NameKind.cell)=true:=by
      show (X.env.scope.names.lookup x == some NameKind.cell)=true;rw [hf]; rfl
     simp [hfn,hkind]
    ·have e':(x == n)=false:=by simpa using e
     rw [e'] at h;have ih':=ih h;by_cases hq:(k == NameKind.free && X.env.scope.kind == ScopeKind.function && X.env.kindOf n == some NameKind.cell)=true
     ·simp only [hq,if_true,e']; exact ih'
     ·simp only [hq,Bool.false_eq_true,if_false,e']; exact ih'
  exact key _ e3
variable {NN:List Str} {js:List (Option Nat)}
theorem uk1 {CX:CXT} {P:Program} {w:World} {K:Fg} {mg:Str->Option Value} {base:Heap} {N:List Str} {qual:Str} {sc:Scope} {f:Addr} {cdv:Value} {A:Around} {outer:List Env} {s:Shared} {H:Hp} {E:XK} 
    (hcell:∀ y ∈ scope.names,y.2 ≠ .cell:=by decide +kernel) (hk:scope.kind=.function:=by rfl) (hfn:sc.kind=.function:=by rfl)
    (hn:∀ y ∈ scope.names,y.2=.local->scope.names.lookup y.1=some .local:=by decide +kernel) (hfree:∀ y ∈ scope.names,y.2=.free->sc.names.lookup y.1=some .cell:=by decide +kernel)
    (hlook:∀ y ∈ scope.names,y.2=.free->scope.names.lookup y.1=some .free:=by decide +kernel) (len:js.length=NN.length:=by rfl)
    (hout:∀ i ∈ List.range js.length,∀ j ∈ (js.getD i none).toList,∃ x ∈ NN[i]?.toList,N[j]?=some x /\ scope.names.lookup x=some .free:=by decide +kernel) :
    CompSc (cxOf CX P w K mg base N qual sc f cdv A outer s H E).nox NN scope (wr0 (cxOf CX P w K mg base N qual sc f cdv A outer s H E).nox.env.cells scope.names []) js :=
 CompSc.free (X:=(cxOf CX P w K mg base N qual sc f cdv A outer s H E).nox) hcell hk hfn hn hfree hlook (λ x h=>by
  obtain ⟨c,hc⟩:=wc1 (n:=_) h
  exact Option.isSome_iff_exists.mpr ⟨c,hc⟩) len λ i hi j hj=>by
   obtain ⟨x,h1,h2,h3⟩:=hout i hi j (by rw [hj]; simp);exact ⟨x,by simpa using h1,h2,h3⟩
variable {X:Cx} {cl:List (Str × Addr)} {i:Nat} {x:Str} {ifs:List Expr}
section
theorem yq3 {px apos:Pos} {elt target iter:Expr} {pos:Pos} {wi:TI} {g:TG} {tc:TT} {te:TE} (hN:X.N.Nodup) (hi':X.N[i]?=some x) (hl:X.env.scope.names.lookup x=some .local) (hc:X.calm=true) (S:CompSc X NN scope cl js) (hi:PI X target iter wi)
    (hg:∀ C fp s₀ H₀ pn,PG (uc0 X NN scope cl C fp s₀ H₀ pn) target g) (ht:∀ C fp s₀ H₀ pn,PTs (uc0 X NN scope cl C fp s₀ H₀ pn) ifs tc) (he:∀ C fp s₀ H₀ pn,PE (uc0 X NN scope cl C fp s₀ H₀ pn) elt te)
    (hs:∀ x,foldedSetIterable iter X.env x=pure x) (hw:swapsWith (.ListComp elt [⟨target,iter,ifs,0⟩] scope pos) (some (.Name x px)) apos.line X.env=pure true) :
    PS X (.Assign [.Name x px] (.ListComp elt [⟨target,iter,ifs,0⟩] scope pos) apos) (tAsg (zv1 js wi g tc te) (uu3 i)):=by
 intro pins s σ H D I h;rw [exec_Assign_Name_used _ _ _ _ hw];refine wpAny_bind (wpAny_standAt (wpAny_bind ?_));show wpAny _ _ (comprehension (.ListComp elt [⟨target,iter,ifs,0⟩] scope pos) scope X.env (firstIterPos [⟨target,iter,ifs,0⟩] pos) (newList []) (firstAsync [⟨target,iter,ifs,0⟩]) (firstIter [⟨target,iter,ifs,0⟩] X.env) (some (assign (.Name x px) X.env)) >>= λ _=>pure ()) _ _ s;refine wpAny_bind (wpAny_mono (ye2 (use:=some (assign (.Name x px) X.env)) (Q':=λ _ s'=>SP X pins D .next s') hc S hi hg ht he hs I h λ p0 C H' s' m' I5 hn hC n1 n2 n3 n4 q=>?_) (λ _ s' hq=>wpAny_pure (wpAny_pure hq)) λ _ _ e=>e);show wpAny _ _ (assign (.Name x px) X.env (.ref p0)) _ _ s';refine wpAny_assign_Name (ud1 I5 hN hi' (.inl hl) (v:=.ref p0) rfl (λ s2 I6 ⟨b,sb,hb⟩=>?_) (.inr hl))
 have nb:C ≠ b:=by
  rcases hb with hb | hb
  ·rw [hb]; exact n1
  ·exact Ne.symm (n3 x b hb)
 exact ⟨m',hn.sameBut sb nb,λ h' sb'=>⟨_,H',I6.turned (t':=s2.toks) (λ b o hb e=>sb'.extBut b o hb e) hC n1 (.inr n2) n3 n4,q⟩⟩
end
section
variable {elt target iter:Expr} {pos:Pos} {ti:TI3} {g:TG3} {tc:TT3} {te:TE3} 
theorem wn1 {px apos:Pos} (hN:X.N.Nodup) (hc:X.calm=true) (S:CompSc X NN scope cl js) (hi:RI X target iter ti) (hg:∀ C fp s₀ H₀ pn,RG (uc0 X NN scope cl C fp s₀ H₀ pn) target g)
    (ht:∀ C fp s₀ H₀ pn,RTs (uc0 X NN scope cl C fp s₀ H₀ pn) ifs tc) (he:∀ C fp s₀ H₀ pn,RE (uc0 X NN scope cl C fp s₀ H₀ pn) elt te)
    (hs:∀ x,foldedSetIterable iter X.env x=pure x) (hi':X.N[i]?=some x:=by rfl) (hl:X.env.scope.names.lookup x=some .local:=by rfl)
    (hw:swapsWith (.ListComp elt [⟨target,iter,ifs,0⟩] scope pos) (some (.Name x px)) apos.line X.env=pure true:=by rfl):RS X (.Assign [.Name x px] (.ListComp elt [⟨target,iter,ifs,0⟩] scope pos) apos) (set3 i (wm0 js ti g tc te)):=by
 obtain ⟨wi,pi,ri⟩:=hi
 let gU:TG:=λ v σ H Q=>∀ (r:TG3),r=g->∃ d ρ μ Q3,RSt X.K H ρ σ /\ RelM X.K μ H /\ RelD X.K H d v /\ g d ρ μ Q3 /\ (∀ ρ' μ' σ' H',Q3 ρ' μ'->Kp H H'->RSt X.K H' ρ' σ'->RelM X.K μ' H'->Q σ' H')
 let tU:TT:=λ σ H Q=>∃ ρ μ Q3,RSt X.K H ρ σ /\ RelM X.K μ H /\ tc ρ μ Q3 /\ (∀ b μ' H',Q3 b μ'->Kp H H'->RelM X.K μ' H'->Q b H')
 let eU:TE:=λ σ H Q=>∃ ρ μ Q3,RSt X.K H ρ σ /\ RelM X.K μ H /\ te ρ μ Q3 /\ Ks X.K H Q3 Q
 have hg':∀ C fp s₀ H₀ pn,PG (uc0 X NN scope cl C fp s₀ H₀ pn) target gU:=λ C fp s₀ H₀ pn=>by
  obtain ⟨tv,p,r⟩:=hg C fp s₀ H₀ pn;intro pins s σ H v u Q I rv h;obtain ⟨d,ρ,μ,Q3,a1,a2,a3,a4,a5⟩:=h g rfl;exact p pins s σ H v u Q I rv (r v d σ H Q ρ μ Q3 a1 a2 a3 a4 a5)
 have ht':∀ C fp s₀ H₀ pn,PTs (uc0 X NN scope cl C fp s₀ H₀ pn) ifs tU:=λ C fp s₀ H₀ pn=>by
  obtain ⟨tv,p,r⟩:=ht C fp s₀ H₀ pn;intro pins s σ H Q I h;obtain ⟨ρ,μ,Q3,a1,a2,a3,a4⟩:=h;exact p pins s σ H Q I (r σ H Q ρ μ Q3 a1 a2 a3 a4)
 have he':∀ C fp s₀ H₀ pn,PE (uc0 X NN scope cl C fp s₀ H₀ pn) elt eU:=λ C fp s₀ H₀ pn=>by
  obtain ⟨tv,p,r⟩:=he C fp s₀ H₀ pn;intro pins s σ H Q I h;obtain ⟨ρ,μ,Q3,a1,a2,a3,a4⟩:=h;exact p pins s σ H Q I (r σ H Q ρ μ Q3 a1 a2 a3 a4)
 have rd:RdE X.K (zv1 js wi gU tU eU) (wm0 js ti g tc te):=RdE.comp ri (λ v d σ H Q ρ μ Q3 a1 a2 a3 a4 a5 _ _=>⟨d,ρ,μ,Q3,a1,a2,a3,a4,a5⟩) (λ σ H Q ρ μ Q3 a1 a2 a3 a4=>⟨ρ,μ,Q3,a1,a2,a3,a4⟩) (λ σ H Q ρ μ Q3 a1 a2 a3 a4=>⟨ρ,μ,Q3,a1,a2,a3,a4⟩);exact ⟨_,yq3 hN hi' hl hc S pi hg' ht' he' hs hw,λ σ H D ρ μ D3 s m h k=>rd σ H _ ρ μ _ s m h λ d μ1 v H1 h1 k1 r1 m1=>k.nx _ _ _ _ h1 k1 ((s.mono k1).set i r1) m1⟩
end
end Pv
namespace Pv
open PySem
noncomputable abbrev Rise (xs:Array Nat):Prop:=xs.toList.Pairwise (· < ·)
variable {xs:Array Nat} {i:Nat}
theorem yp0 (h:Rise xs) {j a b:Nat} (hi:xs[i]?=some a) (hj:xs[j]?=some b) (l:i < j):a < b:=by
 have h':=List.pairwise_iff_getElem.mp h;rw [<- getElem?_toList] at hi hj;obtain ⟨hi1,hi2⟩:=List.getElem?_eq_some_iff.mp hi;obtain ⟨hj1,hj2⟩:=List.getElem?_eq_some_iff.mp hj;rw [<- hi2,<- hj2];exact h' i j hi1 hj1 l
theorem xt0 (xs:Array Nat) (j:Nat) (h:Rise xs):∀ (fuel lo hi:Nat),hi - lo<=fuel->lo<=hi->hi<=xs.size->(∀ i a,i < lo->xs[i]?=some a->a < j)->(∀ i a,hi<=i->xs[i]?=some a->j<=a) ->
    (∀ i a,xs[i]?=some a->(i < SetTable.below.go xs j fuel lo hi ↔ a < j)) /\ SetTable.below.go xs j fuel lo hi<=xs.size
 | 0,lo,hi,f,l1,l2,a1,a2=>by
  have e:lo=hi:=by omega
  subst e;unfold SetTable.below.go;refine ⟨λ i a q=>⟨λ c=>a1 i a c q,λ c=>?_⟩,l2⟩;by_cases z:i < lo
  ·exact z
  ·have:=a2 i a [2] q; omega
 | fuel + 1,lo,hi,f,l1,l2,a1,a2=>by
  unfold SetTable.below.go;split
  ·next c =>
   have m1:(lo + hi) / 2 < hi:=by omega
   have m2:lo<=(lo + hi) / 2:=by omega
   have hm:xs[(lo + hi) / 2]?=some (xs.getD ((lo + hi) / 2) j):=by
    have:(lo + hi) / 2 < xs.size:=by omega
    simp_all
   dsimp only;split
   ·next c2 =>
    refine xt0 xs j h fuel _ _ [2] [2] l2 (λ i a z q=>?_) a2;by_cases y:i=(lo + hi) / 2
    ·subst y; simp_all
    ·exact Nat.lt_trans (yp0 h q hm [2]) c2
   ·next c2 =>
    refine xt0 xs j h fuel _ _ [2] [2] [2] a1 (λ i a z q=>?_);by_cases y:i=(lo + hi) / 2
    ·subst y; simp_all
    ·have:=yp0 h hm q [2]; omega
  ·next c =>
   have e:lo=hi:=by omega
   subst e;refine ⟨λ i a q=>⟨λ c=>a1 i a c q,λ c=>?_⟩,l2⟩;by_cases z:i < lo
   ·exact z
   ·have:=a2 i a [2] q; omega
theorem yl0 (h:Rise xs) (j:Nat) {a:Nat} (q:xs[i]?=some a):i < SetTable.below xs j ↔ a < j :=
 (xt0 xs j h xs.size 0 xs.size [2] [2] (Nat.le_refl _) (λ _ _ z=>absurd z (Nat.not_lt_zero _)) (λ i a z q=>by simp_all)).1 i a q
theorem zo0 (h:Rise xs) (j:Nat):SetTable.below xs j<=xs.size :=
 (xt0 xs j h xs.size 0 xs.size [2] [2] (Nat.le_refl _) (λ _ _ z=>absurd z (Nat.not_lt_zero _)) (λ i a z q=>by simp_all)).2
theorem wo0 (h:Rise xs) {j:Nat} (q:xs[i]?=some j):SetTable.below xs j=i:=by
 have h1:=yl0 h j q;have h2:=zo0 h j;by_cases c:SetTable.below xs j < i
 ·have hi:=(Array.getElem?_eq_some_iff.mp q).1;obtain ⟨a,ha⟩:∃ a,xs[SetTable.below xs j]?=some a:=⟨_,Array.getElem?_eq_getElem [2]⟩;have h3:=yl0 h j ha;have h4:=yp0 h ha q c;omega
 ·omega
theorem tf1 {j:Nat} (h:j ∈ xs.toList):∃ i:Nat,xs[i]?=some j:=by
 obtain ⟨i,hi⟩:=List.mem_iff_getElem?.mp h;exact ⟨i,by simp_all⟩
theorem wy0 {j:Nat} (h:xs[i]?=some j):j ∈ xs.toList:=List.mem_iff_getElem?.mpr ⟨i,by simp_all⟩
theorem zm0 (h:Rise xs) (j:Nat):SetTable.has xs j=true ↔ j ∈ xs.toList:=by
 unfold SetTable.has;constructor
 ·intro z; exact wy0 (eq_of_beq z)
 ·intro z;obtain ⟨i,hi⟩:=tf1 z;rw [wo0 h hi,hi];simp
variable {t:SetTable}
theorem we1 (h:Rise t.place) {j:Nat}:t.slot j=.live i ↔ t.place[i]?=some j:=by
 unfold SetTable.slot;dsimp only;constructor
 ·intro z;split at z
  ·simp_all
  ·split at z <;> cases z
 ·intro z;rw [wo0 h z,z];simp
theorem zx0 (h:Rise t.place) (hd:Rise t.dummies) {j:Nat} (dj:j ∈ t.dummies.toList->j ∉ t.place.toList):t.slot j=.dummy ↔ j ∈ t.dummies.toList:=by
 unfold SetTable.slot;dsimp only;constructor
 ·intro z;split at z
  ·cases z
  ·split at z
   ·next c=>exact (zm0 hd j).mp c
   ·cases z
 ·intro z;rw [if_neg,if_pos ((zm0 hd j).mpr z)];intro c;exact dj z (wy0 (eq_of_beq c))
theorem yx0 (h:Rise t.place) (hd:Rise t.dummies) {j:Nat}:t.slot j=.empty ↔ j ∉ t.place.toList /\ j ∉ t.dummies.toList:=by
 unfold SetTable.slot;dsimp only;constructor
 ·intro z;split at z
  ·cases z
  ·next c =>
   split at z
   ·cases z
   ·next c2 =>
    refine ⟨λ m=>c ?_,λ m=>c2 ((zm0 hd j).mpr m)⟩;obtain ⟨i,hi⟩:=tf1 m;rw [wo0 h hi,hi];simp
 ·rintro ⟨z1,z2⟩;rw [if_neg (λ c=>z1 (wy0 (eq_of_beq c))),if_neg (λ c=>z2 ((zm0 hd j).mp c))]
noncomputable def mkT (mask:Nat):SetTable:={ SetTable.fresh 0 0 false with mask:=mask }
noncomputable def trS (mask:Nat) (h:Int):Nat->SetTable.Probe
 | 0=>(mkT mask).probeStart h
 | n + 1=>(mkT mask).advance (trS mask h n)
noncomputable abbrev tr (mask:Nat) (h:Int) (n:Nat):Nat:=(trS mask h n).j
theorem yi1 (t:SetTable) (p:SetTable.Probe) (d:Option Nat):t.advance { p with dummy:=d }={ t.advance p with dummy:=d }:=by
 unfold SetTable.advance;dsimp only;split <;> rfl
noncomputable def seg (mask i perturb:Nat):SetTable.Probe:={ j:=i,more:=SetTable.runEnd mask i - i,i:=i,perturb:=perturb,dummy:=none }
theorem run9 (mask i:Nat):SetTable.runEnd mask i - i<=9:=by unfold SetTable.runEnd; split <;> omega
theorem yq4 (mask i:Nat):i<=SetTable.runEnd mask i:=by unfold SetTable.runEnd; split <;> omega
theorem zq4 (mask i:Nat) (h:i<=mask):SetTable.runEnd mask i<=mask:=by unfold SetTable.runEnd; split <;> omega
theorem sz0 {mask:Nat} {h:Int} {n i p:Nat} (e:trS mask h n=seg mask i p):∀ k,k<=SetTable.runEnd mask i - i->trS mask h (n + k)={ seg mask i p with j:=i + k,more:=SetTable.runEnd mask i - i - k }
 | 0,_=>e
 | k + 1,hk=>by
  have ih:=sz0 e k [2];show (mkT mask).advance (trS mask h (n + k))=_;rw [ih];unfold SetTable.advance;dsimp only [seg];rw [if_pos [2]];congr 1
variable {mask n p:Nat} {h:Int}
theorem xs0 (e:trS mask h n=seg mask i p):trS mask h (n + (SetTable.runEnd mask i - i) + 1)=seg mask (SetTable.leap mask i p).1 (SetTable.leap mask i p).2:=by
 have ih:=sz0 e _ (Nat.le_refl _);show (mkT mask).advance (trS mask h (n + (SetTable.runEnd mask i - i)))=_;rw [ih];unfold SetTable.advance;dsimp only [seg];rw [if_neg [2]];rfl
noncomputable def lp (mask:Nat):Nat->Nat × Nat->Nat × Nat
 | 0,x=>x
 | k + 1,x=>lp mask k (SetTable.leap mask x.1 x.2)
theorem sb3 {mask:Nat} {h:Int}:∀ (K:Nat) {n i p:Nat},trS mask h n=seg mask i p->∃ m,n<=m /\ m<=n + 10 * K /\ trS mask h m=seg mask (lp mask K (i,p)).1 (lp mask K (i,p)).2
 | 0,n,i,p,e=>⟨n,Nat.le_refl _,Nat.le_refl _,e⟩
 | K + 1,n,i,p,e=>by
  obtain ⟨m,h1,h2,h3⟩:=sb3 K (xs0 e);have:=run9 mask i;exact ⟨m,by omega,by omega,h3⟩
theorem sd3 (mask:Nat):∀ (a b:Nat) (x:Nat × Nat),lp mask (a + b) x=lp mask b (lp mask a x)
 | 0,b,x=>by rw [Nat.zero_add]; rfl
 | a + 1,b,x=>by rw [show a + 1 + b=(a + b) + 1 by omega]; exact sd3 mask a b _
theorem td3 (mask:Nat):∀ (k:Nat) (x:Nat × Nat),x.2 < 32 ^ k->(lp mask k x).2=0
 | 0,x,h=>by simp at h; exact h
 | k + 1,x,h=>td3 mask k _ (by show x.2 / 32 < 32 ^ k; omega)
noncomputable def f0 (mask i:Nat):Nat:=(i * 5 + 1) % (mask + 1)
noncomputable def fN (mask:Nat):Nat->Nat->Nat
 | 0,i=>i
 | k + 1,i=>fN mask k (f0 mask i)
theorem ta2 (mask:Nat):∀ (k i:Nat),lp mask k (i,0)=(fN mask k i,0)
 | 0,i=>rfl
 | k + 1,i=>by
  show lp mask k (SetTable.leap mask i 0)=_;have:SetTable.leap mask i 0=(f0 mask i,0):=by rfl
  rw [this,ta2 mask k];rfl
theorem ug1 (mask:Nat):∀ (a b i:Nat),fN mask (a + b) i=fN mask b (fN mask a i)
 | 0,b,i=>by rw [Nat.zero_add]; rfl
 | a + 1,b,i=>by rw [show a + 1 + b=(a + b) + 1 by omega]; exact ug1 mask a b _
noncomputable def okM:List Nat:=[7,15,31,63,127,255,511,1023,2047,4095]
noncomputable def gs:Nat->Nat
 | 0=>0
 | r + 1=>5 * gs r + 1
theorem yc2:∀ r,5 ^ r=4 * gs r + 1
 | 0=>rfl
 | r + 1=>by rw [Nat.pow_succ,yc2 r]; show _=4 * (5 * gs r + 1) + 1; omega
theorem zc2:∀ a b,gs (a + b)=gs a * 5 ^ b + gs b
 | a,0=>by simp [gs]
 | a,b + 1=>by
  show 5 * gs (a + b) + 1=_;rw [zc2 a b,Nat.pow_succ];show _=gs a * (5 ^ b * 5) + (5 * gs b + 1);rw [Nat.mul_add,<- Nat.mul_assoc,Nat.mul_comm 5 (gs a),Nat.mul_assoc (gs a) 5,Nat.mul_comm 5 (5 ^ b)];omega
theorem xc2:∀ k,∃ o,gs (2 ^ k)=2 ^ k * (2 * o + 1)
 | 0=>⟨0,rfl⟩
 | k + 1=>by
  obtain ⟨o,e⟩:=xc2 k;refine ⟨o + (2 * o + 1) * gs (2 ^ k),?_⟩
  have h:gs (2 ^ (k + 1))=gs (2 ^ k) * (4 * gs (2 ^ k) + 2):=by
   rw [show 2 ^ (k + 1)=2 ^ k + 2 ^ k by omega,zc2,yc2]
   grind
  rw [h,Nat.pow_succ,e];generalize 2 ^ k=P
  grind
variable {x e:Nat}
theorem xt3 {P:Nat} (hP:0 < P) (h:x % P=e % P):x % (P * 2)=e % (P * 2) \/ (x + P) % (P * 2)=e % (P * 2):=by
 rw [Nat.mod_mul,Nat.mod_mul,Nat.mod_mul,h,Nat.add_mod_right,h,Nat.add_div_right _ hP];rcases Nat.mod_two_eq_zero_or_one (x / P) with a | a <;> rcases Nat.mod_two_eq_zero_or_one (e / P) with b | b
 ·left; rw [a,b]
 ·right; rw [b,show (x / P + 1) % 2=1 by omega]
 ·right; rw [b,show (x / P + 1) % 2=0 by omega]
 ·left; rw [a,b]
theorem tp1:∀ k e,∃ r,r < 2 ^ k /\ gs r % 2 ^ k=e % 2 ^ k
 | 0,e=>⟨0,by decide,by simp [Nat.mod_one]⟩
 | k + 1,e=>by
  obtain ⟨r,hr,h⟩:=tp1 k e;have hP:0 < 2 ^ k:=Nat.two_pow_pos k;rw [Nat.pow_succ];rcases xt3 hP h with q | q
  ·exact ⟨r,by omega,q⟩
  ·refine ⟨2 ^ k + r,by omega,?_⟩;obtain ⟨o,eo⟩:=xc2 k;rw [zc2,yc2,eo,<- q];generalize 2 ^ k=P at *;have:P * (2 * o + 1) * (4 * gs r + 1) + gs r=(gs r + P) + P * 2 * (o + (2 * o + 1) * (2 * gs r)):=by grind
   simp_all
theorem tu3 (mask:Nat):∀ r,fN mask r 0=gs r % (mask + 1)
 | 0=>by rfl
 | r + 1=>by
  rw [ug1 mask r 1 0,tu3 mask r];show f0 mask (gs r % (mask + 1))=(5 * gs r + 1) % (mask + 1);unfold f0;rw [Nat.add_mod (gs r % (mask + 1) * 5),Nat.mul_mod,Nat.mod_mod,<- Nat.mul_mod,<- Nat.add_mod,Nat.mul_comm]
theorem vs3:∀ m ∈ okM,∃ k,m + 1=2 ^ k:=by
 intro m hm;simp only [okM,mem_cons,not_mem_nil,or_false] at hm;rcases hm with rfl | rfl | rfl | rfl | rfl | rfl | rfl | rfl | rfl | rfl
 ·exact ⟨3,rfl⟩
 ·exact ⟨4,rfl⟩
 ·exact ⟨5,rfl⟩
 ·exact ⟨6,rfl⟩
 ·exact ⟨7,rfl⟩
 ·exact ⟨8,rfl⟩
 ·exact ⟨9,rfl⟩
 ·exact ⟨10,rfl⟩
 ·exact ⟨11,rfl⟩
 ·exact ⟨12,rfl⟩
theorem yk5 (hm:mask ∈ okM) (hi:i<=mask) (he:e<=mask):∃ r,r<=mask /\ fN mask r i=e:=by
 obtain ⟨k,hk⟩:=vs3 mask hm
 have h2:fN mask (mask + 1) 0=0:=by
  obtain ⟨o,eo⟩:=xc2 k;rw [tu3,hk,eo,Nat.mul_mod_right]
 have g:∀ x,x<=mask->∃ r,r<=mask /\ fN mask r 0=x:=λ x hx=>by
  obtain ⟨r,hr,h⟩:=tp1 k x;refine ⟨r,by omega,?_⟩;rw [tu3,hk,h,Nat.mod_eq_of_lt [2]]
 obtain ⟨a,ha,ea⟩:=g i hi;obtain ⟨b,hb,eb⟩:=g e he;by_cases c:a<=b
 ·refine ⟨b - a,by omega,?_⟩;have:=ug1 mask a (b - a) 0
  simp_all
 ·refine ⟨mask + 1 - a + b,by omega,?_⟩;have h3:=ug1 mask a (mask + 1 - a) 0;rw [show a + (mask + 1 - a)=mask + 1 by omega,h2,ea] at h3;rw [ug1,<- h3,eb]
theorem vh5 {mask:Nat}:∀ (k:Nat) (x:Nat × Nat),x.1<=mask->(lp mask k x).1<=mask
 | 0,x,h=>h
 | k + 1,x,_=>vh5 k _ (by show (x.1 * 5 + 1 + x.2 / 32) % (mask + 1)<=mask; have:=Nat.mod_lt (x.1 * 5 + 1 + x.2 / 32) (show mask + 1 > 0 by omega); omega)
theorem to1 (hm:mask ∈ okM) (hi:i<=mask) (hp:p < 2 ^ 64) (he:e<=mask):∃ K,K<=13 + mask /\ (lp mask K (i,p)).1=e:=by
 have h1:=td3 mask 13 (i,p) (Nat.lt_of_lt_of_le hp (by decide));have h2:=vh5 13 (i,p) hi;obtain ⟨r,hr,er⟩:=yk5 hm h2 he;refine ⟨13 + r,by omega,?_⟩;rw [sd3,show lp mask 13 (i,p)=((lp mask 13 (i,p)).1,0) from Prod.ext rfl h1,ta2,er]
theorem vf2 (h:Int):SetTable.bits h < 2 ^ 64:=by
 unfold SetTable.bits;omega
theorem td1 (mask:Nat) (h:Int):trS mask h 0=seg mask (SetTable.bits h % (mask + 1)) (SetTable.bits h):=rfl
theorem zc4 (h:Int) (n:Nat):∃ n0 i p k,n=n0 + k /\ trS mask h n0=seg mask i p /\ i<=mask /\ p < 2 ^ 64 /\ k<=SetTable.runEnd mask i - i:=by
 induction n with
 | zero=>exact ⟨0,_,_,0,rfl,td1 mask h,by have:=Nat.mod_lt (SetTable.bits h) (show mask + 1 > 0 by omega); omega,vf2 h,Nat.zero_le _⟩
 | succ n ih =>
  obtain ⟨n0,i,p,k,e1,e2,e3,e4,e5⟩:=ih;by_cases c:k + 1<=SetTable.runEnd mask i - i
  ·exact ⟨n0,i,p,k + 1,by omega,e2,e3,e4,c⟩
  ·refine ⟨n0 + (SetTable.runEnd mask i - i) + 1,_,_,0,by omega,xs0 e2,?_,?_,Nat.zero_le _⟩
   ·show (i * 5 + 1 + p / 32) % (mask + 1)<=mask; have:=Nat.mod_lt (i * 5 + 1 + p / 32) (show mask + 1 > 0 by omega); omega
   ·show p / 32 < 2 ^ 64; omega
theorem xh3 (h:Int) (n:Nat):tr mask h n<=mask:=by
 obtain ⟨n0,i,p,k,e1,e2,e3,e4,e5⟩:=zc4 (mask:=mask) h n;subst e1;show (trS mask h (n0 + k)).j<=mask;rw [sz0 e2 k e5];show i + k<=mask;have:=zq4 mask i e3;omega
theorem vl1 (hm:mask ∈ okM) (h:Int) (n:Nat) (he:e<=mask):∃ m,n<=m /\ m < n + 10 * SetTable.turns mask /\ tr mask h m=e:=by
 obtain ⟨n0,i,p,k,e1,e2,e3,e4,e5⟩:=zc4 (mask:=mask) h n;have e6:=xs0 e2;have l1:(SetTable.leap mask i p).1<=mask:=by show (i * 5 + 1 + p / 32) % (mask + 1)<=mask; have:=Nat.mod_lt (i * 5 + 1 + p / 32) (show mask + 1 > 0 by omega); omega
 obtain ⟨K,hK,eK⟩:=to1 hm l1 (show (SetTable.leap mask i p).2 < 2 ^ 64 by show p / 32 < 2 ^ 64; omega) he;obtain ⟨m,h1,h2,h3⟩:=sb3 K e6;have:=run9 mask i;refine ⟨m,by omega,by unfold SetTable.turns; omega,?_⟩;show (trS mask h m).j=e;rw [h3];exact eK
noncomputable def Occ (t:SetTable) (j:Nat):Prop:=j ∈ t.place.toList \/ j ∈ t.dummies.toList
structure TOk (t:SetTable) (hs:List Int):Prop where
 ris:Rise t.place
 rid:Rise t.dummies
 dj:∀ j,j ∈ t.dummies.toList->j ∉ t.place.toList
 inP:∀ j,j ∈ t.place.toList->j<=t.mask
 inD:∀ j,j ∈ t.dummies.toList->j<=t.mask
 msk:t.mask ∈ okM
 sz:t.place.size=hs.length
 reach:∀ (i j:Nat) (h:Int),t.place[i]?=some j->hs[i]?=some h->∃ m,tr t.mask h m=j /\ ∀ l,l < m->Occ t (tr t.mask h l)
variable {hs:List Int}
theorem TOk.occ (k:TOk t hs) (j:Nat):Occ t j ↔ t.slot j ≠ .empty:=by
 rw [Ne,yx0 k.ris k.rid];unfold Occ;constructor
 ·rintro (z | z) ⟨a,b⟩
  ·exact a z
  ·exact b z
 ·intro z;by_cases c:j ∈ t.place.toList
  ·exact .inl c
  simp_all
theorem xd3:∀ (M:Nat) (L:List Nat),(∀ e,e < M->e ∈ L)->M<=L.length
 | 0,_,_=>Nat.zero_le _
 | M + 1,L,h=>by
  have h1:=h M (Nat.lt_succ_self _);have h2:=xd3 M (L.erase M) λ e he=>(List.mem_erase_of_ne (Nat.ne_of_lt he)).mpr (h e (Nat.lt_succ_of_lt he));rw [List.length_erase_of_mem h1] at h2;have:=List.length_pos_of_mem h1;omega
theorem TOk.hole (k:TOk t hs) (r:t.fill<=t.mask):∃ e,e<=t.mask /\ t.slot e=.empty:=by
 refine Classical.byContradiction λ c=>?_
 have:=xd3 (t.mask + 1) (t.place.toList ++ t.dummies.toList) λ e he=>by
  have h1:Occ t e:=(k.occ e).mpr λ z=>c ⟨e,by omega,z⟩;exact List.mem_append.mpr h1
 rw [length_append] at this;simp only [length_toList] at this;unfold SetTable.fill at r;omega
noncomputable def Sk (t:SetTable) (hashAt:Nat->Int) (h:Int) (n m:Nat):Prop:=∀ l,n<=l->l < m->t.slot (tr t.mask h l) ≠ .empty /\ ∀ i,t.slot (tr t.mask h l)=.live i->hashAt i ≠ h
noncomputable def DumOk (t:SetTable) (h:Int) (d:Option Nat) (n:Nat):Prop:=∀ x,d=some x->∃ l,l < n /\ tr t.mask h l=x /\ t.slot x=.dummy
theorem DumOk.up {d:Option Nat} {m:Nat} (k:DumOk t h d n) (l:n<=m):DumOk t h d m:=λ x e=>by
 obtain ⟨a,b,c⟩:=k x e;exact ⟨a,by omega,c⟩
theorem Sk.cons {hashAt:Nat->Int} {m:Nat} (a:t.slot (tr t.mask h n) ≠ .empty) (b:∀ i,t.slot (tr t.mask h n)=.live i->hashAt i ≠ h) (k:Sk t hashAt h (n + 1) m):Sk t hashAt h n m:=λ l h1 h2=>by
 by_cases c:l=n
 ·simp_all
 ·exact k l [2] h2
theorem zk1 (t:SetTable) (hashAt:Nat->Int) (h:Int):∀ (fuel n:Nat) (d:Option Nat),DumOk t h d n->(∃ m,n<=m /\ m < n + fuel /\ t.slot (tr t.mask h m)=.empty) ->
    (∃ m d',SetTable.probe.go t hashAt h fuel { trS t.mask h n with dummy:=d }=some (.empty (tr t.mask h m) d') /\ n<=m /\ t.slot (tr t.mask h m)=.empty /\ Sk t hashAt h n m /\ DumOk t h d' m) ∨
    (∃ m i d',SetTable.probe.go t hashAt h fuel { trS t.mask h n with dummy:=d }=some (.candidate (tr t.mask h m) i { trS t.mask h (m + 1) with dummy:=d' }) /\ n<=m /\ t.slot (tr t.mask h m)=.live i /\ hashAt i=h /\ Sk t hashAt h n m /\ DumOk t h d' m)
 | 0,n,d,k,c=>by omega
 | fuel + 1,n,d,k,c=>by
  have nx:t.slot (tr t.mask h n) ≠ .empty->∃ m,n + 1<=m /\ m < n + 1 + fuel /\ t.slot (tr t.mask h m)=.empty:=λ z=>by
   obtain ⟨m,a,b,e⟩:=c;refine ⟨m,?_,by omega,e⟩;by_cases y:m=n
   ·simp_all
   ·omega
  unfold SetTable.probe.go;dsimp only;cases hs:t.slot (tr t.mask h n) with
  | empty=>exact .inl ⟨n,d,rfl,Nat.le_refl _,hs,λ l a b=>by omega,k⟩
  | dummy =>
   dsimp only;have e1:t.advance { trS t.mask h n with dummy:=some (tr t.mask h n) }={ trS t.mask h (n + 1) with dummy:=some (tr t.mask h n) }:=yi1 t (trS t.mask h n) _;rw [e1];have k':DumOk t h (some (tr t.mask h n)) (n + 1):=λ x e=>by cases e; exact ⟨n,Nat.lt_succ_self _,rfl,hs⟩
   have e2:t.slot (tr t.mask h n) ≠ .empty:=by simp_all
   have e3:∀ i,t.slot (tr t.mask h n)=.live i->hashAt i ≠ h:=λ i z=>by simp_all
   rcases zk1 t hashAt h fuel (n + 1) _ k' (nx e2) with ⟨m,d',a1,a2,a3,a4,a5⟩ | ⟨m,i,d',a1,a2,a3,a4,a5,a6⟩
   ·exact .inl ⟨m,d',a1,by omega,a3,a4.cons e2 e3,a5⟩
   ·exact .inr ⟨m,i,d',a1,by omega,a3,a4,a5.cons e2 e3,a6⟩
  | live i =>
   dsimp only;have e1:t.advance { trS t.mask h n with dummy:=d }={ trS t.mask h (n + 1) with dummy:=d }:=yi1 t (trS t.mask h n) _;rw [e1];have e2:t.slot (tr t.mask h n) ≠ .empty:=by simp_all
   by_cases c2:hashAt i=h
   ·rw [if_pos (by simpa using c2)];exact .inr ⟨n,i,d,rfl,Nat.le_refl _,hs,c2,λ l a b=>by omega,k⟩
   ·rw [if_neg (by simpa using c2)];have e3:∀ i,t.slot (tr t.mask h n)=.live i->hashAt i ≠ h:=λ i' z=>by simp_all
    rcases zk1 t hashAt h fuel (n + 1) _ (k.up (Nat.le_succ _)) (nx e2) with ⟨m,d',a1,a2,a3,a4,a5⟩ | ⟨m,i,d',a1,a2,a3,a4,a5,a6⟩
    ·exact .inl ⟨m,d',a1,by omega,a3,a4.cons e2 e3,a5⟩
    ·exact .inr ⟨m,i,d',a1,by omega,a3,a4,a5.cons e2 e3,a6⟩
theorem TOk.probe {t:SetTable} {hs:List Int} (k:TOk t hs) (r:t.fill<=t.mask) (hashAt:Nat->Int) (h:Int) (n:Nat) (d:Option Nat) (kd:DumOk t h d n) :
    (∃ m d',t.probe hashAt h { trS t.mask h n with dummy:=d }=some (.empty (tr t.mask h m) d') /\ n<=m /\ t.slot (tr t.mask h m)=.empty /\ Sk t hashAt h n m /\ DumOk t h d' m) ∨
    (∃ m i d',t.probe hashAt h { trS t.mask h n with dummy:=d }=some (.candidate (tr t.mask h m) i { trS t.mask h (m + 1) with dummy:=d' }) /\ n<=m /\ t.slot (tr t.mask h m)=.live i /\ hashAt i=h /\ Sk t hashAt h n m /\ DumOk t h d' m):=by
 obtain ⟨e,he,ee⟩:=k.hole r;obtain ⟨m,h1,h2,h3⟩:=vl1 k.msk h n he;exact zk1 t hashAt h _ n d kd ⟨m,h1,h2,by rw [h3]; exact ee⟩
theorem sx0 {α:Type} {xs:List α} {x:α} (hp:p<=xs.length) (h:i < p):(xs.take p ++ x :: xs.drop p)[i]?=xs[i]?:=by
 rw [getElem?_append_left (by simp_all),getElem?_take_of_lt h]
theorem yy0 {α:Type} {xs:List α} {x:α} (hp:p<=xs.length):(xs.take p ++ x :: xs.drop p)[p]?=some x:=by
 simp_all
theorem xy0 {α:Type} {xs:List α} {x:α} (hp:p<=xs.length) (h:p<=i):(xs.take p ++ x :: xs.drop p)[i + 1]?=xs[i]?:=by
 rw [getElem?_append_right (by simp_all;omega),length_take,show i + 1 - min p xs.length=(i - p) + 1 by omega,getElem?_cons_succ,getElem?_drop];congr 1;omega
noncomputable def insL {α:Type} (xs:List α) (p:Nat) (x:α):List α:=xs.take p ++ x :: xs.drop p
theorem us0 {α:Type} (xs:List α) (p:Nat) (x y:α):y ∈ insL xs p x ↔ y=x \/ y ∈ xs:=by
 have e:xs=xs.take p ++ xs.drop p:=(take_append_drop p xs).symm;unfold insL;rw [mem_append,mem_cons];constructor
 ·rintro (z | z | z)
  ·exact .inr (mem_of_mem_take z)
  ·exact .inl z
  ·exact .inr (mem_of_mem_drop z)
 ·rintro (z | z)
  ·exact .inr (.inl z)
  ·rw [e] at z;rcases List.mem_append.mp z with z | z
   ·exact .inl z
   simp_all
theorem si0 {α:Type} (xs:List α) (p:Nat) (x:α):(insL xs p x).length=xs.length + 1:=by
 unfold insL
 simp_all;omega
theorem wp1 {α β:Type} (f:α->β) (xs:List α) (p:Nat) (x:α):(insL xs p x).map f=insL (xs.map f) p (f x):=by
 unfold insL;simp
theorem tq2 (h:Rise xs) {j:Nat} (hn:j ∉ xs.toList):(insL xs.toList (SetTable.below xs j) j).Pairwise (· < ·):=by
 have b:∀ {i a:Nat},xs[i]?=some a->(i < SetTable.below xs j ↔ a < j):=λ q=>yl0 h j q;have hb:=zo0 h j;have e:xs.toList=xs.toList.take (SetTable.below xs j) ++ xs.toList.drop (SetTable.below xs j):=(take_append_drop _ _).symm;have h':=h;unfold Rise at h';rw [e] at h';obtain ⟨h1,h2,h3⟩:=List.pairwise_append.mp h';unfold insL;refine List.pairwise_append.mpr ⟨h1,List.pairwise_cons.mpr ⟨λ x hx=>?_,h2⟩,λ x hx y hy=>?_⟩
 ·obtain ⟨i,hi⟩:=List.mem_iff_getElem?.mp hx;rw [getElem?_drop,getElem?_toList] at hi;have:=b hi;have ne:x ≠ j:=λ z=>hn (by subst z; exact wy0 hi);omega
 ·have hxl:x < j:=by
    obtain ⟨i,hi⟩:=List.mem_iff_getElem?.mp hx
    have hlt:i < SetTable.below xs j:=by
     have:=(List.getElem?_eq_some_iff.mp hi).1;rw [length_take] at this;omega
    rw [getElem?_take_of_lt hlt,getElem?_toList] at hi;exact (b hi).mp hlt
  rcases List.mem_cons.mp hy with rfl | hy
  ·exact hxl
  ·exact h3 x hx y hy
theorem yv3 (h:Rise xs) {j:Nat} (hp:xs[p]?=some j) (x:Nat):x ∈ (SetTable.eraseAt xs p).toList ↔ x ∈ xs.toList /\ x ≠ j:=by
 have hpl:=(Array.getElem?_eq_some_iff.mp hp).1
 have e:(SetTable.eraseAt xs p).toList=xs.toList.take p ++ xs.toList.drop (p + 1):=by
  simp [SetTable.eraseAt,List.extract_eq_take_drop,take_of_length_le]
 rw [e,mem_append];constructor
 ·rintro (z | z)
  ·obtain ⟨i,hi⟩:=List.mem_iff_getElem?.mp z
   have hlt:i < p:=by
    have:=(List.getElem?_eq_some_iff.mp hi).1
    simp_all;omega
   rw [getElem?_take_of_lt hlt,getElem?_toList] at hi;exact ⟨wy0 hi,Nat.ne_of_lt (yp0 h hi hp hlt)⟩
  ·obtain ⟨i,hi⟩:=List.mem_iff_getElem?.mp z;rw [getElem?_drop,getElem?_toList] at hi;exact ⟨wy0 hi,Nat.ne_of_gt (yp0 h hp hi [2])⟩
 ·rintro ⟨z,ne⟩;obtain ⟨i,hi⟩:=tf1 z;have hil:=(Array.getElem?_eq_some_iff.mp hi).1;by_cases c:i < p
  ·exact .inl (List.mem_iff_getElem?.mpr ⟨i,by simp_all⟩)
  ·have:i ≠ p:=λ y=>by simp_all
   exact .inr (List.mem_iff_getElem?.mpr ⟨i - (p + 1),by rw [getElem?_drop,show p + 1 + (i - (p + 1))=i by omega,getElem?_toList]; exact hi⟩)
theorem sb1 (xs:Array Nat) (p:Nat):(SetTable.eraseAt xs p).toList=xs.toList.take p ++ xs.toList.drop (p + 1):=by
 simp [SetTable.eraseAt,List.extract_eq_take_drop,take_of_length_le]
theorem sq2 (h:Rise xs) (p:Nat):Rise (SetTable.eraseAt xs p):=by
 unfold Rise;rw [sb1];have e:xs.toList=xs.toList.take p ++ xs.toList.drop p:=(take_append_drop p xs.toList).symm;refine List.Pairwise.sublist ?_ h
 conv=>rhs; rw [e]
 refine List.Sublist.append (List.Sublist.refl _) ?_;rw [<- List.drop_drop];exact drop_sublist _ _
theorem tl0 (k:Rise t.dummies) (j x:Nat):x ∈ (t.put j).1.dummies.toList ↔ x ∈ t.dummies.toList /\ x ≠ j:=by
 show x ∈ (if SetTable.has t.dummies j then SetTable.eraseAt t.dummies (SetTable.below t.dummies j) else t.dummies).toList ↔ _;by_cases c:SetTable.has t.dummies j=true
 ·rw [if_pos c];obtain ⟨i,hi⟩:=tf1 ((zm0 k j).mp c);rw [wo0 k hi];exact yv3 k hi x
 ·rw [if_neg c];exact ⟨λ z=>⟨z,λ y=>by subst y; exact c ((zm0 k x).mpr z)⟩,λ z=>z.1⟩
theorem wf0 (t:SetTable) (j:Nat):(t.put j).1.place.toList=insL t.place.toList (SetTable.below t.place j) j:=SetTable.toList_insertAt _ _ _
theorem TOk.put {t:SetTable} {hs:List Int} (k:TOk t hs) {x:Nat} {h:Int} (hx:x ∉ t.place.toList) (hr:∃ m,tr t.mask h m=x /\ ∀ l,l < m->Occ t (tr t.mask h l)) :
    TOk (t.put x).1 (insL hs (SetTable.below t.place x) h):=by
 have hb:=zo0 k.ris x;have sz:=k.sz
 have oc:∀ j,Occ t j->Occ (t.put x).1 j:=λ j o=>by
  unfold Occ;rw [wf0,us0,tl0 k.rid];by_cases c:j=x
  ·exact .inl (.inl c)
  ·exact o.elim (λ z=>.inl (.inr z)) λ z=>.inr ⟨z,c⟩
 have hxm:x<=t.mask:=by obtain ⟨m,e,_⟩:=hr; rw [<- e]; exact xh3 h m
 refine ⟨?_,?_,λ j a b=>?_,λ j a=>?_,λ j a=>?_,k.msk,?_,λ i j h' a b=>?_⟩
 ·unfold Rise; rw [wf0]; exact tq2 k.ris hx
 ·show Rise (if SetTable.has t.dummies x then SetTable.eraseAt t.dummies (SetTable.below t.dummies x) else t.dummies);split
  ·exact sq2 k.rid _
  ·exact k.rid
 ·rw [tl0 k.rid] at a;rw [wf0,us0] at b;rcases b with rfl | b
  ·exact a.2 rfl
  ·exact k.dj j a.1 b
 ·rw [wf0,us0] at a;rcases a with rfl | a
  ·exact hxm
  ·exact k.inP j a
 ·rw [tl0 k.rid] at a;exact k.inD j a.1
 ·rw [<- length_toList,wf0,si0,si0,length_toList,sz]
 ·have lp:SetTable.below t.place x<=t.place.toList.length:=by omega
  have lh:SetTable.below t.place x<=hs.length:=by omega
  rw [<- getElem?_toList,wf0] at a;show ∃ m,tr t.mask h' m=j /\ ∀ l,l < m->Occ (t.put x).1 (tr t.mask h' l);unfold insL at a b;by_cases c:i < SetTable.below t.place x
  ·rw [sx0 lp c,getElem?_toList] at a;rw [sx0 lh c] at b;obtain ⟨m,e,o⟩:=k.reach i j h' a b;exact ⟨m,e,λ l hl=>oc _ (o l hl)⟩
  ·by_cases c2:i=SetTable.below t.place x
   ·subst c2;rw [yy0 lp] at a;rw [yy0 lh] at b;cases a;cases b;obtain ⟨m,e,o⟩:=hr;exact ⟨m,e,λ l hl=>oc _ (o l hl)⟩
   ·obtain ⟨i',rfl⟩:∃ i',i=i' + 1:=⟨i - 1,by omega⟩;rw [xy0 lp [2],getElem?_toList] at a;rw [xy0 lh [2]] at b;obtain ⟨m,e,o⟩:=k.reach i' j h' a b;exact ⟨m,e,λ l hl=>oc _ (o l hl)⟩
theorem vr2 (k:TOk t hs) :(t.put x).1.fill<=t.fill + 1:=by
 unfold SetTable.fill;have h1:(t.put x).1.place.size=t.place.size + 1:=by rw [<- length_toList,wf0,si0,length_toList]
 have h2:(t.put x).1.dummies.size<=t.dummies.size:=by
  show (if SetTable.has t.dummies x then SetTable.eraseAt t.dummies (SetTable.below t.dummies x) else t.dummies).size<=_;split
  ·rw [<- length_toList,sb1,length_append,length_take,length_drop,length_toList]; omega
  omega
 omega
theorem ss1 (k:TOk t hs) (hd:t.slot x=.dummy):(t.put x).1.fill<=t.fill:=by
 unfold SetTable.fill;have h1:(t.put x).1.place.size=t.place.size + 1:=by rw [<- length_toList,wf0,si0,length_toList]
 have m:=(zx0 k.ris k.rid (k.dj x)).mp hd;obtain ⟨i,hi⟩:=tf1 m;have hil:=(Array.getElem?_eq_some_iff.mp hi).1
 have h2:(t.put x).1.dummies.size + 1<=t.dummies.size:=by
  show (if SetTable.has t.dummies x then SetTable.eraseAt t.dummies (SetTable.below t.dummies x) else t.dummies).size + 1<=_;rw [if_pos ((zm0 k.rid x).mpr m),wo0 k.rid hi,<- length_toList,sb1,length_append,length_take,length_drop,length_toList];omega
 omega
theorem wg1 (mask:Nat) (h:Int) (owner:Array (Option Nat)):∀ (fuel n i p:Nat),trS mask h n=seg mask i p->(∃ K,K < fuel /\ owner.getD (lp mask K (i,p)).1 (some 0)=none) ->
    ∃ m,SetTable.layClean.free mask owner fuel i p=some (tr mask h m) /\ n<=m /\ owner.getD (tr mask h m) (some 0)=none /\ ∀ l,n<=l->l < m->owner.getD (tr mask h l) (some 0) ≠ none
 | 0,n,i,p,e,c=>by omega
 | fuel + 1,n,i,p,e,c=>by
  have trk:∀ k,k<=SetTable.runEnd mask i - i->tr mask h (n + k)=i + k:=λ k hk=>by
   show (trS mask h (n + k)).j=_;rw [sz0 e k hk]
  have rl:=yq4 mask i;unfold SetTable.layClean.free;cases hf:(List.range (SetTable.runEnd mask i + 1 - i)).find? (λ k=>(owner.getD (i + k) (some 0)).isNone) with
  | some k =>
   dsimp only;obtain ⟨h1,h2,h3⟩:=List.find?_range_eq_some.mp hf;have h2':k < SetTable.runEnd mask i + 1 - i:=List.mem_range.mp h2;refine ⟨n + k,by rw [trk k [2]],by omega,by rw [trk k [2]]; simpa using h1,λ l a b=>?_⟩;obtain ⟨l',rfl⟩:∃ l',l=n + l':=⟨l - n,by omega⟩;rw [trk l' [2]];have:=h3 l' [2];intro z
   simp_all
  | none =>
   dsimp only;have h1:=List.find?_range_eq_none.mp hf
   have h1':∀ k,k<=SetTable.runEnd mask i - i->owner.getD (i + k) (some 0) ≠ none:=λ k hk z=>by
    have:=h1 k [2]
    simp_all
   have c':∃ K,K < fuel /\ owner.getD (lp mask K (SetTable.leap mask i p)).1 (some 0)=none:=by
    obtain ⟨K,a,b⟩:=c;cases K with
    | zero=>exact absurd b (h1' 0 (Nat.zero_le _))
    | succ K=>exact ⟨K,by omega,b⟩
   obtain ⟨m,a1,a2,a3,a4⟩:=wg1 mask h owner fuel _ _ _ (xs0 e) c';refine ⟨m,a1,by omega,a3,λ l b1 b2=>?_⟩;by_cases z:l<=n + (SetTable.runEnd mask i - i)
   ·obtain ⟨l',rfl⟩:∃ l',l=n + l':=⟨l - n,by omega⟩
    simp_all
   ·exact a4 l [2] b2
theorem ue3 {α β:Type} {f:α->Option β}:∀ {L:List α},(∀ j ∈ L,f j ≠ none)->(L.filterMap f).length=L.length
 | [],_=>rfl
 | j :: L,h=>by
  have h1:=h j (mem_cons_self ..);obtain ⟨b,hb⟩:∃ b,f j=some b:=by cases hq:f j with | none=>exact absurd hq h1 | some b=>exact ⟨b,rfl⟩
  rw [List.filterMap_cons_some hb,length_cons,length_cons,ue3 λ x hx=>h x (mem_cons_of_mem _ hx)]
theorem ub1 {α β:Type} {f g:α->Option β}:∀ {L:List α},(∀ j ∈ L,f j=g j)->L.filterMap f=L.filterMap g
 | [],_=>rfl
 | j :: L,h=>by
  rw [List.filterMap_cons,List.filterMap_cons,h j (mem_cons_self ..),ub1 λ x hx=>h x (mem_cons_of_mem _ hx)]
theorem ve3 {f g:Nat->Option Nat} {x k:Nat} (e1:f x=none) (e2:g x=some k) (e3:∀ y,y ≠ x->g y=f y):∀ {L:List Nat},L.Nodup->x ∈ L->(L.filterMap g).Perm (k :: L.filterMap f)
 | [],_,h=>by cases h
 | y :: L,nd,h=>by
  obtain ⟨n1,n2⟩:=List.nodup_cons.mp nd;by_cases c:y=x
  ·subst c;rw [List.filterMap_cons_some e2,List.filterMap_cons_none e1];refine List.Perm.cons _ (List.Perm.of_eq ?_);exact ub1 λ j hj=>e3 j λ z=>n1 (z ▸ hj)
  ·have ih:=ve3 e1 e2 e3 n2 (by rcases List.mem_cons.mp h with rfl | h; exact absurd rfl c; exact h);have e:=e3 y c;cases hf:f y with
   | none=>simp_all
   | some b =>
    rw [List.filterMap_cons_some (by rw [e,hf]),List.filterMap_cons_some hf];exact (List.Perm.cons _ ih).trans (List.Perm.swap _ _ _)
structure OwnOk (mask:Nat) (hs:List Int) (owner:Array (Option Nat)):Prop where
 sz:owner.size=mask + 1
 perm:((List.range (mask + 1)).filterMap λ j=>owner.getD j none).Perm (List.range hs.length)
 reach:∀ j k,owner.getD j none=some k->∃ h,hs[k]?=some h /\ ∃ m,tr mask h m=j /\ ∀ l,l < m->owner.getD (tr mask h l) none ≠ none
variable {owner:Array (Option Nat)}
theorem xw2 {j:Nat} (h:j < owner.size) (a b:Option Nat):owner.getD j a=owner.getD j b:=by simp_all
theorem OwnOk.step (hm:mask ∈ okM) (k:OwnOk mask hs owner) (hl:hs.length<=mask) (h:Int) :
    ∃ x,SetTable.layClean.free mask owner (SetTable.turns mask) (SetTable.bits h % (mask + 1)) (SetTable.bits h)=some x /\ OwnOk mask (hs ++ [h]) (owner.setIfInBounds x (some hs.length)):=by
 have sz:=k.sz
 obtain ⟨e,he,ee⟩:∃ e,e<=mask /\ owner.getD e none=none:=by
  refine Classical.byContradiction λ c=>?_;have h1:=ue3 (f:=λ j=>owner.getD j none) (L:=List.range (mask + 1)) λ j hj z=>c ⟨j,by have:=List.mem_range.mp hj; omega,z⟩;rw [k.perm.length_eq,length_range,length_range] at h1;omega
 have hi:SetTable.bits h % (mask + 1)<=mask:=by have:=Nat.mod_lt (SetTable.bits h) (show mask + 1 > 0 by omega); omega
 obtain ⟨K,hK,eK⟩:=to1 hm hi (vf2 h) he;obtain ⟨m,a1,a2,a3,a4⟩:=wg1 mask h owner (SetTable.turns mask) 0 _ _ (td1 mask h) ⟨K,by unfold SetTable.turns; omega,by rw [eK,xw2 [2] _ none]; exact ee⟩;have ml:∀ l,tr mask h l < owner.size:=λ l=>by have:=xh3 (mask:=mask) h l; omega
 have a3':owner.getD (tr mask h m) none=none:=by simp_all
 have gx:(owner.setIfInBounds (tr mask h m) (some hs.length)).getD (tr mask h m) none=some hs.length:=by
  simp_all
 have gy:∀ y,y ≠ tr mask h m->(owner.setIfInBounds (tr mask h m) (some hs.length)).getD y none=owner.getD y none:=λ y hy=>by
  by_cases c:y < owner.size
  ·simp [Array.getD,c,Array.getElem_setIfInBounds,Ne.symm hy]
  simp_all
 have mono:∀ y,owner.getD y none ≠ none->(owner.setIfInBounds (tr mask h m) (some hs.length)).getD y none ≠ none:=λ y hy=>by
  by_cases c:y=tr mask h m
  ·simp_all
  simp_all
 refine ⟨tr mask h m,a1,by simp_all,?_,λ j q e=>?_⟩
 ·refine (ve3 a3' gx gy List.nodup_range (List.mem_range.mpr (by have:=ml m; omega))).trans ?_;rw [length_append,List.length_singleton];exact ((List.Perm.cons _ k.perm).trans (List.perm_append_singleton _ _).symm).trans (List.Perm.of_eq List.range_succ.symm)
 ·by_cases c:j=tr mask h m
  ·subst c;rw [gx] at e;cases e;refine ⟨h,by simp,m,rfl,λ l hl=>mono _ ?_⟩
   simp_all
  ·rw [gy j c] at e;obtain ⟨h',b1,m',b2,b3⟩:=k.reach j q e;refine ⟨h',?_,m',b2,λ l hl=>mono _ (b3 l hl)⟩;rw [getElem?_append_left (List.getElem?_eq_some_iff.mp b1).1];exact b1
theorem vc2 {mask:Nat} (hm:mask ∈ okM):∀ (rest done:List Int) (owner:Array (Option Nat)),OwnOk mask done owner->done.length + rest.length<=mask + 1 ->
    ∃ owner',List.foldl (λ acc h=>do
     let (owner,k) <- acc
     let j <- SetTable.layClean.free mask owner (SetTable.turns mask) (SetTable.bits h % (mask + 1)) (SetTable.bits h)
     pure (owner.setIfInBounds j (some k),k + 1)) (some (owner,done.length)) rest=some (owner',done.length + rest.length) /\ OwnOk mask (done ++ rest) owner'
 | [],done,owner,k,_=>⟨owner,rfl,by simp_all⟩
 | h :: rest,done,owner,k,hl=>by
  rw [length_cons] at hl;obtain ⟨x,e,k'⟩:=k.step hm [2] h;obtain ⟨o',e',k''⟩:=vc2 hm rest (done ++ [h]) _ k' (by rw [length_append,List.length_singleton]; omega);refine ⟨o',?_,by simp_all⟩;rw [length_append,List.length_singleton] at e';rw [List.foldl_cons,length_cons,show done.length + (rest.length + 1)=done.length + 1 + rest.length by omega,<- e']
  simp_all
theorem own0 (mask:Nat):OwnOk mask [] (Array.replicate (mask + 1) none):=by
 have g:∀ j,(Array.replicate (mask + 1) (none:Option Nat)).getD j none=none:=λ j=>by
  by_cases c:j < mask + 1 <;> simp [Array.getD,c]
 refine ⟨by simp,?_,λ j k e=>by simp_all⟩
 simp_all
theorem xk1 (hm:mask ∈ okM) (hs:Array Int) (hl:hs.size<=mask + 1):∃ owner,SetTable.layClean mask hs=some owner /\ OwnOk mask hs.toList owner:=by
 obtain ⟨o,e,k⟩:=vc2 hm hs.toList [] _ (own0 mask) (by simpa using hl);refine ⟨o,?_,by simpa using k⟩;unfold SetTable.layClean
 simp_all
theorem ut3 (hm:mask ∈ okM) (hs:Array Int) (hl:hs.size<=mask + 1) (fi mo:Nat) (le pl:Bool) :
    ∃ t' order,SetTable.laid mask fi mo le pl hs=some (t',order) /\ t'.mask=mask /\ t'.dummies = #[] /\ t'.led=le /\ t'.plain=pl /\ t'.finger=fi /\ t'.moves=mo /\ order.toList.Perm (List.range hs.size) /\ TOk t' (order.toList.map λ k=>hs.getD k 0):=by
 obtain ⟨o,e,k⟩:=xk1 hm hs hl;unfold SetTable.laid;rw [e];refine ⟨_,_,rfl,rfl,rfl,rfl,rfl,rfl,rfl,?_,?_⟩
 ·have:(((List.range (mask + 1)).filterMap λ j=>(o.getD j none).map (j,·)).map (·.2))=(List.range (mask + 1)).filterMap λ j=>o.getD j none:=by
    rw [List.map_filterMap];refine ub1 λ j _=>?_;cases o.getD j none <;> rfl
  simp only [List.toList_toArray];rw [this];simpa using k.perm
 ·generalize hlv:((List.range (mask + 1)).filterMap λ j=>(o.getD j none).map (j,·))=live
  have lget:∀ x,x ∈ live->x.1<=mask /\ o.getD x.1 none=some x.2:=λ x hx=>by
   rw [<- hlv] at hx;obtain ⟨j,hj,ej⟩:=List.mem_filterMap.mp hx;cases hq:o.getD j none with
   | none=>simp_all
   | some b=>rw [hq] at ej; cases ej; exact ⟨by have:=List.mem_range.mp hj; show j<=mask; omega,hq⟩
  have lin:∀ j q,j<=mask->o.getD j none=some q->j ∈ live.map (·.1):=λ j q hj eq=>by
   rw [<- hlv];exact List.mem_map.mpr ⟨(j,q),List.mem_filterMap.mpr ⟨j,List.mem_range.mpr [2],by rw [eq]; rfl⟩,rfl⟩
  have pw:(live.map (·.1)).Pairwise (· < ·):=by
   rw [<- hlv,List.map_filterMap,List.pairwise_filterMap];refine List.pairwise_lt_range.imp_of_mem ?_
   simp_all
  refine ⟨by omega,List.Pairwise.nil,λ j z=>by simp at z,λ j z=>?_,λ j z=>by simp at z,hm,by simp,λ i j h a b=>?_⟩
  ·have z':j ∈ live.map (·.1):=by simpa using z
   obtain ⟨x,hx,rfl⟩:=List.mem_map.mp z';exact (lget x hx).1
  ·have a':(live.map (·.1))[i]?=some j:=by simpa using a
   have b':((live.map (·.2)).map λ k=>hs.getD k 0)[i]?=some h:=by simpa using b
   rw [getElem?_map] at a' b';rw [getElem?_map] at b';cases hx:live[i]? with
   | none=>simp_all
   | some x =>
    rw [hx] at a' b';have a2:x.1=j:=by simpa using a'
    have b2:hs.getD x.2 0=h:=by simpa using b'
    obtain ⟨g1,g2⟩:=lget x (mem_of_getElem? hx);obtain ⟨h',c1,m,c2,c3⟩:=k.reach _ _ g2
    have hh:h'=h:=by
     simp_all
    subst hh;refine ⟨m,by rw [c2,a2],λ l hl=>.inl ?_⟩;have c4:=c3 l hl;cases hq:o.getD (tr mask h' l) none with
    | none=>exact absurd hq c4
    | some q=>simpa using lin _ q (xh3 h' l) hq
theorem ue1:∀ n,n < 512->SetTable.sizeAbove (n * 4) - 1 ∈ okM /\ n * 5 < (SetTable.sizeAbove (n * 4) - 1) * 3 /\ SetTable.sizeAbove (n * 4)<=2048:=by
 trivial
end Pv
namespace Pv
open PySem PySem.Spec PySem.W PyProof.Rows L2
noncomputable def kI (t:T3):List Int:=[t.1,t.2.1,t.2.2]
theorem xe3 {a b:T3} (h:kI a=kI b):a=b:=by
 obtain ⟨a1,a2,a3⟩:=a;obtain ⟨b1,b2,b3⟩:=b;simp only [kI,List.cons.injEq,and_true] at h
 simp_all
variable {prog:Program} {w:World} {A:Around} {E:[8]} {s:Shared} {k:T3} {Q:Bool->Shared->Prop} {h h':Heap}
section
noncomputable abbrev TK (prog:Program) (w:World) (h:Heap) (t:T3) (a:Addr):Prop:=IsTupleKey (intKind prog w) h (kI t) a
noncomputable def hT (prog:Program) (w:World) (t:T3):Int:=tupleKeyHash (intKind prog w) (kI t)
theorem wu3 {b:Addr} {Q:Int->Shared->Prop} (hu:A.units < cLine) (i:TK prog w s.heap k b) (h:∀ tk,Q (hT prog w k) { s with toks:=tk }):wpAny [5] A (pyHash (.ref b)) Q E s:=wpAny_pyHash_tuple hu i (h _)
theorem IsT3.key {a:Addr} {t:T3} (i:IsT3 h (.ref a) t):TK prog w h t a:=by
 obtain ⟨a',o,t1,t2,t3,n,e1,e2,e3,e4⟩:=i;cases e1;exact ⟨o,_,n,e2,e3,e4,.cons (intKind_is ..) (.cons (intKind_is ..) (.cons (intKind_is ..) .nil))⟩
theorem TK.t3 {h:Heap} {a:Addr} {t:T3} (i:TK prog w h t a):IsT3 h (.ref a) t:=by
 obtain ⟨o,items,n,e1,e2,e3,e4⟩:=i;obtain ⟨it⟩:=items;dsimp only at e4
 have f:∀ {k:Int} {v:Value},(intKind prog w).is k v=true->∃ tk,v=.int k tk:=λ {k v} z=>by
  cases v <;> simp [intKind,Value.isInt] at z
  simp_all
 unfold kI at e4;cases e4 with
 | cons a1 e4 =>
  cases e4 with
  | cons a2 e4 =>
   cases e4 with
   | cons a3 e4 =>
    cases e4;obtain ⟨t1,rfl⟩:=f a1;obtain ⟨t2,rfl⟩:=f a2;obtain ⟨t3,rfl⟩:=f a3;exact ⟨a,o,t1,t2,t3,n,rfl,e1,e2,e3⟩
theorem TK.kept {a:Addr} {t:T3} (k:∀ o,h.get? a=some o->o.cls=.type "tuple" -> h'.get? a=some o) (i:TK prog w h t a):TK prog w h' t a:=by
 obtain ⟨o,items,n,e1,e2,e3⟩:=i;exact ⟨o,items,n,k o e1 e2,e2,e3⟩
theorem ys0 {a:Addr} (h:Q true s):wpAny [5] A (isSame (.ref a) (.ref a)) Q E s:=by
 unfold isSame;dsimp only;rw [if_pos (beq_self_eq_true a)];exact wpAny_pure h
theorem TK.items {a:Addr} {t:T3} (i:TK prog w h t a):∃ o t1 t2 t3 n,h.get? a=some o /\ o.cls=.type "tuple" /\ o.data=.seq #[.int t.1 t1,.int t.2.1 t2,.int t.2.2 t3] n:=by
 obtain ⟨a',o,t1,t2,t3,n,e1,e2,e3,e4⟩:=i.t3
 simp_all
theorem wf3 {t:T3} {a:Addr} (i:TK prog w s.heap t a) (h:Q false s):wpAny [5] A (ofAClassStatement 8 (.ref a)) Q E s:=by
 have ty:=i.typeIs;obtain ⟨o,t1,t2,t3,n,e1,e2,e3⟩:=i.items;unfold ofAClassStatement;refine wpAny_bind (wpAny_typeOf ty ?_);dsimp only;rw [if_pos (by decide)];refine wpAny_bind (wpAny_pure ?_);rw [if_neg (by decide)];refine wpAny_bind (wpAny_seqItems e1 e3 ?_);dsimp only;refine wpAny_bind ?_;rw [<- Array.forIn_toList];refine wpAny_forIn_list _ (λ rest r s'=>r.1=none /\ s'=s /\ ∀ v ∈ rest,carriedByValue v=true) _ ?_ ?_ _ _ ⟨rfl,rfl,by simp [carriedByValue]⟩
 ·rintro v rest r s' ⟨hr,rfl,hall⟩;have hv:=hall v mem_cons_self
  have hq:ofAClassStatement 7 v=pure false:=by
   cases v with
   | ref a=>trivial
   | _=>rfl
  rw [hq];refine wpAny_bind (wpAny_pure ?_);simp only [Bool.false_eq_true,if_false];exact wpAny_pure ⟨rfl,rfl,λ u hu'=>hall u (mem_cons_of_mem _ hu')⟩
 ·rintro ⟨r1,r2⟩ s' ⟨hr,rfl,_⟩;simp only at hr;subst hr;exact wpAny_pure h
theorem xm3 {b:Addr} {stored:List Value} (i:TK prog w s.heap k b) (hs:∀ v ∈ stored,∃ t a,v=.ref a /\ TK prog w s.heap t a) (h:Q false s) :
    wpAny [5] A (searchCouldBeSeen (.ref b) stored) Q E s:=by
 unfold searchCouldBeSeen;refine wpAny_bind ?_;refine wpAny_forIn_list _ (λ rest r s'=>r.1=none /\ s'=s /\ ∀ v ∈ rest,∃ t a,v=.ref a /\ TK prog w s.heap t a) _ ?_ ?_ _ _ ⟨rfl,rfl,hs⟩
 ·rintro v rest r s' ⟨hr,rfl,hall⟩;obtain ⟨t,a,rfl,hv⟩:=hall v mem_cons_self;have tl:=λ u hu'=>hall u (mem_cons_of_mem _ hu');dsimp only;split
  ·exact wpAny_pure ⟨rfl,rfl,tl⟩
  ·refine wpAny_bind (wpAny_eqIsQuiet_tuple i ?_);simp only [Bool.not_true,Bool.false_eq_true,if_false];refine wpAny_bind (wpAny_eqIsQuiet_tuple hv ?_);simp only [Bool.not_true,Bool.false_eq_true,if_false];refine wpAny_bind (wf3 i ?_);simp only [Bool.false_eq_true,if_false];refine wpAny_bind (wf3 hv ?_);simp only [Bool.false_eq_true,if_false];exact wpAny_pure ⟨rfl,rfl,tl⟩
 ·rintro ⟨r1,r2⟩ s' ⟨hr,rfl,_⟩;simp only at hr;subst hr;exact wpAny_pure h
theorem tx2 {t:T3} {a:Addr} (i:TK prog w s.heap t a) (h:Q true s):wpAny [5] A (hashByValue 8 (.ref a)) Q E s:=by
 have ty:=i.typeIs;obtain ⟨o,t1,t2,t3,n,e1,e2,e3⟩:=i.items;unfold hashByValue;refine wpAny_bind (wpAny_specialOf ty F.slot_tuple_hash.lookup ?_);show wpAny _ _ (seqItems? (.ref a) >>= _) _ _ s;refine wpAny_bind (wpAny_seqItems e1 e3 ?_);refine wpAny_bind ?_;show wpAny _ _ (forIn #[Value.int t.1 t1,.int t.2.1 t2,.int t.2.2 t3] _ _) _ _ s;rw [<- Array.forIn_toList];refine wpAny_forIn_list _ (λ rest r s'=>r.1=none /\ s'=s /\ ∀ v ∈ rest,∃ i t,v=Value.int i t) _ ?_ ?_ _ _ ⟨rfl,rfl,by simp⟩
 ·rintro v rest r s' ⟨hr,rfl,hall⟩;obtain ⟨j,tk,rfl⟩:=hall v mem_cons_self;have hq:hashByValue 7 (.int j tk)=pure true:=by rfl
  rw [hq];refine wpAny_bind (wpAny_pure ?_);simp only [Bool.not_true,Bool.false_eq_true,if_false];exact wpAny_pure ⟨rfl,rfl,λ u hu'=>hall u (mem_cons_of_mem _ hu')⟩
 ·rintro ⟨r1,r2⟩ s' ⟨hr,rfl,_⟩;simp only at hr;subst hr;exact wpAny_pure h
end
noncomputable def bT (prog:Program) (w:World):Bool:=[5].w.params.followText "set-order"
noncomputable abbrev ent (hf:T3->Int) (x:T3 × Addr):Int × Value:=(hf x.1,.ref x.2)
structure SetIs (prog:Program) (w:World) (hf:T3->Int) (h:Heap) (a:Addr) (o:Obj) (es:Array (Int × Value)) (ep:Nat) (t:SetTable) (xs:List (T3 × Addr)):Prop where
 ho:h.get? a=some o
 ex:o.ExactSet
 hd:o.data=.set es ep t
 el:es.toList=xs.map (ent hf)
 ks:∀ x ∈ xs,TK prog w h x.1 x.2
 nd:(xs.map (·.1)).Nodup
 ok:TOk t (xs.map λ x=>hf x.1)
 rm:t.fill<=t.mask
 pl:t.plain=true
 le:t.led = !bT prog w
variable {o:Obj} {es:Array (Int × Value)} {ep n:Nat} {xs:List (T3 × Addr)} {hf:T3->Int} {d:Option Nat} {adding:Bool}
section
variable {a:Addr} {t:SetTable} 
theorem SetIs.at (S:SetIs prog w hf h a o es ep t xs) (i:Nat):es[i]?=(xs[i]?).map (ent hf):=by rw [<- getElem?_toList,S.el,getElem?_map]
theorem SetIs.size {h:Heap} (S:SetIs prog w hf h a o es ep t xs):es.size=xs.length:=by rw [<- length_toList,S.el,length_map]
theorem SetIs.fits {h:Heap} (S:SetIs prog w hf h a o es ep t xs):t.fits es.size=true:=by
 have h1:=S.ok.sz;have h2:=S.size;have h3:=S.rm;rw [length_map] at h1;simp [SetTable.fits,h1,h2,h3]
theorem SetIs.odd (S:SetIs prog w hf h a o es ep t xs):t.gaveWay=false:=by
 have:∀ m ∈ okM,(m % 2 == 0)=false:=by decide
 exact this _ S.ok.msk
theorem yy1 {f:Nat->Int} {h:Int} {hs:List Int} {r:Option SetTable.Met} (k:TOk t hs) (rm:t.fill<=t.mask) (kd:DumOk t h d n) (e:t.probe f h { trS t.mask h n with dummy:=d }=r) :
    (∃ m d',r=some (.empty (tr t.mask h m) d') /\ n<=m /\ t.slot (tr t.mask h m)=.empty /\ Sk t f h n m /\ DumOk t h d' m) ∨
    (∃ m i d',r=some (.candidate (tr t.mask h m) i { trS t.mask h (m + 1) with dummy:=d' }) /\ n<=m /\ t.slot (tr t.mask h m)=.live i /\ f i=h /\ Sk t f h n m /\ DumOk t h d' m):=by
 subst e;exact k.probe rm f h n d kd
noncomputable def Hist (hf:T3->Int) (t:SetTable) (xs:List (T3 × Addr)) (k:T3) (n:Nat):Prop:=∀ l,l < n->t.slot (tr t.mask (hf k) l) ≠ .empty /\ ∀ i,t.slot (tr t.mask (hf k) l)=.live i->∀ x,xs[i]?=some x->x.1 ≠ k
theorem yj1 {b:Addr} {Q:SetFound->Shared->Prop} (hu:A.units < cLine) (S:SetIs prog w hf s.heap a o es ep t xs) (hk:TK prog w s.heap k b)
    (found:∀ i b',xs[i]?=some (k,b')->Q (.there (if adding then none else some i)) s)
    (free:∀ sl wd,k ∉ xs.map (·.1)->sl ∉ t.place.toList->(∃ m,tr t.mask (hf k) m=sl /\ ∀ l,l < m->Occ t (tr t.mask (hf k) l))->(wd=true->t.slot sl=.dummy)->Q (.free sl wd) s)
    {fuel:Nat} {stand:Option SetTable.Probe} (kd:DumOk t (hf k) d n) (hist:Hist hf t xs k n) (st:stand.getD (t.probeStart (hf k))={ trS t.mask (hf k) n with dummy:=d })
    (ih:∀ (n':Nat) (d':Option Nat) (stand':Option SetTable.Probe),n < n'->DumOk t (hf k) d' n'->Hist hf t xs k n'->stand'.getD (t.probeStart (hf k))={ trS t.mask (hf k) n' with dummy:=d' } ->
     wpAny [5] A (setSearchFrom a (.ref b) (hf k) adding fuel stand') Q E s) :
    wpAny [5] A (setSearchFrom a (.ref b) (hf k) adding (fuel + 1) stand) Q E s:=by
 have hist':∀ {f:Nat->Int} {m:Nat},(∀ i,f i=((es[i]?).map (·.1)).getD 0)->Sk t f (hf k) n m->∀ l,l < m->t.slot (tr t.mask (hf k) l) ≠ .empty /\ ∀ i,t.slot (tr t.mask (hf k) l)=.live i->∀ x,xs[i]?=some x->x.1 ≠ k:=λ {f m} hf sk l hl=>by
  by_cases c:l < n
  ·exact hist l c
  ·obtain ⟨b1,b2⟩:=sk l [2] hl;refine ⟨b1,λ i e x hx z=>b2 i e ?_⟩;rw [hf,S.at,hx,Option.map_some,Option.map_some,Option.getD_some,<- z]
 rcases yy1 S.ok S.rm kd rfl with ⟨m,d',e,a1,a2,a3,a4⟩ | ⟨m,i,d',e,a1,a2,a3,a4,a5⟩
 ·have H:=hist' (λ _=>rfl) a3
  have nk:k ∉ xs.map (·.1):=λ z=>by
   obtain ⟨x,hx,ek⟩:=List.mem_map.mp z;obtain ⟨i,hi⟩:=List.mem_iff_getElem?.mp hx;have hlt:i < t.place.size:=by rw [S.ok.sz,length_map]; exact (List.getElem?_eq_some_iff.mp hi).1
   have hp:t.place[i]?=some t.place[i]:=Array.getElem?_eq_getElem hlt;obtain ⟨m',q1,q2⟩:=S.ok.reach i _ (hf k) hp (by simp_all);have hl:=(we1 S.ok.ris).mpr hp;rw [<- q1] at hl;by_cases c:m' < m
   ·exact (H m' c).2 i hl x hi ek
   ·by_cases c2:m=m'
    ·simp_all
    ·exact (S.ok.occ _).mp (q2 m [2]) a2
  have oc:∀ l,l < m->Occ t (tr t.mask (hf k) l):=λ l hl=>(S.ok.occ _).mpr (H l hl).1;unfold setSearchFrom;refine wpAny_bind (wpAny_setState_of S.ho S.hd S.fits ?_);dsimp only;rw [S.odd,st];simp only [Bool.false_eq_true,if_false];split
  rotate_left
  ·next hne=>exact (hne _ e).elim
  next met heq =>
  cases (heq.symm.trans e:some met=_);dsimp only;cases d' with
  | none=>exact wpAny_pure (free _ false nk ((yx0 S.ok.ris S.ok.rid).mp a2).1 ⟨m,rfl,oc⟩ (λ z=>by cases z))
  | some x =>
   obtain ⟨l,b1,b2,b3⟩:=a4 x rfl;dsimp only;rw [b3];simp only [bne_self_eq_false,Bool.and_false,Bool.false_eq_true,if_false];refine wpAny_pure (free x true nk (S.ok.dj x ((zx0 S.ok.ris S.ok.rid (S.ok.dj x)).mp b3)) ⟨l,b2,λ l' hl=>oc l' [2]⟩ (λ _=>b3))
 ·have H:=hist' (λ _=>rfl) a4;have hp:=(we1 S.ok.ris).mp a2;have hlt:i < xs.length:=by have:=(Array.getElem?_eq_some_iff.mp hp).1; rw [S.ok.sz,length_map] at this; exact this
  obtain ⟨x,hx⟩:∃ x,xs[i]?=some x:=⟨_,getElem?_eq_getElem hlt⟩;have he:es[i]?=some (ent hf x):=by rw [S.at,hx]; rfl
  have hkx:=S.ks x (mem_of_getElem? hx);have sm:t.sameMemory t.moves t.mask=some true:=by unfold SetTable.sameMemory; simp
  have sto:∀ v ∈ List.map (λ x=>x.snd) (Array.filter (λ x=>x.fst == hf k) es).toList,∃ t a,v=.ref a /\ TK prog w s.heap t a:=λ v hv=>by
   obtain ⟨y,hy,rfl⟩:=List.mem_map.mp hv
   have hy':y ∈ es.toList:=by
    simp_all
   rw [S.el] at hy';obtain ⟨z,hz,rfl⟩:=List.mem_map.mp hy';exact ⟨z.1,z.2,rfl,S.ks z hz⟩
  unfold setSearchFrom;refine wpAny_bind (wpAny_setState_of S.ho S.hd S.fits ?_);dsimp only;rw [S.odd,st];simp only [Bool.false_eq_true,if_false];split
  rotate_left
  ·next hne=>exact (hne _ e).elim
  next met heq =>
  cases (heq.symm.trans e:some met=_);dsimp only;split
  ·refine wpAny_bind (xm3 hk sto ?_);simp only [Bool.false_eq_true,if_false];rw [he];dsimp only;refine wpAny_bind (wpAny_holding (wpAny_eqBool_tuple hu hkx hk ?_));refine wpAny_bind (wpAny_setState_of S.ho S.hd S.fits ?_);dsimp only;by_cases c:x.1=k
   ·rw [decide_eq_true (congrArg kI c)];have fd:=found i x.2 (by rw [hx,<- c]);cases adding
    ·rw [sm];simp only [Bool.false_and,Bool.false_eq_true,if_false,if_true];rw [a2];dsimp only;rw [he];dsimp only;refine wpAny_bind (ys0 (wpAny_bind (wpAny_pure ?_)));exact wpAny_pure fd
    ·exact wpAny_pure fd
   ·rw [decide_eq_false (λ z=>c (xe3 z)),sm];simp only [Bool.and_false,Bool.false_eq_true,if_false,if_true];rw [a2];dsimp only;rw [he];dsimp only;refine wpAny_bind (ys0 (wpAny_bind (wpAny_pure ?_)));refine ih (m + 1) d' _ [2] (a5.up (Nat.le_succ _)) (λ l hl=>?_) rfl;by_cases c2:l < m
    ·exact H l c2
    ·have:l=m:=by omega
     subst this;refine ⟨(by simp_all),λ i' z y hy=>?_⟩
     simp_all
  ·rw [he];dsimp only;refine wpAny_bind (wpAny_holding (wpAny_eqBool_tuple hu hkx hk ?_));refine wpAny_bind (wpAny_setState_of S.ho S.hd S.fits ?_);dsimp only;by_cases c:x.1=k
   ·rw [decide_eq_true (congrArg kI c)];have fd:=found i x.2 (by rw [hx,<- c]);cases adding
    ·rw [sm];simp only [Bool.false_and,Bool.false_eq_true,if_false,if_true];rw [a2];dsimp only;rw [he];dsimp only;refine wpAny_bind (ys0 (wpAny_bind (wpAny_pure ?_)));exact wpAny_pure fd
    ·exact wpAny_pure fd
   ·rw [decide_eq_false (λ z=>c (xe3 z)),sm];simp only [Bool.and_false,Bool.false_eq_true,if_false,if_true];rw [a2];dsimp only;rw [he];dsimp only;refine wpAny_bind (ys0 (wpAny_bind (wpAny_pure ?_)));refine ih (m + 1) d' _ [2] (a5.up (Nat.le_succ _)) (λ l hl=>?_) rfl;by_cases c2:l < m
    ·exact H l c2
    ·have:l=m:=by omega
     subst this;refine ⟨(by simp_all),λ i' z y hy=>?_⟩
     simp_all
theorem tw1 {b:Addr} {Q:SetFound->Shared->Prop} (hu:A.units < cLine) (S:SetIs prog w hf s.heap a o es ep t xs) (hk:TK prog w s.heap k b)
    (found:∀ i b',xs[i]?=some (k,b')->Q (.there (if adding then none else some i)) s)
    (free:∀ sl wd,k ∉ xs.map (·.1)->sl ∉ t.place.toList->(∃ m,tr t.mask (hf k) m=sl /\ ∀ l,l < m->Occ t (tr t.mask (hf k) l))->(wd=true->t.slot sl=.dummy)->Q (.free sl wd) s)
    (N:Nat) (hN:t.slot (tr t.mask (hf k) N)=.empty) (r:Nat):∀ (fuel n:Nat) (d:Option Nat) (stand:Option SetTable.Probe),N < n + r->r<=fuel->DumOk t (hf k) d n->Hist hf t xs k n ->
    stand.getD (t.probeStart (hf k))={ trS t.mask (hf k) n with dummy:=d } ->
    wpAny [5] A (setSearchFrom a (.ref b) (hf k) adding fuel stand) Q E s:=by
 induction r with
 | zero =>
  intro fuel n d stand h1 h2 kd hist st;exact absurd hN (hist N [2]).1
 | succ r ih =>
  intro fuel n d stand h1 h2 kd hist st;cases fuel with
  | zero=>omega
  | succ fuel=>exact yj1 hu S hk found free kd hist st λ n' d' stand' a1 a2 a3 a4=>ih fuel n' d' stand' [2] [2] a2 a3 a4
end
section
variable {a:Addr} {t:SetTable} 
theorem wb1:∀ m ∈ okM,7<=m /\ m<=4095:=by decide
theorem te1 {b:Addr} {Q:SetFound->Shared->Prop} (hu:A.units < cLine) (S:SetIs prog w hf s.heap a o es ep t xs) (hk:TK prog w s.heap k b)
    (found:∀ i b',xs[i]?=some (k,b')->Q (.there (if adding then none else some i)) s)
    (free:∀ sl wd,k ∉ xs.map (·.1)->sl ∉ t.place.toList->(∃ m,tr t.mask (hf k) m=sl /\ ∀ l,l < m->Occ t (tr t.mask (hf k) l))->(wd=true->t.slot sl=.dummy)->Q (.free sl wd) s) :
    wpAny [5] A (setSearch a (.ref b) (hf k) adding) Q E s:=by
 obtain ⟨e,he,ee⟩:=S.ok.hole S.rm;obtain ⟨N,_,h2,h3⟩:=vl1 S.ok.msk (hf k) 0 he;have hm:=wb1 _ S.ok.msk;unfold SetTable.turns at h2;unfold setSearch;refine tw1 hu S hk found free N (by rw [h3]; exact ee) (N + 1) _ 0 none none [2] [2] (λ x z=>by cases z) (λ l hl=>absurd hl (Nat.not_lt_zero _)) ?_;rfl
theorem zm3 (b:Addr) (es:Array (Int × Value)):byScan (.ref b) es=false:=by rfl
theorem SetIs.store (S:SetIs prog w hf h a o es ep t xs) {xs':List (T3 × Addr)} {es':Array (Int × Value)} {t':SetTable} (el:es'.toList=xs'.map (ent hf)) (ks:∀ x ∈ xs',TK prog w h x.1 x.2) (nd:(xs'.map (·.1)).Nodup)
    (ok:TOk t' (xs'.map λ x=>hf x.1)) (rm:t'.fill<=t'.mask) (pl:t'.plain=true) (le:t'.led = !bT prog w) :
    SetIs prog w hf (h.update a (Obj.putSet es' t')) a { o with data:=.set es' (ep + 1) t' } es' (ep + 1) t' xs':=by
 have hg:(h.update a (Obj.putSet es' t')).get? a=some { o with data:=.set es' (ep + 1) t' }:=by
  have:=Heap.get?_update_self (Obj.putSet es' t') S.ho (by rw [putSet_of es' t' S.hd]; rfl);rw [putSet_of es' t' S.hd] at this; exact this
 refine ⟨hg,S.ex,rfl,el,λ x hx=>(ks x hx).kept λ o' e1 e2=>?_,nd,ok,rm,pl,le⟩;rw [Heap.get?_update_ne _ _ _ _ (λ z=>?_)]
 ·exact e1
 ·rw [z,S.ho] at e1;cases e1;rw [S.ex.1] at e2;trivial
theorem wp_eq {α β:Type} {m m':Sem α} {g:α->Sem β} {Q:β->Shared->Prop} (e:m=m') (h:wpAny [5] A (m' >>= g) Q E s):wpAny [5] A (m >>= g) Q E s:=by rw [e]; exact h
theorem vt3 {mk fi mo:Nat} {le pl:Bool} (m1:mk ∈ okM) (hl:xs.length<=mk + 1) (eel:es.toList=xs.map (ent hf)) :
    ∃ t' order,∃ xs':List (T3 × Addr),SetTable.laid mk fi mo le pl (es.map (·.1))=some (t',order) /\ (order.filterMap λ k=>es[k]?).toList=xs'.map (ent hf) /\ xs'.Perm xs /\ (order.filterMap λ k=>es[k]?).size=es.size /\ TOk t' (xs'.map λ x=>hf x.1) /\ t'.mask=mk /\ t'.dummies = #[] /\ t'.led=le /\ t'.plain=pl:=by
 have sz:es.size=xs.length:=by rw [<- length_toList,eel,length_map]
 have hat:∀ i:Nat,es[i]?=(xs[i]?).map (ent hf):=λ i=>by rw [<- getElem?_toList,eel,getElem?_map]
 obtain ⟨t',order,e1,e2,e3,e4,e5,e6,e7,e8,e9⟩:=ut3 m1 (es.map (·.1)) (by simp_all) fi mo le pl;rw [Array.size_map,sz] at e8;have olt:∀ k ∈ order.toList,k < xs.length:=λ k hk=>List.mem_range.mp (e8.mem_iff.mp hk);obtain ⟨d⟩:Nonempty (T3 × Addr):=⟨((0,0,0),0)⟩
 have fm:∀ (l:List Nat),(∀ k ∈ l,k < xs.length)->l.filterMap (λ k=>es[k]?)=(l.map λ k=>xs.getD k d).map (ent hf):=λ l=>by
  induction l with
  | nil=>intro _; rfl
  | cons k l ih =>
   simp_all
 have fm':(order.filterMap λ k=>es[k]?).toList=(order.toList.map λ k=>xs.getD k d).map (ent hf):=by simp_all
 have pm:(order.toList.map λ k=>xs.getD k d).Perm xs:=by
  refine (e8.map _).trans (List.Perm.of_eq ?_);apply List.ext_getElem
  ·simp
  simp_all
 have hz:(order.filterMap λ k=>es[k]?).size=es.size:=by rw [<- length_toList,fm',length_map,pm.length_eq,sz]
 have hok:TOk t' ((order.toList.map λ k=>xs.getD k d).map λ x=>hf x.1):=by
  have:(order.toList.map λ k=>(es.map (·.1)).getD k 0)=(order.toList.map λ k=>xs.getD k d).map λ x=>hf x.1:=by
   simp_all
  rw [<- this];exact e9
 exact ⟨t',order,_,e1,fm',pm,hz,hok,e2,e3,e4,e5⟩
theorem ux1 {Q:Unit->Shared->Prop} {wd:Nat} (S:SetIs prog w hf s.heap a o es ep t xs) (m1:SetTable.sizeAbove wd - 1 ∈ okM) (m2:xs.length * 5 < (SetTable.sizeAbove wd - 1) * 3) (m3:SetTable.sizeAbove wd<=2048)
    (h:∀ h' o' es' ep' t' xs',Heap.SameBut a s.heap h'->SetIs prog w hf h' a o' es' ep' t' xs'->xs'.Perm xs->t'.fill * 5 < t'.mask * 3->t'.mask=SetTable.sizeAbove wd - 1->t'.dummies = #[]->Q () { s with heap:=h' }) :
    wpAny [5] A (setRelay a wd) Q E s:=by
 have sz:=S.size;have mm:=wb1 _ m1;have sl:SetTable.sizeAbove wd<=sizeLine:=by rw [sizeLine_eq]; omega
 obtain ⟨t',order,xs',e1,fm',pm,hz,hok,e2,e3,e4,e5⟩:=vt3 (fi:=t.finger) (mo:=t.movedTo (SetTable.sizeAbove wd - 1)) (le:=t.led) (pl:=t.plain) m1 [2] S.el;have el:t.relaid (es.map (·.1)) wd=some (t',order):=e1
 have rm:t'.fill * 5 < t'.mask * 3:=by
  have h1:=hok.sz;rw [length_map,pm.length_eq] at h1;unfold SetTable.fill
  simp_all
 have hm:=wb1 _ hok.msk;unfold setRelay;refine wpAny_bind (wpAny_setState_of S.ho S.hd S.fits ?_);dsimp only;rw [if_neg [2],el];refine wp_eq (m':=if ((order.filterMap λ k=>es[k]?).size != es.size)=true then (unsupported "internal:set-table-lost-an-element" >>= λ (_:PUnit)=>pure ((order.filterMap λ k=>es[k]?),t')) else pure ((order.filterMap λ k=>es[k]?),t')) rfl ?_;rw [hz];simp only [bne_self_eq_false,Bool.false_eq_true,if_false];refine wpAny_bind (wpAny_pure (wpAny_storeSet_of S.ho S.hd ?_ (by simp_all;omega)));exact h _ _ _ _ _ _ (Heap.SameBut.update _ a _) (S.store fm' (λ x hx=>S.ks x (pm.mem_iff.mp hx)) ((pm.map _).nodup_iff.mpr S.nd) hok (show t'.fill<=t'.mask by omega) (by rw [e5]; exact S.pl) (by rw [e4]; exact S.le)) pm rm e2 e3
theorem yr2 {Q:Unit->Shared->Prop} (S:SetIs prog w hf s.heap a o es ep t xs) (hn:xs.length < 512) (en:n=xs.length)
    (h:∀ h' o' es' ep' t' xs',Heap.SameBut a s.heap h'->SetIs prog w hf h' a o' es' ep' t' xs'->xs'.Perm xs->t'.fill * 5 < t'.mask * 3->Q () { s with heap:=h' }) :
    wpAny [5] A (setRelay a (n * 4)) Q E s:=by
 subst en;obtain ⟨m1,m2,m3⟩:=ue1 _ hn;exact ux1 S m1 m2 m3 λ h' o' es' ep' t' xs' q1 q2 q3 q4 _ _=>h h' o' es' ep' t' xs' q1 q2 q3 q4
noncomputable def SetG (prog:Program) (w:World) (hf:T3->Int) (h:Heap) (a:Addr) (xs:List (T3 × Addr)):Prop:=∃ o es ep t,SetIs prog w hf h a o es ep t xs /\ t.fill * 5 < t.mask * 3
theorem add_t3 {b:Addr} (hu:A.units < cLine) (S:SetG prog w hf s.heap a xs) (hk:TK prog w s.heap k b) (hn:xs.length + 1 < 512)
    (old:k ∈ xs.map (·.1)->Q false s)
    (new:k ∉ xs.map (·.1)->∀ h' xs',Heap.SameBut a s.heap h'->SetG prog w hf h' a xs'->xs'.Perm ((k,b) :: xs)->Q true { s with heap:=h' }):wpAny [5] A (setAddHashed a (.ref b) (hf k)) Q E s:=by
 obtain ⟨o,es,ep,t,S,rm5⟩:=S;have hm:=wb1 _ S.ok.msk;have sz:=S.size;unfold setAddHashed setAddHashedIn;refine wpAny_holding (wpAny_bind (wpAny_setState_of S.ho S.hd S.fits ?_));dsimp only;rw [zm3];simp only [Bool.false_eq_true,if_false];refine wpAny_bind (te1 hu S hk (λ i b' e=>?_) λ sl wd nk ns rc wdd=>?_)
 ·exact wpAny_pure (old (List.mem_map.mpr ⟨_,mem_of_getElem? e,rfl⟩))
 ·dsimp only;refine wpAny_bind (wpAny_setState_of S.ho S.hd S.fits ?_);dsimp only;have ok':=S.ok.put ns rc;have f1:=vr2 S.ok (x:=sl);have pl':(t.put sl).1.plain=true:=S.pl;have mk':(t.put sl).1.mask=t.mask:=rfl;rw [pl'];simp only [if_true];refine wpAny_bind (tx2 hk ?_);simp only [if_true]
  have el':(SetTable.insertAt es (t.put sl).2 (hf k,Value.ref b)).toList=(insL xs (SetTable.below t.place sl) (k,b)).map (ent hf):=by
   rw [SetTable.toList_insertAt,wp1,S.el];rfl
  have pm:(insL xs (SetTable.below t.place sl) (k,b)).Perm ((k,b) :: xs):=by
   unfold insL;exact List.perm_middle.trans (List.Perm.cons _ (List.Perm.of_eq (take_append_drop _ _)))
  have sz':(SetTable.insertAt es (t.put sl).2 (hf k,Value.ref b)).size=xs.length + 1:=by rw [<- length_toList,el',length_map,si0]
  have S':=S.store el' (λ x hx=>by
   rcases (us0 _ _ _ _).mp hx with rfl | hx
   ·exact hk
   ·exact S.ks x hx) ((pm.map _).nodup_iff.mpr (List.nodup_cons.mpr ⟨nk,S.nd⟩)) (by rw [wp1]; exact ok') (by rw [mk']; omega) pl' S.le
  refine wpAny_bind (wpAny_storeSet_of S.ho S.hd ?_ (by rw [sz',sizeLine_eq]; omega));have sb:=Heap.SameBut.update s.heap a (Obj.putSet (SetTable.insertAt es (t.put sl).2 (hf k,Value.ref b)) (t.put sl).1);split
  ·next c =>
   have gr:SetTable.grown (es.size + 1)=(xs.length + 1) * 4:=by unfold SetTable.grown; simp_all;omega
   rw [gr];refine wpAny_bind (yr2 S' (by rw [si0]; omega) (by rw [si0]) λ h' o' es' ep' t' xs' q1 q2 q3 q4=>wpAny_pure ?_);exact new nk h' xs' (sb.trans q1) ⟨_,_,_,_,q2,q4⟩ (q3.trans pm)
  ·next c =>
   refine wpAny_pure (new nk _ _ sb ⟨_,_,_,_,S',?_⟩ pm);cases wd with
   | true =>
    have f2:=ss1 S.ok (wdd rfl);omega
   | false =>
    simp only [Bool.not_false,Bool.true_and,SetTable.tooFull,decide_eq_true_eq] at c;omega
end
noncomputable def Got (P:Nat->Value->Prop) (ks:Nat->T3) (i:Nat) (xs:List (T3 × Addr)):Prop:=(∀ x ∈ xs,∃ j,j < i /\ P j (.ref x.2) /\ ks j=x.1) /\ ∀ j,j < i->ks j ∈ xs.map (·.1)
noncomputable def KpH (h h':Heap):Prop:=∀ b o,h.get? b=some o->h'.get? b=some o
variable {P:Nat->Value->Prop} {ks:Nat->T3} {i:Nat}
section
variable {R:Result->Shared->Prop} 
theorem SetG.nd {h:Heap} {a:Addr} {xs:List (T3 × Addr)} (S:SetG prog w hf h a xs):(xs.map (·.1)).Nodup:=by
 obtain ⟨o,es,ep,t,S,_⟩:=S;exact S.nd
theorem SetG.keep {a:Addr} (S:SetG prog w hf h a xs) (k1:∀ o,h.get? a=some o->h'.get? a=some o) (k2:∀ x ∈ xs,TK prog w h' x.1 x.2):SetG prog w hf h' a xs:=by
 obtain ⟨o,es,ep,t,S,q⟩:=S;exact ⟨o,es,ep,t,⟨k1 o S.ho,S.ex,S.hd,S.el,k2,S.nd,S.ok,S.rm,S.pl,S.le⟩,q⟩
theorem Got.len (g:Got P ks i xs) (hi:i<=n) (nd:(xs.map (·.1)).Nodup) (B:∀ l:List T3,l.Nodup->(∀ x ∈ l,∃ j,j < n /\ ks j=x)->l.length < 511):xs.length < 511:=by
 have:=B _ nd λ x hx=>by
  obtain ⟨y,hy,rfl⟩:=List.mem_map.mp hx;obtain ⟨j,h1,_,h2⟩:=g.1 y hy;exact ⟨j,by omega,h2⟩
 simp_all
theorem zl1 {I S:Addr} {fp wr:List Addr} {St:Nat->Heap->Prop} {h0:Heap} (W:Walks prog w A.in1 I fp wr n P St) (hS:S ∉ fp) (ua:A.units + 1 < cLine)
    (low:∀ b ∈ S :: wr,h0.objs.size<=b) (hv:∀ i v,i < n->P i v->∃ b,v=.ref b /\ TK prog w h0 (ks i) b) (B:∀ l:List T3,l.Nodup->(∀ x ∈ l,∃ j,j < n /\ ks j=x)->l.length < 511) :
    ∀ (k i:Nat) (s:Shared) (xs:List (T3 × Addr)),n - i=k->i<=n->St i s.heap->KpH h0 s.heap->SetG prog w (hT prog w) s.heap S xs->Got P ks i xs ->
     (∀ h' tk xs',KpH h0 h'->SetG prog w (hT prog w) h' S xs'->Got P ks n xs'->R (.ok (.ret .none)) { s with heap:=h',toks:=tk }) ->
     codeAny [5] A (.builtin "set.update.loop" ⟨[.ref S,.ref I],[]⟩) R s:=by
 have nw:S ∉ wr:=λ h=>hS (W.sub _ h)
 have nl:∀ {b:Addr} {o:Obj},h0.get? b=some o->b ∉ wr /\ b ≠ S:=λ {b o} e =>
  ⟨λ z=>absurd (Heap.lt_size e) (Nat.not_lt.mpr (low b (mem_cons_of_mem _ z))),λ z=>absurd (Heap.lt_size e) (Nat.not_lt.mpr (low b (by simp_all)))⟩
 have tkk:∀ {i:Nat} {xs:List (T3 × Addr)} {h:Heap},i<=n->Got P ks i xs->KpH h0 h->∀ x ∈ xs,TK prog w h x.1 x.2:=λ {i xs h} hi g k x hx=>by
  obtain ⟨j,a1,a2,a3⟩:=g.1 x hx;obtain ⟨b,e,t⟩:=hv j _ [2] a2;cases e;rw [<- a3];exact t.kept λ o e _=>k _ o e
 intro k
 induction k with
 | zero =>
  intro i s xs hk hi st kp sg g q;have:i=n:=by omega
  subst this;refine codeAny_builtin F.entry_set_update_loop ?_;rw [Around.under_plainId F.plain_set_update_loop _];show wpAny _ A.in1 (pyNext (.ref I) >>= _) _ _ s;refine wpAny_bind (W.done s _ _ st λ h1 tk km=>?_);show wpAny _ A.in1 (ret Value.none) _ _ _;have kp1:KpH h0 h1:=λ b o e=>km b o (nl e).1 (kp b o e);exact wpAny_pure (q h1 tk xs kp1 (sg.keep (λ o e=>km S o nw e) (tkk hi g kp1)) g)
 | succ k ih =>
  intro i s xs hk hi st kp sg g q;have lt:i < n:=by omega
  refine codeAny_builtin F.entry_set_update_loop ?_;rw [Around.under_plainId F.plain_set_update_loop _];show wpAny _ A.in1 (pyNext (.ref I) >>= _) _ _ s;refine wpAny_bind (W.item i s _ _ lt st λ v h1 tk hP st1 km=>?_);obtain ⟨b,rfl,tb0⟩:=hv i v lt hP;have kp1:KpH h0 h1:=λ b o e=>km b o (nl e).1 (kp b o e);have tb:TK prog w h1 (ks i) b:=tb0.kept λ o e _=>kp1 b o e;have sg1:SetG prog w (hT prog w) h1 S xs:=sg.keep (λ o e=>km S o nw e) (tkk hi g kp1);have ln:=g.len hi sg.nd B;show wpAny _ A.in1 (holding [Value.ref b] (setAdd S (.ref b)) >>= _) _ _ _;refine wpAny_bind (wpAny_holding ?_);unfold setAdd;refine wpAny_holding ?_;refine wpAny_bind (wu3 (s:={ s with heap:=h1,toks:=tk }) ua tb λ tk2=>?_);refine add_t3 (hf:=hT prog w) (s:={ s with heap:=h1,toks:=tk2 }) ua sg1 tb [2] (λ old=>?_) (λ new h2 xs2 sb sg2 pm=>?_)
  ·refine wpAny_pure ⟨plainId_quiet F.plain_set_update_loop _,ih (i + 1) { s with heap:=h1,toks:=tk2 } xs [2] lt st1 kp1 sg1 ?_ λ h' tk' xs' a b c=>q h' tk' xs' a b c⟩;refine ⟨λ x hx=>?_,λ j hj=>?_⟩
   ·obtain ⟨j,a1,a2⟩:=g.1 x hx;exact ⟨j,by omega,a2⟩
   ·by_cases c:j < i
    ·exact g.2 j c
    ·have:j=i:=by omega
     simp_all
  ·have kp2:KpH h0 h2:=λ b o e=>by rw [sb.2 b (nl e).2]; exact kp1 b o e
   refine wpAny_pure ⟨plainId_quiet F.plain_set_update_loop _,ih (i + 1) { s with heap:=h2,toks:=tk2 } xs2 [2] lt (W.frame _ h1 _ st1 λ b hb o e=>?_) kp2 sg2 ?_ λ h' tk' xs' a b c=>q h' tk' xs' a b c⟩
   ·rw [sb.2 b (λ z=>hS (by simp_all))]; exact e
   ·refine ⟨λ x hx=>?_,λ j hj=>?_⟩
    ·rcases List.mem_cons.mp (pm.mem_iff.mp hx) with rfl | hx
     ·exact ⟨i,by omega,hP,rfl⟩
     ·obtain ⟨j,a1,a2⟩:=g.1 x hx;exact ⟨j,by omega,a2⟩
    ·refine (pm.map (·.1)).mem_iff.mpr ?_;by_cases c:j < i
     ·exact mem_cons_of_mem _ (g.2 j c)
     ·have:j=i:=by omega
      simp_all
noncomputable def nset (b:Bool):Obj:={ cls:=.type "set",dict:=none,data:=.set #[] 0 (.fresh 0 0 b) }
theorem uw1 (v:Value) {Q1:[8]} (h:Q1 (.ref s.heap.objs.size) { s with heap:=s.heap.push (nset (!bT prog w)) }):codeAny [5] A (.call (.builtin "set.__new__") ⟨[.type "set",v],[]⟩) (wants Q1 E) s:=by
 refine codeAny_of_tree ?_;show wpAny _ A.in1 (do checkBuiltinCall "set.__new__" ⟨[.type "set",v],[]⟩; again (.builtin "set.__new__" ⟨[.type "set",v],[]⟩)) _ _ s;refine wpAny_bind (wpAny_of_eq (F.newCall_set_1 v) (wpAny_pure ⟨plainId_quiet F.plain_set_new _,codeAny_builtin F.entry_set_new ?_⟩));rw [Around.under_plainId F.plain_set_new _]; unfold Builtin.«set.__new__» Builtin.Frozenset.newClass;have ss:=sub_set_self;obtain ⟨hp,g,d,tk,os⟩:=s;dsimp only; wp_walk;refine wpAny_askSetting (wpAny_pure ?_); dsimp only; simp only [newObj];refine wpAny_bind (wpAny_alloc (wpAny_pure ?_)); exact wpAny_pure h
theorem set0 {a:Addr} (e:h.get? a=some (nset (!bT prog w))):SetG prog w hf h a []:=by
 refine ⟨_,#[],0,.fresh 0 0 (!bT prog w),⟨e,?_,rfl,rfl,(λ x hx=>nomatch hx),List.nodup_nil,?_,(show 0<=7 by decide),rfl,rfl⟩,(show 0 * 5 < 7 * 3 by decide)⟩
 ·trivial
 ·refine ⟨by simp [Rise,SetTable.fresh],by simp [Rise,SetTable.fresh],(λ j h=>by trivial),(λ j h=>by trivial),(λ j h=>by trivial),(show 7 ∈ okM by decide),rfl,(λ i j h z=>by trivial)⟩
theorem uw0:isSubtype (.type "tuple") (.type "set")=pure false:=by rfl
theorem vp0:isSubtype (.type "tuple") (.type "frozenset")=pure false:=by rfl
theorem tz0 {l:Addr} {items:Array Value} {Q:[8]} (hh:A.handled=none) (hu:A.units + 16 < cLine) (hl:s.heap.IsList l items)
    (hi:∀ i v,i < items.size->items[i]?=some v->∃ b,v=.ref b /\ TK prog w s.heap (ks i) b) (B:∀ l:List T3,l.Nodup->(∀ x ∈ l,∃ j,j < items.size /\ ks j=x)->l.length < 511)
    (h:∀ (h':Heap) (tk:Nat) xs,KpH s.heap h'->SetG prog w (hT prog w) h' s.heap.objs.size xs->Got (λ i v=>items[i]?=some v) ks items.size xs->Q (.ref s.heap.objs.size) { s with heap:=h',toks:=tk }) :
    wpAny [5] A (call (.type "set") [.ref l]) Q E s:=by
 obtain ⟨c,tl,emro⟩:=F.called_set.mro;have e0:=F.called_set.made;have e1:=F.called_set.sub;refine wpAny_call (codeAny_of_tree ?_); show wpAny _ _ (callAny (.type "set") _) _ _ _;refine wpAny_pure ⟨Code.quiet_builtin _ (by decide +kernel),codeAny_builtin F.entry_type_call ?_⟩; rw [Around.under_plain (weight_type_call_type "set" [.ref l] []) rfl];have e2:=F.called_set.notType;have e3:=F.called_set.canCreate;have e4:=F.typeCall_set_1 (.ref l)
 repeat (any_goals (first | assumption | wp_step))
 refine codeAny_mono (uw1 (.ref l) (E:=E) (Q1:=λ obj s1=>obj=.ref s.heap.objs.size /\ s1={ s with heap:=s.heap.push (nset (!bT prog w)) }) ⟨rfl,rfl⟩) λ r s1 hr=>?_;cases r with
 | error e=>exact hr
 | ok fl =>
  cases fl with
  | ret obj =>
   obtain ⟨rfl,rfl⟩:=hr;have gS:(s.heap.push (nset (!bT prog w))).get? s.heap.objs.size=some (nset (!bT prog w)):=Heap.get?_push_size _ rfl;have tS:Shared.TypeIs { s with heap:=s.heap.push (nset (!bT prog w)) } (.ref s.heap.objs.size) "set" := ⟨_,gS,rfl⟩;have e5:=F.called_set.init.lookup;have e6:=F.called_set.init.bind (.ref s.heap.objs.size)
   repeat (any_goals (first | assumption | wp_step))
   refine codeAny_mono (codeAny_call_builtin (R:=wants (λ r s2=>r=.none /\ ∃ h' tk xs,s2={ s with heap:=h',toks:=tk } /\ KpH s.heap h' /\ SetG prog w (hT prog w) h' s.heap.objs.size xs /\ Got (λ i v=>items[i]?=some v) ks items.size xs) E) F.called_set.init.plain F.entry_set_init (check_set_init_1 tS ?_)) λ r2 s2 hr2=>?_
   ·obtain ⟨ol,gl,cl,nl,dl⟩:=hl;obtain ⟨ocls,odict,odata,oslots⟩:=ol;simp only at cl dl;subst cl; subst dl;have gl':(s.heap.push (nset (!bT prog w))).get? l=some { cls:=.type "list",dict:=odict,data:=.seq items nl,slots:=oslots }:=Heap.get?_push_of_some _ gl;have f1:=F.sub_list_set;have f2:=F.sub_list_frozenset;have f3:(Value.type "list" == Value.type "dict")=false:=by decide
    have il:(s.heap.push (nset (!bT prog w))).IsList l items:=⟨_,gl',rfl,nl,rfl⟩;unfold Builtin.«set.__init__» noKeywords Builtin.Frozenset.updateFrom;generalize hPI:pyIter=PI
    wp_walk
    subst hPI; refine wpAny_pyIter_list il ?_; refine wpAny_bind (wpAny_runValue ?_);have ls:l < s.heap.objs.size:=Heap.lt_size gl;have z1:(s.heap.push (nset (!bT prog w))).objs.size=s.heap.objs.size + 1:=Heap.size_push ..;have ni:l ≠ (s.heap.push (nset (!bT prog w))).objs.size:=by rw [z1]; exact Nat.ne_of_lt (Nat.lt_succ_of_lt ls)
    refine zl1 (A:=A.in1.in1) (h0:=s.heap) (ks:=ks) (Walks.list (show A.in1.in1.in1.handled=none by simp [hh]) _ l ni items) (S:=s.heap.objs.size) ?_ (show A.units + 1 + 1 + 1 < cLine by omega) ?_ (λ i v lt e=>hi i v lt e) B (items.size - 0) 0 _ [] [2] (Nat.zero_le _) ?_ ?_ ?_ ?_ ?_
    ·rw [z1];intro z
     simp_all
    ·simp
    ·exact ⟨⟨_,Heap.get?_push_size _ rfl,rfl,rfl⟩,il.push _⟩
    ·exact λ b o e=>Heap.get?_push_of_some _ (Heap.get?_push_of_some _ e)
    ·exact set0 (Heap.get?_push_of_some _ gS)
    ·exact ⟨(λ x hx=>nomatch hx),λ j hj=>absurd hj (Nat.not_lt_zero _)⟩
    ·intro h' tk xs kp sg g;show wpAny _ _ _ _ _ _;refine wpAny_pure ?_;show wpAny _ _ (ret Value.none) _ _ _;exact wpAny_pure ⟨rfl,h',tk,xs,rfl,kp,sg,g⟩
   ·cases r2 with
    | error e=>exact hr2
    | ok fl2 =>
     cases fl2 with
     | ret r =>
      obtain ⟨rfl,h',tk,xs,rfl,kp,sg,g⟩:=hr2
      repeat (any_goals (first | assumption | wp_step))
      exact h _ _ _ kp sg g
     | _=>exact hr2.elim
  | _=>exact hr.elim
theorem vw1 {l:Addr} {items:Array Value} {Q:[8]} (hh:A.handled=none) (hu:A.units + 16 < cLine) (hl:s.heap.IsTuple l items)
    (hi:∀ i v,i < items.size->items[i]?=some v->∃ b,v=.ref b /\ TK prog w s.heap (ks i) b) (B:∀ l:List T3,l.Nodup->(∀ x ∈ l,∃ j,j < items.size /\ ks j=x)->l.length < 511)
    (h:∀ (h':Heap) (tk:Nat) xs,KpH s.heap h'->SetG prog w (hT prog w) h' s.heap.objs.size xs->Got (λ i v=>items[i]?=some v) ks items.size xs->Q (.ref s.heap.objs.size) { s with heap:=h',toks:=tk }) :
    wpAny [5] A (call (.type "set") [.ref l]) Q E s:=by
 obtain ⟨c,tl,emro⟩:=F.called_set.mro;have e0:=F.called_set.made;have e1:=F.called_set.sub;refine wpAny_call (codeAny_of_tree ?_); show wpAny _ _ (callAny (.type "set") _) _ _ _;refine wpAny_pure ⟨Code.quiet_builtin _ (by decide +kernel),codeAny_builtin F.entry_type_call ?_⟩; rw [Around.under_plain (weight_type_call_type "set" [.ref l] []) rfl];have e2:=F.called_set.notType;have e3:=F.called_set.canCreate;have e4:=F.typeCall_set_1 (.ref l)
 repeat (any_goals (first | assumption | wp_step))
 refine codeAny_mono (uw1 (.ref l) (E:=E) (Q1:=λ obj s1=>obj=.ref s.heap.objs.size /\ s1={ s with heap:=s.heap.push (nset (!bT prog w)) }) ⟨rfl,rfl⟩) λ r s1 hr=>?_;cases r with
 | error e=>exact hr
 | ok fl =>
  cases fl with
  | ret obj =>
   obtain ⟨rfl,rfl⟩:=hr;have gS:(s.heap.push (nset (!bT prog w))).get? s.heap.objs.size=some (nset (!bT prog w)):=Heap.get?_push_size _ rfl;have tS:Shared.TypeIs { s with heap:=s.heap.push (nset (!bT prog w)) } (.ref s.heap.objs.size) "set" := ⟨_,gS,rfl⟩;have e5:=F.called_set.init.lookup;have e6:=F.called_set.init.bind (.ref s.heap.objs.size)
   repeat (any_goals (first | assumption | wp_step))
   refine codeAny_mono (codeAny_call_builtin (R:=wants (λ r s2=>r=.none /\ ∃ h' tk xs,s2={ s with heap:=h',toks:=tk } /\ KpH s.heap h' /\ SetG prog w (hT prog w) h' s.heap.objs.size xs /\ Got (λ i v=>items[i]?=some v) ks items.size xs) E) F.called_set.init.plain F.entry_set_init (check_set_init_1 tS ?_)) λ r2 s2 hr2=>?_
   ·obtain ⟨ol,gl,cl,nl,dl⟩:=hl;obtain ⟨ocls,odict,odata,oslots⟩:=ol;simp only at cl dl;subst cl; subst dl;have gl':(s.heap.push (nset (!bT prog w))).get? l=some { cls:=.type "tuple",dict:=odict,data:=.seq items nl,slots:=oslots }:=Heap.get?_push_of_some _ gl;have f1:=uw0;have f2:=vp0;have f3:(Value.type "tuple" == Value.type "dict")=false:=by decide
    have il:(s.heap.push (nset (!bT prog w))).IsTuple l items:=⟨_,gl',rfl,nl,rfl⟩;unfold Builtin.«set.__init__» noKeywords Builtin.Frozenset.updateFrom;generalize hPI:pyIter=PI
    wp_walk
    subst hPI; refine wpAny_pyIter_tuple il ?_; refine wpAny_bind (wpAny_runValue ?_);have ls:l < s.heap.objs.size:=Heap.lt_size gl;have z1:(s.heap.push (nset (!bT prog w))).objs.size=s.heap.objs.size + 1:=Heap.size_push ..;have ni:l ≠ (s.heap.push (nset (!bT prog w))).objs.size:=by rw [z1]; exact Nat.ne_of_lt (Nat.lt_succ_of_lt ls)
    refine zl1 (A:=A.in1.in1) (h0:=s.heap) (ks:=ks) (Walks.tuple (show A.in1.in1.in1.handled=none by simp [hh]) _ l ni items) (S:=s.heap.objs.size) ?_ (show A.units + 1 + 1 + 1 < cLine by omega) ?_ (λ i v lt e=>hi i v lt e) B (items.size - 0) 0 _ [] [2] (Nat.zero_le _) ?_ ?_ ?_ ?_ ?_
    ·rw [z1];intro z
     simp_all
    ·simp
    ·exact ⟨⟨_,Heap.get?_push_size _ rfl,rfl,rfl⟩,il.push _⟩
    ·exact λ b o e=>Heap.get?_push_of_some _ (Heap.get?_push_of_some _ e)
    ·exact set0 (Heap.get?_push_of_some _ gS)
    ·exact ⟨(λ x hx=>nomatch hx),λ j hj=>absurd hj (Nat.not_lt_zero _)⟩
    ·intro h' tk xs kp sg g;show wpAny _ _ _ _ _ _;refine wpAny_pure ?_;show wpAny _ _ (ret Value.none) _ _ _;exact wpAny_pure ⟨rfl,h',tk,xs,rfl,kp,sg,g⟩
   ·cases r2 with
    | error e=>exact hr2
    | ok fl2 =>
     cases fl2 with
     | ret r =>
      obtain ⟨rfl,h',tk,xs,rfl,kp,sg,g⟩:=hr2
      repeat (any_goals (first | assumption | wp_step))
      exact h _ _ _ kp sg g
     | _=>exact hr2.elim
  | _=>exact hr.elim
end
theorem vs2 {α β:Type} {f:α->β} {l m:List β} (p:l.Perm m):∀ xs:List α,m=xs.map f->∃ ys:List α,ys.Perm xs /\ l=ys.map f:=by
 induction p with
 | nil=>simp
 | cons a _ ih =>
  intro xs e;cases xs with
  | nil=>cases e
  | cons x xs =>
   rw [map_cons] at e;injection e with e1 e2
   obtain ⟨ys,p,q⟩:=ih xs e2;exact ⟨x :: ys,p.cons x,by simp_all⟩
 | swap a b l =>
  intro xs e
  match xs,e with
  | x :: y :: xs,e =>
   simp only [map_cons,List.cons.injEq] at e;obtain ⟨e1,e2,e3⟩:=e;exact ⟨y :: x :: xs,.swap x y xs,by simp_all⟩
 | trans _ _ i1 i2 =>
  intro xs e;obtain ⟨ys,p,q⟩:=i2 xs e;obtain ⟨zs,p',q'⟩:=i1 ys q;exact ⟨zs,p'.trans p,q'⟩
theorem yq1 {α:Type}:∀ {l:List α} {i:Nat} (h:i < l.length),(l[i] :: l.eraseIdx i).Perm l
 | x :: l,0,_=>List.Perm.refl _
 | x :: l,i + 1,h=>(List.Perm.swap _ _ _).trans ((yq1 (l:=l) (i:=i) (by simpa using h)).cons x)
theorem uy1 {α:Type} (next:Nat->Nat):∀ (fuel k:Nat) (left:List α) (out:Array α),left.length<=fuel->(pickOrder.go next fuel k left out).toList.Perm (out.toList ++ left)
 | 0,k,left,out,h=>by
  have:left=[]:=List.length_eq_zero_iff.mp [2];subst this;unfold pickOrder.go;simp
 | fuel + 1,k,left,out,h=>by
  unfold pickOrder.go;by_cases c:left=[]
  ·subst c;simp
  ·have lt:next k % left.length < left.length:=Nat.mod_lt _ (List.length_pos_iff.mpr c)
   rw [getElem?_eq_getElem lt];dsimp only;refine (uy1 next fuel (k + 1) _ _ (by rw [List.length_eraseIdx_of_lt lt]; omega)).trans ?_;rw [toList_push,append_assoc];refine List.Perm.append_left _ ?_;exact yq1 lt
theorem vy1 {α:Type} (next:Nat->Nat) (xs:Array α):(pickOrder next xs).toList.Perm xs.toList:=by
 have:=uy1 next xs.size 0 xs.toList #[] (by simp)
 assumption
theorem below0 {xs:Array Nat} (h:Rise xs):SetTable.below xs 0=0:=by
 by_cases c:SetTable.below xs 0=0
 ·exact c
 ·have hl:=zo0 h 0;have hz:0 < xs.size:=by omega
  have q:xs[0]?=some xs[0]:=Array.getElem?_eq_getElem hz;have:=(yl0 h 0 q).mp [2];omega
theorem belowS {xs:Array Nat} (h:Rise xs) {j:Nat} (q:xs[i]?=some j):SetTable.below xs (j + 1)=i + 1:=by
 have h1:=(yl0 h (j + 1) q).mpr [2];have hl:=zo0 h (j + 1);by_cases c:i + 1 < SetTable.below xs (j + 1)
 ·have hz:i + 1 < xs.size:=by omega
  have q2:xs[i + 1]?=some xs[i + 1]:=Array.getElem?_eq_getElem hz;have a:=(yl0 h (j + 1) q2).mp c;have b:=yp0 h q q2 [2];omega
 ·omega
theorem slot_sit:Slot "set_iterator" "__next__" "set_iterator.__next__" := by
 refine .of (owner := "set_iterator") (n := "__next__") ?_ ?_ ?_ ?_ ?_ ?_
 ·rfl
 ·decide +kernel
 ·decide +kernel
 ·decide +kernel
 ·trivial
 rfl
theorem um1:Slot "set_iterator" "__iter__" "set_iterator.__iter__" := by
 refine .of (owner := "set_iterator") (n := "__iter__") ?_ ?_ ?_ ?_ ?_ ?_
 ·rfl
 ·decide +kernel
 ·decide +kernel
 ·decide +kernel
 ·trivial
 rfl
theorem xh1:entryFor table "set_iterator.__next__" = some Builtin.«set_iterator.__next__» := by exact entryFor_of_tree (by kernel_rfl)
theorem sc2:entryFor table "set_iterator.__iter__" = some Builtin.«dict_keyiterator.__iter__» := by refine entryFor_alias (id' := "dict_keyiterator.__iter__") (by kernel_rfl) ?_ (by decide +kernel) (by kernel_rfl); rfl
theorem tr1 (a:Value):argsOk "set_iterator.__next__" ⟨[a],[]⟩:=by
 rfl
theorem yy2 (a:Value):argsOk "set_iterator.__iter__" ⟨[a],[]⟩:=by
 rfl
theorem tt1:entryFor table "set.__iter__" = some Builtin.«frozenset.__iter__» := by exact entryFor_alias (id' := "frozenset.__iter__") (by kernel_rfl) rfl (by decide +kernel) (by kernel_rfl)
noncomputable def SIt (h:Heap) (it a:Addr) (sl i n ep:Nat):Prop:=∃ o,h.get? it=some o /\ o.cls=.type "set_iterator" /\ o.data=.fields #[rawInt sl,rawInt i,.ref a,rawInt n,rawInt ep]
variable {it:Addr} {sl:Nat}
theorem SIt.keep {a:Addr} (x:SIt h it a sl i n ep) (k:∀ o,h.get? it=some o->h'.get? it=some o):SIt h' it a sl i n ep:=by
 obtain ⟨o,e1,e2⟩:=x;exact ⟨o,k o e1,e2⟩
theorem SIt.ty {a:Addr} (x:SIt s.heap it a sl i n ep):s.TypeIs (.ref it) "set_iterator" := by
 obtain ⟨o,e1,e2,_⟩:=x;exact ⟨o,e1,e2⟩
theorem tc2 {vs:Array Value} {c:Value} (e1:h.get? it=some o) (e2:o.cls=c) (e3:o.data=.fields vs) (j:Nat) (x:Value) :
    ∃ o',(h.update it (Obj.mapFields (·.setIfInBounds j x))).get? it=some o' /\ o'.cls=c /\ o'.data=.fields (vs.setIfInBounds j x) :=
 ⟨_,Heap.get?_update_self _ e1 (Obj.isFreed_of_fields (Obj.data_mapFields e3 _)),(Obj.cls_mapFields ..).trans e2,Obj.data_mapFields e3 _⟩
structure SObj (prog:Program) (w:World) (h:Heap) (a:Addr) (o:Obj) (es:Array (Int × Value)) (ep:Nat) (t:SetTable):Prop where
 ho:h.get? a=some o
 ex:o.ExactSet
 hd:o.data=.set es ep t
 fits:t.fits es.size=true
 ris:Rise t.place
 sz:t.place.size=es.size
 pl:t.plain=true
 le:t.led = !bT prog w
theorem SObj.keep {a:Addr} {t:SetTable} (S:SObj prog w h a o es ep t) (k:∀ o,h.get? a=some o->h'.get? a=some o):SObj prog w h' a o es ep t :=
 ⟨k o S.ho,S.ex,S.hd,S.fits,S.ris,S.sz,S.pl,S.le⟩
theorem SetIs.obj {a:Addr} {t:SetTable} (S:SetIs prog w hf h a o es ep t xs):SObj prog w h a o es ep t :=
 ⟨S.ho,S.ex,S.hd,S.fits,S.ok.ris,by have h1:=S.ok.sz; have h2:=S.size; simp_all,S.pl,S.le⟩
section
variable {a:Addr} {t:SetTable}
theorem uj2 {Q:[8]} (S:SObj prog w s.heap a o es ep t)
    (q:Q (.ref s.heap.objs.size) { s with heap:=s.heap.push { cls:=.type "set_iterator",data:=.fields #[rawInt (0:Nat),rawInt (0:Nat),.ref a,rawInt es.size,rawInt ep] } }):wpAny [5] A (pyIter (.ref a)) Q E s:=by
 have ty:s.TypeIs (.ref a) "set" := ⟨o,S.ho,S.ex.1⟩;refine wpAny_pyIter_slot ty F.slot_set_iter (wpAny_call_entry F.slot_set_iter ty tt1 ?_ (F.args_set_iter_1 _));unfold Builtin.«frozenset.__iter__» Builtin.Frozenset.slot0 slotArgs;simp only [List.isEmpty_nil,Bool.not_true,Bool.false_eq_true,↓reduceIte,bind_assoc,length_nil,bne_self_eq_false];unfold Builtin.Frozenset.addrOf Builtin.Frozenset.sizeOf;refine wpAny_bind (wpAny_pure ?_)
 try dsimp only
 refine wpAny_bind (wpAny_pure ?_);refine wpAny_bind (wpAny_bind (wpAny_setEntries_of S.ho S.hd S.fits (wpAny_pure ?_)))
 have dr:wpAny [5] A.in1 (setDrawn a) (λ b s'=>b=false /\ s'=s) E s:=by
  unfold setDrawn setsByText;refine wpAny_bind (wpAny_setState_of S.ho S.hd S.fits ?_);dsimp only;refine wpAny_bind (wpAny_bind (wpAny_askSetting (wpAny_pure (wpAny_pure ⟨?_,rfl⟩))));show (!_ && (!t.plain && _))=false;rw [S.pl];simp
 refine wpAny_bind (wpAny_mono dr (λ b s' h=>?_) λ _ _ h=>h);obtain ⟨rfl,rfl⟩:=h;simp only [Bool.false_eq_true,if_false];refine wpAny_bind (wpAny_pure ?_);refine wpAny_bind (wpAny_setEpoch_of S.ho S.hd S.fits ?_);refine wpAny_bind (wpAny_newObj_type (wpAny_pure ⟨_,rfl, "set_iterator",_,⟨_,Heap.get?_push_size _ rfl,rfl⟩,slot_sit.lookup,q⟩))
noncomputable def ordS (prog:Program) (w:World) (a:Addr) (ep:Nat) (es:Array (Int × Value)):Array (Int × Value):=if bT prog w=true then pickOrder ([5].w.params.setOrder a ep) es else es
theorem yo1:(ordS prog w a ep es).toList.Perm es.toList:=by
 unfold ordS;split
 ·exact vy1 _ _
 rfl
theorem va1:(ordS prog w a ep es).size=es.size:=by
 have:=(yo1 (prog:=prog) (w:=w) (a:=a) (ep:=ep) (es:=es)).length_eq;simpa using this
theorem vx0 {Q:Option (Value × Nat)->Shared->Prop} (S:SObj prog w s.heap a o es ep t) (hb:bT prog w=false->SetTable.below t.place sl=i)
    (some':∀ e nx,(ordS prog w a ep es)[i]?=some e->(bT prog w=false->SetTable.below t.place nx=i + 1)->Q (some (e.2,nx)) s) (none':(ordS prog w a ep es)[i]?=none->Q none s) :
    wpAny [5] A (setNext a sl i ep) Q E s:=by
 unfold setNext setsByText;refine wpAny_bind (wpAny_setState_of S.ho S.hd S.fits ?_);dsimp only;refine wpAny_bind (wpAny_bind (wpAny_askSetting (wpAny_pure ?_)));unfold ordS at some' none';by_cases c:bT prog w=true
 ·rw [if_pos (show [5].w.params.followText "set-order" = true from c)];rw [if_pos c] at some' none';rw [if_neg (by simp)];refine wpAny_bind ?_;unfold setWalk setsByText;refine wpAny_bind (wpAny_setState_of S.ho S.hd S.fits ?_);dsimp only;refine wpAny_bind (wpAny_bind (wpAny_askSetting (wpAny_pure ?_)));rw [if_pos (show [5].w.params.followText "set-order" = true from c)];refine wpAny_bind (wpAny_askSetting (wpAny_pure (wpAny_pure ?_)));show Q (Option.map _ (pickOrder ([5].w.params.setOrder a ep) es)[i]?) s;cases e:(pickOrder ([5].w.params.setOrder a ep) es)[i]? with
  | none=>exact none' e
  | some v=>simp [*]
 ·have cf:bT prog w=false:=by simpa using c
  rw [if_neg (show ¬ [5].w.params.followText "set-order" = true from c)];rw [if_neg c] at some' none';split
  ·next dr =>
   have:(!t.plain && decide (es.size > 1))=true:=dr;rw [S.pl] at this;cases this
  ·refine wpAny_bind ?_;show wpAny _ _ (ite (_=true) _ (pure PUnit.unit)) _ _ _;rw [if_neg (by rw [S.le,cf]; simp)];refine wpAny_pure (wpAny_pure ?_);rw [hb cf];cases e:es[i]? with
   | none=>exact none' e
   | some v =>
    have hlt:i < t.place.size:=by
     have h1:=S.sz;have:=(Array.getElem?_eq_some_iff.mp e).1;omega
    have q:t.place[i]?=some t.place[i]:=Array.getElem?_eq_getElem hlt;rw [q];exact some' v _ e (λ _=>belowS S.ris q)
theorem vj2 {Q:Option Value->Shared->Prop} (S:SObj prog w s.heap a o es ep t) (hi:SIt s.heap it a sl i es.size ep) (hb:bT prog w=false->SetTable.below t.place sl=i) (lt:i < es.size)
    (q:∀ h' e nx,(ordS prog w a ep es)[i]?=some e->SIt h' it a nx (i + 1) es.size ep->(bT prog w=false->SetTable.below t.place nx=i + 1)->Heap.SameBut it s.heap h'->Q (some e.2) { s with heap:=h' }):wpAny [5] A (pyNext (.ref it)) Q E s:=by
 obtain ⟨oi,a1,a2,a3⟩:=id hi;have ty:=hi.ty;unfold pyNext;refine wpAny_bind (wpAny_attempt (wpAny_callSpecial?_slot (name:=Str.ofString "__next__") ty slot_sit (wpAny_call_entry slot_sit ty xh1 ?a (tr1 _))))
 case a =>
  unfold Builtin.«set_iterator.__next__»;refine wpAny_bind (m:=slotArgs "__next__" 0 _) (wpAny_pure ?_);refine wpAny_bind (wpAny_fieldsOf a1 a3 ?_);show wpAny _ _ (setEntries a >>= _) _ _ s;refine wpAny_bind (wpAny_setEntries_of S.ho S.hd S.fits ?_);rw [if_neg (by simp)];show wpAny _ _ (setNext a sl i ep >>= _) _ _ s;refine wpAny_bind (vx0 S hb (λ e nx e1 e2=>?_) λ e=>?_)
  ·show wpAny _ _ (setField (.ref it) 0 (rawInt nx) >>= _) _ _ s;refine wpAny_bind (wpAny_setField a1 a3 (by simp) ?_);obtain ⟨o1,b1,b2,b3⟩:=tc2 a1 a2 a3 0 (rawInt nx);show wpAny _ _ (setField (.ref it) 1 (rawInt ((i:Int) + 1)) >>= _) _ _ _;refine wpAny_bind (wpAny_setField b1 b3 (by simp) ?_);obtain ⟨o2,c1,c2,c3⟩:=tc2 b1 b2 b3 1 (rawInt ((i:Int) + 1));show wpAny _ _ (ret e.2) _ _ _;exact wpAny_pure ⟨_,rfl,wpAny_pure (q _ e nx e1 ⟨o2,c1,c2,c3⟩ e2 ((Heap.SameBut.update ..).trans (Heap.SameBut.update ..)))⟩
  ·rw [Array.getElem?_eq_getElem (by rw [va1]; exact lt)] at e;cases e
theorem wl3 {Q:Option Value->Shared->Prop} (hh:A.handled=none) (S:SObj prog w s.heap a o es ep t) (hi:SIt s.heap it a sl es.size es.size ep) (hb:bT prog w=false->SetTable.below t.place sl=es.size)
    (q:∀ h',Heap.ExtBut it s.heap h'->Q none { s with heap:=h' }):wpAny [5] A (pyNext (.ref it)) Q E s:=by
 obtain ⟨oi,a1,a2,a3⟩:=id hi;have ty:=hi.ty;unfold pyNext;refine wpAny_bind (wpAny_attempt (wpAny_callSpecial?_slot (name:=Str.ofString "__next__") ty slot_sit (wpAny_call_entry slot_sit ty xh1 ?a (tr1 _))))
 case a =>
  unfold Builtin.«set_iterator.__next__»;refine wpAny_bind (m:=slotArgs "__next__" 0 _) (wpAny_pure ?_);refine wpAny_bind (wpAny_fieldsOf a1 a3 ?_);show wpAny _ _ (setEntries a >>= _) _ _ s;refine wpAny_bind (wpAny_setEntries_of S.ho S.hd S.fits ?_);rw [if_neg (by simp)];show wpAny _ _ (setNext a sl es.size ep >>= _) _ _ s;refine wpAny_bind (vx0 S hb (λ e nx e1 e2=>?_) λ e=>?_)
  ·rw [Array.getElem?_eq_none (by rw [va1]; exact Nat.le_refl _)] at e1;cases e1
  ·show wpAny _ _ (setField (.ref it) 2 .none >>= _) _ _ s; refine wpAny_bind (wpAny_setField a1 a3 (by simp) ?_);show wpAny _ _ (newExc (.type "StopIteration") [] >>= _) _ _ _; refine wpAny_bind ?_; simp only [newExc,newTuple];refine wpAny_bind (wpAny_newObj_type (wpAny_bind (m:=firstArgMember _ _) (wpAny_of_eq (a:=Value.none) (by rfl) (wpAny_newObj_type ?_ (by size_fits)))) (by size_fits));simp only [raiseNew]; refine wpAny_bind (wpAny_handled ?_); rw [show A.in1.handled=none from hh];refine wpAny_bind (wpAny_pure (wpAny_throw ?_)); refine wpAny_bind (wpAny_isInstance (T := "StopIteration") (b:=true) ⟨_,Heap.get?_push_size _ rfl,rfl⟩ isSubtype_stop ?_);exact wpAny_pure (q _ (((Heap.SameBut.update ..).extBut.push _).push _))
theorem wj2 {Q:[8]} (hi:SIt s.heap it a sl i n ep) (h:Q (.ref it) s):wpAny [5] A (pyIter (.ref it)) Q E s:=by
 have ty:=hi.ty;refine wpAny_pyIter_slot ty um1 (wpAny_call_entry um1 ty sc2 ?_ (yy2 _));show wpAny _ _ (ret (.ref it)) _ _ s;exact wpAny_pure ⟨_,rfl, "set_iterator",_,ty,slot_sit.lookup,h⟩
theorem vv2 (ty:s.TypeIs (.ref a) "set") (h:Q false s):wpAny [5] A (Builtin.List.listLengthHint (.ref a)) Q E s:=by
 unfold Builtin.List.listLengthHint;refine wpAny_bind (wpAny_specialOf ty PySem.F.slot_set_len.lookup ?_); generalize hid:("set.__len__" : String)=id0; wp_delta;rw [show splitId id0=some ("set", "__len__") from by subst hid; decide +kernel]; subst hid;refine wpAny_bind (wpAny_isInstance (T := "set") (b:=true) ty (by rfl) ?_);refine wpAny_ite_split (λ c=>absurd c (by decide)) (λ _=>?_); refine wpAny_ite_split (λ _=>?_) (λ c=>absurd (by decide +kernel) c);exact wpAny_bind (wpAny_typeOf ty (wpAny_pure h))
theorem ww1 (hh:A.handled=none) (I a:Addr) (ne:a ≠ I):Walks prog w A I [I,a] [I] es.size (λ i v=>∃ e,(ordS prog w a ep es)[i]?=some e /\ v=e.2)
    (λ i h=>∃ sl,SIt h I a sl i es.size ep /\ (bT prog w=false->SetTable.below t.place sl=i) /\ SObj prog w h a o es ep t) where
 sub:=λ b hb=>by simp_all
 frame:=λ _ _ _ z hk=>by
  obtain ⟨sl,z1,z2,z3⟩:=z;exact ⟨sl,z1.keep λ o e=>hk I (by simp) o e,z2,z3.keep λ o e=>hk a (by simp) o e⟩
 item:=λ i s Q E hi z q=>by
  obtain ⟨sl,z1,z2,z3⟩:=z;refine vj2 z3 z1 z2 hi λ h' e nx a1 a2 a3 a4=>?_;exact q _ h' s.toks ⟨e,a1,rfl⟩ ⟨nx,a2,a3,z3.keep λ o e=>a4.extBut a o ne e⟩ λ b o hb e=>a4.extBut b o (λ y=>hb (by simp [y])) e
 done:=λ s Q E z q=>by
  obtain ⟨sl,z1,z2,z3⟩:=z;exact wl3 hh z3 z1 z2 λ h' k=>q h' s.toks λ b o hb e=>k b o (λ y=>hb (by simp [y])) e
 self:=λ _ _ _ _ z q=>by
  obtain ⟨sl,z1,_⟩:=z;exact wj2 z1 q
theorem ul3:KdlSrc prog w "set" a a es.size (λ i v=>∃ e,(ordS prog w a ep es)[i]?=some e /\ v=e.2) (λ h=>SObj prog w h a o es ep t) where
 type:=λ _ x=>⟨o,x.ho,x.ex.1⟩
 there:=λ _ x=>⟨Heap.lt_size x.ho,Heap.lt_size x.ho⟩
 keep:=λ _ _ x k=>x.keep λ o e=>k a (.inl rfl) o e
 notList:=by decide
 notTuple:=by decide
 hint:=λ _ _ _ _ x q=>vv2 ⟨o,x.ho,x.ex.1⟩ q
 iter:=λ _ s hh x=>by
  have hl:=Heap.lt_size x.ho;exact ⟨_,_,(λ _ _ q=>uj2 x q),ww1 hh _ a (Nat.ne_of_lt hl),⟨0,⟨_,Heap.get?_push_size _ rfl,rfl,rfl⟩,(λ _=>below0 x.ris),x.keep λ o e=>Heap.get?_push_of_some _ e⟩⟩
theorem wb2 {acc:Array Value} (h:ItemsOf (λ i v=>∃ e,(ordS prog w a ep es)[i]?=some e /\ v=e.2) acc es.size):acc.toList=(ordS prog w a ep es).toList.map (·.2):=by
 obtain ⟨h1,h2⟩:=h;have h3:=va1 (prog:=prog) (w:=w) (a:=a) (ep:=ep) (es:=es);apply ext_getElem?;intro i;rw [getElem?_map,getElem?_toList,getElem?_toList];by_cases c:i < es.size
 ·obtain ⟨e,e1,e2⟩:=h2 i (acc[i]'(by omega)) (by simp)
  simp_all
 simp_all
theorem wb3:∀ {h:Heap} {ys:List (T3 × Addr)},(∀ x ∈ ys,TK prog w h x.1 x.2)->T3s h (ys.map λ x=>Value.ref x.2) (ys.map (·.1))
 | _,[],_=>trivial
 | _,x :: ys,k=>⟨(k x (mem_cons_self ..)).t3,wb3 λ y hy=>k y (mem_cons_of_mem _ hy)⟩
theorem vs1 {Q:[8]} (hh:A.handled=none) (S:SetG prog w hf s.heap a xs) (h64:xs.length < 512)
    (h:∀ (ys:List (T3 × Addr)) (p:Array Nat) (h1 h':Heap) (c tk:Nat),ys.Perm xs->p.Perm (List.toArray (List.range ys.length))->Ms.Up (ltI (ys.map (·.1))) p ys.length->(∀ b o,s.heap.get? b=some o->h1.get? b=some o)->(∀ b o,h1.get? b=some o->h'.get? b=some o) ->
     h'.get? h1.objs.size=some (seqObj "list" (outV (ys.map λ x=>Value.ref x.2) p).toArray c)->Q (.ref h1.objs.size) { s with heap:=h',toks:=tk }) :
    wpAny [5] A (call (.builtin "sorted") [.ref a]) Q E s:=by
 obtain ⟨o,es,ep,t,S,_⟩:=S;have zs:=S.size;have hz:es.size<=sizeLine:=by rw [sizeLine_eq]; omega
 obtain ⟨ys,py,ey⟩:=vs2 (f:=ent hf) (yo1 (prog:=prog) (w:=w) (a:=a) (ep:=ep) (es:=es)) xs S.el;refine Calls.call_function_entry kind_sorted plain_sorted entry_sorted (args_sorted1 _) ?_;unfold Builtin.«sorted»;refine wpAny_bind (m:=checkCount "sorted" 1 1 _) (wpAny_pure (wpAny_bind (kdu_collect (ul3 (o:=o) (t:=t)) hh S.obj hz λ h1 tk acc k1 ia=>?_)));rw [wb2 ia,ey,map_map,show ((λ x:Int × Value=>x.2) ∘ ent hf)=(λ x:T3 × Addr=>Value.ref x.2) from rfl];have l0:=py.length_eq;have l1:(ys.map λ x=>Value.ref x.2).length=ys.length:=length_map _;refine wpAny_bind (wpAny_newList ?_ [2]);have k2:∀ b o,s.heap.get? b=some o->(h1.push (seqObj "list" (ys.map λ x=>Value.ref x.2).toArray 0)).get? b=some o:=λ b o q=>Heap.get?_push_of_some _ (k1 b o q);have zo:(h1.push (seqObj "list" (ys.map λ x=>Value.ref x.2).toArray 0)).get? h1.objs.size=some (seqObj "list" (ys.map λ x=>Value.ref x.2).toArray 0):=Heap.get?_push_size _ rfl;have tt:=T3s.kept (λ b o e _=>k2 b o e) (wb3 (prog:=prog) (w:=w) (h:=s.heap) (ys:=ys) λ x hx=>S.ks x (py.mem_iff.mp hx));show wpAny _ _ _ _ _ { s with heap:=h1.push (seqObj "list" (ys.map λ x=>Value.ref x.2).toArray 0),toks:=tk };refine wpAny_bind (wpAny_holding (wpAny_call_entry slot_list_sort ⟨_,zo,rfl⟩ entry_list_sort (ut2 (s:={ s with heap:=h1.push (seqObj "list" (ys.map λ x=>Value.ref x.2).toArray 0),toks:=tk }) zo tt [2] λ p h' c a1 a2 a3 a4=>⟨_,rfl,?_⟩) (args_list_sort _)));rw [l1] at a1 a2;exact wpAny_pure ⟨_,rfl,h ys p h1 h' c tk py a1 a2 k1 (λ b o q=>a3 b o (Nat.ne_of_lt (Heap.lt_size q)) (Heap.get?_push_of_some _ q)) a4⟩
end
noncomputable abbrev vT (t:T3):List V:=[.int t.1,.int t.2.1,.int t.2.2]
noncomputable def SB (ts:List T3):Prop:=∀ l:List T3,l.Nodup->(∀ x ∈ l,x ∈ ts)->l.length < 511
noncomputable abbrev TSt:=L2.St->Hp->(List (T3 × Addr)->Hp->Prop)->Prop
noncomputable def SE (X:Cx) (pins:List (Addr × Obj)) (σ:L2.St) (R:List (T3 × Addr)->Hp->Prop) (u:Value) (s':Shared):Prop :=
 ∃ a xs H',u=.ref a /\ Inv X pins σ H' s' /\ FpOk X pins H' a /\ SetG X.prog X.w (hT X.prog X.w) s'.heap a xs /\ (∀ x ∈ xs,H' x.2=some (.tup (vT x.1))) /\ xs.length < 511 /\ R xs H'
noncomputable def PSt (X:Cx) (e:Expr) (t:TSt):Prop :=
 ∀ (pins:List (Addr × Obj)) (s:Shared) (σ:L2.St) (H:Hp) (R:List (T3 × Addr)->Hp->Prop),Inv X pins σ H s->t σ H R->wpAny (model X.prog X.w) X.A (eval e X.env) (SE X pins σ R) X.xe s
theorem vb3 {prog:Program} {w:World} {h:Heap}:∀ {us:List Value} {ts:List T3} {i:Nat} {v:Value},T3s h us ts->us[i]?=some v->i < ts.length /\ ∃ b,v=.ref b /\ TK prog w h (ts.getD i (0,0,0)) b
 | [],[],i,v,_,e=>by simp at e
 | [],_ :: _,_,_,z,_=>z.elim
 | _ :: _,[],_,_,z,_=>z.elim
 | u :: us,t :: ts,0,v,z,e=>by
  simp only [List.getElem?_cons_zero,Option.some.injEq] at e;subst e;obtain ⟨a,o,t1,t2,t3,n,rfl,e2⟩:=id z.1;exact ⟨by simp,a,rfl,(show TK prog w h t a from IsT3.key z.1)⟩
 | u :: us,t :: ts,i + 1,v,z,e=>by
  simp only [getElem?_cons_succ] at e;obtain ⟨h1,b,h2,h3⟩:=vb3 (prog:=prog) (w:=w) z.2 e
  simp_all
theorem xb3 {K:Fg} {H:Hp}:∀ {vs:List V} {ts:List T3} {us:List Value} {i:Nat} {b:Addr},V3s K H vs ts->Vals vs us->us[i]?=some (.ref b)->H b=some (.tup (vT (ts.getD i (0,0,0))))
 | [],[],_,i,b,_,.nil,e=>by simp at e
 | [],_ :: _,_,_,_,z,_,_=>z.elim
 | _ :: _,[],_,_,_,z,_,_=>z.elim
 | v :: vs,t :: ts,_,0,b,z,.cons r rs,e=>by
  simp only [List.getElem?_cons_zero,Option.some.injEq] at e;subst e;obtain ⟨⟨a,rfl,hq⟩,_⟩:=z;cases r;exact hq
 | v :: vs,t :: ts,_,i + 1,b,z,.cons r rs,e=>by
  simp only [getElem?_cons_succ] at e;exact (show H b=some (.tup (vT (ts.getD i (0,0,0)))) from xb3 z.2 rs e)
variable {X:Cx} {e:Expr}
section
variable {p p2 pos pos2:Pos}
noncomputable def tSetE (K:Fg) (ta:TA):TSt:=λ σ H R=>ta σ H λ xs H1=>∃ p vs ts,xs=[.ref p] /\ (SqL K H1 p vs \/ SqT K H1 p vs) /\ V3s K H1 vs ts /\ SB ts ∧
 ∀ ys:List (T3 × Addr),(ys.map (·.1)).Nodup->(∀ t,t ∈ ys.map (·.1) ↔ t ∈ ts)->(∀ y ∈ ys,H1 y.2=some (.tup (vT y.1)))->R ys H1
theorem vu3 {items:List Value} {ts:List T3} {ys:List (T3 × Addr)} {Pr:Nat->Value->Prop} (hl:items.length=ts.length) (g:Got Pr (λ i=>ts.getD i (0,0,0)) items.length ys) (t:T3):t ∈ ys.map (·.1) ↔ t ∈ ts:=by
 constructor
 ·intro h;obtain ⟨y,hy,rfl⟩:=List.mem_map.mp h;obtain ⟨j,h1,_,h2⟩:=g.1 y hy;have h2:ts.getD j (0,0,0)=y.1:=h2;rw [<- h2,getD_eq_getElem?_getD,getElem?_eq_getElem [2]];simp
 ·intro h;obtain ⟨j,hj,e⟩:=List.getElem_of_mem h;have:ts.getD j (0,0,0) ∈ _:=g.2 j [2]
  simp_all
theorem xy1 {ta:TA} (hc:X.calm=true) (hu:X.A.units + 64 < cLine) (hg:Gl X "set") (hm:X.mg "set" = none) (ha:PA X [e] ta) (hs:starEach [e] X.env=[(false,eval e X.env)]:=by rfl) :
    PSt X (.Call (.Name "set" p) [e] [] pos) (tSetE X.K ta):=by
 intro pins s σ H R I h;refine Call_ (sn0 I hg hm bz_set (PyProof.Rows.callWith_type1 (thn (ha pos pins s σ H _ I h) λ us s1 ⟨vs,H1,I1,r1,q1⟩=>?_) hs rfl));obtain ⟨a,ws,ts,e1,hq,h3,hB,k⟩:=q1;subst e1;cases r1 with
 | cons r rr =>
  cases rr;cases r
  have key:∀ {its:List Value},Vals ws its->(∀ l:List T3,l.Nodup->(∀ x ∈ l,∃ j,j < its.toArray.size /\ ts.getD j (0,0,0)=x)->l.length < 511) ∧
      (∀ i v,i < its.toArray.size->its.toArray[i]?=some v->∃ b,v=.ref b /\ TK X.prog X.w s1.heap (ts.getD i (0,0,0)) b) ∧
      ∀ (h':Heap) (tk:Nat) xs,KpH s1.heap h'->SetG X.prog X.w (hT X.prog X.w) h' s1.heap.objs.size xs->Got (λ i v=>its.toArray[i]?=some v) (λ i=>ts.getD i (0,0,0)) its.toArray.size xs->SE X pins σ R (.ref s1.heap.objs.size) { s1 with heap:=h',toks:=tk }:=λ {its} rv=>by
   have l1:=h3.len;have l2:=rv.length;have l3:its.toArray.size=its.length:=size_toArray
   have B:∀ l:List T3,l.Nodup->(∀ x ∈ l,∃ j,j < its.toArray.size /\ ts.getD j (0,0,0)=x)->l.length < 511:=λ l nd hl=>hB l nd λ x hx=>by
    obtain ⟨j,h1,h2⟩:=hl x hx;rw [<- h2,getD_eq_getElem?_getD,getElem?_eq_getElem [2]];simp
   refine ⟨B,λ i v lt e=>(vb3 (yl1 I1 h3 rv) (by simpa using e)).2,λ h' tk xs kp sg g=>?_⟩;have sq:∀ x ∈ xs,H1 x.2=some (.tup (vT x.1)):=λ x hx=>?_
   ·exact ⟨_,xs,H1,rfl,I1.kept kp,I1.fpOk (Nat.le_refl _) (I1.hok.fresh (Nat.le_refl _)),sg,sq,g.len (Nat.le_refl _) sg.nd B,k xs sg.nd (vu3 (items:=its) [2] [2]) sq⟩
   obtain ⟨j,_,h2,h3'⟩:=g.1 x hx;have h3':ts.getD j (0,0,0)=x.1:=h3';have:=xb3 h3 rv (i:=j) (b:=x.2) (by simpa using h2)
   rwa [h3'] at this
  rcases hq with hq | hq
  ·obtain ⟨its,rv,pl,hz⟩:=I1.list hq;obtain ⟨k1,k2,k3⟩:=key rv;exact tz0 (I1.ok.hd hc) [2] pl.isList k2 k1 k3
  ·obtain ⟨its,rv,pl,hz⟩:=I1.tuple hq;obtain ⟨k1,k2,k3⟩:=key rv;exact vw1 (I1.ok.hd hc) [2] pl k2 k1 k3
noncomputable def tSrtS (K:Fg) (ts:TSt):TE:=λ σ H Q=>ts σ H λ xs H1=>∀ (ys:List (T3 × Addr)),ys.Perm xs->∀ q:Array Nat,q.Perm (List.toArray (List.range ys.length))->Ms.Up (ltI (ys.map (·.1))) q ys.length->V3s K H1 (ys.map λ x=>V.ref x.2) (ys.map (·.1)) ->
 ∀ r,H1 r=none->Q (.ref r) (upd H1 r (.lst (q.toList.map λ i=>(ys.map λ x=>V.ref x.2).getD i .non)))
theorem sa3 {K:Fg} {H:Hp}:∀ {ys:List (T3 × Addr)},(∀ x ∈ ys,H x.2=some (.tup (vT x.1)))->V3s K H (ys.map λ x=>V.ref x.2) (ys.map (·.1))
 | [],_=>trivial
 | y :: ys,h=>⟨⟨_,rfl,h y (mem_cons_self ..)⟩,sa3 λ x hx=>h x (mem_cons_of_mem _ hx)⟩
theorem vu1:∀ (ys:List (T3 × Addr)),Vals (ys.map λ x=>V.ref x.2) (ys.map λ x=>Value.ref x.2)
 | []=>.nil
 | y :: ys=>.cons rfl (vu1 ys)
theorem sq3 {ts:TSt} (hc:X.calm=true) (hg:Gl X "sorted") (hm:X.mg "sorted" = none) (hp:PSt X e ts) (hs:starEach [e] X.env=[(false,eval e X.env)]:=by rfl):PE X (.Call (.Name "sorted" p) [e] [] pos) (tSrtS X.K ts):=by
 intro pins s σ H Q I h;refine Call_ (sn0 I hg hm zf2 (PyProof.Rows.callWith_builtin1 ?_ hs rfl));rw [hs];show wpAny _ _ (spliced ((false,eval e X.env) :: backTo pos (starEach [] X.env))) _ _ s;refine Calls.spliced_cons ?_;refine thn (hp pins s σ H _ I h) λ u s1 q=>?_;obtain ⟨a,xs,H1,rfl,I1,fp,sg,sq,ln,k⟩:=q;refine Calls.spliced_nil ?_;refine vs1 (I1.ok.hd hc) sg [2] λ ys q h1 h' c tk py a1 a2 a3 a4 a5=>?_;have I2:Inv X pins σ H1 { s1 with heap:=h1,toks:=tk }:=I1.kept a3;have sz:q.toList.length=ys.length:=by have:=a1.size_eq; simpa using this
 have l0:=py.length_eq
 have lt':∀ i ∈ q.toList,i < (ys.map λ x=>V.ref x.2).length:=λ i hi=>by
  have e:i ∈ List.toArray (List.range ys.length):=a1.mem_iff.mp (by simpa using hi)
  simp_all
 refine ⟨.ref _,_,I2.laid (t':=tk) a4 (Nat.le_refl _) (show ObjOk X.prog X.w _ h' _ (.lst (q.toList.map λ i=>(ys.map λ x=>V.ref x.2).getD i .non)) from ⟨by rw [length_map,sz,sizeLine_eq]; omega,_,c,zd1 (vu1 ys) _ lt',a5⟩),rfl,?_⟩;exact k ys py q a1 a2 (sa3 λ x hx=>sq x (py.mem_iff.mp hx)) _ (I2.hok.fresh (Nat.le_refl _))
end
noncomputable abbrev TSt3:=St3->Mu->(List T3->Mu->Prop)->Prop
noncomputable def RdSt (K:Fg) (tv:TSt) (t:TSt3):Prop:=∀ σ H R ρ μ R3,RSt K H ρ σ->RelM K μ H->t ρ μ R3->(∀ xs μ' H',R3 (xs.map (·.1)) μ'->(xs.map (·.1)).Nodup->(∀ x ∈ xs,H' x.2=some (.tup (vT x.1)))->Kp H H'->RelM K μ' H'->R xs H')->tv σ H R
noncomputable def REs (X:Cx) (e:Expr) (t:TSt3):Prop:=∃ tv,PSt X e tv /\ RdSt X.K tv t
noncomputable def uj3 (t:TA3):TSt3:=λ ρ μ R=>t ρ μ λ ds μ1=>∃ ts,(match ds with
 | [.ref p]=>μ1 p=some (.lst (ts.map encT))
 | [.tup l]=>l=ts.map encT
 | _=>False) /\ SB ts /\ ∀ ks:List T3,ks.Nodup->(∀ x,x ∈ ks ↔ x ∈ ts)->R ks μ1
noncomputable def tj3 (t:TSt3):TE3:=λ ρ μ Q=>t ρ μ λ ks μ1=>∀ us:List T3,us.Perm ks->us.Pairwise le3->∀ r,μ1 r=none->Q (.ref r) (updM μ1 r (.lst (us.map encT)))
section
variable {p p2 pos pos2:Pos} {t:TE3}
theorem sm3 (he:RE X e t) (hm:X.mg "set" = none) (hu:X.A.units + 64 < cLine) (hc:X.calm=true:=by rfl) (hg:Gl X "set" := by rfl) (hs:starEach [e] X.env=[(false,eval e X.env)]:=by rfl):REs X (.Call (.Name "set" p) [e] [] pos) (uj3 (xa0 t nil3)):=by
 obtain ⟨va,pa,ra⟩:=zp0 he yf1 hs;refine ⟨_,xy1 hc hu hg hm pa hs,λ σ H R ρ μ R3 s m h k=>ra σ H _ ρ μ _ s m h λ ds μ1 vs H1 h1 k1 r1 m1=>?_⟩;obtain ⟨ts,hd,hB,q⟩:=h1;cases r1 with
 | nil=>exact hd.elim
 | cons r1 r2 =>
  cases r2 with
  | cons _ _=>simp_all
  | nil =>
   cases r1 with
   | ref a =>
    obtain ⟨us,hv,rv⟩:=m1 a _ hd;exact ⟨a,us,ts,rfl,.inl (SqL.of hv),uu1 rv,hB,λ ys nd al sq=>k ys μ1 H1 (q _ nd al) nd sq k1 m1⟩
   | tup hq rv =>
    have hd:_=ts.map encT:=hd;subst hd;exact ⟨_,_,ts,rfl,.inr (SqT.of hq),uu1 rv,hB,λ ys nd al sq=>k ys μ1 H1 (q _ nd al) nd sq k1 m1⟩
   | _=>exact hd.elim
theorem xo3 {ts:TSt3} (he:REs X e ts) (hm:X.mg "sorted" = none) (hc:X.calm=true:=by rfl) (hg:Gl X "sorted" := by rfl) (hs:starEach [e] X.env=[(false,eval e X.env)]:=by rfl):RE X (.Call (.Name "sorted" p) [e] [] pos) (tj3 ts):=by
 obtain ⟨va,pa,ra⟩:=he;refine ⟨_,sq3 hc hg hm pa hs,λ σ H Q ρ μ Q3 s m h k=>ra σ H _ ρ μ _ s m h λ xs μ1 H1 h1 nd1 sq1 k1 m1=>?_⟩;intro ys py q a1 a2 v3 r hr;have l1:(ys.map (·.1)).length=ys.length:=length_map _;rw [<- l1] at a1 a2
 have lt':∀ i ∈ q.toList,i < (ys.map λ x=>V.ref x.2).length:=λ i hi=>by
  have e:i ∈ List.toArray (List.range (ys.map (·.1)).length):=a1.mem_iff.mp (by simpa using hi)
  simp_all
 exact k _ _ _ _ (h1 _ ((tv1 a1).trans (py.map _)) (xl3 a1 a2) r (m1.free hr)) (k1.trans (Kp.new hr)) (.ref r) (m1.newL hr (ux0 (un1 v3) _ lt'))
end
end Pv
namespace Pv
open PySem PySem.Spec PyProof.Rows L2
variable {body:List Stmt} {h0:ExceptHandler} {hs:List ExceptHandler}
section
variable {X:Cx} {e:Expr} {te:TE3} {p p2 pos pos2:Pos}
variable {o:Expr} {es:List Expr} {to:TE3} {t:TA3} {apos cpos:Pos}
theorem ta5 {tb:TS} {pos:Pos} (hx:∀ e s,X.xe e s->False) (hb:PSs X body tb):PS X (.Try body (h0 :: hs) [] [] pos) tb:=by
 intro pins s σ H D I h;refine wpAny_Try_except (wpAny_mono (hb pins s σ H D I h) (λ f s1 q=>?_) λ e s1 q=>(hx e s1 q).elim);cases f with
 | next=>exact wpAny_pure q
 | _=>exact q
theorem uq4 {tb:TS3} {pos:Pos} (hb:RSs X body tb) (hx:∀ e s,X.xe e s->False:=by intro _ _ h; exact h):RS X (.Try body (h0 :: hs) [] [] pos) tb:=by
 obtain ⟨vb,pb,rb⟩:=hb;exact ⟨_,ta5 hx pb,rb⟩
end
end Pv
namespace Pv
open PySem
noncomputable abbrev xk0:D:=.int 30
noncomputable abbrev xm0:D:=.int 4
noncomputable abbrev ue0:D:=.int 99999999999999999999
noncomputable abbrev td0:D:=.int 400
noncomputable abbrev ti0:D:=.ktp [.str "go",.str "jump",.str "turn"]
noncomputable abbrev xc0:D:=.ktp [.str "go",.str "times"]
noncomputable abbrev ud0:D:=.ktp [.int 0,.int 0,.int 0]
noncomputable abbrev yk0:D:=.ktp [.ktp [.int 1,.int 0],.ktp [.int 0,.int 1],.ktp [.int (-1),.int 0],.ktp [.int 0,.int (-1)]]
noncomputable abbrev vc0:D:=.ktp [.str "part",.str "in",.str "close"]
noncomputable def yg0:Str->Option Bool:=λ x=>if x = "join" then some true else if x = "part" then some true else if x = "out" then some true else if x = "in" then some true else if x = "open" then some true else if x = "close" then some true else if x = "once" then some true else if x = "twice" then some true else none
noncomputable def sp0 (q36 q42 q38 q50 q40 q23 q31 q32:Sp3):Str->Option Sp3:=λ x=>if x = "join" then some q36 else if x = "part" then some q42 else if x = "out" then some q38 else if x = "in" then some q50 else if x = "open" then some q40 else if x = "close" then some q23 else if x = "once" then some q31 else if x = "twice" then some q32 else none
noncomputable def se0:Str->Option Int:=λ x=>if x = "join" then some 2 else if x = "part" then some 1 else if x = "out" then some 1 else if x = "in" then some 0 else if x = "open" then some 1 else if x = "once" then some 3 else if x = "twice" then some 1 else none
noncomputable def sz2:List Str:=["word"]
noncomputable abbrev ti3 (q21:Sp3):TS3 :=
 (vd0 (wa0 q21 (xa0 (v3 0) (xa0 [3] nil3))))
noncomputable def tz2:List Str:=["word", "depth", "count", "deed"]
noncomputable abbrev ui3 (q22:Sp3):TS3 :=
 (seq3 (ifs3 (not3 (b3 (wa0 isiR (xa0 (v3 0) (xa0 (c3 (.ty "tuple")) nil3))))) sc0 sa0) (seq3 (ifs3 (b3 (o3 gtR (v3 1) (c3 xm0))) sc0 sa0) (seq3 (set3 2 [3]) (seq3 (for3 (is3 (v3 0)) (gn3 3) (seq3 (set3 2 (o3 addR (v3 2) (wa0 q22 (xa0 (v3 3) (xa0 (v3 1) nil3))))) (ifs3 (b3 (o3 gtR (v3 2) (c3 xk0))) sc0 sa0))) (ret3 (v3 2))))))
noncomputable def va4:List Str:=["deed", "depth"]
noncomputable abbrev uf4 (q19 q21:Sp3):TS3 :=
 (seq3 (ifs3 (not3 (b3 (wa0 isiR (xa0 (v3 0) (xa0 (c3 (.ty "tuple")) nil3))))) sc0 sa0) (seq3 (ifs3 (and3 (b3 (o3 eqR (wa0 lenR (xa0 (v3 0) nil3)) (c3 (.int 2)))) (b3 (o3 (inR false) (o3 ixR (v3 0) [3]) (c3 ti0)))) (seq3 (vd0 (wa0 q19 (xa0 (o3 ixR (v3 0) [3]) (xa0 (o3 ixR (v3 0) [4]) nil3)))) (ret3 [4])) sa0) (seq3 (ifs3 (and3 (b3 (o3 eqR (wa0 lenR (xa0 (v3 0) nil3)) (c3 (.int 3)))) (b3 (o3 eqR (o3 ixR (v3 0) [3]) (c3 (.str "times"))))) (seq3 (vd0 (wa0 q19 (xa0 (o3 ixR (v3 0) [3]) (xa0 (o3 ixR (v3 0) [4]) nil3)))) (ret3 (o3 addR [4] (wa0 q21 (xa0 (o3 ixR (v3 0) (c3 (.int 2))) (xa0 (o3 addR (v3 1) [4]) nil3)))))) sa0) sc0)))
noncomputable def xa3:List Str:=["kind", "number"]
noncomputable abbrev si3:TS3 :=
 (seq3 (ifs3 (not3 (b3 (wa0 isiR (xa0 (v3 1) (xa0 (c3 (.ty "int")) nil3))))) sc0 sa0) (seq3 (ifs3 (b3 (o3 gtR (wa0 absR (xa0 (v3 1) nil3)) (c3 ue0))) sc0 sa0) (ifs3 (and3 (b3 (o3 ltR (v3 1) [3])) (b3 (o3 (inR false) (v3 0) (c3 xc0)))) sc0 sa0)))
noncomputable def uy3:List Str:=["word"]
noncomputable abbrev td4 (q16:Sp3):TS3 :=
 (ret3 (wa0 q16 (xa0 (c3 ud0) (xa0 (v3 0) nil3))))
noncomputable def sa4:List Str:=["pen", "word"]
noncomputable abbrev xg4 (q20 q39 q44:Sp3):TS3 :=
 (seq3 (vd0 (wa0 q20 (xa0 (v3 1) nil3))) (ret3 (wa0 q39 (xa0 (v3 0) (xa0 (wa0 q44 (xa0 (v3 1) nil3)) nil3)))))
noncomputable def xz3:List Str:=["pen", "part", "ahead", "x", "y"]
noncomputable abbrev ye4:TS3 :=
 (seq3 (set3 2 (o3 ixR (c3 yk0) (o3 ixR (v3 0) (c3 (.int 2))))) (seq3 (set3 3 (o3 subR (o3 addR (o3 ixR (v3 0) [3]) (o3 mulR (o3 ixR (v3 1) [3]) (o3 ixR (v3 2) [3]))) (o3 mulR (o3 ixR (v3 1) [4]) (o3 ixR (v3 2) [4])))) (seq3 (set3 4 (o3 addR (o3 addR (o3 ixR (v3 0) [4]) (o3 mulR (o3 ixR (v3 1) [3]) (o3 ixR (v3 2) [4]))) (o3 mulR (o3 ixR (v3 1) [4]) (o3 ixR (v3 2) [3])))) (ret3 (tup3 (xa0 (v3 3) (xa0 (v3 4) (xa0 (o3 modR (o3 addR (o3 ixR (v3 0) (c3 (.int 2))) (o3 ixR (v3 1) (c3 (.int 2)))) (c3 (.int 4))) nil3))))))))
noncomputable def vy3:List Str:=["word", "pen", "deed"]
noncomputable abbrev ud4 (q39 q45:Sp3):TS3 :=
 (seq3 (set3 1 (c3 ud0)) (seq3 (for3 (is3 (v3 0)) (gn3 2) (set3 1 (wa0 q39 (xa0 (v3 1) (xa0 (wa0 q45 (xa0 (v3 2) nil3)) nil3))))) (ret3 (v3 1))))
noncomputable def wy3:List Str:=["deed"]
noncomputable abbrev vd4 (q44 q46:Sp3):TS3 :=
 (seq3 (ifs3 (b3 (o3 eqR (o3 ixR (v3 0) [3]) (c3 (.str "turn")))) (ret3 (tup3 (xa0 [3] (xa0 [3] (xa0 (o3 modR (o3 ixR (v3 0) [4]) (c3 (.int 4))) nil3))))) sa0) (seq3 (ifs3 (b3 (o3 eqR (o3 ixR (v3 0) [3]) (c3 (.str "times")))) (ret3 (wa0 q46 (xa0 (wa0 q44 (xa0 (o3 ixR (v3 0) (c3 (.int 2))) nil3)) (xa0 (o3 ixR (v3 0) [4]) nil3)))) sa0) (ret3 (tup3 (xa0 (o3 ixR (v3 0) [4]) (xa0 [3] (xa0 [3] nil3)))))))
noncomputable def zy3:List Str:=["part", "number", "pen", "doing"]
noncomputable abbrev wd4 (q39:Sp3):TS3 :=
 (seq3 (ifs3 (b3 (o3 eqR (o3 ixR (v3 0) (c3 (.int 2))) [3])) (ret3 (tup3 (xa0 (o3 mulR (o3 ixR (v3 0) [3]) (v3 1)) (xa0 (o3 mulR (o3 ixR (v3 0) [4]) (v3 1)) (xa0 [3] nil3))))) sa0) (seq3 (set3 2 (c3 ud0)) (seq3 (for3 (ir3 (xa0 (o3 modR (v3 1) (c3 (.int 4))) nil3)) (gn3 3) (set3 2 (wa0 q39 (xa0 (v3 2) (xa0 (v3 0) nil3))))) (ret3 (v3 2)))))
noncomputable def uy2:List Str:=["word"]
noncomputable abbrev vh3 (q20 q26:Sp3):TS3 :=
 (seq3 (vd0 (wa0 q20 (xa0 (v3 0) nil3))) (ret3 (wa0 q26 (xa0 (v3 0) nil3))))
noncomputable def vz2:List Str:=["word"]
noncomputable abbrev wi3 (q27:Sp3):TS3 :=
 (ret3 (wa0 sumR (xa0 (wm0 [none] (is3 (v3 0)) (gn3 0) tt3 (wa0 q27 (xa0 (v3 0) nil3))) nil3)))
noncomputable def ya4:List Str:=["deed"]
noncomputable abbrev zf4 (q26:Sp3):TS3 :=
 (seq3 (ifs3 (b3 (o3 eqR (o3 ixR (v3 0) [3]) (c3 (.str "go")))) (ret3 (o3 ixR (v3 0) [4])) sa0) (seq3 (ifs3 (b3 (o3 eqR (o3 ixR (v3 0) [3]) (c3 (.str "times")))) (ret3 (o3 mulR (o3 ixR (v3 0) [4]) (wa0 q26 (xa0 (o3 ixR (v3 0) (c3 (.int 2))) nil3)))) sa0) (ret3 [3])))
noncomputable def zz2:List Str:=["word"]
noncomputable abbrev yi3 (q20 q24:Sp3):TS3 :=
 (seq3 (vd0 (wa0 q20 (xa0 (v3 0) nil3))) (ret3 (wa0 q24 (xa0 (v3 0) nil3))))
noncomputable def uz2:List Str:=["word"]
noncomputable abbrev vi3 (q25:Sp3):TS3 :=
 (ret3 (wa0 sumR (xa0 (wm0 [none] (is3 (v3 0)) (gn3 0) tt3 (wa0 q25 (xa0 (v3 0) nil3))) nil3)))
noncomputable def za4:List Str:=["deed"]
noncomputable abbrev wf4 (q24:Sp3):TS3 :=
 (seq3 (ifs3 (b3 (o3 eqR (o3 ixR (v3 0) [3]) (c3 (.str "times")))) (ret3 (o3 mulR (o3 ixR (v3 0) [4]) (wa0 q24 (xa0 (o3 ixR (v3 0) (c3 (.int 2))) nil3)))) sa0) (ret3 [4]))
noncomputable def yz2:List Str:=["word"]
noncomputable abbrev xi3 (q29 q53:Sp3):TS3 :=
 (ret3 (tc1 (o3 leR (wa0 q53 (xa0 (v3 0) nil3)) (c3 td0)) (o3 leR (wa0 q29 (xa0 (v3 0) nil3)) (c3 td0))))
noncomputable def wx3:List Str:=["word", "steps", "here", "step"]
noncomputable abbrev vc4 (q20 q57:Sp3):TS3 :=
 (seq3 (vd0 (wa0 q20 (xa0 (v3 0) nil3))) (seq3 (set3 2 (v3 0)) (seq3 (for3 (is3 (v3 1)) (gn3 3) (set3 2 (wa0 q57 (xa0 (v3 2) (xa0 (v3 3) nil3))))) (ret3 (v3 2)))))
noncomputable def zx3:List Str:=["word", "step", "there"]
noncomputable abbrev wc4 (q18 q20:Sp3):TS3 :=
 (seq3 (ifs3 (b3 (o3 neR (wa0 lenR (xa0 (v3 1) nil3)) (if3 (b3 (o3 (inR false) (o3 ixR (v3 1) [3]) (c3 vc0))) (c3 (.int 4)) (c3 (.int 3))))) sc0 sa0) (seq3 (set3 2 (wa0 q18 (xa0 (v3 0) (xa0 (o3 ixR (v3 1) [4]) (xa0 (v3 1) nil3))))) (seq3 (vd0 (wa0 q20 (xa0 (v3 2) nil3))) (ret3 (v3 2)))))
noncomputable def ua4:List Str:=["word", "way", "step", "deed", "inside"]
noncomputable abbrev vo0 (q17 q18 q30 q33:Sp3):TS3 :=
 (ret3 (wa0 q33 (xa0 (v3 0) (xa0 (o3 ixR (v3 1) [3]) (xa0 [4] (xa0 (tup3 (xa0 (tup3 (xa0 (c3 (.str "times")) (xa0 (o3 ixR (v3 3) [4]) (xa0 (v3 4) nil3)))) nil3)) nil3))))))
noncomputable abbrev uo0 (q17 q18 q30 q33:Sp3):TS3 :=
 (seq3 (set3 4 (wa0 q18 (xa0 (o3 ixR (v3 3) (c3 (.int 2))) (xa0 (sl3 slR (v3 1) (pt3 [4]) np3) (xa0 (v3 2) nil3))))) (vo0 q17 q18 q30 q33))
noncomputable abbrev to0 (q17 q18 q30 q33:Sp3):TS3 :=
 (seq3 (ifs3 (b3 (o3 neR (o3 ixR (v3 3) [3]) (c3 (.str "times")))) sc0 sa0) (uo0 q17 q18 q30 q33))
noncomputable abbrev so0 (q17 q18 q30 q33:Sp3):TS3 :=
 (seq3 (set3 3 (o3 ixR (wa0 q30 (xa0 (v3 0) (xa0 (o3 ixR (v3 1) [3]) (xa0 [4] nil3)))) [3])) (to0 q17 q18 q30 q33))
noncomputable abbrev tf4 (q17 q18 q30 q33:Sp3):TS3 :=
 (seq3 (ifs3 (b3 (o3 eqR (wa0 lenR (xa0 (v3 1) nil3)) [3])) (ret3 (wa0 q17 (xa0 (v3 0) (xa0 (v3 2) nil3)))) sa0) (so0 q17 q18 q30 q33))
noncomputable def xa4:List Str:=["word", "place", "number"]
noncomputable abbrev yf4:TS3 :=
 (seq3 (ifs3 (or3 (b3 (o3 ltR (v3 1) [3])) (or3 (b3 (o3 ltR (v3 2) [3])) (b3 (o3 gtR (o3 addR (v3 1) (v3 2)) (wa0 lenR (xa0 (v3 0) nil3)))))) sc0 sa0) (ret3 (sl3 slR (v3 0) (pt3 (v3 1)) (pt3 (o3 addR (v3 1) (v3 2))))))
noncomputable def uz3:List Str:=["word", "place", "number", "deeds"]
noncomputable abbrev te4:TS3 :=
 (ret3 (o3 addR (o3 addR (sl3 slR (v3 0) np3 (pt3 (v3 1))) (v3 3)) (sl3 slR (v3 0) (pt3 (o3 addR (v3 1) (v3 2))) np3)))
noncomputable def wz3:List Str:=["deeds", "need", "first", "second"]
noncomputable abbrev wt0:TS3 :=
 (ret3 (tup3 (xa0 (o3 addR (tup3 (xa0 (o3 ixR (v3 2) [3]) (xa0 (o3 addR (o3 ixR (v3 2) [4]) (o3 ixR (v3 3) [4])) nil3))) (sl3 slR (v3 2) (pt3 (c3 (.int 2))) np3)) nil3)))
noncomputable abbrev tj0:TS3 :=
 (seq3 (ifs3 (or3 (b3 (o3 neR (o3 ixR (v3 2) [3]) (o3 ixR (v3 3) [3]))) (b3 (o3 neR (sl3 slR (v3 2) (pt3 (c3 (.int 2))) np3) (sl3 slR (v3 3) (pt3 (c3 (.int 2))) np3)))) sc0 sa0) (wt0))
noncomputable abbrev vt0:TS3 :=
 (seq3 (set3 3 (o3 ixR (v3 0) [4])) (tj0))
noncomputable abbrev ve4:TS3 :=
 (seq3 (set3 2 (o3 ixR (v3 0) [3])) (vt0))
noncomputable def ty3:List Str:=["deeds", "number", "deed", "rest"]
noncomputable abbrev sd4:TS3 :=
 (seq3 (set3 2 (o3 ixR (v3 0) [3])) (seq3 (set3 3 (o3 subR (o3 ixR (v3 2) [4]) (v3 1))) (seq3 (ifs3 (and3 (b3 (o3 (inR false) (o3 ixR (v3 2) [3]) (c3 xc0))) (or3 (b3 (o3 ltR (v3 1) [3])) (b3 (o3 ltR (v3 3) [3])))) sc0 sa0) (ret3 (tup3 (xa0 (o3 addR (tup3 (xa0 (o3 ixR (v3 2) [3]) (xa0 (v3 1) nil3))) (sl3 slR (v3 2) (pt3 (c3 (.int 2))) np3)) (xa0 (o3 addR (tup3 (xa0 (o3 ixR (v3 2) [3]) (xa0 (v3 3) nil3))) (sl3 slR (v3 2) (pt3 (c3 (.int 2))) np3)) nil3)))))))
noncomputable def yz3:List Str:=["deeds", "need"]
noncomputable abbrev ze4 (q34:Sp3):TS3 :=
 (seq3 (ifs3 (not3 (b3 (wa0 q34 (xa0 (o3 ixR (v3 0) [3]) nil3)))) sc0 sa0) (ret3 (tup3 nil3)))
noncomputable def tx3:List Str:=["deeds", "deed"]
noncomputable abbrev sc4 (q34:Sp3):TS3 :=
 (seq3 (ifs3 (not3 (b3 (wa0 q34 (xa0 (v3 1) nil3)))) sc0 sa0) (ret3 (tup3 (xa0 (v3 1) nil3))))
noncomputable def vz3:List Str:=["deed"]
noncomputable abbrev ue4:TS3 :=
 (seq3 (ifs3 (and3 (b3 (o3 eqR (wa0 lenR (xa0 (v3 0) nil3)) (c3 (.int 3)))) (b3 (o3 eqR (o3 ixR (v3 0) [3]) (c3 (.str "times"))))) (ret3 (orV3 (o3 eqR (o3 ixR (v3 0) [4]) [3]) (o3 eqR (o3 ixR (v3 0) (c3 (.int 2))) (tup3 nil3)))) sa0) (seq3 (ifs3 (b3 (o3 neR (wa0 lenR (xa0 (v3 0) nil3)) (c3 (.int 2)))) (ret3 (c3 (.bl false))) sa0) (seq3 (ifs3 (b3 (o3 eqR (o3 ixR (v3 0) [3]) (c3 (.str "turn")))) (ret3 (o3 eqR (o3 modR (o3 ixR (v3 0) [4]) (c3 (.int 4))) [3])) sa0) (ret3 (tc1 (o3 (inR false) (o3 ixR (v3 0) [3]) (tup3 (xa0 (c3 (.str "go")) (xa0 (c3 (.str "jump")) nil3)))) (o3 eqR (o3 ixR (v3 0) [4]) [3]))))))
noncomputable def sy3:List Str:=["deeds", "need"]
noncomputable abbrev xe4:TS3 :=
 (seq3 (ifs3 (or3 (b3 (o3 neR (o3 ixR (o3 ixR (v3 0) [3]) [3]) (c3 (.str "times")))) (b3 (o3 neR (o3 ixR (o3 ixR (v3 0) [3]) [4]) [4]))) sc0 sa0) (ret3 (o3 ixR (o3 ixR (v3 0) [3]) (c3 (.int 2)))))
noncomputable def wa4:List Str:=["deeds", "number"]
noncomputable abbrev vf4:TS3 :=
 (ret3 (tup3 (xa0 (tup3 (xa0 (c3 (.str "times")) (xa0 [4] (xa0 (v3 0) nil3)))) nil3)))
noncomputable def sz3:List Str:=["deeds", "need"]
noncomputable abbrev xf4 (q32:Sp3):TS3 :=
 (seq3 (ifs3 (b3 (o3 neR (v3 0) (wa0 q32 (xa0 (sl3 slR (v3 0) np3 (pt3 [4])) (xa0 (v3 1) nil3))))) sc0 sa0) (ret3 (sl3 slR (v3 0) np3 (pt3 [4]))))
noncomputable def tz3:List Str:=["deeds", "need", "deed"]
noncomputable abbrev se4:TS3 :=
 (seq3 (set3 2 (o3 ixR (v3 0) [3])) (seq3 (ifs3 (b3 (o3 neR (o3 ixR (v3 2) [3]) (c3 (.str "go")))) sc0 sa0) (ret3 (tup3 (xa0 (v3 2) (xa0 (tup3 (xa0 (c3 (.str "jump")) (xa0 (un3 negR (o3 ixR (v3 2) [4])) nil3))) (xa0 (v3 2) nil3)))))))
noncomputable def ta4:List Str:=["word", "step", "need", "number", "deeds"]
noncomputable abbrev um0 (q23 q30 q31 q32 q33 q36 q38 q40 q42 q50:Sp3):TS3 :=
 (ret3 (wa0 q33 (xa0 (v3 0) (xa0 (o3 ixR (v3 1) (c3 (.int 2))) (xa0 (v3 3) (xa0 (mdc3 (sp0 q36 q42 q38 q50 q40 q23 q31 q32) (o3 ixR (v3 1) [3]) (xa0 (v3 4) (xa0 (v3 2) nil3))) nil3))))))
noncomputable abbrev tm0 (q23 q30 q31 q32 q33 q36 q38 q40 q42 q50:Sp3):TS3 :=
 (seq3 (set3 4 (wa0 q30 (xa0 (v3 0) (xa0 (o3 ixR (v3 1) (c3 (.int 2))) (xa0 (v3 3) nil3))))) (um0 q23 q30 q31 q32 q33 q36 q38 q40 q42 q50))
noncomputable abbrev sm0 (q23 q30 q31 q32 q33 q36 q38 q40 q42 q50:Sp3):TS3 :=
 (seq3 (set3 3 (if3 (b3 (o3 eqR (o3 ixR (v3 1) [3]) (c3 (.str "close")))) (v3 2) (mdg3 se0 (o3 ixR (v3 1) [3])))) (tm0 q23 q30 q31 q32 q33 q36 q38 q40 q42 q50))
noncomputable abbrev xn0 (q23 q30 q31 q32 q33 q36 q38 q40 q42 q50:Sp3):TS3 :=
 (seq3 (set3 2 (if3 (b3 (o3 (inR false) (o3 ixR (v3 1) [3]) (c3 vc0))) (o3 ixR (v3 1) (c3 (.int 3))) (c3 .non))) (sm0 q23 q30 q31 q32 q33 q36 q38 q40 q42 q50))
noncomputable abbrev sf4 (q23 q30 q31 q32 q33 q36 q38 q40 q42 q50:Sp3):TS3 :=
 (seq3 (ifs3 (b3 (mdn3 true yg0 (o3 ixR (v3 1) [3]))) sc0 sa0) (xn0 q23 q30 q31 q32 q33 q36 q38 q40 q42 q50))
noncomputable def sy2:List Str:=["point", "other", "low"]
noncomputable abbrev th3:TS3 :=
 (seq3 (set3 2 (wa0 mnR (xa0 (v3 0) (xa0 (v3 1) nil3)))) (ret3 (tup3 (xa0 (o3 ixR (v3 2) [3]) (xa0 (o3 ixR (v3 2) [4]) (xa0 (if3 (b3 (o3 eqR (o3 ixR (v3 0) [4]) (o3 ixR (v3 1) [4]))) [3] [4]) nil3))))))
noncomputable def ty2:List Str:=["points"]
noncomputable abbrev uh3 (q51:Sp3):TS3 :=
 (ret3 (wm0 [none,some 0] (ir23 (xa0 [4] (xa0 (wa0 lenR (xa0 (v3 0) nil3)) nil3))) (gn3 0) tt3 (wa0 q51 (xa0 (o3 ixR (v3 1) (o3 subR (v3 0) [4])) (xa0 (o3 ixR (v3 1) (v3 0)) nil3)))))
noncomputable def xy3:List Str:=["strokes"]
noncomputable abbrev yd4:TS3 :=
 (ret3 (wa0 tupR (xa0 (tj3 (uj3 (xa0 (v3 0) nil3))) nil3)))
noncomputable def yy3:List Str:=["word"]
noncomputable abbrev zd4 (q35 q48 q54:Sp3):TS3 :=
 (seq3 (ifs3 (not3 (b3 (wa0 q35 (xa0 (v3 0) nil3)))) sc0 sa0) (ret3 (wa0 q48 (xa0 (wa0 q54 (xa0 (c3 ud0) (xa0 (v3 0) nil3))) nil3))))
noncomputable def ux3:List Str:=["pen", "word", "strokes", "here", "deed"]
noncomputable abbrev tc4 (q39 q45 q49 q55:Sp3):TS3 :=
 (seq3 (set3 2 (lst3 nil3)) (seq3 (set3 3 (v3 0)) (seq3 (for3 (is3 (wa0 q49 (xa0 (v3 1) nil3))) (gn3 4) (seq3 (ifs3 (b3 (o3 eqR (o3 ixR (v3 4) [3]) (c3 (.str "go")))) (vd0 (mt3 extR (v3 2) (xa0 (wa0 q55 (xa0 (v3 3) (xa0 (o3 ixR (v3 4) [4]) nil3))) nil3))) sa0) (set3 3 (wa0 q39 (xa0 (v3 3) (xa0 (wa0 q45 (xa0 (v3 4) nil3)) nil3)))))) (ret3 (v3 2)))))
noncomputable def sx3:List Str:=["word", "deeds", "deed"]
noncomputable abbrev xd4 (q25 q49:Sp3):TS3 :=
 (seq3 (set3 1 (lst3 nil3)) (seq3 (for3 (is3 (v3 0)) (gn3 2) (ifs3 (b3 (o3 neR (o3 ixR (v3 2) [3]) (c3 (.str "times")))) (vd0 (mt3 appR (v3 1) (xa0 (v3 2) nil3))) (ifs3 (b3 (o3 gtR (wa0 q25 (xa0 (v3 2) nil3)) [3])) (vd0 (mt3 extR (v3 1) (xa0 (o3 mulR (wa0 q49 (xa0 (o3 ixR (v3 2) (c3 (.int 2))) nil3)) (o3 ixR (v3 2) [4])) nil3))) sa0))) (ret3 (v3 1))))
noncomputable def vx3:List Str:=["pen", "number", "ahead", "points"]
noncomputable abbrev uc4 (q52:Sp3):TS3 :=
 (seq3 (set3 2 (o3 ixR (c3 yk0) (o3 ixR (v3 0) (c3 (.int 2))))) (seq3 (set3 3 (wm0 [none,some 0,some 2] (ir3 (xa0 (o3 addR (v3 1) [4]) nil3)) (gn3 0) tt3 (tup3 (xa0 (o3 addR (o3 ixR (v3 1) [3]) (o3 mulR (o3 ixR (v3 2) [3]) (v3 0))) (xa0 (o3 addR (o3 ixR (v3 1) [4]) (o3 mulR (o3 ixR (v3 2) [4]) (v3 0))) nil3))))) (ret3 (wa0 q52 (xa0 (v3 3) nil3)))))
noncomputable def za3:List Str:=["word"]
noncomputable abbrev yj3 (q20 q58:Sp3):TS3 :=
 (seq3 (vd0 (wa0 q20 (xa0 (v3 0) nil3))) (ret3 (wa0 q58 (xa0 (v3 0) nil3))))
noncomputable def vy2:List Str:=["word", "box", "pen", "deed"]
noncomputable abbrev wh3 (q12 q15 q28 q39 q45:Sp3):TS3 :=
 (seq3 (set3 1 (c3 .non)) (seq3 (set3 2 (c3 ud0)) (seq3 (for3 (is3 (v3 0)) (gn3 3) (seq3 (set3 1 (wa0 q15 (xa0 (v3 1) (xa0 (wa0 q12 (xa0 (v3 2) (xa0 (wa0 q28 (xa0 (v3 3) nil3)) nil3))) nil3)))) (set3 2 (wa0 q39 (xa0 (v3 2) (xa0 (wa0 q45 (xa0 (v3 3) nil3)) nil3)))))) (ret3 (v3 1)))))
noncomputable def wz2:List Str:=["deed"]
noncomputable abbrev zi3 (q14 q44 q58:Sp3):TS3 :=
 (seq3 (ifs3 (b3 (o3 eqR (o3 ixR (v3 0) [4]) [3])) (ret3 (c3 .non)) sa0) (seq3 (ifs3 (b3 (o3 eqR (o3 ixR (v3 0) [3]) (c3 (.str "go")))) (ret3 (tup3 (xa0 [3] (xa0 [3] (xa0 (o3 ixR (v3 0) [4]) (xa0 [3] nil3)))))) sa0) (seq3 (ifs3 (b3 (o3 eqR (o3 ixR (v3 0) [3]) (c3 (.str "times")))) (ret3 (wa0 q14 (xa0 (wa0 q58 (xa0 (o3 ixR (v3 0) (c3 (.int 2))) nil3)) (xa0 (wa0 q44 (xa0 (o3 ixR (v3 0) (c3 (.int 2))) nil3)) (xa0 (o3 ixR (v3 0) [4]) nil3))))) sa0) (ret3 (c3 .non)))))
noncomputable def ya3:List Str:=["box", "part", "number", "whole", "doing"]
noncomputable abbrev xj3 (q12 q15 q41 q46:Sp3):TS3 :=
 (seq3 (set3 3 (c3 .non)) (seq3 (for3 (is3 (wa0 q41 (xa0 (v3 1) (xa0 (v3 2) nil3)))) (gn3 4) (set3 3 (wa0 q15 (xa0 (v3 3) (xa0 (wa0 q12 (xa0 (wa0 q46 (xa0 (v3 1) (xa0 (v3 4) nil3))) (xa0 (v3 0) nil3))) nil3))))) (ret3 (v3 3))))
noncomputable def xz2:List Str:=["part", "number"]
noncomputable abbrev sh3:TS3 :=
 (seq3 (ifs3 (b3 (o3 eqR (o3 ixR (v3 0) (c3 (.int 2))) [3])) (ret3 (lst3 (xa0 [3] (xa0 (o3 subR (v3 1) [4]) nil3)))) sa0) (ret3 (tt2 (wa0 mnR (xa0 (v3 1) (xa0 (c3 (.int 4)) nil3))))))
noncomputable def xb4:List Str:=["one", "other", "least"]
noncomputable abbrev yg4:TS3 :=
 (seq3 (ifs3 (b3 (o3 (isNR false) (v3 0) (c3 .non))) (ret3 (v3 1)) sa0) (seq3 (ifs3 (b3 (o3 (isNR false) (v3 1) (c3 .non))) (ret3 (v3 0)) sa0) (seq3 (set3 2 (tup3 (xa0 (wa0 mnR (xa0 (o3 ixR (v3 0) [3]) (xa0 (o3 ixR (v3 1) [3]) nil3))) (xa0 (wa0 mnR (xa0 (o3 ixR (v3 0) [4]) (xa0 (o3 ixR (v3 1) [4]) nil3))) nil3)))) (ret3 (o3 addR (v3 2) (tup3 (xa0 (wa0 mxR (xa0 (o3 ixR (v3 0) (c3 (.int 2))) (xa0 (o3 ixR (v3 1) (c3 (.int 2))) nil3))) (xa0 (wa0 mxR (xa0 (o3 ixR (v3 0) (c3 (.int 3))) (xa0 (o3 ixR (v3 1) (c3 (.int 3))) nil3))) nil3))))))))
noncomputable def yb4:List Str:=["pen", "box", "corner", "other", "least"]
noncomputable abbrev zg4 (q39:Sp3):TS3 :=
 (seq3 (ifs3 (b3 (o3 (isNR false) (v3 1) (c3 .non))) (ret3 (c3 .non)) sa0) (seq3 (set3 2 (wa0 q39 (xa0 (v3 0) (xa0 (tup3 (xa0 (o3 ixR (v3 1) [3]) (xa0 (o3 ixR (v3 1) [4]) (xa0 [3] nil3)))) nil3)))) (seq3 (set3 3 (wa0 q39 (xa0 (v3 0) (xa0 (tup3 (xa0 (o3 ixR (v3 1) (c3 (.int 2))) (xa0 (o3 ixR (v3 1) (c3 (.int 3))) (xa0 [3] nil3)))) nil3)))) (seq3 (set3 4 (tup3 (xa0 (wa0 mnR (xa0 (o3 ixR (v3 2) [3]) (xa0 (o3 ixR (v3 3) [3]) nil3))) (xa0 (wa0 mnR (xa0 (o3 ixR (v3 2) [4]) (xa0 (o3 ixR (v3 3) [4]) nil3))) nil3)))) (ret3 (o3 addR (v3 4) (tup3 (xa0 (wa0 mxR (xa0 (o3 ixR (v3 2) [3]) (xa0 (o3 ixR (v3 3) [3]) nil3))) (xa0 (wa0 mxR (xa0 (o3 ixR (v3 2) [4]) (xa0 (o3 ixR (v3 3) [4]) nil3))) nil3)))))))))
noncomputable def N_q8:List Str:=["script", "k", "cell"]
noncomputable abbrev t_q8:TS3 :=
 (seq3 (set3 2 [3]) (seq3 (ifs3 (b3 (o3 ltR (v3 1) (wa0 lenR (xa0 (v3 0) nil3)))) (set3 2 (o3 ixR (v3 0) (v3 1))) sa0) (seq3 (ifs3 (b3 (o3 geR (v3 2) (o3 powR (c3 (.int 10)) (c3 (.int 18))))) (ret3 (lst3 (xa0 (o3 subR (v3 2) (o3 powR (c3 (.int 10)) (c3 (.int 18)))) (xa0 [4] nil3)))) sa0) (ret3 (lst3 (xa0 (o3 modR (o3 addR (v3 2) (o3 mulR (c3 (.int 7919)) (v3 1))) (c3 (.int 2147483647))) (xa0 [3] nil3)))))))
noncomputable def wb4:List Str:=["state", "many", "found", "mixed"]
noncomputable abbrev vg4:TS3 :=
 (seq3 (ifs3 (and3 (b3 (o3 eqR (o3 ixR (v3 0) [4]) [4])) (b3 (o3 gtR (o3 ixR (v3 0) [3]) [3]))) (seq3 (set3 2 (o3 modR (o3 ixR (v3 0) [3]) (v3 1))) (seq3 (asg3 (o3 yw2 (o3 ixR (v3 0) [3]) (v3 1)) (sub3 (v3 0) [3])) (ret3 (v3 2)))) sa0) (seq3 (asg3 [3] (sub3 (v3 0) [4])) (seq3 (asg3 (o3 modR (o3 addR (o3 mulR (o3 ixR (v3 0) [3]) (c3 (.int 48271))) (c3 (.int 69621))) (c3 (.int 2147483647))) (sub3 (v3 0) [3])) (seq3 (set3 3 (o3 modR (o3 addR (o3 mulR (o3 ixR (v3 0) [3]) (o3 ixR (v3 0) [3])) (o3 mulR (c3 (.int 16807)) (o3 ixR (v3 0) [3]))) (c3 (.int 2147483629)))) (seq3 (set3 3 (o3 modR (o3 addR (o3 mulR (v3 3) (v3 3)) (o3 mulR (c3 (.int 39373)) (v3 3))) (c3 (.int 2147483587)))) (ret3 (o3 modR (o3 yw2 (v3 3) (c3 (.int 8))) (v3 1))))))))
noncomputable def N_q2:List Str:=["state", "deep", "kind"]
noncomputable abbrev t_q2 (q3 q10:Sp3):TS3 :=
 (seq3 (set3 2 (wa0 q10 (xa0 (v3 0) (xa0 (o3 addR (c3 (.int 4)) (o3 mulR (c3 (.int 2)) (wa0 intR (xa0 (o3 gtR (v3 1) [3]) nil3)))) nil3)))) (seq3 (ifs3 (b3 (o3 eqR (v3 2) [3])) (ret3 (tup3 (xa0 (c3 (.str "turn")) (xa0 (o3 subR (wa0 q10 (xa0 (v3 0) (xa0 (c3 (.int 9)) nil3))) (c3 (.int 4))) nil3)))) sa0) (seq3 (ifs3 (b3 (o3 eqR (v3 2) [4])) (ret3 (tup3 (xa0 (c3 (.str "jump")) (xa0 (o3 subR (wa0 q10 (xa0 (v3 0) (xa0 (c3 (.int 5)) nil3))) (c3 (.int 2))) nil3)))) sa0) (seq3 (ifs3 (b3 (o3 ltR (v3 2) (c3 (.int 4)))) (ret3 (tup3 (xa0 (c3 (.str "go")) (xa0 (wa0 q10 (xa0 (v3 0) (xa0 (c3 (.int 3)) nil3))) nil3)))) sa0) (ret3 (tup3 (xa0 (c3 (.str "times")) (xa0 (wa0 q10 (xa0 (v3 0) (xa0 (c3 (.int 4)) nil3))) (xa0 (wa0 q3 (xa0 (v3 0) (xa0 (o3 subR (v3 1) [4]) (xa0 (wa0 q10 (xa0 (v3 0) (xa0 (c3 (.int 3)) nil3))) nil3)))) nil3)))))))))
noncomputable def N_q3:List Str:=["state", "deep", "many", "found", "k"]
noncomputable abbrev t_q3 (q2 q10:Sp3):TS3 :=
 (seq3 (set3 3 (lst3 nil3)) (seq3 (for3 (ir3 (xa0 (v3 2) nil3)) (gn3 4) (ifs3 (and3 (b3 (o3 neR (v3 3) (lst3 nil3))) (b3 (o3 eqR (wa0 q10 (xa0 (v3 0) (xa0 (c3 (.int 4)) nil3))) [3]))) (vd0 (mt3 appR (v3 3) (xa0 (o3 ixR (v3 3) (un3 negR [4])) nil3))) (ifs3 (and3 (b3 (o3 neR (v3 3) (lst3 nil3))) (and3 (b3 (o3 eqR (o3 ixR (o3 ixR (v3 3) (un3 negR [4])) [3]) (c3 (.str "go")))) (b3 (o3 eqR (wa0 q10 (xa0 (v3 0) (xa0 (c3 (.int 3)) nil3))) [3])))) (set3 3 (o3 addR (v3 3) (lst3 (xa0 (tup3 (xa0 (c3 (.str "jump")) (xa0 (o3 subR [3] (o3 ixR (o3 ixR (v3 3) (un3 negR [4])) [4])) nil3))) (xa0 (o3 ixR (v3 3) (un3 negR [4])) nil3))))) (vd0 (mt3 appR (v3 3) (xa0 (wa0 q2 (xa0 (v3 0) (xa0 (v3 1) nil3))) nil3)))))) (ret3 (wa0 tupR (xa0 (v3 3) nil3)))))
noncomputable def N_q5:List Str:=["deed"]
noncomputable abbrev t_q5:TS3 :=
 (seq3 (ifs3 (b3 (o3 eqR (o3 ixR (v3 0) [3]) (c3 (.str "turn")))) (ret3 (o3 eqR (o3 modR (o3 ixR (v3 0) [4]) (c3 (.int 4))) [3])) sa0) (ret3 (orV3 (o3 eqR (o3 ixR (v3 0) [4]) [3]) (tc1 (o3 eqR (o3 ixR (v3 0) [3]) (c3 (.str "times"))) (o3 eqR (o3 ixR (v3 0) (c3 (.int 2))) (tup3 nil3))))))
noncomputable def N_q1:List Str:=["deeds", "at", "step", "rest", "kind", "first", "good"]
noncomputable abbrev uh0 (q5:Sp3):TS3 :=
 (ret3 (tup3 (xa0 (c3 (.int 2)) (xa0 (tup3 (xa0 (o3 addR (tup3 (xa0 (o3 ixR (v3 5) [3]) (xa0 (o3 addR (o3 ixR (v3 5) [4]) (o3 ixR (o3 ixR (v3 3) [4]) [4])) nil3))) (sl3 slR (v3 5) (pt3 (c3 (.int 2))) np3)) nil3)) nil3))))
noncomputable abbrev th0 (q5:Sp3):TS3 :=
 (seq3 (ifs3 (or3 (b3 (o3 ltR (wa0 lenR (xa0 (v3 3) nil3)) (c3 (.int 2)))) (or3 (b3 (o3 neR (o3 ixR (o3 ixR (v3 3) [4]) [3]) (o3 ixR (v3 5) [3]))) (b3 (o3 neR (sl3 slR (o3 ixR (v3 3) [4]) (pt3 (c3 (.int 2))) np3) (sl3 slR (v3 5) (pt3 (c3 (.int 2))) np3))))) (ret3 (c3 .non)) sa0) (uh0 q5))
noncomputable abbrev xp0 (q5:Sp3):TS3 :=
 (seq3 (ifs3 (b3 (o3 eqR (v3 4) (c3 (.str "once")))) (seq3 (set3 6 (tc1 (o3 eqR (o3 ixR (v3 5) [3]) (c3 (.str "go"))) (o3 eqR (sl3 slR (v3 3) (pt3 [4]) (pt3 (c3 (.int 3)))) (tup3 (xa0 (tup3 (xa0 (c3 (.str "jump")) (xa0 (o3 subR [3] (o3 ixR (v3 5) [4])) nil3))) (xa0 (v3 5) nil3)))))) (ret3 (if3 (b3 (v3 6)) (tup3 (xa0 (c3 (.int 3)) (xa0 (tup3 (xa0 (v3 5) nil3)) nil3))) (c3 .non)))) sa0) (th0 q5))
noncomputable abbrev uq0 (q5:Sp3):TS3 :=
 (seq3 (ifs3 (b3 (o3 eqR (v3 4) (c3 (.str "part")))) (seq3 (ifs3 (and3 (b3 (o3 (inR false) (o3 ixR (v3 5) [3]) (lst3 (xa0 (c3 (.str "go")) (xa0 (c3 (.str "times")) nil3))))) (not3 (b3 (ch3 leR leR [3] (o3 ixR (v3 2) (c3 (.int 3))) (o3 ixR (v3 5) [4]))))) (ret3 (c3 .non)) sa0) (ret3 (tup3 (xa0 [4] (xa0 (tup3 (xa0 (o3 addR (tup3 (xa0 (o3 ixR (v3 5) [3]) (xa0 (o3 ixR (v3 2) (c3 (.int 3))) nil3))) (sl3 slR (v3 5) (pt3 (c3 (.int 2))) np3)) (xa0 (o3 addR (tup3 (xa0 (o3 ixR (v3 5) [3]) (xa0 (o3 subR (o3 ixR (v3 5) [4]) (o3 ixR (v3 2) (c3 (.int 3)))) nil3))) (sl3 slR (v3 5) (pt3 (c3 (.int 2))) np3)) nil3))) nil3))))) sa0) (xp0 q5))
noncomputable abbrev tq0 (q5:Sp3):TS3 :=
 (seq3 (ifs3 (b3 (o3 eqR (v3 4) (c3 (.str "twice")))) (ret3 (if3 (b3 (o3 eqR (o3 ixR (v3 5) [3]) (c3 (.str "go")))) (tup3 (xa0 [4] (xa0 (tup3 (xa0 (v3 5) (xa0 (tup3 (xa0 (c3 (.str "jump")) (xa0 (o3 subR [3] (o3 ixR (v3 5) [4])) nil3))) (xa0 (v3 5) nil3)))) nil3))) (c3 .non))) sa0) (uq0 q5))
noncomputable abbrev sq0 (q5:Sp3):TS3 :=
 (seq3 (ifs3 (b3 (o3 eqR (v3 4) (c3 (.str "open")))) (ret3 (if3 (b3 (o3 eqR (sl3 slR (v3 5) np3 (pt3 (c3 (.int 2)))) (tup3 (xa0 (c3 (.str "times")) (xa0 [4] nil3))))) (tup3 (xa0 [4] (xa0 (o3 ixR (v3 5) (c3 (.int 2))) nil3))) (c3 .non))) sa0) (tq0 q5))
noncomputable abbrev uf0 (q5:Sp3):TS3 :=
 (seq3 (ifs3 (b3 (o3 eqR (v3 4) (c3 (.str "out")))) (ret3 (if3 (b3 (wa0 q5 (xa0 (v3 5) nil3))) (tup3 (xa0 [4] (xa0 (tup3 nil3) nil3))) (c3 .non))) sa0) (sq0 q5))
noncomputable abbrev xr0 (q5:Sp3):TS3 :=
 (seq3 (set3 5 (o3 ixR (v3 3) [3])) (uf0 q5))
noncomputable abbrev wj0 (q5:Sp3):TS3 :=
 (seq3 (ifs3 (b3 (o3 eqR (v3 3) (tup3 nil3))) (ret3 (c3 .non)) sa0) (xr0 q5))
noncomputable abbrev yr0 (q5:Sp3):TS3 :=
 (seq3 (ifs3 (b3 (o3 eqR (v3 4) (c3 (.str "close")))) (seq3 (ifs3 (or3 (b3 (o3 ltR (o3 ixR (v3 2) (c3 (.int 3))) [3])) (b3 (o3 gtR (o3 ixR (v3 2) (c3 (.int 3))) (wa0 lenR (xa0 (v3 3) nil3))))) (ret3 (c3 .non)) sa0) (ret3 (tup3 (xa0 (o3 ixR (v3 2) (c3 (.int 3))) (xa0 (tup3 (xa0 (tup3 (xa0 (c3 (.str "times")) (xa0 [4] (xa0 (sl3 slR (v3 3) np3 (pt3 (o3 ixR (v3 2) (c3 (.int 3))))) nil3)))) nil3)) nil3))))) sa0) (wj0 q5))
noncomputable abbrev tf0 (q5:Sp3):TS3 :=
 (seq3 (ifs3 (b3 (o3 eqR (v3 4) (c3 (.str "in")))) (ret3 (if3 (b3 (wa0 q5 (xa0 (o3 ixR (v3 2) (c3 (.int 3))) nil3))) (tup3 (xa0 [3] (xa0 (tup3 (xa0 (o3 ixR (v3 2) (c3 (.int 3))) nil3)) nil3))) (c3 .non))) sa0) (yr0 q5))
noncomputable abbrev vj0 (q5:Sp3):TS3 :=
 (seq3 (set3 4 (o3 ixR (v3 2) [3])) (tf0 q5))
noncomputable abbrev t_q1 (q5:Sp3):TS3 :=
 (seq3 (set3 3 (sl3 slR (v3 0) (pt3 (v3 1)) np3)) (vj0 q5))
noncomputable def N_q0:List Str:=["deeds", "step", "at", "inner", "change"]
noncomputable abbrev t_q0 (q0 q1:Sp3):TS3 :=
 (seq3 (ifs3 (b3 (o3 neR (o3 ixR (v3 1) [4]) (tup3 nil3))) (seq3 (set3 2 (o3 ixR (o3 ixR (v3 1) [4]) [3])) (seq3 (ifs3 (or3 (not3 (b3 (ch3 leR ltR [3] (v3 2) (wa0 lenR (xa0 (v3 0) nil3))))) (b3 (o3 neR (o3 ixR (o3 ixR (v3 0) (v3 2)) [3]) (c3 (.str "times"))))) (ret3 (c3 .non)) sa0) (seq3 (set3 3 (wa0 q0 (xa0 (o3 ixR (o3 ixR (v3 0) (v3 2)) (c3 (.int 2))) (xa0 (o3 addR (tup3 (xa0 (o3 ixR (v3 1) [3]) (xa0 (sl3 slR (o3 ixR (v3 1) [4]) (pt3 [4]) np3) nil3))) (sl3 slR (v3 1) (pt3 (c3 (.int 2))) np3)) nil3)))) (seq3 (ifs3 (b3 (o3 (isNR false) (v3 3) (c3 .non))) (ret3 (c3 .non)) sa0) (ret3 (o3 addR (o3 addR (sl3 slR (v3 0) np3 (pt3 (v3 2))) (tup3 (xa0 (tup3 (xa0 (c3 (.str "times")) (xa0 (o3 ixR (o3 ixR (v3 0) (v3 2)) [4]) (xa0 (v3 3) nil3)))) nil3))) (sl3 slR (v3 0) (pt3 (o3 addR (v3 2) [4])) np3))))))) sa0) (seq3 (set3 2 (o3 ixR (v3 1) (c3 (.int 2)))) (seq3 (ifs3 (not3 (b3 (ch3 leR leR [3] (v3 2) (wa0 lenR (xa0 (v3 0) nil3))))) (ret3 (c3 .non)) sa0) (seq3 (set3 4 (wa0 q1 (xa0 (v3 0) (xa0 (v3 2) (xa0 (v3 1) nil3))))) (seq3 (ifs3 (b3 (o3 (isNR false) (v3 4) (c3 .non))) (ret3 (c3 .non)) sa0) (ret3 (o3 addR (o3 addR (sl3 slR (v3 0) np3 (pt3 (v3 2))) (o3 ixR (v3 4) [4])) (sl3 slR (v3 0) (pt3 (o3 addR (v3 2) (o3 ixR (v3 4) [3]))) np3))))))))
noncomputable def N_q7:List Str:=["deeds", "found", "deed", "inner"]
noncomputable abbrev t_q7 (q7:Sp3):TS3 :=
 (seq3 (set3 1 (lst3 (xa0 [4] (xa0 [3] nil3)))) (seq3 (for3 (is3 (v3 0)) (gn3 2) (seq3 (set3 3 (lst3 (xa0 [3] (xa0 [3] nil3)))) (seq3 (ifs3 (b3 (o3 eqR (o3 ixR (v3 2) [3]) (c3 (.str "times")))) (seq3 (set3 3 (wa0 q7 (xa0 (o3 ixR (v3 2) (c3 (.int 2))) nil3))) (set3 3 (lst3 (xa0 (o3 subR (o3 ixR (v3 3) [3]) [4]) (xa0 (o3 addR (o3 ixR (v3 3) [4]) [4]) nil3))))) sa0) (set3 1 (lst3 (xa0 (o3 addR (o3 addR (o3 ixR (v3 1) [3]) [4]) (o3 ixR (v3 3) [3])) (xa0 (wa0 mxR (xa0 (o3 ixR (v3 1) [4]) (xa0 (o3 ixR (v3 3) [4]) nil3))) nil3))))))) (ret3 (v3 1))))
noncomputable def N_q4:List Str:=["deeds", "count", "deep", "deed"]
noncomputable abbrev t_q4 (q4 q7:Sp3):TS3 :=
 (seq3 (asg3 (wa0 q7 (xa0 (v3 0) nil3)) (wc2 2 (xo0 (gn3 1) (xo0 (gn3 2) ut1)))) (seq3 (for3 (is3 (v3 0)) (gn3 3) (ifs3 (or3 (b3 (o3 geR (wa0 absR (xa0 (o3 ixR (v3 3) [4]) nil3)) (o3 powR (c3 (.int 10)) (c3 (.int 20))))) (and3 (b3 (o3 eqR (o3 ixR (v3 3) [3]) (c3 (.str "times")))) (not3 (b3 (wa0 q4 (xa0 (o3 ixR (v3 3) (c3 (.int 2))) nil3)))))) (ret3 (c3 (.bl false))) sa0)) (ret3 (tc1 (o3 leR (v3 1) (c3 (.int 31))) (o3 leR (v3 2) (c3 (.int 4)))))))
noncomputable def zb4:List Str:=["state", "deeds", "some", "at", "way", "inner"]
noncomputable abbrev ty0 (q10 q11:Sp3):TS3 :=
 (ret3 (tup3 (xa0 (o3 addR (tup3 (xa0 (v3 3) nil3)) (v3 4)) (xa0 (v3 5) nil3))))
noncomputable abbrev yn0 (q10 q11:Sp3):TS3 :=
 (seq3 (asg3 (wa0 q11 (xa0 (v3 0) (xa0 (o3 ixR (o3 ixR (v3 1) (v3 3)) (c3 (.int 2))) nil3))) (tv2 2 (xo0 (gn3 4) (xo0 (gn3 5) ut1)))) (ty0 q10 q11))
noncomputable abbrev sy0 (q10 q11:Sp3):TS3 :=
 (seq3 (set3 3 (o3 ixR (v3 2) (wa0 q10 (xa0 (v3 0) (xa0 (wa0 lenR (xa0 (v3 2) nil3)) nil3))))) (yn0 q10 q11))
noncomputable abbrev zn0 (q10 q11:Sp3):TS3 :=
 (seq3 (ifs3 (or3 (b3 (o3 eqR (v3 2) (lst3 nil3))) (b3 (o3 eqR (wa0 q10 (xa0 (v3 0) (xa0 (c3 (.int 2)) nil3))) [3]))) (ret3 (tup3 (xa0 (tup3 nil3) (xa0 (v3 1) nil3)))) sa0) (sy0 q10 q11))
noncomputable abbrev wg4 (q10 q11:Sp3):TS3 :=
 (seq3 (set3 2 (wm0 [none,some 1] (ir3 (xa0 (wa0 lenR (xa0 (v3 1) nil3)) nil3)) (gn3 0) (b3 (o3 eqR (o3 ixR (o3 ixR (v3 1) (v3 0)) [3]) (c3 (.str "times")))) (v3 0))) (zn0 q10 q11))
noncomputable def N_q9:List Str:=["state", "deeds", "way", "inner", "kinds", "good", "kind", "at", "step"]
noncomputable abbrev zl0 (q0 q6 q10 q11:Sp3):TS3 :=
 (ret3 (o3 ixR (v3 5) (wa0 q10 (xa0 (v3 0) (xa0 (wa0 lenR (xa0 (v3 5) nil3)) nil3)))))
noncomputable abbrev wl0 (q0 q6 q10 q11:Sp3):TS3 :=
 (seq3 (for3 (is3 (v3 4)) (gn3 6) (for3 (ir3 (xa0 (o3 addR (wa0 lenR (xa0 (v3 3) nil3)) [4]) nil3)) (gn3 7) (seq3 (set3 8 (tup3 (xa0 (v3 6) (xa0 (v3 2) (xa0 (v3 7) nil3))))) (seq3 (ifs3 (b3 (o3 (inR false) (v3 6) (lst3 (xa0 (c3 (.str "part")) (xa0 (c3 (.str "close")) nil3))))) (set3 8 (o3 addR (v3 8) (tup3 (xa0 (wa0 q10 (xa0 (v3 0) (xa0 (c3 (.int 3)) nil3))) nil3)))) sa0) (seq3 (ifs3 (b3 (o3 eqR (v3 6) (c3 (.str "in")))) (set3 8 (o3 addR (v3 8) (tup3 (xa0 (wa0 q6 (xa0 (v3 0) nil3)) nil3)))) sa0) (ifs3 (b3 (o3 (isNR true) (wa0 q0 (xa0 (v3 1) (xa0 (v3 8) nil3))) (c3 .non))) (vd0 (mt3 appR (v3 5) (xa0 (v3 8) nil3))) sa0)))))) (zl0 q0 q6 q10 q11))
noncomputable abbrev vw0 (q0 q6 q10 q11:Sp3):TS3 :=
 (seq3 (set3 5 (lst3 nil3)) (wl0 q0 q6 q10 q11))
noncomputable abbrev vl0 (q0 q6 q10 q11:Sp3):TS3 :=
 (seq3 (set3 4 (lst3 (xa0 (c3 (.str "join")) (xa0 (c3 (.str "part")) (xa0 (c3 (.str "out")) (xa0 (c3 (.str "in")) (xa0 (c3 (.str "open")) (xa0 (c3 (.str "close")) (xa0 (c3 (.str "once")) (xa0 (c3 (.str "twice")) nil3)))))))))) (vw0 q0 q6 q10 q11))
noncomputable abbrev t_q9 (q0 q6 q10 q11:Sp3):TS3 :=
 (seq3 (asg3 (wa0 q11 (xa0 (v3 0) (xa0 (v3 1) nil3))) (tv2 2 (xo0 (gn3 2) (xo0 (gn3 3) ut1)))) (vl0 q0 q6 q10 q11))
noncomputable def N_q6:List Str:=["state", "some"]
noncomputable abbrev t_q6 (q10:Sp3):TS3 :=
 (seq3 (set3 1 (lst3 (xa0 (tup3 (xa0 (c3 (.str "go")) (xa0 [3] nil3))) (xa0 (tup3 (xa0 (c3 (.str "jump")) (xa0 [3] nil3))) (xa0 (tup3 (xa0 (c3 (.str "turn")) (xa0 (o3 subR (o3 mulR (c3 (.int 4)) (wa0 q10 (xa0 (v3 0) (xa0 (c3 (.int 3)) nil3)))) (c3 (.int 4))) nil3))) (xa0 (tup3 (xa0 (c3 (.str "times")) (xa0 [3] (xa0 (tup3 (xa0 (tup3 (xa0 (c3 (.str "go")) (xa0 (c3 (.int 2)) nil3))) nil3)) nil3)))) nil3)))))) (ret3 (o3 ixR (o3 addR (v3 1) (lst3 (xa0 (tup3 (xa0 (c3 (.str "times")) (xa0 (wa0 q10 (xa0 (v3 0) (xa0 (c3 (.int 4)) nil3))) (xa0 (tup3 nil3) nil3)))) nil3))) (wa0 q10 (xa0 (v3 0) (xa0 (c3 (.int 5)) nil3))))))
noncomputable def zz3:List Str:=["script", "state", "deeds", "steps", "there", "kinds", "k", "step", "later", "found"]
noncomputable abbrev vd1 (q0 q3 q4 q8 q9 q10 q13 q35 q43 q47 q53 q56:Sp3):TS3 :=
 (ret3 (o3 eqR (wa0 q47 (xa0 (v3 9) nil3)) (wa0 q47 (xa0 (v3 2) nil3))))
noncomputable abbrev yv1 (q0 q3 q4 q8 q9 q10 q13 q35 q43 q47 q53 q56:Sp3):TS3 :=
 (seq3 (ifs3 (and3 (b3 (o3 (inR true) (c3 (.str "once")) (v3 5))) (and3 (b3 (o3 (inR true) (c3 (.str "twice")) (v3 5))) (b3 (o3 neR (wa0 q53 (xa0 (v3 9) nil3)) (wa0 q53 (xa0 (v3 2) nil3)))))) (ret3 (c3 (.bl false))) sa0) (vd1 q0 q3 q4 q8 q9 q10 q13 q35 q43 q47 q53 q56))
noncomputable abbrev ul1 (q0 q3 q4 q8 q9 q10 q13 q35 q43 q47 q53 q56:Sp3):TS3 :=
 (seq3 (ifs3 (or3 (b3 (o3 neR (v3 9) (v3 4))) (or3 (b3 (o3 neR (wa0 q43 (xa0 (v3 9) nil3)) (wa0 q43 (xa0 (v3 2) nil3)))) (b3 (o3 neR (wa0 q13 (xa0 (v3 9) nil3)) (wa0 q13 (xa0 (v3 2) nil3)))))) (ret3 (c3 (.bl false))) sa0) (yv1 q0 q3 q4 q8 q9 q10 q13 q35 q43 q47 q53 q56))
noncomputable abbrev tl1 (q0 q3 q4 q8 q9 q10 q13 q35 q43 q47 q53 q56:Sp3):TS3 :=
 (seq3 (set3 9 (wa0 q56 (xa0 (v3 2) (xa0 (v3 3) nil3)))) (ul1 q0 q3 q4 q8 q9 q10 q13 q35 q43 q47 q53 q56))
noncomputable abbrev th2 (q0 q3 q4 q8 q9 q10 q13 q35 q43 q47 q53 q56:Sp3):TS3 :=
 (seq3 (for3 (ir3 (xa0 (wa0 q10 (xa0 (v3 1) (xa0 (c3 (.int 9)) nil3))) nil3)) (gn3 6) (seq3 (set3 7 (wa0 q9 (xa0 (v3 1) (xa0 (v3 4) nil3)))) (seq3 (set3 8 (wa0 q0 (xa0 (v3 4) (xa0 (v3 7) nil3)))) (ifs3 (and3 (b3 (wa0 q4 (xa0 (v3 8) nil3))) (b3 (wa0 q35 (xa0 (v3 8) nil3)))) (seq3 (vd0 (mt3 appR (v3 3) (xa0 (v3 7) nil3))) (seq3 (vd0 (mt3 appR (v3 5) (xa0 (o3 ixR (v3 7) [3]) nil3))) (set3 4 (v3 8)))) sa0)))) (tl1 q0 q3 q4 q8 q9 q10 q13 q35 q43 q47 q53 q56))
noncomputable abbrev sh2 (q0 q3 q4 q8 q9 q10 q13 q35 q43 q47 q53 q56:Sp3):TS3 :=
 (seq3 (set3 5 (lst3 nil3)) (th2 q0 q3 q4 q8 q9 q10 q13 q35 q43 q47 q53 q56))
noncomputable abbrev xi2 (q0 q3 q4 q8 q9 q10 q13 q35 q43 q47 q53 q56:Sp3):TS3 :=
 (seq3 (set3 4 (v3 2)) (sh2 q0 q3 q4 q8 q9 q10 q13 q35 q43 q47 q53 q56))
noncomputable abbrev yi2 (q0 q3 q4 q8 q9 q10 q13 q35 q43 q47 q53 q56:Sp3):TS3 :=
 (seq3 (set3 3 (lst3 nil3)) (xi2 q0 q3 q4 q8 q9 q10 q13 q35 q43 q47 q53 q56))
noncomputable abbrev uy0 (q0 q3 q4 q8 q9 q10 q13 q35 q43 q47 q53 q56:Sp3):TS3 :=
 (seq3 (ifs3 (not3 (b3 (wa0 q35 (xa0 (v3 2) nil3)))) (ret3 (c3 (.bl true))) sa0) (yi2 q0 q3 q4 q8 q9 q10 q13 q35 q43 q47 q53 q56))
noncomputable abbrev sl1 (q0 q3 q4 q8 q9 q10 q13 q35 q43 q47 q53 q56:Sp3):TS3 :=
 (seq3 (ifs3 (or3 (not3 (b3 (wa0 q4 (xa0 (v3 2) nil3)))) (not3 (b3 (wa0 q35 (xa0 (v3 2) nil3))))) (set3 2 (sl3 slR (v3 2) np3 (pt3 [4]))) sa0) (uy0 q0 q3 q4 q8 q9 q10 q13 q35 q43 q47 q53 q56))
noncomputable abbrev zi2 (q0 q3 q4 q8 q9 q10 q13 q35 q43 q47 q53 q56:Sp3):TS3 :=
 (seq3 (set3 2 (wa0 q3 (xa0 (v3 1) (xa0 (c3 (.int 2)) (xa0 (wa0 q10 (xa0 (v3 1) (xa0 (c3 (.int 4)) nil3))) nil3))))) (sl1 q0 q3 q4 q8 q9 q10 q13 q35 q43 q47 q53 q56))
noncomputable abbrev we4 (q0 q3 q4 q8 q9 q10 q13 q35 q43 q47 q53 q56:Sp3):TS3 :=
 (seq3 (set3 1 (wa0 q8 (xa0 (v3 0) (xa0 [3] nil3)))) (zi2 q0 q3 q4 q8 q9 q10 q13 q35 q43 q47 q53 q56))
end Pv
namespace Pv
open PySem PySem.Spec PyProof.Rows L2
section
variable {P:Program} {w:World} {K:Fg} {mg:Str->Option Value} {base:Heap}
theorem xb1 {a p_0 p_1 p_2 p_3 p_4 p_5 p_6 p_7:Addr} (e_0:nsIn K a "join" = some (some (.ref p_0))) (e_1:nsIn K a "part" = some (some (.ref p_1))) (e_2:nsIn K a "out" = some (some (.ref p_2))) (e_3:nsIn K a "in" = some (some (.ref p_3))) (e_4:nsIn K a "open" = some (some (.ref p_4))) (e_5:nsIn K a "close" = some (some (.ref p_5))) (e_6:nsIn K a "once" = some (some (.ref p_6))) (e_7:nsIn K a "twice" = some (some (.ref p_7))):MdN K a yg0:=by
 intro x y h;unfold yg0 at h;split at h
 ·next e=>subst e; cases h; exact ⟨_,e_0,rfl⟩
 split at h
 ·next e=>subst e; cases h; exact ⟨_,e_1,rfl⟩
 split at h
 ·next e=>subst e; cases h; exact ⟨_,e_2,rfl⟩
 split at h
 ·next e=>subst e; cases h; exact ⟨_,e_3,rfl⟩
 split at h
 ·next e=>subst e; cases h; exact ⟨_,e_4,rfl⟩
 split at h
 ·next e=>subst e; cases h; exact ⟨_,e_5,rfl⟩
 split at h
 ·next e=>subst e; cases h; exact ⟨_,e_6,rfl⟩
 split at h
 ·next e=>subst e; cases h; exact ⟨_,e_7,rfl⟩
 ·cases h
theorem yb1 {k:Nat} {a p_0 p_1 p_2 p_3 p_4 p_5 p_6 p_7:Addr} {ps_0 ps_1 ps_2 ps_3 ps_4 ps_5 ps_6 ps_7:List Str} {sp_0 sp_1 sp_2 sp_3 sp_4 sp_5 sp_6 sp_7:Sp3} (e_0:nsIn K a "join" = some (some (.ref p_0))) (m_0:mg "join_deeds" = some (.ref p_0)) (c_0:Cal P w K mg base k "join_deeds" ps_0 sp_0) (e_1:nsIn K a "part" = some (some (.ref p_1))) (m_1:mg "part_deed" = some (.ref p_1)) (c_1:Cal P w K mg base k "part_deed" ps_1 sp_1) (e_2:nsIn K a "out" = some (some (.ref p_2))) (m_2:mg "leave_out" = some (.ref p_2)) (c_2:Cal P w K mg base k "leave_out" ps_2 sp_2) (e_3:nsIn K a "in" = some (some (.ref p_3))) (m_3:mg "put_in" = some (.ref p_3)) (c_3:Cal P w K mg base k "put_in" ps_3 sp_3) (e_4:nsIn K a "open" = some (some (.ref p_4))) (m_4:mg "open_times" = some (.ref p_4)) (c_4:Cal P w K mg base k "open_times" ps_4 sp_4) (e_5:nsIn K a "close" = some (some (.ref p_5))) (m_5:mg "close_deeds" = some (.ref p_5)) (c_5:Cal P w K mg base k "close_deeds" ps_5 sp_5) (e_6:nsIn K a "once" = some (some (.ref p_6))) (m_6:mg "draw_once" = some (.ref p_6)) (c_6:Cal P w K mg base k "draw_once" ps_6 sp_6) (e_7:nsIn K a "twice" = some (some (.ref p_7))) (m_7:mg "draw_twice" = some (.ref p_7)) (c_7:Cal P w K mg base k "draw_twice" ps_7 sp_7):MdF P w K mg base k a (sp0 sp_0 sp_1 sp_2 sp_3 sp_4 sp_5 sp_6 sp_7):=by
 intro x y h;unfold sp0 at h;split at h
 ·next e=>subst e; cases h; exact ⟨_,_,_,e_0,m_0,c_0⟩
 split at h
 ·next e=>subst e; cases h; exact ⟨_,_,_,e_1,m_1,c_1⟩
 split at h
 ·next e=>subst e; cases h; exact ⟨_,_,_,e_2,m_2,c_2⟩
 split at h
 ·next e=>subst e; cases h; exact ⟨_,_,_,e_3,m_3,c_3⟩
 split at h
 ·next e=>subst e; cases h; exact ⟨_,_,_,e_4,m_4,c_4⟩
 split at h
 ·next e=>subst e; cases h; exact ⟨_,_,_,e_5,m_5,c_5⟩
 split at h
 ·next e=>subst e; cases h; exact ⟨_,_,_,e_6,m_6,c_6⟩
 split at h
 ·next e=>subst e; cases h; exact ⟨_,_,_,e_7,m_7,c_7⟩
 ·cases h
theorem tp0 {a:Addr} {t_0 t_1 t_2 t_3 t_4 t_5 t_6:Tok} (e_0:nsIn K a "join" = some (some (.int 2 t_0))) (e_1:nsIn K a "part" = some (some (.int 1 t_1))) (e_2:nsIn K a "out" = some (some (.int 1 t_2))) (e_3:nsIn K a "in" = some (some (.int 0 t_3))) (e_4:nsIn K a "open" = some (some (.int 1 t_4))) (e_5:nsIn K a "once" = some (some (.int 3 t_5))) (e_6:nsIn K a "twice" = some (some (.int 1 t_6))):MdI K a se0:=by
 intro x y h;unfold se0 at h;split at h
 ·next e=>subst e; cases h; exact ⟨_,e_0⟩
 split at h
 ·next e=>subst e; cases h; exact ⟨_,e_1⟩
 split at h
 ·next e=>subst e; cases h; exact ⟨_,e_2⟩
 split at h
 ·next e=>subst e; cases h; exact ⟨_,e_3⟩
 split at h
 ·next e=>subst e; cases h; exact ⟨_,e_4⟩
 split at h
 ·next e=>subst e; cases h; exact ⟨_,e_5⟩
 split at h
 ·next e=>subst e; cases h; exact ⟨_,e_6⟩
 ·cases h
theorem zo4:FnScope sz2 ["word"] (za0 to2):=[1]
theorem yo4:FnScope tz2 ["word", "depth"] (za0 uo2):=[1]
theorem xo4:FnScope va4 ["deed", "depth"] (za0 vo2):=[1]
theorem wo4:FnScope xa3 ["kind", "number"] (za0 xp2):=[1]
theorem wl4:FnScope uy3 ["word"] (za0 xm2):=[1]
theorem to4:FnScope sa4 ["pen", "word"] (za0 wp2):=[1]
theorem sl4:FnScope xz3 ["pen", "part"] (za0 vm2):=[1]
theorem zl4:FnScope vy3 ["word"] (za0 ul2):=[1]
theorem yl4:FnScope wy3 ["deed"] (za0 vl2):=[1]
theorem xl4:FnScope zy3 ["part", "number"] (za0 wl2):=[1]
theorem yk4:FnScope uy2 ["word"] (za0 wk2):=[1]
theorem vn4:FnScope vz2 ["word"] (za0 xo2):=[1]
theorem wn4:FnScope ya4 ["deed"] (za0 sn2):=[1]
theorem yn4:FnScope zz2 ["word"] (za0 un2):=[1]
theorem tn4:FnScope uz2 ["word"] (za0 zo2):=[1]
theorem un4:FnScope za4 ["deed"] (za0 yo2):=[1]
theorem wm4:FnScope yz2 ["word"] (za0 sm2):=[1]
theorem tj4:FnScope wx3 ["word", "steps"] (za0 xk2):=[1]
theorem uj4:FnScope zx3 ["word", "step"] (za0 sj2):=[1]
theorem vo4:FnScope ua4 ["word", "way", "step"] (za0 yp2):=[1]
theorem xn4:FnScope xa4 ["word", "place", "number"] (za0 vn2):=[1]
theorem um4:FnScope uz3 ["word", "place", "number", "deeds"] (za0 yn2):=[1]
theorem zm4:FnScope wz3 ["deeds", "need"] (za0 tm2):=[1]
theorem vl4:FnScope ty3 ["deeds", "number"] (za0 ym2):=[1]
theorem xm4:FnScope yz3 ["deeds", "need"] (za0 um2):=[1]
theorem vk4:FnScope tx3 ["deeds", "deed"] (za0 sk2):=[1]
theorem vm4:FnScope vz3 ["deed"] (za0 xn2):=[1]
theorem tl4:FnScope sy3 ["deeds", "need"] (za0 wm2):=[1]
theorem sn4:FnScope wa4 ["deeds", "number"] (za0 wo2):=[1]
theorem sm4:FnScope sz3 ["deeds", "need"] (za0 wn2):=[1]
theorem tm4:FnScope tz3 ["deeds", "need"] (za0 zn2):=[1]
theorem uo4:FnScope ta4 ["word", "step"] (za0 zp2):=[1]
theorem wk4:FnScope sy2 ["point", "other"] (za0 uk2):=[1]
theorem zk4:FnScope ty2 ["points"] (za0 vk2):=[1]
theorem tk4:FnScope xy3 ["strokes"] (za0 yl2):=[1]
theorem sk4:FnScope yy3 ["word"] (za0 zl2):=[1]
theorem xk4:FnScope ux3 ["pen", "word"] (za0 zk2):=[1]
theorem uk4:FnScope sx3 ["word"] (za0 xl2):=[1]
theorem sj4:FnScope vx3 ["pen", "number"] (za0 yk2):=[1]
theorem yp4:FnScope za3 ["word"] (za0 tp2):=[1]
theorem vj4:FnScope vy2 ["word"] (za0 tj2):=[1]
theorem zn4:FnScope wz2 ["deed"] (za0 tn2):=[1]
theorem xp4:FnScope ya3 ["box", "part", "number"] (za0 up2):=[1]
theorem ul4:FnScope xz2 ["part", "number"] (za0 zm2):=[1]
theorem so4:FnScope xb4 ["one", "other"] (za0 vp2):=[1]
theorem zp4:FnScope yb4 ["pen", "box"] (za0 sp2):=[1]
theorem sc_q8:FnScope N_q8 ["script", "k"] (za0 s_q8):=[1]
theorem vp4:FnScope wb4 ["state", "many"] (za0 yq2):=[1]
theorem sc_q2:FnScope N_q2 ["state", "deep"] (za0 s_q2):=[1]
theorem sc_q3:FnScope N_q3 ["state", "deep", "many"] (za0 s_q3):=[1]
theorem sc_q5:FnScope N_q5 ["deed"] (za0 s_q5):=[1]
theorem sc_q1:FnScope N_q1 ["deeds", "at", "step"] (za0 s_q1):=[1]
theorem sc_q0:FnScope N_q0 ["deeds", "step"] (za0 s_q0):=[1]
theorem sc_q7:FnScope N_q7 ["deeds"] (za0 s_q7):=[1]
theorem sc_q4:FnScope N_q4 ["deeds"] (za0 s_q4):=[1]
theorem wp4:FnScope zb4 ["state", "deeds"] (za0 xq2):=[1]
theorem sc_q9:FnScope N_q9 ["state", "deeds"] (za0 s_q9):=[1]
theorem sc_q6:FnScope N_q6 ["state"] (za0 s_q6):=[1]
theorem ym4:FnScope zz3 ["script"] (za0 se1):=[1]
local macro_rules | `([9001,$n,$x,$m,$t])=>`(∀ hr:Room k (A.deeper (envOfC $n (za0 $x) s.heap.objs.size f cdv)),RSs (cxOf CX0 P w K mg base $m $n (za0 $x) f cdv A outer s H E).nox (xe0 $x) $t)
local macro_rules | `([9002,$n,$x,$t])=>`(Cal P w K mg base k $n $x $t)
local macro_rules | `([9004,$t])=>`(∀ ⦃k:Nat⦄ {f:Addr} {cdv:Value} {A:Around} {outer:List Env} {s:Shared} {H:Hp} {E:XK},$t)
theorem xb0 :
 ([9004,∀ {q21:Sp3} (_:[9002, "checked_count",["word", "depth"],q21]),[9001, "check_word",to2,sz2,(ti3 q21)]] ∧
 [9004,∀ {q22:Sp3} (_:[9002, "checked_deed_count",["deed", "depth"],q22]) (z_isinstance:mg "isinstance" = none) (z_tuple:mg "tuple" = none) (g_MOST_DEEDS:Gd K mg "MOST_DEEDS" xk0) (g_MOST_DEEP:Gd K mg "MOST_DEEP" xm0),[9001, "checked_count",uo2,tz2,(ui3 q22)]] ∧
 [9004,∀ {q19:Sp3} (_:[9002, "check_number",["kind", "number"],q19]) {q21:Sp3} (_:[9002, "checked_count",["word", "depth"],q21]) (z_isinstance:mg "isinstance" = none) (z_len:mg "len" = none) (z_tuple:mg "tuple" = none) (g_PLAIN_KINDS:Gd K mg "PLAIN_KINDS" ti0),[9001, "checked_deed_count",vo2,va4,(uf4 q19 q21)]] ∧
 [9004,∀ (z_abs:mg "abs" = none) (z_int:mg "int" = none) (z_isinstance:mg "isinstance" = none) (g_GREATEST_NUMBER:Gd K mg "GREATEST_NUMBER" ue0) (g_KINDS_FROM_NOUGHT:Gd K mg "KINDS_FROM_NOUGHT" xc0),[9001, "check_number",xp2,xa3,(si3)]] ∧
 [9004,∀ {q16:Sp3} (_:[9002, "carried",["pen", "word"],q16]) (g_START:Gd K mg "START" ud0),[9001, "pen_after",xm2,uy3,(td4 q16)]] ∧
 [9004,∀ {q20:Sp3} (_:[9002, "check_word",["word"],q20]) {q39:Sp3} (_:[9002, "led",["pen", "part"],q39]) {q44:Sp3} (_:[9002, "pen_behind",["word"],q44]),[9001, "carried",wp2,sa4,(xg4 q20 q39 q44)]] ∧
 [9004,∀ (g_AHEAD:Gd K mg "AHEAD" yk0),[9001, "led",vm2,xz3,(ye4)]] ∧
 [9004,∀ {q39:Sp3} (_:[9002, "led",["pen", "part"],q39]) {q45:Sp3} (_:[9002, "pen_behind_deed",["deed"],q45]) (g_START:Gd K mg "START" ud0),[9001, "pen_behind",ul2,vy3,(ud4 q39 q45)]]) /\ ([9004,∀ {q44:Sp3} (_:[9002, "pen_behind",["word"],q44]) {q46:Sp3} (_:[9002, "pen_repeated",["part", "number"],q46]),[9001, "pen_behind_deed",vl2,wy3,(vd4 q44 q46)]] ∧
 [9004,∀ {q39:Sp3} (_:[9002, "led",["pen", "part"],q39]) (z_range:mg "range" = none) (g_START:Gd K mg "START" ud0),[9001, "pen_repeated",wl2,zy3,(wd4 q39)]] ∧
 [9004,∀ {q20:Sp3} (_:[9002, "check_word",["word"],q20]) {q26:Sp3} (_:[9002, "count_strokes",["word"],q26]),[9001, "strokes_drawn",wk2,uy2,(vh3 q20 q26)]] ∧
 [9004,∀ {q27:Sp3} (_:[9002, "count_strokes_of_deed",["deed"],q27]) (z_sum:mg "sum" = none),[9001, "count_strokes",xo2,vz2,(wi3 q27)]] ∧
 [9004,∀ {q26:Sp3} (_:[9002, "count_strokes",["word"],q26]),[9001, "count_strokes_of_deed",sn2,ya4,(zf4 q26)]] ∧
 [9004,∀ {q20:Sp3} (_:[9002, "check_word",["word"],q20]) {q24:Sp3} (_:[9002, "count_done",["word"],q24]),[9001, "deeds_done",un2,zz2,(yi3 q20 q24)]] ∧
 [9004,∀ {q25:Sp3} (_:[9002, "count_done_of_deed",["deed"],q25]) (z_sum:mg "sum" = none),[9001, "count_done",zo2,uz2,(vi3 q25)]] ∧
 [9004,∀ {q24:Sp3} (_:[9002, "count_done",["word"],q24]),[9001, "count_done_of_deed",yo2,za4,(wf4 q24)]]) /\ ([9004,∀ {q29:Sp3} (_:[9002, "deeds_done",["word"],q29]) {q53:Sp3} (_:[9002, "strokes_drawn",["word"],q53]) (g_MOST_OF_SMALL:Gd K mg "MOST_OF_SMALL" td0),[9001, "is_small",sm2,yz2,(xi3 q29 q53)]] ∧
 [9004,∀ {q20:Sp3} (_:[9002, "check_word",["word"],q20]) {q57:Sp3} (_:[9002, "word_behind",["word", "step"],q57]),[9001, "walked",xk2,wx3,(vc4 q20 q57)]] ∧
 [9004,∀ {q18:Sp3} (_:[9002, "changed_word",["word", "way", "step"],q18]) {q20:Sp3} (_:[9002, "check_word",["word"],q20]) (z_len:mg "len" = none) (g_KINDS_WITH_NEED:Gd K mg "KINDS_WITH_NEED" vc0),[9001, "word_behind",sj2,zx3,(wc4 q18 q20)]] ∧
 [9004,∀ {q17:Sp3} (_:[9002, "changed_deeds",["word", "step"],q17]) {q18:Sp3} (_:[9002, "changed_word",["word", "way", "step"],q18]) {q30:Sp3} (_:[9002, "deeds_from",["word", "place", "number"],q30]) {q33:Sp3} (_:[9002, "exchanged",["word", "place", "number", "deeds"],q33]) (z_len:mg "len" = none),[9001, "changed_word",yp2,ua4,(tf4 q17 q18 q30 q33)]] ∧
 [9004,∀ (z_len:mg "len" = none),[9001, "deeds_from",vn2,xa4,(yf4)]] ∧
 [9004,[9001, "exchanged",yn2,uz3,(te4)]] ∧
 [9004,[9001, "join_deeds",tm2,wz3,(ve4)]] ∧
 [9004,∀ (g_KINDS_FROM_NOUGHT:Gd K mg "KINDS_FROM_NOUGHT" xc0),[9001, "part_deed",ym2,ty3,(sd4)]]) /\ ([9004,∀ {q34:Sp3} (_:[9002, "is_idle",["deed"],q34]),[9001, "leave_out",um2,yz3,(ze4 q34)]] ∧
 [9004,∀ {q34:Sp3} (_:[9002, "is_idle",["deed"],q34]),[9001, "put_in",sk2,tx3,(sc4 q34)]] ∧
 [9004,∀ (z_len:mg "len" = none),[9001, "is_idle",xn2,vz3,(ue4)]] ∧
 [9004,[9001, "open_times",wm2,sy3,(xe4)]] ∧
 [9004,[9001, "close_deeds",wo2,wa4,(vf4)]] ∧
 [9004,∀ {q32:Sp3} (_:[9002, "draw_twice",["deeds", "need"],q32]),[9001, "draw_once",wn2,sz3,(xf4 q32)]] ∧
 [9004,[9001, "draw_twice",zn2,tz3,(se4)]] ∧
 [9004,∀ {q23:Sp3} (_:[9002, "close_deeds",["deeds", "number"],q23]) {q30:Sp3} (_:[9002, "deeds_from",["word", "place", "number"],q30]) {q31:Sp3} (_:[9002, "draw_once",["deeds", "need"],q31]) {q32:Sp3} (_:[9002, "draw_twice",["deeds", "need"],q32]) {q33:Sp3} (_:[9002, "exchanged",["word", "place", "number", "deeds"],q33]) {q36:Sp3} (_:[9002, "join_deeds",["deeds", "need"],q36]) {q38:Sp3} (_:[9002, "leave_out",["deeds", "need"],q38]) {q40:Sp3} (_:[9002, "open_times",["deeds", "need"],q40]) {q42:Sp3} (_:[9002, "part_deed",["deeds", "number"],q42]) {q50:Sp3} (_:[9002, "put_in",["deeds", "deed"],q50]) {a_CHANGES:Addr} (md_CHANGES:Mdc w K mg "CHANGES" a_CHANGES) (mn_CHANGES_ok:MdN K a_CHANGES yg0) {p_q36:Addr} (me_CHANGES_join_deeds:nsIn K a_CHANGES "join" = some (some (.ref p_q36))) (mm_q36:mg "join_deeds" = some (.ref p_q36)) {p_q42:Addr} (me_CHANGES_part_deed:nsIn K a_CHANGES "part" = some (some (.ref p_q42))) (mm_q42:mg "part_deed" = some (.ref p_q42)) {p_q38:Addr} (me_CHANGES_leave_out:nsIn K a_CHANGES "out" = some (some (.ref p_q38))) (mm_q38:mg "leave_out" = some (.ref p_q38)) {p_q50:Addr} (me_CHANGES_put_in:nsIn K a_CHANGES "in" = some (some (.ref p_q50))) (mm_q50:mg "put_in" = some (.ref p_q50)) {p_q40:Addr} (me_CHANGES_open_times:nsIn K a_CHANGES "open" = some (some (.ref p_q40))) (mm_q40:mg "open_times" = some (.ref p_q40)) {p_q23:Addr} (me_CHANGES_close_deeds:nsIn K a_CHANGES "close" = some (some (.ref p_q23))) (mm_q23:mg "close_deeds" = some (.ref p_q23)) {p_q31:Addr} (me_CHANGES_draw_once:nsIn K a_CHANGES "once" = some (some (.ref p_q31))) (mm_q31:mg "draw_once" = some (.ref p_q31)) {p_q32:Addr} (me_CHANGES_draw_twice:nsIn K a_CHANGES "twice" = some (some (.ref p_q32))) (mm_q32:mg "draw_twice" = some (.ref p_q32)) {a_DEEDS_TAKEN:Addr} (md_DEEDS_TAKEN:Mdc w K mg "DEEDS_TAKEN" a_DEEDS_TAKEN) (mi_DEEDS_TAKEN_ok:MdI K a_DEEDS_TAKEN se0) (g_KINDS_WITH_NEED:Gd K mg "KINDS_WITH_NEED" vc0),[9001, "changed_deeds",zp2,ta4,(sf4 q23 q30 q31 q32 q33 q36 q38 q40 q42 q50)]]) /\ ([9004,∀ (z_min:mg "min" = none),[9001, "stroke_between",uk2,sy2,(th3)]] ∧
 [9004,∀ {q51:Sp3} (_:[9002, "stroke_between",["point", "other"],q51]) (z_len:mg "len" = none) (z_range:mg "range" = none),[9001, "strokes_along",vk2,ty2,(uh3 q51)]] ∧
 [9004,∀ (z_set:mg "set" = none) (z_sorted:mg "sorted" = none) (z_tuple:mg "tuple" = none),[9001, "picture_with",yl2,xy3,(yd4)]] ∧
 [9004,∀ {q35:Sp3} (_:[9002, "is_small",["word"],q35]) {q48:Sp3} (_:[9002, "picture_with",["strokes"],q48]) {q54:Sp3} (_:[9002, "strokes_from",["pen", "word"],q54]) (g_START:Gd K mg "START" ud0),[9001, "picture_of",zl2,yy3,(zd4 q35 q48 q54)]] ∧
 [9004,∀ {q39:Sp3} (_:[9002, "led",["pen", "part"],q39]) {q45:Sp3} (_:[9002, "pen_behind_deed",["deed"],q45]) {q49:Sp3} (_:[9002, "plain_deeds",["word"],q49]) {q55:Sp3} (_:[9002, "strokes_of_go",["pen", "number"],q55]),[9001, "strokes_from",zk2,ux3,(tc4 q39 q45 q49 q55)]] ∧
 [9004,∀ {q25:Sp3} (_:[9002, "count_done_of_deed",["deed"],q25]) {q49:Sp3} (_:[9002, "plain_deeds",["word"],q49]),[9001, "plain_deeds",xl2,sx3,(xd4 q25 q49)]] ∧
 [9004,∀ {q52:Sp3} (_:[9002, "strokes_along",["points"],q52]) (z_range:mg "range" = none) (g_AHEAD:Gd K mg "AHEAD" yk0),[9001, "strokes_of_go",yk2,vx3,(uc4 q52)]] ∧
 [9004,∀ {q20:Sp3} (_:[9002, "check_word",["word"],q20]) {q58:Sp3} (_:[9002, "word_box",["word"],q58]),[9001, "box_of",tp2,za3,(yj3 q20 q58)]]) /\ ([9004,∀ {q12:Sp3} (_:[9002, "box_from",["pen", "box"],q12]) {q15:Sp3} (_:[9002, "box_round",["one", "other"],q15]) {q28:Sp3} (_:[9002, "deed_box",["deed"],q28]) {q39:Sp3} (_:[9002, "led",["pen", "part"],q39]) {q45:Sp3} (_:[9002, "pen_behind_deed",["deed"],q45]) (g_START:Gd K mg "START" ud0),[9001, "word_box",tj2,vy2,(wh3 q12 q15 q28 q39 q45)]] ∧
 [9004,∀ {q14:Sp3} (_:[9002, "box_repeated",["box", "part", "number"],q14]) {q44:Sp3} (_:[9002, "pen_behind",["word"],q44]) {q58:Sp3} (_:[9002, "word_box",["word"],q58]),[9001, "deed_box",tn2,wz2,(zi3 q14 q44 q58)]] ∧
 [9004,∀ {q12:Sp3} (_:[9002, "box_from",["pen", "box"],q12]) {q15:Sp3} (_:[9002, "box_round",["one", "other"],q15]) {q41:Sp3} (_:[9002, "outermost_doings",["part", "number"],q41]) {q46:Sp3} (_:[9002, "pen_repeated",["part", "number"],q46]),[9001, "box_repeated",up2,ya3,(xj3 q12 q15 q41 q46)]] ∧
 [9004,∀ (z_list:mg "list" = none) (z_min:mg "min" = none) (z_range:mg "range" = none),[9001, "outermost_doings",zm2,xz2,(sh3)]] ∧
 [9004,∀ (z_max:mg "max" = none) (z_min:mg "min" = none),[9001, "box_round",vp2,xb4,(yg4)]] ∧
 [9004,∀ {q39:Sp3} (_:[9002, "led",["pen", "part"],q39]) (z_max:mg "max" = none) (z_min:mg "min" = none),[9001, "box_from",sp2,yb4,(zg4 q39)]] ∧
 [9004,∀ (z_len:mg "len" = none),[9001, "_law_state",s_q8,N_q8,(t_q8)]] ∧
 [9004,[9001, "_law_take",yq2,wb4,(vg4)]]) /\ ([9004,∀ {q3:Sp3} (_:[9002, "_law_deeds",["state", "deep", "many"],q3]) {q10:Sp3} (_:[9002, "_law_take",["state", "many"],q10]) (z_int:mg "int" = none),[9001, "_law_deed",s_q2,N_q2,(t_q2 q3 q10)]] ∧
 [9004,∀ {q2:Sp3} (_:[9002, "_law_deed",["state", "deep"],q2]) {q10:Sp3} (_:[9002, "_law_take",["state", "many"],q10]) (z_range:mg "range" = none) (z_tuple:mg "tuple" = none),[9001, "_law_deeds",s_q3,N_q3,(t_q3 q2 q10)]] ∧
 [9004,[9001, "_law_idle",s_q5,N_q5,(t_q5)]] ∧
 [9004,∀ {q5:Sp3} (_:[9002, "_law_idle",["deed"],q5]) (z_len:mg "len" = none),[9001, "_law_change",s_q1,N_q1,(t_q1 q5)]] ∧
 [9004,∀ {q0:Sp3} (_:[9002, "_law_after",["deeds", "step"],q0]) {q1:Sp3} (_:[9002, "_law_change",["deeds", "at", "step"],q1]) (z_len:mg "len" = none),[9001, "_law_after",s_q0,N_q0,(t_q0 q0 q1)]] ∧
 [9004,∀ {q7:Sp3} (_:[9002, "_law_size",["deeds"],q7]) (z_max:mg "max" = none),[9001, "_law_size",s_q7,N_q7,(t_q7 q7)]] ∧
 [9004,∀ {q4:Sp3} (_:[9002, "_law_fits",["deeds"],q4]) {q7:Sp3} (_:[9002, "_law_size",["deeds"],q7]) (z_abs:mg "abs" = none),[9001, "_law_fits",s_q4,N_q4,(t_q4 q4 q7)]] ∧
 [9004,∀ {q10:Sp3} (_:[9002, "_law_take",["state", "many"],q10]) {q11:Sp3} (_:[9002, "_law_way",["state", "deeds"],q11]) (z_len:mg "len" = none) (z_range:mg "range" = none),[9001, "_law_way",xq2,zb4,(wg4 q10 q11)]]) /\ ([9004,∀ {q0:Sp3} (_:[9002, "_law_after",["deeds", "step"],q0]) {q6:Sp3} (_:[9002, "_law_idle_one",["state"],q6]) {q10:Sp3} (_:[9002, "_law_take",["state", "many"],q10]) {q11:Sp3} (_:[9002, "_law_way",["state", "deeds"],q11]) (z_len:mg "len" = none) (z_range:mg "range" = none),[9001, "_law_step",s_q9,N_q9,(t_q9 q0 q6 q10 q11)]] ∧
 [9004,∀ {q10:Sp3} (_:[9002, "_law_take",["state", "many"],q10]),[9001, "_law_idle_one",s_q6,N_q6,(t_q6 q10)]] ∧
 [9004,∀ {q0:Sp3} (_:[9002, "_law_after",["deeds", "step"],q0]) {q3:Sp3} (_:[9002, "_law_deeds",["state", "deep", "many"],q3]) {q4:Sp3} (_:[9002, "_law_fits",["deeds"],q4]) {q8:Sp3} (_:[9002, "_law_state",["script", "k"],q8]) {q9:Sp3} (_:[9002, "_law_step",["state", "deeds"],q9]) {q10:Sp3} (_:[9002, "_law_take",["state", "many"],q10]) {q13:Sp3} (_:[9002, "box_of",["word"],q13]) {q35:Sp3} (_:[9002, "is_small",["word"],q35]) {q43:Sp3} (_:[9002, "pen_after",["word"],q43]) {q47:Sp3} (_:[9002, "picture_of",["word"],q47]) {q53:Sp3} (_:[9002, "strokes_drawn",["word"],q53]) {q56:Sp3} (_:[9002, "walked",["word", "steps"],q56]) (z_range:mg "range" = none),[9001, "law",se1,zz3,(we4 q0 q3 q4 q8 q9 q10 q13 q35 q43 q47 q53 q56)]]):=by
 refine ⟨⟨?_,?_,?_,?_,?_,?_,?_,?_⟩,⟨?_,?_,?_,?_,?_,?_,?_,?_⟩,⟨?_,?_,?_,?_,?_,?_,?_,?_⟩,⟨?_,?_,?_,?_,?_,?_,?_,?_⟩,⟨?_,?_,?_,?_,?_,?_,?_,?_⟩,⟨?_,?_,?_,?_,?_,?_,?_,?_⟩,⟨?_,?_,?_,?_,?_,?_,?_,?_⟩,⟨?_,?_,?_⟩⟩ <;> intros <;> repeat' first
  | (with_reducible show RE _ (.ListComp _ [⟨.Name "deed" _,_,_,_⟩] _ _) _); refine zo3 (NN:=["deed"]) (by decide +kernel) (by decide +kernel) (by decide +kernel) ?_ (λ _ _ _ _ _=>?_) (λ _ _ _ _ _=>?_) (λ _ _ _ _ _=>?_)
  | (with_reducible show RE _ (.ListComp _ [⟨.Name "place" _,_,_,_⟩] _ _) _); refine tn1 (NN:=["place", "points"]) (js:=[none,some 0]) rfl uk1 ?_ (λ _ _ _ _ _=>?_) (λ _ _ _ _ _=>?_) (λ _ _ _ _ _=>?_) (by intro _; rfl)
  | (with_reducible show RS _ _ (set3 _ (wm0 [none,some 0,some 2] _ _ _ _))); refine wn1 (by (conv=>(arg 1; whnf)); decide +kernel) (NN:=["far", "pen", "ahead"]) (js:=[none,some 0,some 2]) rfl uk1 ?_ (λ _ _ _ _ _=>?_) (λ _ _ _ _ _=>?_) (λ _ _ _ _ _=>?_) (by intro _; rfl)
  | (with_reducible show RS _ _ (set3 _ (wm0 [none,some 1] _ _ _ _))); refine wn1 (by (conv=>(arg 1; whnf)); decide +kernel) (NN:=["at", "deeds"]) (js:=[none,some 1]) rfl uk1 ?_ (λ _ _ _ _ _=>?_) (λ _ _ _ _ _=>?_) (λ _ _ _ _ _=>?_) (by intro _; rfl)
  | (with_reducible show RE _ _ (v3 _)); exact tr4 _
  | (with_reducible show RE _ _ (c3 (D.int _))); exact ss4
  | (with_reducible show RA _ _ nil3); exact yf1
  | (with_reducible show RA _ _ (xa0 _ _)); refine zp0 ?_ ?_
  | (with_reducible show RS _ _ (vd0 _)); refine zn3 ?_
  | (with_reducible show RE _ _ (c3 (D.ty "tuple"))); exact sr4 (by assumption) yr1
  | (with_reducible show RE _ _ (wa0 isiR _)); refine sk0 q_isi (by assumption) uc1 ?_
  | (with_reducible show RT _ _ (not3 _)); refine vq4 ?_
  | (with_reducible show RS _ _ sc0); exact vq2
  | (with_reducible show RSs _ _ sa0); exact yn3
  | (with_reducible show RS _ _ (ifs3 _ _ _)); refine rs_if ?_ ?_ ?_
  | (with_reducible show RT _ _ (b3 (o3 gtR _ _))); refine wn0 q_gt ?_ ?_
  | (with_reducible show RI _ _ _ (is3 _)); refine zr4 ?_
  | (with_reducible show RG _ _ (gn3 _)); exact sn3 (by (conv=>(arg 1; whnf)); decide +kernel)
  | (with_reducible show RE _ _ (o3 addR _ _)); refine ts1 q_add ?_ ?_
  | (with_reducible show RSs _ _ (seq3 _ _)); refine wq2 ?_ ?_
  | (with_reducible show RS _ _ (for3 _ _ _)); refine xr4 PassesOwn.never rfl ?_ ?_ ?_
  | (with_reducible show RS _ _ (ret3 _)); refine sq4 ?_
  | (with_reducible show RE _ _ (wa0 lenR _)); refine sk0 q_len (by assumption) bz_len ?_
  | (with_reducible show RT _ _ (b3 (o3 eqR _ _))); refine wn0 (q_eq (hu64 (by assumption))) ?_ ?_
  | (with_reducible show RE _ _ (o3 ixR _ _)); refine re_ix q_ix ?_ ?_
  | (with_reducible show RT _ _ (b3 (o3 (inR false) _ _))); refine wn0 (q_in (hu65 (by assumption))) ?_ ?_
  | (with_reducible show RW _ _ (and3 _ _)); refine xq4 ?_ ?_
  | (with_reducible show RE _ _ (c3 (D.str _))); exact ys4
  | (with_reducible show RE _ _ (c3 (D.ty "int"))); exact sr4 (by assumption) tf3
  | (with_reducible show RE _ _ (wa0 absR _)); refine sk0 q_abs (by assumption) bz_abs ?_
  | (with_reducible show RT _ _ (b3 (o3 ltR _ _))); refine wn0 q_lt ?_ ?_
  | (with_reducible show RE _ _ (o3 mulR _ _)); refine ts1 q_mul ?_ ?_
  | (with_reducible show RE _ _ (o3 subR _ _)); refine ts1 q_sub ?_ ?_
  | (with_reducible show RE _ _ (o3 modR _ _)); refine ts1 q_mod ?_ ?_
  | (with_reducible show RE _ _ (tup3 _)); refine xs4 ?_
  | (with_reducible show RI _ _ _ (ir3 (xa0 _ nil3))); refine zx1 (by assumption) ?_
  | (with_reducible show RTs _ _ tt3); exact tm3
  | (with_reducible show RE _ _ (wa0 sumR _)); refine sk0 q_sum (by assumption) bz_sum ?_
  | (with_reducible show RE _ _ (o3 leR _ _)); refine sn1 q_le ?_ ?_
  | (with_reducible show RE _ _ (tc1 _ _)); refine yt4 ?_ ?_
  | (with_reducible show RE _ _ (if3 _ _ _)); refine re_if ?_ ?_ ?_
  | (with_reducible show RT _ _ (b3 (o3 neR _ _))); refine wn0 (q_ne (hu64 (by assumption))) ?_ ?_
  | (with_reducible show RP _ _ (pt3 _)); refine wn3 ?_
  | (with_reducible show RP _ _ np3); exact vn3
  | (with_reducible show RE _ _ (sl3 slR _ _ _)); refine zr2 q_sl ?_ ?_ ?_
  | (with_reducible show RW _ _ (or3 _ _)); refine rw_or ?_ ?_
  | (with_reducible show RE _ _ (o3 eqR _ _)); refine sn1 (q_eq (hu64 (by assumption))) ?_ ?_
  | (with_reducible show RE _ _ (orV3 _ _)); refine re_or ?_ ?_
  | (with_reducible show RE _ _ (c3 (D.bl _))); exact re_bl
  | (with_reducible show RE _ _ (o3 (inR false) _ _)); refine sn1 (q_in (hu65 (by assumption))) ?_ ?_
  | (with_reducible show RE _ _ (un3 negR _)); refine re_un q_neg ?_
  | (with_reducible show RT _ _ (b3 (mdn3 true _ _))); refine us1 (by assumption) (by assumption) ?_
  | (with_reducible show RE _ _ (c3 D.non)); exact ws4
  | (with_reducible show RE _ _ (mdg3 _ _)); refine vs4 (by assumption) (by assumption) ?_
  | (with_reducible show RE _ _ (mdc3 _ _ _)); refine us4 (by assumption) (yb1 (by assumption) (by assumption) (by assumption) (by assumption) (by assumption) (by assumption) (by assumption) (by assumption) (by assumption) (by assumption) (by assumption) (by assumption) (by assumption) (by assumption) (by assumption) (by assumption) (by assumption) (by assumption) (by assumption) (by assumption) (by assumption) (by assumption) (by assumption) (by assumption)) ?_ (by assumption) ?_
  | (with_reducible show RE _ _ (wa0 mnR _)); refine sk0 (q_mn rfl (hu64 (by assumption))) (by assumption) bz_min ?_
  | (with_reducible show RI _ _ _ (ir23 (xa0 _ (xa0 _ nil3)))); refine yx1 (by assumption) ?_ ?_
  | (with_reducible show REs _ _ (uj3 (xa0 _ nil3))); refine sm3 ?_ (by assumption) (hu64 (by assumption))
  | (with_reducible show RE _ _ (tj3 _)); refine xo3 ?_ (by assumption)
  | (with_reducible show RE _ _ (wa0 tupR _)); refine xf1 to3 (by assumption) yr1 ?_
  | (with_reducible show RE _ _ (lst3 _)); refine ts4 ?_
  | (with_reducible show RE _ _ (mt3 extR _ _)); refine tx1 ?_ ?_
  | (with_reducible show RE _ _ (mt3 appR _ _)); refine sx1 ?_ ?_
  | (with_reducible show RE _ _ (tt2 _)); refine yo3 ?_ (by assumption) (by assumption)
  | (with_reducible show RT _ _ (b3 (o3 (isNR false) _ _))); refine wn0 q_isN ?_ ?_
  | (with_reducible show RE _ _ (wa0 mxR _)); refine sk0 (q_mx rfl) (by assumption) bz_max ?_
  | (with_reducible show RE _ _ (o3 powR _ _)); refine ts1 q_pow ?_ ?_
  | (with_reducible show RT _ _ (b3 (o3 geR _ _))); refine wn0 q_ge ?_ ?_
  | (with_reducible show RE _ _ (o3 yw2 _ _)); refine ts1 xa5 ?_ ?_
  | (with_reducible show RG _ _ (sub3 _ _)); refine vr4 ?_ ?_
  | (with_reducible show RS _ _ (asg3 _ _)); refine yr4 ?_ ?_
  | (with_reducible show RE _ _ (o3 gtR _ _)); refine sn1 q_gt ?_ ?_
  | (with_reducible show RE _ _ (wa0 intR _)); refine xf1 q_int (by assumption) tf3 ?_
  | (with_reducible show RT _ _ (b3 (ch3 leR leR _ _ _))); refine zn1 q_le q_le ?_ ?_ ?_
  | (with_reducible show RT _ _ (b3 (ch3 leR ltR _ _ _))); refine zn1 q_le q_lt ?_ ?_ ?_
  | (with_reducible show RGs _ _ ut1); exact tn3
  | (with_reducible show RGs _ _ (xo0 _ _)); refine xr2 ?_ ?_
  | (with_reducible show RG _ _ (wc2 _ _)); refine ur4 rfl ?_
  | (with_reducible show RG _ _ (tv2 _ _)); refine wr4 rfl ?_
  | (with_reducible show RT _ _ (b3 (o3 (isNR true) _ _))); refine wn0 wr2 ?_ ?_
  | (with_reducible show RT _ _ (b3 (o3 (inR true) _ _))); refine wn0 (xp3 (hu65 (by assumption))) ?_ ?_
  | (with_reducible show RE _ _ (wa0 _ _)); refine wo3 (by assumption) (by assumption) ?_
  | (with_reducible show RT _ _ (b3 _)); refine wq4 ?_
  | (with_reducible show RE _ _ (c3 _)); exact re_g (by assumption)
  | (with_reducible show RS _ _ (set3 _ _)); refine tq4 (by (conv=>(arg 1; whnf)); decide +kernel) ?_
  | (with_reducible show RSs _ _ _); refine xn3 ?_
  | (with_reducible show RW _ _ _); refine vm3 ?_
  | (with_reducible show RT _ _ _); refine rw_pt ?_
  | (with_reducible show RE _ _ _); refine zs4 ?_
  | (with_reducible show RS _ _ _); refine uq4 ?_
  | (with_reducible show RW _ _ _); refine sp4 ?_
  | (with_reducible show RTs _ _ _); refine um3 ?_
end
end Pv
namespace Mw
noncomputable abbrev Pen:=Int × Int × Int
noncomputable def cs (h:Int):Int:=if h=0 then 1 else if h=2 then -1 else 0
noncomputable def sn (h:Int):Int:=if h=1 then 1 else if h=3 then -1 else 0
noncomputable def led (p q:Pen):Pen:=(p.1 + q.1 * cs p.2.2 - q.2.1 * sn p.2.2,p.2.1 + q.1 * sn p.2.2 + q.2.1 * cs p.2.2,(p.2.2 + q.2.2) % 4)
noncomputable def st:Pen:=(0,0,0)
noncomputable def Hd (p:Pen):Prop:=p.2.2=0 \/ p.2.2=1 \/ p.2.2=2 \/ p.2.2=3
theorem zr0:Hd st:=.inl rfl
theorem ul0 (p q:Pen):Hd (led p q):=by
 unfold Hd led;have h1:=Int.emod_nonneg (p.2.2 + q.2.2) (show (4:Int) ≠ 0 by decide);have h2:=Int.emod_lt_of_pos (p.2.2 + q.2.2) (show (0:Int) < 4 by decide);dsimp only;omega
variable {p:Pen}
theorem sj0 (h:Hd p):led p st=p:=by
 obtain ⟨x,y,k⟩:=p;unfold Hd at h;dsimp only at h;rcases h with rfl | rfl | rfl | rfl <;> simp [led,st,cs,sn]
theorem ym1 (h:Hd p):led st p=p:=by
 obtain ⟨x,y,k⟩:=p;unfold Hd at h;dsimp only at h;rcases h with rfl | rfl | rfl | rfl <;> simp [led,st,cs,sn]
theorem xk5 {a b:Int} (h:a=0 \/ a=1 \/ a=2 \/ a=3) (h':b=0 \/ b=1 \/ b=2 \/ b=3):cs ((a + b) % 4)=cs a * cs b - sn a * sn b:=by
 rcases h with rfl | rfl | rfl | rfl <;> rcases h' with rfl | rfl | rfl | rfl <;> rfl
theorem ti4 {a b:Int} (h:a=0 \/ a=1 \/ a=2 \/ a=3) (h':b=0 \/ b=1 \/ b=2 \/ b=3):sn ((a + b) % 4)=sn a * cs b + cs a * sn b:=by
 rcases h with rfl | rfl | rfl | rfl <;> rcases h' with rfl | rfl | rfl | rfl <;> rfl
theorem tn0 {q:Pen} (r:Pen) (h:Hd p) (h':Hd q):led (led p q) r=led p (led q r):=by
 have e1:=xk5 h h';have e2:=ti4 h h';have e3:∀ a b c:Int,((a + b) % 4 + c) % 4=(a + (b + c) % 4) % 4:=λ a b c=>by rw [Int.emod_add_emod,Int.add_emod_emod,Int.add_assoc]
 refine Prod.ext ?_ (Prod.ext ?_ (e3 _ _ _))
 ·show p.1 + q.1 * cs p.2.2 - q.2.1 * sn p.2.2 + r.1 * cs ((p.2.2 + q.2.2) % 4) - r.2.1 * sn ((p.2.2 + q.2.2) % 4)=p.1 + (q.1 + r.1 * cs q.2.2 - r.2.1 * sn q.2.2) * cs p.2.2 - (q.2.1 + r.1 * sn q.2.2 + r.2.1 * cs q.2.2) * sn p.2.2;rw [e1,e2]
  grind
 ·show p.2.1 + q.1 * sn p.2.2 + q.2.1 * cs p.2.2 + r.1 * sn ((p.2.2 + q.2.2) % 4) + r.2.1 * cs ((p.2.2 + q.2.2) % 4)=p.2.1 + (q.1 + r.1 * cs q.2.2 - r.2.1 * sn q.2.2) * sn p.2.2 + (q.2.1 + r.1 * sn q.2.2 + r.2.1 * cs q.2.2) * cs p.2.2;rw [e1,e2]
  grind
noncomputable def pw (p:Pen):Nat->Pen
 | 0=>st
 | n + 1=>led (pw p n) p
theorem zq0 (p:Pen):∀ n,Hd (pw p n)
 | 0=>zr0
 | n + 1=>ul0 _ _
theorem tx0 {p:Pen} (h:Hd p) (m:Nat):∀ n,pw p (m + n)=led (pw p m) (pw p n)
 | 0=>(sj0 (zq0 p m)).symm
 | n + 1=>by
  show led (pw p (m + n)) p=led (pw p m) (led (pw p n) p);rw [tx0 h m n,tn0 p (zq0 p m) (zq0 p n)]
theorem yc3 (h:Hd p):pw p 1=p:=ym1 h
theorem zc3 {p:Pen} (h:Hd p) (m:Nat):∀ n,pw p (m * n)=pw (pw p m) n
 | 0=>rfl
 | n + 1=>by
  rw [Nat.mul_succ,tx0 h,zc3 h m n];rfl
theorem zp3 (h:Hd p) (h0:p.2.2 ≠ 0):pw p 4=st:=by
 obtain ⟨x,y,k⟩:=p;unfold Hd at h;dsimp only at h h0;rcases h with rfl | rfl | rfl | rfl
 ·exact absurd rfl h0
 all_goals (simp [pw,led,st,cs,sn] <;> omega)
theorem zj1 {p:Pen} (h0:p.2.2=0):∀ n:Nat,pw p n=(p.1 * n,p.2.1 * n,0)
 | 0=>by simp [pw,st]
 | n + 1=>by
  show led (pw p n) p=_;rw [zj1 h0 n];obtain ⟨x,y,k⟩:=p;dsimp only at h0;subst h0;simp [led,cs,sn,Int.mul_add]
noncomputable def rep (p:Pen) (n:Int):Pen:=if p.2.2=0 then (p.1 * n,p.2.1 * n,0) else pw p (n % 4).toNat
theorem wc3 (h:Hd p) (h0:p.2.2 ≠ 0) (n:Nat):pw p n=pw p (n % 4):=by
 have e:n=4 * (n / 4) + n % 4:=by omega
 have z:∀ k,pw st k=st:=λ k=>by
  induction k with
  | zero=>rfl
  | succ k ih=>show led (pw st k) st=st; rw [ih]; exact sj0 zr0
 conv=>lhs; rw [e]
 rw [tx0 h,zc3 h,zp3 h h0,z,ym1 (zq0 _ _)]
variable {n:Int}
theorem vn0 (h:Hd p) (hn:0<=n):rep p n=pw p n.toNat:=by
 unfold rep;by_cases h0:p.2.2=0
 ·rw [if_pos h0,zj1 h0,Int.toNat_of_nonneg hn]
 ·rw [if_neg h0,wc3 h h0 n.toNat];congr 1;omega
theorem ze3 (h:Hd p) (hn:0<=n):Hd (rep p n):=by rw [vn0 h hn]; exact zq0 _ _
inductive Dd where
 | go (n:Int) | jump (n:Int) | turn (n:Int) | times (n:Int) (w:List Dd)
mutual
noncomputable def cnt:Dd->Nat
 | .times _ w=>1 + cnts w
 | _=>1
noncomputable def cnts:List Dd->Nat
 | []=>0
 | d :: r=>cnt d + cnts r
end
mutual
noncomputable def dep:Dd->Nat
 | .times _ w=>1 + deps w
 | _=>0
noncomputable def deps:List Dd->Nat
 | []=>0
 | d :: r=>max (dep d) (deps r)
end
noncomputable def G:Int:=99999999999999999999
mutual
noncomputable def okd:Dd->Prop
 | .go n=>0<=n /\ n<=G
 | .jump n=>-G<=n /\ n<=G
 | .turn n=>-G<=n /\ n<=G
 | .times n w=>(0<=n /\ n<=G) /\ oks w
noncomputable def oks:List Dd->Prop
 | []=>True
 | d :: r=>okd d /\ oks r
end
mutual
noncomputable def sk:Dd->Int
 | .go n=>n
 | .times n w=>n * sks w
 | _=>0
noncomputable def sks:List Dd->Int
 | []=>0
 | d :: r=>sk d + sks r
end
mutual
noncomputable def dn:Dd->Int
 | .times n w=>n * dns w
 | _=>1
noncomputable def dns:List Dd->Int
 | []=>0
 | d :: r=>dn d + dns r
end
mutual
noncomputable def pd:Dd->Pen
 | .go n=>(n,0,0)
 | .jump n=>(n,0,0)
 | .turn n=>(0,0,n % 4)
 | .times n w=>rep (pb w) n
noncomputable def pb:List Dd->Pen
 | []=>st
 | d :: r=>led (pd d) (pb r)
end
theorem vv0:∀ a b,cnts (a ++ b)=cnts a + cnts b
 | [],b=>by simp [cnts]
 | d :: r,b=>by simp only [cons_append,cnts,vv0 r b]; omega
theorem wd0:∀ a b,deps (a ++ b)=max (deps a) (deps b)
 | [],b=>by simp [deps]
 | d :: r,b=>by simp only [cons_append,deps,wd0 r b,Nat.max_assoc]
theorem xd0:∀ a b,oks (a ++ b) ↔ oks a /\ oks b
 | [],b=>by simp [oks]
 | d :: r,b=>by simp only [cons_append,oks,xd0 r b,and_assoc]
theorem tk0:∀ a b,sks (a ++ b)=sks a + sks b
 | [],b=>by simp [sks]
 | d :: r,b=>by simp only [cons_append,sks,tk0 r b]; omega
theorem wc0:∀ a,a.length<=cnts a
 | []=>Nat.le_refl _
 | d :: r=>by
  have h:=wc0 r;have h1:1<=cnt d:=by cases d <;> simp only [cnt] <;> omega
  simp only [length_cons,cnts];omega
mutual
theorem sw0:∀ d,okd d->Hd (pd d)
 | .go n,_=>.inl rfl
 | .jump n,_=>.inl rfl
 | .turn n,_=>by
  unfold Hd pd;have h1:=Int.emod_nonneg n (show (4:Int) ≠ 0 by decide);have h2:=Int.emod_lt_of_pos n (show (0:Int) < 4 by decide);dsimp only;omega
 | .times n w,h=>by
  simp only [pd];simp only [okd] at h;exact ze3 (ym0 w) h.1.1
theorem ym0:∀ w,Hd (pb w)
 | []=>by simp only [pb]; exact zr0
 | d :: r=>by simp only [pb]; exact ul0 _ _
end
theorem vg0:∀ a b,oks a->pb (a ++ b)=led (pb a) (pb b)
 | [],b,_=>by simp only [nil_append,pb]; exact (ym1 (ym0 b)).symm
 | d :: r,b,h=>by
  simp only [oks] at h;simp only [cons_append,pb];rw [vg0 r b h.2,tn0 _ (sw0 d h.1) (ym0 r)]
theorem G_pos:(0:Int) < G:=by decide
theorem wh2 (e:Nat):(0:Int)<=G ^ e:=Int.pow_nonneg (Int.le_of_lt G_pos)
theorem vb4 (e:Nat):G ^ e<=G ^ (e + 1):=by
 rw [Int.pow_succ];have h:=wh2 e;have h1:(1:Int)<=G:=by decide
 calc G ^ e=G ^ e * 1:=(Int.mul_one _).symm
  _<=G ^ e * G:=Int.mul_le_mul_of_nonneg_left h1 h
theorem xd1 {a b:Nat} (h:a<=b):G ^ a<=G ^ b:=by
 induction b with
 | zero =>
  have:a=0:=by omega
  subst this; exact Int.le_refl _
 | succ b ih =>
  by_cases hab:a=b + 1
  ·subst hab; exact Int.le_refl _
  ·exact Int.le_trans (ih [2]) (vb4 b)
noncomputable def bd (c e:Nat):Int:=(c:Int) * G ^ (e + 1)
variable {c e:Nat}
theorem sf3 {c' e':Nat}:bd c e + bd c' e'<=bd (c + c') (max e e'):=by
 unfold bd;have h1:(c:Int) * G ^ (e + 1)<=(c:Int) * G ^ (max e e' + 1):=Int.mul_le_mul_of_nonneg_left (xd1 [2]) [2];have h2:(c':Int) * G ^ (e' + 1)<=(c':Int) * G ^ (max e e' + 1):=Int.mul_le_mul_of_nonneg_left (xd1 [2]) [2]
 have e3:((c + c':Nat):Int) * G ^ (max e e' + 1)=(c:Int) * G ^ (max e e' + 1) + (c':Int) * G ^ (max e e' + 1):=by
  rw [Int.natCast_add,Int.add_mul]
 omega
variable {x:Int}
theorem wr1 (hn:0<=n) (hn':n<=G) (hx:0<=x) (h:x<=bd c e):n * x<=bd (1 + c) (1 + e):=by
 have h1:n * x<=G * x:=Int.mul_le_mul_of_nonneg_right hn' hx;have h2:G * x<=G * bd c e:=Int.mul_le_mul_of_nonneg_left h (Int.le_of_lt G_pos)
 have h3:G * bd c e=(c:Int) * G ^ (1 + e + 1):=by
  unfold bd;rw [Int.mul_left_comm,show 1 + e + 1=(e + 1) + 1 by omega,Int.pow_succ G (e + 1),Int.mul_comm G]
 have h4:(c:Int) * G ^ (1 + e + 1)<=((1 + c:Nat):Int) * G ^ (1 + e + 1):=Int.mul_le_mul_of_nonneg_right [2] (wh2 _);unfold bd;omega
theorem yw0 (h:1<=c):G<=bd c e:=by
 unfold bd;have h1:(1:Int) * G ^ 1<=(c:Int) * G ^ (e + 1):=Int.le_trans (Int.mul_le_mul_of_nonneg_right [2] (wh2 1)) (Int.mul_le_mul_of_nonneg_left (xd1 [2]) [2]);have h2:(1:Int) * G ^ 1=G:=by rw [Int.one_mul,Int.pow_succ,Int.pow_zero,Int.one_mul]
 omega
theorem xy2 (c e:Nat):0<=bd c e:=Int.mul_nonneg [2] (wh2 _)
mutual
theorem sk_bd:∀ d,okd d->0<=sk d /\ sk d<=bd (cnt d) (dep d)
 | .go n,h=>by
  simp only [okd] at h;simp only [sk,cnt,dep];have:=yw0 (c:=1) (e:=0) (Nat.le_refl _);omega
 | .jump n,h=>by simp only [sk,cnt,dep]; exact ⟨Int.le_refl _,xy2 _ _⟩
 | .turn n,h=>by simp only [sk,cnt,dep]; exact ⟨Int.le_refl _,xy2 _ _⟩
 | .times n w,h=>by
  simp only [okd] at h;simp only [sk,cnt,dep];obtain ⟨a,b⟩:=zw1 w h.2;exact ⟨Int.mul_nonneg h.1.1 a,wr1 h.1.1 h.1.2 a b⟩
theorem zw1:∀ w,oks w->0<=sks w /\ sks w<=bd (cnts w) (deps w)
 | [],h=>by simp only [sks,cnts,deps]; exact ⟨Int.le_refl _,xy2 _ _⟩
 | d :: r,h=>by
  simp only [oks] at h;simp only [sks,cnts,deps];obtain ⟨a,b⟩:=sk_bd d h.1;obtain ⟨a',b'⟩:=zw1 r h.2;have:=sf3 (c:=cnt d) (c':=cnts r) (e:=dep d) (e':=deps r);omega
end
mutual
theorem dn_bd:∀ d,okd d->0<=dn d /\ dn d<=bd (cnt d) (dep d)
 | .go n,h=>by
  simp only [dn,cnt,dep];have:=yw0 (c:=1) (e:=0) (Nat.le_refl _);have h1:(1:Int)<=G:=by decide
  omega
 | .jump n,h=>by
  simp only [dn,cnt,dep];have:=yw0 (c:=1) (e:=0) (Nat.le_refl _);have h1:(1:Int)<=G:=by decide
  omega
 | .turn n,h=>by
  simp only [dn,cnt,dep];have:=yw0 (c:=1) (e:=0) (Nat.le_refl _);have h1:(1:Int)<=G:=by decide
  omega
 | .times n w,h=>by
  simp only [okd] at h;simp only [dn,cnt,dep];obtain ⟨a,b⟩:=uq1 w h.2;exact ⟨Int.mul_nonneg h.1.1 a,wr1 h.1.1 h.1.2 a b⟩
theorem uq1:∀ w,oks w->0<=dns w /\ dns w<=bd (cnts w) (deps w)
 | [],h=>by simp only [dns,cnts,deps]; exact ⟨Int.le_refl _,xy2 _ _⟩
 | d :: r,h=>by
  simp only [oks] at h;simp only [dns,cnts,deps];obtain ⟨a,b⟩:=dn_bd d h.1;obtain ⟨a',b'⟩:=uq1 r h.2;have:=sf3 (c:=cnt d) (c':=cnts r) (e:=dep d) (e':=deps r);omega
end
theorem ww3 {c' e':Nat} (hc:c<=c') (he:e<=e'):bd c e<=bd c' e' :=
 Int.le_trans (Int.mul_le_mul_of_nonneg_right [2] (wh2 _)) (Int.mul_le_mul_of_nonneg_left (xd1 [2]) [2])
theorem bd_big:bd 100 10 < 2 ^ 1000:=by decide +kernel
theorem yu0 (h0:0<=x) (h:x<=bd c e) (hc:c<=100) (he:e<=10):x.natAbs < 2 ^ 1000:=by
 have h1:=Int.le_trans h (ww3 hc he);have h2:=bd_big
 have h3:((x.natAbs:Nat):Int) < ((2 ^ 1000:Nat):Int):=by
  rw [Int.natAbs_of_nonneg h0];exact Int.lt_of_le_of_lt h1 (by rw [Int.natCast_pow]; exact h2)
 exact Int.ofNat_lt.mp h3
end Mw
namespace Mw
noncomputable def ab (x:Int):Int:=if x < 0 then -x else x
noncomputable def pm (p:Pen):Int:=max (ab p.1) (ab p.2.1)
variable {p:Pen}
theorem wy1 {b:Int}:pm p<=b ↔ (-b<=p.1 /\ p.1<=b) /\ (-b<=p.2.1 /\ p.2.1<=b):=by
 unfold pm ab;omega
theorem pm_nn (p:Pen):0<=pm p:=by unfold pm ab; omega
theorem uc3 {q:Pen} (h:Hd p) {a b:Int} (ha:pm p<=a) (hb:pm q<=b):pm (led p q)<=a + b:=by
 rw [wy1] at ha hb ⊢;obtain ⟨x,y,k⟩:=p;obtain ⟨x',y',k'⟩:=q;unfold Hd at h;dsimp only at h ha hb;rcases h with rfl | rfl | rfl | rfl <;> simp [led,cs,sn] <;> omega
theorem wb5 {p:Pen} {b:Int} (hb:pm p<=b):∀ n:Nat,pm (pw p n)<=n * b
 | 0=>by simp [pw,st,pm,ab]
 | n + 1=>by
  have:=uc3 (zq0 p n) (wb5 hb n) hb;show pm (led (pw p n) p)<=_;rw [Int.natCast_add,Int.add_mul];omega
theorem zb5 (h:Hd p) {n b:Int} (hn:0<=n) (hb:pm p<=b):pm (rep p n)<=(n + 3) * b:=by
 have h0:=Int.le_trans (pm_nn p) hb;unfold rep;split
 ·rw [wy1] at hb ⊢;dsimp only;have e:(n + 3) * b=n * b + 3 * b:=Int.add_mul ..;have a1:p.1 * n<=b * n:=Int.mul_le_mul_of_nonneg_right hb.1.2 hn;have a2 : -b * n<=p.1 * n:=Int.mul_le_mul_of_nonneg_right hb.1.1 hn;have a3:p.2.1 * n<=b * n:=Int.mul_le_mul_of_nonneg_right hb.2.2 hn;have a4 : -b * n<=p.2.1 * n:=Int.mul_le_mul_of_nonneg_right hb.2.1 hn;have e2:b * n=n * b:=Int.mul_comm ..;have e3 : -b * n = -(b * n):=Int.neg_mul ..;omega
 ·have h1:=wb5 hb (n % 4).toNat;have h2:(((n % 4).toNat:Nat):Int) * b<=(n + 3) * b:=Int.mul_le_mul_of_nonneg_right [2] h0;omega
noncomputable def G2:Int:=200000000000000000000
noncomputable def pbd (c e:Nat):Int:=(c:Int) * G2 ^ (e + 1)
theorem vh2 (e:Nat):(0:Int)<=G2 ^ e:=Int.pow_nonneg (by decide)
theorem va3 {a b:Nat} (h:a<=b):G2 ^ a<=G2 ^ b:=by
 induction b with
 | zero =>
  simp_all
 | succ b ih =>
  by_cases hab:a=b + 1
  ·simp_all
  ·refine Int.le_trans (ih [2]) ?_;rw [Int.pow_succ]
   calc G2 ^ b=G2 ^ b * 1:=(Int.mul_one _).symm
    _<=G2 ^ b * G2:=Int.mul_le_mul_of_nonneg_left (by decide) (vh2 b)
theorem yd3 (c e:Nat):0<=pbd c e:=Int.mul_nonneg [2] (vh2 _)
theorem ws0 {c c' e e':Nat} (hc:c<=c') (he:e<=e'):pbd c e<=pbd c' e' :=
 Int.le_trans (Int.mul_le_mul_of_nonneg_right [2] (vh2 _)) (Int.mul_le_mul_of_nonneg_left (va3 [2]) [2])
theorem sr3 {c c' e e':Nat}:pbd c e + pbd c' e'<=pbd (c + c') (max e e'):=by
 have h1:pbd c e<=pbd c (max e e'):=ws0 (Nat.le_refl _) [2];have h2:pbd c' e'<=pbd c' (max e e'):=ws0 (Nat.le_refl _) [2]
 have e3:pbd (c + c') (max e e')=pbd c (max e e') + pbd c' (max e e'):=by
  unfold pbd;rw [Int.natCast_add,Int.add_mul]
 omega
theorem zz1:G<=pbd 1 0:=by decide
mutual
theorem pm_pd:∀ d,okd d->pm (pd d)<=pbd (cnt d) (dep d)
 | .go n,h=>by
  simp only [okd] at h;simp only [pd,cnt,dep];have:=zz1;rw [wy1]; dsimp only; omega
 | .jump n,h=>by
  simp only [okd] at h;simp only [pd,cnt,dep];have:=zz1;rw [wy1]; dsimp only; omega
 | .turn n,h=>by
  simp only [pd,cnt,dep];have:=yd3 1 0;assumption
 | .times n w,h=>by
  simp only [okd] at h;simp only [pd,cnt,dep];have h1:=zb5 (ym0 w) h.1.1 (ys2 w h.2);have h2:(n + 3) * pbd (cnts w) (deps w)<=G2 * pbd (cnts w) (deps w):=Int.mul_le_mul_of_nonneg_right (by have:=h.1.2; unfold G at this; unfold G2; omega) (yd3 _ _)
  have h3:G2 * pbd (cnts w) (deps w)=pbd (cnts w) (1 + deps w):=by
   unfold pbd;rw [Int.mul_left_comm,show 1 + deps w + 1=(deps w + 1) + 1 by omega,Int.pow_succ G2 (deps w + 1),Int.mul_comm G2]
  have h4:pbd (cnts w) (1 + deps w)<=pbd (1 + cnts w) (1 + deps w):=ws0 [2] (Nat.le_refl _);omega
theorem ys2:∀ w,oks w->pm (pb w)<=pbd (cnts w) (deps w)
 | [],h=>by trivial
 | d :: r,h=>by
  simp only [oks] at h;simp only [pb,cnts,deps];have:=uc3 (sw0 d h.1) (pm_pd d h.1) (ys2 r h.2);have:=sr3 (c:=cnt d) (c':=cnts r) (e:=dep d) (e':=deps r);omega
end
theorem tr3:pbd 100 8 < 2 ^ 1000:=by decide +kernel
theorem sc3 {c e:Nat} (h:pm p<=pbd c e) (hc:c<=100) (he:e<=8):p.1.natAbs < 2 ^ 1000 /\ p.2.1.natAbs < 2 ^ 1000:=by
 have h1:=Int.le_trans h (ws0 hc he);have h2:=tr3;rw [wy1] at h1;omega
end Mw
namespace Pv
open PySem Mw
theorem kn_go_jump:((("go" : Str)=("jump" : Str))=False):=eq_false (by decide)
theorem kn_go_turn:((("go" : Str)=("turn" : Str))=False):=eq_false (by decide)
theorem kn_go_times:((("go" : Str)=("times" : Str))=False):=eq_false (by decide)
theorem kn_jump_go:((("jump" : Str)=("go" : Str))=False):=eq_false (by decide)
theorem kn_jump_turn:((("jump" : Str)=("turn" : Str))=False):=eq_false (by decide)
theorem kn_jump_times:((("jump" : Str)=("times" : Str))=False):=eq_false (by decide)
theorem kn_turn_go:((("turn" : Str)=("go" : Str))=False):=eq_false (by decide)
theorem kn_turn_jump:((("turn" : Str)=("jump" : Str))=False):=eq_false (by decide)
theorem kn_turn_times:((("turn" : Str)=("times" : Str))=False):=eq_false (by decide)
theorem kn_times_go:((("times" : Str)=("go" : Str))=False):=eq_false (by decide)
theorem kn_times_jump:((("times" : Str)=("jump" : Str))=False):=eq_false (by decide)
theorem kn_times_turn:((("times" : Str)=("turn" : Str))=False):=eq_false (by decide)
theorem kp_go:(["go", "jump", "turn"]:List Str).contains "go" = true:=by decide
theorem kp_jump:(["go", "jump", "turn"]:List Str).contains "jump" = true:=by decide
theorem kp_turn:(["go", "jump", "turn"]:List Str).contains "turn" = true:=by decide
theorem kp_times:(["go", "jump", "turn"]:List Str).contains "times" = false:=by decide
theorem kz_go:(["go", "times"]:List Str).contains "go" = true:=by decide
theorem kz_jump:(["go", "times"]:List Str).contains "jump" = false:=by decide
theorem kz_turn:(["go", "times"]:List Str).contains "turn" = false:=by decide
theorem kz_times:(["go", "times"]:List Str).contains "times" = true:=by decide
mutual
noncomputable def enc:Dd->D
 | .go n=>.tup [.str "go",.int n]
 | .jump n=>.tup [.str "jump",.int n]
 | .turn n=>.tup [.str "turn",.int n]
 | .times n w=>.tup [.str "times",.int n,.tup (encs w)]
noncomputable def encs:List Dd->List D
 | []=>[]
 | d :: r=>enc d :: encs r
end
noncomputable def xi4:Sp3:=λ ds μ Q=>∃ (kind:Str) (n:Int),ds=[.str kind,.int n] /\ -G<=n /\ n<=G /\ ((kind = "go" \/ kind = "times")->0<=n) /\ Q .non μ
noncomputable abbrev RdQ (s:Sp3) (t:TS3) (N:List Str):Prop:=∀ ds μ Q,s ds μ Q->t { nx:=λ _ μ'=>Q .non μ',rt:=Q } (ua0 N ds) μ
theorem zy4:RdQ xi4 si3 xa3:=by
 rintro ds μ Q ⟨kind,n,rfl,h1,h2,h3,q⟩;unfold G at h1 h2;simp only [si3,seq3,ifs3,not3,b3,wa0,xa0,v3,ua0,map_cons,map_nil,xa3,length_cons,length_nil,Nat.zero_add,Nat.reduceAdd,Nat.reduceSub,List.replicate,cons_append,nil_append,getI,c3,nil3,isiR,tyN,isIn,and_true,if_true,Bool.not_true,Bool.false_eq_true,sc0,sa0,o3,absR,gtR,zh0,decide_eq_true_eq,and3,ltR,inR,strs?,if_false];rw [if_neg [2]];split
 ·split
  ·simp_all;omega
  ·exact q
 ·exact q
noncomputable def vv1 (j:Nat):Sp3:=λ ds μ Q=>∃ (d:Dd) (k:Int),ds=[enc d,.int k] /\ okd d /\ dep d < j /\ k + dep d<=4 /\ cnt d<=30 /\ Q (.int (cnt d)) μ
noncomputable def yz0 (j:Nat):Sp3:=λ ds μ Q=>∃ (w:List Dd) (k:Int),ds=[.tup (encs w),.int k] /\ oks w /\ deps w < j /\ k + deps w<=4 /\ cnts w<=30 /\ Q (.int (cnts w)) μ
theorem sx4 (j:Nat):RdQ (vv1 (j + 1)) (uf4 xi4 (yz0 j)) va4:=by
 rintro ds μ Q ⟨d,k,rfl,h1,h2,h3,h4,q⟩;cases d
 case go n=>simp only [okd] at h1; exact ⟨_,n,rfl,by omega,by omega,λ _=>h1.1,q⟩
 case jump n=>simp only [okd] at h1; exact ⟨_,n,rfl,by omega,by omega,by simp only [Pv.kn_go_jump,Pv.kn_go_turn,Pv.kn_go_times,Pv.kn_jump_go,Pv.kn_jump_turn,Pv.kn_jump_times,Pv.kn_turn_go,Pv.kn_turn_jump,Pv.kn_turn_times,Pv.kn_times_go,Pv.kn_times_jump,Pv.kn_times_turn,Pv.kp_go,Pv.kp_jump,Pv.kp_turn,Pv.kp_times,Pv.kz_go,Pv.kz_jump,Pv.kz_turn,Pv.kz_times]; simp,q⟩
 case turn n=>simp only [okd] at h1; exact ⟨_,n,rfl,by omega,by omega,by simp only [Pv.kn_go_jump,Pv.kn_go_turn,Pv.kn_go_times,Pv.kn_jump_go,Pv.kn_jump_turn,Pv.kn_jump_times,Pv.kn_turn_go,Pv.kn_turn_jump,Pv.kn_turn_times,Pv.kn_times_go,Pv.kn_times_jump,Pv.kn_times_turn,Pv.kp_go,Pv.kp_jump,Pv.kp_turn,Pv.kp_times,Pv.kz_go,Pv.kz_jump,Pv.kz_turn,Pv.kz_times]; simp,q⟩
 case times n w =>
  simp only [okd,dep,cnt] at h1 h2 h3 h4 q;refine ⟨_,n,rfl,by omega,by omega,λ _=>h1.1.1,w,k + 1,rfl,h1.2,by omega,by omega,by omega,?_⟩;assumption
theorem xy4 (j:Nat):RdQ (yz0 j) (ui3 (vv1 j)) tz2:=by
 rintro ds μ Q ⟨w,k,rfl,h1,h2,h3,h4,q⟩;simp only [ui3,seq3,ifs3,not3,b3,wa0,xa0,v3,ua0,map_cons,map_nil,tz2,length_cons,length_nil,Nat.zero_add,Nat.reduceAdd,Nat.reduceSub,List.replicate,cons_append,nil_append,getI,c3,nil3,isiR,tyN,isIn,if_true,Bool.not_true,Bool.false_eq_true,sc0,sa0,o3,gtR,zh0,decide_eq_true_eq,set3,for3,is3,set_cons_succ,set_cons_zero,if_false];rw [if_neg [2]];refine sd0 (λ l ρ μ'=>μ'=μ /\ ∃ (r:List Dd) (c:Nat) (dd:Option D),l=encs r /\ ρ=[some (.tup (encs w)),some (.int k),some (.int c),dd] /\ oks r /\ deps r<=deps w /\ c + cnts r=cnts w) ?_ (λ _ _ _ _=>trivial) ?_ ?_
 ·exact ⟨rfl,w,0,none,rfl,rfl,h1,Nat.le_refl _,by omega⟩
 ·rintro ρ μ' ⟨rfl,r,c,dd,e,rfl,_,_,e2⟩;cases r with
  | nil =>
   simp only [cnts] at e2;simp only [ret3,v3,getI]
   simp_all
  | cons _ _=>simp [encs] at e
 ·rintro x rest ρ μ' ⟨rfl,r,c,dd,e,rfl,o,dp,e2⟩;cases r with
  | nil=>simp [encs] at e
  | cons d r =>
   simp only [encs,List.cons.injEq] at e;obtain ⟨rfl,rfl⟩:=e;simp only [oks,deps,cnts] at o dp e2;refine ⟨d,k,rfl,o.1,by omega,by omega,by omega,?_⟩;simp only [addR,ifs3,b3,o3,v3,set_cons_succ,set_cons_zero,getI,c3,zh0,decide_eq_true_eq,sc0,sa0,true_and];rw [if_neg [2]];exact ⟨r,c + cnt d,some (enc d),rfl,by simp,o.2,by omega,by omega⟩
noncomputable def Wd (w:List Dd):Prop:=oks w /\ deps w<=4 /\ cnts w<=30
noncomputable def xj1:Sp3:=λ ds μ Q=>∃ w,ds=[.tup (encs w)] /\ Wd w /\ Q .non μ
theorem yy4:RdQ xj1 (ti3 (yz0 5)) sz2:=by
 rintro ds μ Q ⟨w,rfl,⟨h1,h2,h3⟩,q⟩;simp only [ti3,vd0,wa0,xa0,v3,ua0,map_cons,map_nil,sz2,length_cons,length_nil,Nat.zero_add,Nat.reduceSub,List.replicate,cons_append,nil_append,getI,c3,nil3];exact ⟨w,0,rfl,h1,by omega,by omega,h3,q⟩
theorem va0:∀ a,(encs a).length=a.length
 | []=>by simp [encs]
 | d :: r=>by simp only [encs,length_cons,va0 r]
theorem zb1:∀ {w:List Dd} {x:D},x ∈ encs w->∃ d,d ∈ w /\ x=enc d
 | [],x,h=>by simp [encs] at h
 | d :: r,x,h=>by
  simp only [encs,mem_cons] at h;rcases h with rfl | h
  ·simp
  ·obtain ⟨e,h1,h2⟩:=zb1 h;exact ⟨e,mem_cons_of_mem _ h1,h2⟩
theorem xq0:∀ {w:List Dd} {d:Dd},d ∈ w->oks w->dep d<=deps w /\ cnt d<=cnts w /\ okd d
 | [],d,h,_=>by simp at h
 | e :: r,d,h,o=>by
  simp only [oks] at o;simp only [deps,cnts];rcases List.mem_cons.mp h with rfl | h
  ·simp_all;omega
  ·obtain ⟨h1,h2,h3⟩:=xq0 h o.2
   simp_all;omega
mutual
noncomputable def dec:D->Dd
 | .tup [.str k,.int n]=>if k = "go" then .go n else if k = "jump" then .jump n else .turn n
 | .tup [.str _,.int n,.tup w]=>.times n (decs w)
 | _=>.go 0
noncomputable def decs:List D->List Dd
 | []=>[]
 | d :: r=>dec d :: decs r
end
mutual
theorem yc1:∀ d,dec (enc d)=d
 | .go n=>by simp [enc,dec]
 | .jump n=>by rfl
 | .turn n=>by rfl
 | .times n w=>by simp only [enc,dec,yh1 w]
theorem yh1:∀ w,decs (encs w)=w
 | []=>by rfl
 | d :: r=>by simp only [encs,decs,yc1 d,yh1 r]
end
theorem sj1 (f:Dd->Int):∀ w,(encs w).map (λ d=>D.int (f (dec d)))=w.map λ d=>D.int (f d)
 | []=>by simp [encs]
 | d :: r=>by simp only [encs,map_cons,yc1,sj1 f r]
theorem vm1:PyData.strOk ("go" : Str)=true:=by decide +kernel
theorem vz0:PyData.strOk ("jump" : Str)=true:=by decide +kernel
theorem wz0:PyData.strOk ("turn" : Str)=true:=by decide +kernel
theorem xi0:PyData.strOk ("times" : Str)=true:=by decide +kernel
mutual
noncomputable def pe:Dd->PyData
 | .go n=>.tuple [.str "go",.int n]
 | .jump n=>.tuple [.str "jump",.int n]
 | .turn n=>.tuple [.str "turn",.int n]
 | .times n w=>.tuple [.str "times",.int n,.tuple (pes w)]
noncomputable def pes:List Dd->List PyData
 | []=>[]
 | d :: r=>pe d :: pes r
end
mutual
theorem wv3:∀ d,dat (enc d)=some (pe d)
 | .go n=>by simp only [enc,dat,dats,vm1,if_true,pe]
 | .jump n=>by simp only [enc,dat,dats,vz0,if_true,pe]
 | .turn n=>by simp only [enc,dat,dats,wz0,if_true,pe]
 | .times n w=>by simp only [enc,dat,dats,xi0,if_true,pe,yh0 w]
theorem yh0:∀ w,dats (encs w)=some (pes w)
 | []=>by rfl
 | d :: r=>by simp only [encs,dats,pes,wv3 d,yh0 r]
end
mutual
theorem zw2:∀ d,(pe d).depth<=2 * dep d + 1
 | .go n=>by simp [pe,PyData.depth,PyData.depthAll]
 | .jump n=>by simp [pe,PyData.depth,PyData.depthAll]
 | .turn n=>by simp [pe,PyData.depth,PyData.depthAll]
 | .times n w=>by
  have:=xh0 w;simp only [pe,PyData.depth,PyData.depthAll,dep];omega
theorem xh0:∀ w,PyData.depthAll (pes w)<=2 * deps w + 1
 | []=>by trivial
 | d :: r=>by
  have h1:=zw2 d;have h2:=xh0 r;simp only [pes,PyData.depthAll,deps];omega
end
mutual
theorem yj5:∀ d,PyData.eqv (pe d) (pe d)=true
 | .go n=>by simp [pe,PyData.eqv,PyData.eqvAll]
 | .jump n=>by simp [pe,PyData.eqv,PyData.eqvAll]
 | .turn n=>by simp [pe,PyData.eqv,PyData.eqvAll]
 | .times n w=>by simp [pe,PyData.eqv,PyData.eqvAll,xv0 w]
theorem xv0:∀ w,PyData.eqvAll (pes w) (pes w)=true
 | []=>by rfl
 | d :: r=>by simp [pes,PyData.eqvAll,yj5 d,xv0 r]
end
noncomputable def encP (p:Pen):D:=.tup [.int p.1,.int p.2.1,.int p.2.2]
noncomputable def encK (p:Pen):D:=.ktp [.int p.1,.int p.2.1,.int p.2.2]
noncomputable def isP (d:D) (p:Pen):Prop:=d=encP p \/ d=encK p
theorem sc1 {h:Int} (hd:h=0 \/ h=1 \/ h=2 \/ h=3):atI [D.ktp [D.int 1,D.int 0],D.ktp [D.int 0,D.int 1],D.ktp [D.int (-1),D.int 0],D.ktp [D.int 0,D.int (-1)]] h=some (.ktp [.int (cs h),.int (sn h)]):=by
 rcases hd with rfl | rfl | rfl | rfl <;> rfl
theorem ss0 (h:Int) : -(2 ^ 64) < cs h /\ cs h < 2 ^ 64:=by unfold cs; omega
theorem sr0 (h:Int) : -(2 ^ 64) < sn h /\ sn h < 2 ^ 64:=by unfold sn; omega
variable {i:Int} {d:D} {μ:Mu} {Q:VK3}
theorem yk1 {l:List D} (e:atI l i=some d) (h:Q d μ):ixR (.ktp l) (.int i) μ Q:=by
 unfold ixR
 simp_all
noncomputable def xe1:Sp3:=λ ds μ Q=>∃ d e p q,ds=[d,e] /\ isP d p /\ isP e q /\ Hd p /\ Q (encP (led p q)) μ
theorem tv4:RdQ xe1 ye4 xz3:=by
 rintro ds μ Q ⟨d,e,p,q,rfl,h1,h2,hp,k⟩;have c1:CMul q.1 (cs p.2.2):=.inl (.inr (ss0 _));have c2:CMul q.2.1 (sn p.2.2):=.inl (.inr (sr0 _));have c3:CMul q.1 (sn p.2.2):=.inl (.inr (sr0 _));have c4:CMul q.2.1 (cs p.2.2):=.inl (.inr (ss0 _));have d1:(0:Int) < 4:=by decide
 have d2:3<=sizeLine:=by decide
 rcases h1 with rfl | rfl <;> rcases h2 with rfl | rfl <;>
 ·show ixR yk0 (.int p.2.2) μ (λ d μ1=>_);refine yk1 (sc1 hp) ?_;trivial
noncomputable def zk3:Sp3:=λ ds μ Q=>∃ d p n,ds=[d,.int n] /\ isP d p /\ Hd p /\ 0<=n /\ n<=G /\ p.1.natAbs < 2 ^ 1000 /\ p.2.1.natAbs < 2 ^ 1000 /\ ∀ e,isP e (rep p n)->Q e μ
theorem G_big {n:Int} (h0:0<=n) (h1:n<=G):n.natAbs < Big :=
 yu0 h0 (Int.le_trans h1 (yw0 (c:=1) (e:=0) (Nat.le_refl _))) [2] [2]
theorem su4:RdQ zk3 (wd4 xe1) zy3:=by
 rintro ds μ Q ⟨d,p,n,rfl,hd,hp,h0,h1,b1,b2,k⟩
 have key:∀ d,(d=encP p \/ d=encK p)->p.2.2 ≠ 0->vk1 (λ _=>True) (gn3 3) (set3 2 (wa0 xe1 (xa0 (v3 2) (xa0 (v3 0) nil3)))) { nx:=ret3 (v3 2) { nx:=λ _ μ'=>Q .non μ',rt:=Q },rt:=Q } (rngD 0 (n % 4).toNat) [some d,some (.int n),some ud0,none] μ:=λ d hd e=>by
  refine sd0 (λ l ρ μ'=>μ'=μ /\ ∃ (i:Nat) (x:D) (dd:Option D),isP x (pw p i) /\ ρ=[some d,some (.int n),some x,dd] /\ i + l.length=(n % 4).toNat) ?_ (λ _ _ _ _=>trivial) ?_ ?_
  ·refine ⟨rfl,0,ud0,none,.inr rfl,rfl,?_⟩;simp [rngD]
  ·rintro ρ μ' ⟨rfl,i,x,dd,hx,rfl,e2⟩;have e3:i=(n % 4).toNat:=by simpa using e2
   rw [rep,if_neg e] at k;rw [e3] at hx;exact k x hx
  ·rintro y rest ρ μ' ⟨rfl,i,x,dd,hx,rfl,e2⟩;rw [length_cons] at e2;exact ⟨x,d,pw p i,p,rfl,hx,hd,zq0 p i,rfl,i + 1,_,some y,.inl rfl,rfl,by omega⟩
 have hm:0<=n % 4 /\ n % 4 < 4:=⟨by omega,by omega⟩;by_cases e:p.2.2=0
 ·rw [rep,if_pos e] at k;rcases hd with rfl | rfl <;>
  ·show if (decide (p.2.2=(0:Int)))=true then _ else _;rw [if_pos (decide_eq_true e)];exact ⟨.inr ⟨b1,G_big h0 h1⟩,.inr ⟨b2,G_big h0 h1⟩,show 3<=sizeLine by decide,k _ (.inl rfl)⟩
 ·rcases hd with rfl | rfl
  ·show if (decide (p.2.2=(0:Int)))=true then _ else _;rw [if_neg (λ h=>e (of_decide_eq_true h))];exact ⟨show (0:Int) < 4 by decide,⟨by omega,by omega⟩,key _ (.inl rfl) e⟩
  ·show if (decide (p.2.2=(0:Int)))=true then _ else _;rw [if_neg (λ h=>e (of_decide_eq_true h))];exact ⟨show (0:Int) < 4 by decide,⟨by omega,by omega⟩,key _ (.inr rfl) e⟩
noncomputable def spPb (j:Nat):Sp3:=λ ds μ Q=>∃ w,ds=[.tup (encs w)] /\ deps w < j /\ deps w<=5 /\ cnts w<=60 /\ oks w /\ ∀ e,isP e (pb w)->Q e μ
noncomputable def spPd (j:Nat):Sp3:=λ ds μ Q=>∃ d,ds=[enc d] /\ dep d < j /\ dep d<=5 /\ cnt d<=60 /\ okd d /\ ∀ e,isP e (pd d)->Q e μ
theorem xv4 (j:Nat):RdQ (spPd (j + 1)) (vd4 (spPb j) zk3) wy3:=by
 rintro ds μ Q ⟨d,rfl,h1,h2,h2',h3,q⟩;cases d
 case go n=>exact And.intro Z0 (q _ (.inl rfl))
 case jump n=>exact And.intro Z0 (q _ (.inl rfl))
 case turn n=>exact And.intro (show (0:Int) < 4 by decide) (And.intro Z0 (q _ (.inl rfl)))
 case times n w =>
  simp only [okd,dep,cnt,pd] at h1 h2 h2' h3 q;obtain ⟨b1,b2⟩:=sc3 (ys2 w h3.2) [2] [2];exact ⟨w,rfl,by omega,by omega,by omega,h3.2,λ e he=>⟨e,pb w,n,rfl,he,ym0 w,h3.1.1,h3.1.2,b1,b2,q⟩⟩
noncomputable def PbI (w:List Dd) (μ:Mu) (l:List D) (ρ:St3) (μ':Mu):Prop:=μ'=μ /\ ∃ (r:List Dd) (p:Pen) (x:D) (dd:Option D),l=encs r /\ isP x p /\ ρ=[some (.tup (encs w)),some x,dd] /\ oks r /\ deps r<=deps w /\ cnts r<=cnts w /\ Hd p /\ led p (pb r)=pb w
theorem yv4 (j:Nat):RdQ (spPb j) (ud4 xe1 (spPd j)) vy3:=by
 rintro ds μ Q ⟨w,rfl,h1,h2,h2',h3,q⟩;refine sd0 (PbI w μ) ?_ (λ _ _ _ _=>trivial) ?_ ?_
 ·exact ⟨rfl,w,st,ud0,none,rfl,.inr rfl,rfl,h3,Nat.le_refl _,Nat.le_refl _,zr0,ym1 (ym0 w)⟩
 ·rintro ρ μ' ⟨rfl,r,p,x,dd,e,hx,rfl,_,_,_,hp,e2⟩;cases r with
  | nil =>
   simp only [pb] at e2;rw [sj0 hp] at e2;rw [e2] at hx;exact q x hx
  | cons _ _=>simp [encs] at e
 ·rintro y rest ρ μ' ⟨rfl,r,p,x,dd,e,hx,rfl,o,dp,cn,hp,e2⟩;cases r with
  | nil=>simp [encs] at e
  | cons d r =>
   simp only [encs,List.cons.injEq] at e;obtain ⟨rfl,rfl⟩:=e;simp only [oks,deps,cnts,pb] at o dp cn e2;refine ⟨d,rfl,by omega,by omega,by omega,o.1,λ e he=>⟨x,e,p,pd d,rfl,hx,he,hp,rfl,r,led p (pd d),encP (led p (pd d)),some (enc d),rfl,.inl rfl,rfl,o.2,by omega,by omega,ul0 _ _,?_⟩⟩;rw [tn0 _ hp (sw0 d o.1)];exact e2
noncomputable def spSk (j:Nat):Sp3:=λ ds μ Q=>∃ w,ds=[.tup (encs w)] /\ deps w < j /\ deps w<=5 /\ cnts w<=60 /\ oks w /\ ∀ μ',Ext μ μ'->Q (.int (sks w)) μ'
noncomputable def yk3 (j:Nat):Sp3:=λ ds μ Q=>∃ d,ds=[enc d] /\ dep d < j /\ dep d<=5 /\ cnt d<=60 /\ okd d /\ ∀ μ',Ext μ μ'->Q (.int (sk d)) μ'
theorem zx4 (j:Nat):RdQ (yk3 (j + 1)) (zf4 (spSk j)) ya4:=by
 rintro ds μ Q ⟨d,rfl,h1,h2,h2',h3,q⟩;cases d
 case go n=>exact q _ (Ext.refl _)
 case jump n=>exact q _ (Ext.refl _)
 case turn n=>exact q _ (Ext.refl _)
 case times n w =>
  simp only [okd,dep,cnt,sk] at h1 h2 h2' h3 q;refine ⟨w,rfl,by omega,by omega,by omega,h3.2,λ μ' e=>?_⟩;obtain ⟨a,b⟩:=zw1 w h3.2;have hn:n<=bd 1 0:=Int.le_trans h3.1.2 (yw0 (Nat.le_refl _));exact ⟨.inr ⟨yu0 h3.1.1 hn [2] [2],yu0 a b [2] [2]⟩,q μ' e⟩
theorem vu0:∀ (f:Dd->Int) (r:List Dd),ints? (r.map λ d=>D.int (f d))=some (r.map f)
 | f,[]=>rfl
 | f,d :: r=>by simp only [map_cons,ints?,vu0 f r]
theorem yw1:∀ w,(w.map sk).sum=sks w
 | []=>by simp [sks]
 | d :: r=>by simp only [map_cons,List.sum_cons,sks,yw1 r]
theorem wx4 (j:Nat):RdQ (spSk j) (wi3 (yk3 j)) vz2:=by
 rintro ds μ Q ⟨w,rfl,h1,h2,h2',h3,q⟩;simp only [wi3,ret3,wa0,xa0,wm0,is3,v3,ua0,map_cons,map_nil,vz2,length_cons,length_nil,Nat.zero_add,Nat.reduceSub,List.replicate,cons_append,nil_append,getI,nil3,sumR,Option.bind_none];intro p hp;have hl:=wc0 w;have hz:(100:Nat) < sizeLine:=by decide
 refine yo0 (rest:=[]) (λ d=>D.int (sk (dec d))) hp (by rw [va0]; omega) (λ _ _=>trivial) (λ x hx μ' R e k=>?_) λ μ' e e2=>?_
 ·obtain ⟨d,hd,rfl⟩:=zb1 hx;obtain ⟨d1,d2,d3⟩:=xq0 hd h3;simp only [wa0,xa0,v3,getI,nil3];refine ⟨d,rfl,by omega,by omega,by omega,d3,λ μ2 e2=>?_⟩;rw [yc1] at k;exact k μ2 e2
 ·simp only [e2,sj1,vu0,yw1];exact q μ' e
noncomputable def xk3:Sp3:=λ ds μ Q=>∃ w,ds=[.tup (encs w)] /\ Wd w /\ ∀ μ',Ext μ μ'->Q (.int (sks w)) μ'
theorem xu4:RdQ xk3 (vh3 xj1 (spSk 5)) uy2:=by
 rintro ds μ Q ⟨w,rfl,h,q⟩;simp only [vh3,seq3,vd0,wa0,xa0,v3,ua0,map_cons,map_nil,uy2,length_cons,length_nil,Nat.zero_add,Nat.reduceSub,List.replicate,cons_append,nil_append,getI,nil3,ret3];exact ⟨w,rfl,h,w,rfl,by have:=h.2.1; omega,by have:=h.2.1; omega,by have:=h.2.2; omega,h.1,q⟩
noncomputable def spDn (j:Nat):Sp3:=λ ds μ Q=>∃ w,ds=[.tup (encs w)] /\ deps w < j /\ deps w<=5 /\ cnts w<=60 /\ oks w /\ ∀ μ',Ext μ μ'->Q (.int (dns w)) μ'
noncomputable def xj2 (j:Nat):Sp3:=λ ds μ Q=>∃ d,ds=[enc d] /\ dep d < j /\ dep d<=5 /\ cnt d<=60 /\ okd d /\ ∀ μ',Ext μ μ'->Q (.int (dn d)) μ'
theorem vx4 (j:Nat):RdQ (xj2 (j + 1)) (wf4 (spDn j)) za4:=by
 rintro ds μ Q ⟨d,rfl,h1,h2,h2',h3,q⟩;cases d
 case go n=>exact q _ (Ext.refl _)
 case jump n=>exact q _ (Ext.refl _)
 case turn n=>exact q _ (Ext.refl _)
 case times n w =>
  simp only [okd,dep,cnt,dn] at h1 h2 h2' h3 q;refine ⟨w,rfl,by omega,by omega,by omega,h3.2,λ μ' e=>?_⟩;obtain ⟨a,b⟩:=uq1 w h3.2;have hn:n<=bd 1 0:=Int.le_trans h3.1.2 (yw0 (Nat.le_refl _));exact ⟨.inr ⟨yu0 h3.1.1 hn [2] [2],yu0 a b [2] [2]⟩,q μ' e⟩
theorem yd2:∀ w,(w.map dn).sum=dns w
 | []=>by simp [dns]
 | d :: r=>by simp only [map_cons,List.sum_cons,dns,yd2 r]
theorem ux4 (j:Nat):RdQ (spDn j) (vi3 (xj2 j)) uz2:=by
 rintro ds μ Q ⟨w,rfl,h1,h2,h2',h3,q⟩;simp only [vi3,ret3,wa0,xa0,wm0,is3,v3,ua0,map_cons,map_nil,uz2,length_cons,length_nil,Nat.zero_add,Nat.reduceSub,List.replicate,cons_append,nil_append,getI,nil3,sumR,Option.bind_none];intro p hp;have hl:=wc0 w;have hz:(100:Nat) < sizeLine:=by decide
 refine yo0 (rest:=[]) (λ d=>D.int (dn (dec d))) hp (by rw [va0]; omega) (λ _ _=>trivial) (λ x hx μ' R e k=>?_) λ μ' e e2=>?_
 ·obtain ⟨d,hd,rfl⟩:=zb1 hx;obtain ⟨d1,d2,d3⟩:=xq0 hd h3;simp only [wa0,xa0,v3,getI,nil3];refine ⟨d,rfl,by omega,by omega,by omega,d3,λ μ2 e2=>?_⟩;rw [yc1] at k;exact k μ2 e2
 ·simp only [e2,sj1,vu0,yd2];exact q μ' e
noncomputable def zi4:Sp3:=λ ds μ Q=>∃ w,ds=[.tup (encs w)] /\ Wd w /\ ∀ μ',Ext μ μ'->Q (.int (dns w)) μ'
theorem xx4:RdQ zi4 (yi3 xj1 (spDn 5)) zz2:=by
 rintro ds μ Q ⟨w,rfl,h,q⟩;simp only [yi3,seq3,vd0,wa0,xa0,v3,ua0,map_cons,map_nil,zz2,length_cons,length_nil,Nat.zero_add,Nat.reduceSub,List.replicate,cons_append,nil_append,getI,nil3,ret3];exact ⟨w,rfl,h,w,rfl,by have:=h.2.1; omega,by have:=h.2.1; omega,by have:=h.2.2; omega,h.1,q⟩
noncomputable def si1:Sp3:=λ ds μ Q=>∃ w,ds=[.tup (encs w)] /\ Wd w /\ ∀ μ',Ext μ μ'->Q (.bl (decide (sks w<=400 /\ dns w<=400))) μ'
theorem zw4:RdQ si1 (xi3 zi4 xk3) yz2:=by
 rintro ds μ Q ⟨w,rfl,h,q⟩;simp only [xi3,ret3,tc1,o3,wa0,xa0,v3,ua0,map_cons,map_nil,yz2,length_cons,length_nil,Nat.zero_add,Nat.reduceSub,List.replicate,cons_append,nil_append,getI,nil3,c3,leR,zh0,decide_eq_true_eq];refine ⟨w,rfl,h,λ μ1 e1=>?_⟩;simp only [];split
 ·next h1 =>
  refine ⟨w,rfl,h,λ μ2 e2=>?_⟩;have z:=q μ2 (e1.trans e2)
  simp_all
 simp_all
inductive Kd where
 | join | part (m:Int) | out | inn (d:Dd) | opn | close (m:Int) | once | twice
noncomputable def kn:Kd->Str
 | .join => "join"
 | .part _ => "part"
 | .out => "out"
 | .inn _ => "in"
 | .opn => "open"
 | .close _ => "close"
 | .once => "once"
 | .twice => "twice"
noncomputable def ned:Kd->List D
 | .part m=>[.int m]
 | .inn d=>[enc d]
 | .close m=>[.int m]
 | _=>[]
noncomputable def vf0 (k:Kd) (way:List Int) (i:Int):D:=.tup (.str (kn k) :: .tup (way.map .int) :: .int i :: ned k)
noncomputable def idl:Dd->Bool
 | .go n=>decide (n=0)
 | .jump n=>decide (n=0)
 | .turn n=>decide (n % 4=0)
 | .times n w=>decide (n=0) || w.isEmpty
open Classical in
noncomputable def jn:Dd->Dd->Option Dd
 | .go a,.go b=>some (.go (a + b))
 | .jump a,.jump b=>some (.jump (a + b))
 | .turn a,.turn b=>some (.turn (a + b))
 | .times a v,.times b v'=>if v=v' then some (.times (a + b) v) else none
 | _,_=>none
noncomputable def prt (m:Int):Dd->Option (Dd × Dd)
 | .go a=>if 0<=m /\ m<=a then some (.go m,.go (a - m)) else none
 | .jump a=>some (.jump m,.jump (a - m))
 | .turn a=>some (.turn m,.turn (a - m))
 | .times a v=>if 0<=m /\ m<=a then some (.times m v,.times (a - m) v) else none
noncomputable def chg (rest:List Dd):Kd->Option (Nat × List Dd)
 | .inn d=>if idl d=true then some (0,[d]) else none
 | .close m=>if 0<=m /\ m<=rest.length then some (m.toNat,[.times 1 (rest.take m.toNat)]) else none
 | .out=>match rest with
  | d :: _=>if idl d=true then some (1,[]) else none
  | _=>none
 | .opn=>match rest with
  | .times n v :: _=>if n=1 then some (1,v) else none
  | _=>none
 | .twice=>match rest with
  | .go n :: _=>some (1,[.go n,.jump (-n),.go n])
  | _=>none
 | .part m=>match rest with
  | d :: _=>(prt m d).map λ p=>(1,[p.1,p.2])
  | _=>none
 | .once=>match rest with
  | .go n :: .jump m :: .go n' :: _=>if m = -n /\ n'=n then some (3,[.go n]) else none
  | _=>none
 | .join=>match rest with
  | d :: e :: _=>(jn d e).map λ x=>(2,[x])
  | _=>none
noncomputable def cha (w:List Dd) (k:Kd) (i:Int):Option (List Dd):=if 0<=i /\ i<=w.length then (chg (w.drop i.toNat) k).map λ p=>w.take i.toNat ++ p.2 ++ w.drop (i.toNat + p.1) else none
noncomputable def aft:List Int->List Dd->Kd->Int->Option (List Dd)
 | [],w,k,i=>cha w k i
 | a :: way,w,k,i=>if 0<=a then match w[a.toNat]? with
  | some (.times n v)=>(aft way v k i).map λ v'=>w.take a.toNat ++ [.times n v'] ++ w.drop (a.toNat + 1)
  | _=>none else none
variable {n:Nat} {k:Kd} {x:List Dd}
theorem we2 {rest:List Dd} (h:chg rest k=some (n,x)):n<=rest.length:=by
 cases k with
 | inn d=>simp only [chg] at h; simp_all;omega
 | close m=>simp only [chg] at h; simp_all;omega
 | out=>cases rest with
  | nil=>simp [chg] at h
  | cons d r=>simp only [chg] at h; simp_all
 | opn =>
  simp only [chg] at h;split at h
  ·simp_all
  ·cases h
 | twice =>
  simp only [chg] at h;split at h
  ·simp_all
  ·cases h
 | part m=>cases rest with
  | nil=>simp [chg] at h
  | cons d r=>simp only [chg,Option.map_eq_some_iff] at h; simp_all;omega
 | once =>
  simp only [chg] at h;split at h
  ·simp_all;omega
  ·cases h
 | join =>
  simp only [chg] at h;split at h
  ·simp_all;omega
  ·cases h
mutual
noncomputable def nn1:Dd->Prop
 | .go n=>0<=n
 | .times n w=>0<=n /\ nns w
 | _=>True
noncomputable def nns:List Dd->Prop
 | []=>True
 | d :: r=>nn1 d /\ nns r
end
mutual
noncomputable def bnd1:Dd->Prop
 | .go n=>-G<=n /\ n<=G
 | .jump n=>-G<=n /\ n<=G
 | .turn n=>-G<=n /\ n<=G
 | .times n w=>(-G<=n /\ n<=G) /\ bnds w
noncomputable def bnds:List Dd->Prop
 | []=>True
 | d :: r=>bnd1 d /\ bnds r
end
theorem zi0:∀ a b,nns (a ++ b) ↔ nns a /\ nns b
 | [],b=>by simp [nns]
 | d :: r,b=>by simp only [cons_append,nns,zi0 r b,and_assoc]
mutual
theorem zf5:∀ d,okd d ↔ nn1 d /\ bnd1 d
 | .go n => by have:(0:Int) < G:=by decide
               simp only [okd,nn1,bnd1]; omega
 | .jump n=>by simp only [okd,nn1,bnd1]; simp
 | .turn n=>by simp only [okd,nn1,bnd1]; simp
 | .times n w=>by
  have:(0:Int) < G:=by decide
  simp only [okd,nn1,bnd1,zo1 w];constructor
  ·simp_all;omega
  simp_all
theorem zo1:∀ w,oks w ↔ nns w /\ bnds w
 | []=>by simp [oks,nns,bnds]
 | d :: r=>by
  simp only [oks,nns,bnds,zf5 d,zo1 r];constructor
  ·simp_all
  simp_all
end
theorem ta1:∀ {w:List Dd} {d:Dd},nns w->d ∈ w->nn1 d
 | [],_,_,h=>by simp at h
 | e :: r,d,h,m=>by
  simp only [nns] at h;rcases List.mem_cons.mp m with rfl | m
  ·exact h.1
  ·exact ta1 h.2 m
theorem sz1:∀ {w:List Dd},(∀ d ∈ w,nn1 d)->nns w
 | [],_=>by simp [nns]
 | d :: r,h=>by simp only [nns]; exact ⟨h d (by simp),sz1 λ e he=>h e (by simp [he])⟩
variable {w:List Dd}
theorem ua1 (h:nns w) (n:Nat):nns (w.take n):=sz1 λ d hd=>ta1 h (mem_of_mem_take hd)
theorem sa1 (h:nns w) (n:Nat):nns (w.drop n):=sz1 λ d hd=>ta1 h (mem_of_mem_drop hd)
noncomputable def nnk:Kd->Prop
 | .inn d=>nn1 d
 | _=>True
theorem wk5 {rest:List Dd} (hr:nns rest) (hk:nnk k) (h:chg rest k=some (n,x)):nns x:=by
 cases k with
 | inn d=>simp only [chg] at h; split at h <;> simp at h; obtain ⟨_,rfl⟩:=h; trivial
 | close m=>simp only [chg] at h; split at h <;> simp at h; obtain ⟨_,rfl⟩:=h; simp only [nns,nn1]; exact ⟨⟨by decide,ua1 hr _⟩,trivial⟩
 | out=>cases rest with
  | nil=>simp [chg] at h
  | cons d r=>simp only [chg] at h; split at h <;> simp at h; obtain ⟨_,rfl⟩:=h; simp [nns]
 | opn =>
  simp only [chg] at h;split at h
  ·next m v _=>split at h <;> simp at h; obtain ⟨_,rfl⟩:=h; simp only [nns,nn1] at hr; exact hr.1.2
  ·cases h
 | twice =>
  simp only [chg] at h;split at h
  ·simp at h; obtain ⟨_,rfl⟩:=h; simp only [nns,nn1] at hr ⊢; simp_all
  ·cases h
 | part m=>cases rest with
  | nil=>simp [chg] at h
  | cons d r =>
   simp only [chg,Option.map_eq_some_iff] at h; obtain ⟨p,hp,e⟩:=h; simp at e; obtain ⟨_,rfl⟩:=e;simp only [nns] at hr ⊢;cases d <;> simp only [prt] at hp
   ·split at hp <;> simp at hp; subst hp; simp only [nn1]; simp_all
   ·simp at hp; subst hp; simp [nn1]
   ·simp at hp; subst hp; simp [nn1]
   ·split at hp <;> simp at hp; subst hp; simp only [nn1] at hr ⊢; simp_all
 | once =>
  simp only [chg] at h;split at h
  ·split at h <;> simp at h; obtain ⟨_,rfl⟩:=h; simp only [nns,nn1] at hr ⊢; simp_all
  ·cases h
 | join =>
  simp only [chg] at h;split at h
  ·next d e r =>
   simp only [Option.map_eq_some_iff] at h; obtain ⟨p,hp,e⟩:=h; simp at e; obtain ⟨_,rfl⟩:=e;simp only [nns] at hr ⊢;refine ⟨?_,trivial⟩;cases d <;> cases e <;> simp only [jn] at hp <;> first | (cases hp; done) | skip
   ·cases hp; simp only [nn1] at hr ⊢; omega
   ·cases hp; simp [nn1]
   ·cases hp; simp [nn1]
   ·split at hp <;> cases hp; simp only [nn1] at hr ⊢; simp_all;omega
  ·cases h
variable {v:List Dd}
theorem cha_nn (hw:nns w) (hk:nnk k) (h:cha w k i=some v):nns v:=by
 unfold cha at h;split at h
 ·obtain ⟨⟨n,x⟩,hc,rfl⟩:=Option.map_eq_some_iff.mp h;rw [zi0,zi0];exact ⟨⟨ua1 hw _,wk5 (sa1 hw _) hk hc⟩,sa1 hw _⟩
 ·cases h
theorem wg3:∀ {way:List Int} {w:List Dd} {k:Kd} {i:Int} {v:List Dd},nns w->nnk k->aft way w k i=some v->nns v
 | [],w,k,i,v,hw,hk,h=>cha_nn hw hk h
 | a :: way,w,k,i,v,hw,hk,h=>by
  simp only [aft] at h;split at h
  ·split at h
   ·next n u hu =>
    obtain ⟨v',hv,rfl⟩:=Option.map_eq_some_iff.mp h;have m:=ta1 hw (mem_of_getElem? hu);simp only [nn1] at m;rw [zi0,zi0];simp only [nns,nn1];exact ⟨⟨ua1 hw _,⟨m.1,wg3 m.2 hk hv⟩,trivial⟩,sa1 hw _⟩
   ·cases h
  ·cases h
noncomputable def num:Dd->Int
 | .go n=>n
 | .jump n=>n
 | .turn n=>n
 | .times n _=>n
noncomputable def bk (rest:List Dd):Kd->Kd
 | .join=>match rest with
  | d :: _=>.part (num d)
  | []=>.join
 | .part _=>.join
 | .out=>match rest with
  | d :: _=>.inn d
  | []=>.out
 | .inn _=>.out
 | .opn=>match rest with
  | .times _ v :: _=>.close v.length
  | _=>.opn
 | .close _=>.opn
 | .once=>.twice
 | .twice=>.once
noncomputable def sub:List Int->List Dd->List Dd
 | [],w=>w
 | a :: way,w=>match w[a.toNat]? with
  | some (.times _ v)=>sub way v
  | _=>w
theorem ts0 {α:Type} (l:List α) {n:Int} (h0:0<=n) (h1:n<=l.length):cut3 l none (some n)=l.take n.toNat:=by
 unfold cut3 sIx3;simp only [List.drop_zero,Nat.sub_zero];rw [if_neg [2],Nat.min_eq_left [2]]
theorem yj0 {α:Type} (l:List α) {n:Int} (h0:0<=n) (h1:n<=l.length):cut3 l (some n) none=l.drop n.toNat:=by
 unfold cut3 sIx3;simp only [];rw [if_neg [2],Nat.min_eq_left [2]];exact take_of_length_le (by simp)
theorem tv3 {α:Type} (l:List α) {n m:Int} (h0:0<=n) (h1:0<=m) (h2:n + m<=l.length):cut3 l (some n) (some (n + m))=(l.drop n.toNat).take m.toNat:=by
 unfold cut3 sIx3;simp only [];rw [if_neg [2],if_neg [2],Nat.min_eq_left [2],Nat.min_eq_left [2]];congr 1;omega
theorem tg0:∀ (w:List Dd) (n:Nat),(encs w).take n=encs (w.take n)
 | [],n=>by simp [encs]
 | d :: r,0=>by simp [encs]
 | d :: r,n + 1=>by simp only [encs,List.take_succ_cons,tg0 r n]
theorem wg0:∀ (w:List Dd) (n:Nat),(encs w).drop n=encs (w.drop n)
 | [],n=>by simp [encs]
 | d :: r,0=>by simp [encs]
 | d :: r,n + 1=>by simp only [encs,List.drop_succ_cons,wg0 r n]
theorem vb0:∀ a b,encs (a ++ b)=encs a ++ encs b
 | [],b=>by simp [encs]
 | d :: r,b=>by simp only [cons_append,encs,vb0 r b]
mutual
theorem pe_eq:∀ a b:Dd,PyData.eqv (pe a) (pe b)=true->a=b
 | .go n,.go m,h=>by simp [pe,PyData.eqv,PyData.eqvAll] at h; rw [h]
 | .jump n,.jump m,h=>by simp [pe,PyData.eqv,PyData.eqvAll] at h; rw [h]
 | .turn n,.turn m,h=>by simp [pe,PyData.eqv,PyData.eqvAll] at h; rw [h]
 | .times n v,.times m u,h=>by
  simp [pe,PyData.eqv,PyData.eqvAll] at h;rw [h.1,wf1 v u h.2]
 | .go n,.jump m,h=>by trivial
 | .go n,.turn m,h=>by trivial
 | .go n,.times m _,h=>by trivial
 | .jump n,.go m,h=>by trivial
 | .jump n,.turn m,h=>by trivial
 | .jump n,.times m _,h=>by trivial
 | .turn n,.go m,h=>by trivial
 | .turn n,.jump m,h=>by trivial
 | .turn n,.times m _,h=>by trivial
 | .times n _,.go m,h=>by trivial
 | .times n _,.jump m,h=>by trivial
 | .times n _,.turn m,h=>by trivial
theorem wf1:∀ a b:List Dd,PyData.eqvAll (pes a) (pes b)=true->a=b
 | [],[],_=>rfl
 | [],d :: r,h=>by trivial
 | d :: r,[],h=>by trivial
 | d :: r,e :: s,h=>by
  simp [pes,PyData.eqvAll] at h;rw [pe_eq d e h.1,wf1 r s h.2]
end
variable {K:VK3}
theorem eq_W {u:List Dd} (hv:deps v<=20) (hu:deps u<=20) (k:∀ b,(b=true ↔ v=u)->K (.bl b) μ):eqR (.tup (encs v)) (.tup (encs u)) μ K:=by
 have d:∀ v,datM μ (.tup (encs v))=some (.tuple (pes v)):=λ v=>by simp only [datM,dat,yh0]
 have dp:∀ v,deps v<=20->(PyData.tuple (pes v)).depth<=64:=λ v h=>by have:=xh0 v; simp only [PyData.depth]; omega
 rw [xc1 rfl (d v) (d u) (dp v hv) (dp u hu)];refine k _ ⟨λ h=>wf1 v u (by assumption),λ h=>?_⟩;subst h;simp [PyData.eqv,xv0]
theorem ne_W {u:List Dd} (hv:deps v<=20) (hu:deps u<=20) (k:∀ b,(b=true ↔ v=u)->K (.bl (!b)) μ):neR (.tup (encs v)) (.tup (encs u)) μ K:=by
 have d:∀ v,datM μ (.tup (encs v))=some (.tuple (pes v)):=λ v=>by simp only [datM,dat,yh0]
 have dp:∀ v,deps v<=20->(PyData.tuple (pes v)).depth<=64:=λ v h=>by have:=xh0 v; simp only [PyData.depth]; omega
 rw [up0 rfl (d v) (d u) (dp v hv) (dp u hu)];refine k _ ⟨λ h=>wf1 v u (by assumption),λ h=>?_⟩;subst h;simp [PyData.eqv,xv0]
theorem sf0 {l:List D} (e:atI l i=some d) (k:K d μ):ixR (.tup l) (.int i) μ K:=by
 unfold ixR
 simp_all
noncomputable def vk3:Sp3:=λ ds μ Q=>∃ (w:List Dd) (p n:Int),ds=[.tup (encs w),.int p,.int n] /\ 0<=p /\ 0<=n /\ p + n<=w.length /\ Q (.tup (encs ((w.drop p.toNat).take n.toNat))) μ
theorem sw4:RdQ vk3 yf4 xa4:=by
 rintro ds μ Q ⟨w,p,n,rfl,h0,h1,h2,q⟩;show if (decide (p < 0))=true then _ else _;rw [if_neg (λ h=>by simp_all;omega)];show if (decide (n < 0))=true then _ else _;rw [if_neg (λ h=>by simp_all;omega)];show if (decide (((encs w).length:Int) < p + n))=true then _ else _;rw [if_neg (λ h=>by have:=of_decide_eq_true h; rw [va0] at this; omega)];show Q (.tup (cut3 (encs w) (some p) (some (p + n)))) μ;rw [tv3 _ h0 h1 (by rw [va0]; exact h2),wg0,tg0];exact q
noncomputable def si2:Sp3:=λ ds μ Q=>∃ (w x:List Dd) (p n:Int),ds=[.tup (encs w),.int p,.int n,.tup (encs x)] /\ 0<=p /\ 0<=n /\ p + n<=w.length /\ w.length + x.length<=1000 /\ Q (.tup (encs (w.take p.toNat ++ x ++ w.drop (p.toNat + n.toNat)))) μ
theorem vw4:RdQ si2 te4 uz3:=by
 rintro ds μ Q ⟨w,x,p,n,rfl,h0,h1,h2,hl,q⟩;have hz:(1000:Nat) < sizeLine:=by decide
 have e1:cut3 (encs w) none (some p)=encs (w.take p.toNat):=by rw [ts0 _ h0 (by rw [va0]; omega),tg0]
 have e2:cut3 (encs w) (some (p + n)) none=encs (w.drop (p.toNat + n.toNat)):=by
  rw [yj0 _ [2] (by rw [va0]; omega),wg0,show (p + n).toNat=p.toNat + n.toNat by omega]
 have l1:(w.take p.toNat).length<=w.length:=by simp_all;omega
 have l2:(w.take p.toNat).length + (w.drop (p.toNat + n.toNat)).length<=w.length:=by simp_all;omega
 refine ⟨?_,?_,?_⟩
 ·show (cut3 (encs w) none (some p)).length + (encs x).length<=_;rw [e1,va0,va0]; omega
 ·show (cut3 (encs w) none (some p) ++ encs x).length + (cut3 (encs w) (some (p + n)) none).length<=_;rw [e1,e2,length_append,va0,va0,va0]; omega
 ·show Q (.tup (cut3 (encs w) none (some p) ++ encs x ++ cut3 (encs w) (some (p + n)) none)) μ;rw [e1,e2,<- vb0,<- vb0];exact q
noncomputable def wk3:Sp3:=λ ds μ Q=>∃ d,ds=[enc d] /\ dep d<=20 /\ Q (.bl (idl d)) μ
theorem isE (w:List Dd) {b:Bool} (h:b=true ↔ w=[]):b=w.isEmpty:=by
 cases w with
 | nil=>simp_all
 | cons d r=>simp_all
theorem ww4:RdQ wk3 ue4 vz3:=by
 rintro ds μ Q ⟨d,rfl,hd,q⟩;have z2:2<=sizeLine:=by decide
 cases d with
 | go n=>exact ⟨z2,q⟩
 | jump n=>exact ⟨z2,q⟩
 | turn n=>exact ⟨show (0:Int) < 4 by decide,q⟩
 | times n w =>
  simp only [dep] at hd;simp only [idl] at q;by_cases c:n=0
  ·show if (decide (n=0))=true then _ else _
   simp_all
  ·show if (decide (n=0))=true then _ else _;rw [if_neg (λ h=>c (of_decide_eq_true h))];rw [decide_eq_false c,Bool.false_or] at q;refine ⟨Nat.zero_le _,?_⟩;show eqR (.tup (encs w)) (.tup (encs [])) μ Q;refine eq_W [2] (by simp [deps]) λ b hb=>?_;rw [isE w hb];exact q
noncomputable def vh4:Sp3:=λ ds μ Q=>∃ d x,ds=[.tup [enc d],x] /\ dep d<=20 /\ idl d=true /\ Q (.tup []) μ
theorem sv4:RdQ vh4 (ze4 wk3) yz3:=by
 rintro ds μ Q ⟨d,x,rfl,hd,hi,q⟩;refine ⟨d,rfl,hd,?_⟩;rw [hi];trivial
noncomputable def zh4:Sp3:=λ ds μ Q=>∃ d,ds=[.tup [],enc d] /\ dep d<=20 /\ idl d=true /\ Q (.tup [enc d]) μ
theorem wu4:RdQ zh4 (sc4 wk3) tx3:=by
 rintro ds μ Q ⟨d,rfl,hd,hi,q⟩;refine ⟨d,rfl,hd,?_⟩;rw [hi];exact ⟨show 1<=sizeLine by decide,q⟩
noncomputable def th4:Sp3:=λ ds μ Q=>∃ v x,ds=[.tup [enc (.times 1 v)],x] /\ Q (.tup (encs v)) μ
theorem uv4:RdQ th4 xe4 sy3:=by
 rintro ds μ Q ⟨v,x,rfl,q⟩;exact q
noncomputable def wi4:Sp3:=λ ds μ Q=>∃ v x,ds=[.tup (encs v),x] /\ Q (.tup [enc (.times 1 v)]) μ
theorem tx4:RdQ wi4 vf4 wa4:=by
 rintro ds μ Q ⟨v,x,rfl,q⟩;exact ⟨show 3<=sizeLine by decide,show 1<=sizeLine by decide,q⟩
noncomputable def sj3:Sp3:=λ ds μ Q=>∃ n x,ds=[.tup [enc (.go n)],x] /\ Q (.tup (encs [.go n,.jump (-n),.go n])) μ
theorem uw4:RdQ sj3 se4 tz3:=by
 rintro ds μ Q ⟨n,x,rfl,q⟩;exact ⟨show 2<=sizeLine by decide,show 3<=sizeLine by decide,q⟩
noncomputable def sh4:Sp3:=λ ds μ Q=>∃ n x,ds=[.tup (encs [.go n,.jump (-n),.go n]),x] /\ Q (.tup [enc (.go n)]) μ
theorem tw4:RdQ sh4 (xf4 sj3) sz3:=by
 rintro ds μ Q ⟨n,x,rfl,q⟩;refine ⟨n,x,rfl,?_⟩;refine ne_W (v:=[.go n,.jump (-n),.go n]) (u:=[.go n,.jump (-n),.go n]) (by simp [deps,dep]) (by simp [deps,dep]) λ b hb=>?_;rw [hb.mpr rfl];exact q
noncomputable def wh4:Sp3:=λ ds μ Q=>∃ d m p,ds=[.tup [enc d],.int m] /\ prt m d=some p /\ Q (.tup [enc p.1,enc p.2]) μ
theorem wv4:RdQ wh4 sd4 ty3:=by
 rintro ds μ Q ⟨d,m,p,rfl,hp,q⟩;have z2:2<=sizeLine:=by decide
 cases d with
 | go a =>
  simp only [prt] at hp;split at hp <;> simp at hp;subst hp;show if (decide (m < 0))=true then _ else _;rw [if_neg (λ h=>by simp_all;omega)];show if (decide (a - m < 0))=true then _ else _;rw [if_neg (λ h=>by simp_all;omega)];trivial
 | jump a =>
  simp only [prt] at hp;simp at hp;subst hp;trivial
 | turn a =>
  simp only [prt] at hp;simp at hp;subst hp;trivial
 | times a v =>
  have z3:3<=sizeLine:=by decide
  simp only [prt] at hp;split at hp <;> simp at hp;subst hp;show if (decide (m < 0))=true then _ else _;rw [if_neg (λ h=>by simp_all;omega)];show if (decide (a - m < 0))=true then _ else _;rw [if_neg (λ h=>by simp_all;omega)];trivial
noncomputable def yi4:Sp3:=λ ds μ Q=>∃ d e j x,ds=[.tup [enc d,enc e],x] /\ dep d<=20 /\ jn d e=some j /\ Q (.tup [enc j]) μ
variable {ρ:St3}
theorem zb0 {c:TT3} {t r:TS3} {D':Ends3} (hc:∀ K:Bool->Mu->Prop,K false μ->c ρ μ K) (k:r D' ρ μ):seq3 (ifs3 c t sa0) r D' ρ μ:=hc _ k
variable {t:TE3}
theorem xe5 {u:TE3} {K:Bool->Mu->Prop} (h1:∀ K:VK3,K (.bl false) μ->t ρ μ K) (h2:∀ K:VK3,K (.bl false) μ->u ρ μ K) (k:K false μ):or3 (b3 t) (b3 u) ρ μ K:=h1 _ (h2 _ k)
theorem xa2 (hv:deps v<=20) {l:List D} (hl:l=[] \/ l=[.tup (encs v)]) (k:K (.bl false) μ):neR (.tup l) (.tup l) μ K:=by
 rcases hl with rfl | rfl
 ·trivial
 ·have d:datM μ (.tup [.tup (encs v)])=some (.tuple [.tuple (pes v)]):=by simp only [datM,dat,dats,yh0]
  have dp:(PyData.tuple [.tuple (pes v)]).depth<=64:=by have:=xh0 v; simp only [PyData.depth,PyData.depthAll]; omega
  rw [up0 rfl d d dp dp,show PyData.eqv (.tuple [.tuple (pes v)]) (.tuple [.tuple (pes v)])=true by simp [PyData.eqv,PyData.eqvAll,xv0]];exact k
theorem yw4:RdQ yi4 ve4 wz3:=by
 rintro ds μ Q ⟨d,e,j,x,rfl,hd,hj,q⟩;have z2:2<=sizeLine:=by decide
 have z1:1<=sizeLine:=by decide
 have z3:3<=sizeLine:=by decide
 cases d <;> cases e <;> simp only [jn] at hj <;> first | (cases hj; done) | skip
 ·rename_i a b;cases hj;trivial
 ·rename_i a b;cases hj;trivial
 ·rename_i a b;cases hj;trivial
 ·rename_i a v b v';split at hj <;> cases hj
  next c =>
  subst c;simp only [dep] at hd;show tj0 { nx:=λ _ μ'=>Q .non μ',rt:=Q } [some (.tup [enc (.times a v),enc (.times b v)]),some x,some (enc (.times a v)),some (enc (.times b v))] μ;refine zb0 (λ K k=>xe5 (λ K k=>k) (λ K k=>xa2 (v:=v) [2] (.inr rfl) k) k) ?_;trivial
theorem mn_kn (k:Kd):yg0 (kn k)=some true:=by cases k <;> rfl
theorem mn_in {K:Bool->Mu->Prop} (h:∀ K:VK3,K (.str (kn k)) μ->t ρ μ K) (q:K false μ):b3 (mdn3 true yg0 t) ρ μ K:=by
 unfold b3 mdn3;refine h _ ?_;dsimp only;rw [mn_kn];exact q
noncomputable def vi4:Sp3:=λ ds μ Q=>∃ (w:List Dd) (k:Kd) (way:List Int) (i:Int) (v:List Dd),ds=[.tup (encs w),vf0 k way i] /\ cha w k i=some v /\ deps w<=10 /\ cnts w<=100 /\ (∀ d,k=.inn d->dep d<=10) /\ Q (.tup (encs v)) μ
theorem vb1 {i:Nat} {d:Dd} {r:List Dd} (h:w.drop i=d :: r):i + 1 + r.length=w.length /\ d ∈ w:=by
 have:=congrArg List.length h;rw [length_drop,length_cons] at this;refine ⟨by omega,mem_of_mem_drop (i:=i) (by rw [h]; simp)⟩
theorem vk0:∀ {w:List Dd} {d:Dd},d ∈ w->dep d<=deps w
 | e :: r,d,h=>by
  simp only [deps];rcases List.mem_cons.mp h with rfl | h
  ·omega
  ·have:=vk0 h; omega
theorem vq0:∀ {w:List Dd} {d:Dd},d ∈ w->cnt d<=cnts w
 | e :: r,d,h=>by
  simp only [cnts];rcases List.mem_cons.mp h with rfl | h
  ·omega
  ·have:=vq0 h; omega
theorem vy4:RdQ vi4 (sf4 wi4 vk3 sh4 sj3 si2 yi4 vh4 th4 wh4 zh4) ta4:=by
 rintro ds μ Q ⟨w,k,way,i,v,rfl,hc,hd,hl',hk,q⟩;have hl:w.length<=100:=Nat.le_trans (wc0 w) hl';unfold cha at hc;split at hc
 case isFalse=>cases hc
 next c =>
 obtain ⟨⟨n,x⟩,hx,rfl⟩:=Option.map_eq_some_iff.mp hc;dsimp only at q;have hn:=we2 hx;rw [length_drop] at hn
 have last:∀ {m:Int},m=n->x.length<=500->si2 [.tup (encs w),.int i,.int m,.tup (encs x)] μ Q:=λ {m} hm lx=>by
  subst hm;exact ⟨w,x,i,n,rfl,c.1,by omega,by omega,by omega,by assumption⟩
 refine zb0 (ρ:=[some (.tup (encs w)),some (vf0 k way i),none,none,none]) (λ K k'=>mn_in (k:=k) (λ K kk=>(show ixR (vf0 k way i) (.int 0) μ K from sf0 atI0 kk)) k') ?_;generalize hr:w.drop i.toNat=rest at hx;cases k with
 | inn d =>
  simp only [chg] at hx;split at hx <;> simp at hx
  next ci =>
  obtain ⟨rfl,rfl⟩:=hx;refine ⟨w,i,0,rfl,c.1,by decide,by omega,?_⟩;exact ⟨d,rfl,by have:=hk d rfl; omega,ci,last rfl (by simp)⟩
 | close m =>
  simp only [chg] at hx;split at hx <;> simp at hx
  next cm =>
  obtain ⟨rfl,rfl⟩:=hx;refine ⟨w,i,m,rfl,c.1,cm.1,by omega,?_⟩;rw [hr];exact ⟨rest.take m.toNat,_,rfl,last [2] (by simp)⟩
 | out=>cases rest with
  | nil=>simp [chg] at hx
  | cons d r =>
   obtain ⟨h1,h2⟩:=vb1 hr;have:=vk0 h2;simp only [chg] at hx;split at hx <;> simp at hx
   next ci =>
   obtain ⟨rfl,rfl⟩:=hx;refine ⟨w,i,1,rfl,c.1,by decide,by omega,?_⟩;rw [hr];exact ⟨d,_,rfl,by omega,ci,last rfl (by simp)⟩
 | opn =>
  simp only [chg] at hx;split at hx
  ·next m u r =>
   obtain ⟨h1,h2⟩:=vb1 hr;split at hx <;> simp at hx
   next cm =>
   subst cm;obtain ⟨rfl,rfl⟩:=hx;refine ⟨w,i,1,rfl,c.1,by decide,by omega,?_⟩;rw [hr];have c1:=vq0 h2;have c2:=wc0 u;simp only [cnt] at c1;exact ⟨_,_,rfl,last rfl [2]⟩
  ·cases hx
 | twice =>
  simp only [chg] at hx;split at hx
  ·next m r =>
   simp at hx;obtain ⟨rfl,rfl⟩:=hx;refine ⟨w,i,1,rfl,c.1,by decide,by omega,?_⟩;rw [hr];exact ⟨m,_,rfl,last rfl (by simp)⟩
  ·cases hx
 | part m=>cases rest with
  | nil=>simp [chg] at hx
  | cons d r =>
   simp only [chg,Option.map_eq_some_iff] at hx;obtain ⟨p,hp,e⟩:=hx;simp at e;obtain ⟨rfl,rfl⟩:=e;refine ⟨w,i,1,rfl,c.1,by decide,by omega,?_⟩;rw [hr];exact ⟨d,m,p,rfl,hp,last rfl (by simp)⟩
 | once =>
  simp only [chg] at hx;split at hx
  ·next m m' m'' r =>
   split at hx <;> simp at hx
   next cm =>
   obtain ⟨rfl,rfl⟩:=cm;obtain ⟨rfl,rfl⟩:=hx;refine ⟨w,i,3,rfl,c.1,by decide,by omega,?_⟩;rw [hr];exact ⟨m'',_,rfl,last rfl (by simp)⟩
  ·cases hx
 | join =>
  simp only [chg] at hx;split at hx
  ·next d e r =>
   obtain ⟨h1,h2⟩:=vb1 hr;have:=vk0 h2;simp only [Option.map_eq_some_iff] at hx;obtain ⟨j,hj,e'⟩:=hx;simp at e';obtain ⟨rfl,rfl⟩:=e';refine ⟨w,i,2,rfl,c.1,by decide,by omega,?_⟩;rw [hr];exact ⟨d,e,j,_,rfl,by omega,hj,last rfl (by simp)⟩
  ·cases hx
noncomputable def spCw (j:Nat):Sp3:=λ ds μ Q=>∃ (w:List Dd) (way:List Int) (k:Kd) (way0:List Int) (i:Int) (v:List Dd),ds=[.tup (encs w),.tup (way.map .int),vf0 k way0 i] /\ way.length < j /\ aft way w k i=some v /\ deps w<=10 /\ cnts w<=100 /\ (∀ d,k=.inn d->dep d<=10) /\ Q (.tup (encs v)) μ
theorem at_enc {d:Dd} (h:w[n]?=some d):(encs w)[n]?=some (enc d):=by
 induction w generalizing n with
 | nil=>simp at h
 | cons e r ih =>
  cases n with
  | zero=>simp at h; subst h; simp [encs]
  | succ n=>simp only [encs,getElem?_cons_succ] at h ⊢; exact ih h
theorem yf5 {d:Dd} (h:w[n]?=some d):(w.drop n).take 1=[d] /\ n < w.length:=by
 have la:n < w.length:=by
  rcases Nat.lt_or_ge n w.length with z | z
  ·exact z
  simp_all
 refine ⟨?_,la⟩;rw [getElem?_eq_getElem la] at h;rw [List.drop_eq_getElem_cons la,List.take_succ_cons,Option.some.inj h];simp
theorem wy4 (j:Nat):RdQ (spCw (j + 1)) (tf4 vi4 (spCw j) vk3 si2) ua4:=by
 rintro ds μ Q ⟨w,way,k,way0,i,v,rfl,hj,ha,hd,hl,hk,q⟩;cases way with
 | nil=>exact ⟨w,k,way0,i,v,rfl,ha,hd,hl,hk,q⟩
 | cons a way =>
  simp only [aft] at ha;split at ha
  case isFalse=>cases ha
  next c =>
  split at ha
  case h_2=>cases ha
  next n u hu =>
  obtain ⟨v',hv,rfl⟩:=Option.map_eq_some_iff.mp ha;obtain ⟨e1,la⟩:=yf5 hu;have mu:=mem_of_getElem? hu;have c1:=vq0 mu;have d1:=vk0 mu;have lw:=wc0 w;simp only [cnt,dep] at c1 d1;rw [length_cons] at hj;have e0:decide ((((a :: way).map D.int).length:Int)=0)=false:=decide_eq_false (by simp_all;omega);refine zb0 (ρ:=[some (.tup (encs w)),some (.tup ((a :: way).map D.int)),some (vf0 k way0 i),none,none]) (λ K k'=>(show K (decide ((((a :: way).map D.int).length:Int)=0)) μ by rw [e0]; exact k')) ?_;show ixR (.tup ((a :: way).map D.int)) (.int 0) μ _;refine sf0 atI0 ?_;refine ⟨w,a,1,rfl,c,by decide,by omega,?_⟩;rw [show (1:Int).toNat=1 from rfl,e1];have e2:cut3 ((a :: way).map D.int) (some 1) none=way.map D.int:=by rw [yj0 _ (by decide) (by simp_all;omega)]; rfl
  refine ⟨u,way,k,way0,i,v',(show [D.tup (encs u),D.tup (cut3 ((a :: way).map D.int) (some 1) none),vf0 k way0 i]=_ by rw [e2]),by omega,hv,by omega,by omega,hk,?_⟩
  conv=>whnf
  rw [show atI ((a :: way).map D.int) 0=some (.int a) from atI0];refine ⟨show 3<=sizeLine by decide,show 1<=sizeLine by decide,w,[.times n v'],a,1,rfl,c,by decide,by omega,by simp_all;omega,q⟩
noncomputable def spWb:Sp3:=λ ds μ Q=>∃ (w:List Dd) (k:Kd) (way:List Int) (i:Int) (v:List Dd),ds=[.tup (encs w),vf0 k way i] /\ way.length < 6 /\ aft way w k i=some v /\ deps w<=10 /\ cnts w<=100 /\ (∀ d,k=.inn d->dep d<=10) /\ Wd v /\ Q (.tup (encs v)) μ
theorem wt4:RdQ spWb (wc4 (spCw 6) xj1) zx3:=by
 rintro ds μ Q ⟨w,k,way,i,v,rfl,hw,ha,hd,hl,hk,wd,q⟩;cases k <;> exact ⟨w,way,_,way,i,v,rfl,hw,ha,hd,hl,hk,v,rfl,wd,q⟩
mutual
noncomputable def unr:Dd->List Dd
 | .times n w=>(List.replicate n.toNat (unrs w)).flatten
 | .go n=>[.go n]
 | .jump n=>[.jump n]
 | .turn n=>[.turn n]
noncomputable def unrs:List Dd->List Dd
 | []=>[]
 | d :: r=>unr d ++ unrs r
end
noncomputable def plns (w:List Dd):Prop:=∀ d ∈ w,∃ n,d=.go n \/ d=.jump n \/ d=.turn n
theorem vx1 {α:Type} {x:α} {w:List α}:∀ {k:Nat},x ∈ (List.replicate k w).flatten->x ∈ w
 | 0,h=>by simp at h
 | k + 1,h=>by
  rw [replicate_succ,flatten_cons,mem_append] at h;rcases h with h | h
  ·exact h
  ·exact vx1 h
mutual
theorem sg3:∀ d,plns (unr d)
 | .go n=>by intro e h; simp only [unr,mem_singleton] at h; exact ⟨n,.inl h⟩
 | .jump n=>by intro e h; simp only [unr,mem_singleton] at h; exact ⟨n,.inr (.inl h)⟩
 | .turn n=>by intro e h; simp only [unr,mem_singleton] at h; exact ⟨n,.inr (.inr h)⟩
 | .times n w=>by intro e h; simp only [unr] at h; exact ur0 w e (vx1 h)
theorem ur0:∀ w,plns (unrs w)
 | []=>by intro e h; simp [unrs] at h
 | d :: r=>by
  intro e h;simp only [unrs,mem_append] at h;rcases h with h | h
  ·exact sg3 d e h
  ·exact ur0 r e h
end
theorem wa1 (w:List Dd) (h:oks w):∀ k:Nat,oks (List.replicate k w).flatten /\ pb (List.replicate k w).flatten=pw (pb w) k
 | 0=>by simp [oks,pb,pw]
 | k + 1=>by
  obtain ⟨a1,a2⟩:=wa1 w h k;rw [replicate_succ,flatten_cons];refine ⟨(xd0 _ _).mpr ⟨h,a1⟩,?_⟩;rw [vg0 _ _ h,a2];have:=tx0 (p:=pb w) (ym0 w) 1 k;rw [yc3 (ym0 w),Nat.add_comm] at this;exact this.symm
mutual
theorem yb3:∀ d,okd d->oks (unr d) /\ pb (unr d)=pd d
 | .go n,h=>by simp only [unr,oks,pb,and_true]; exact ⟨h,sj0 (sw0 _ h)⟩
 | .jump n,h=>by simp only [unr,oks,pb,and_true]; exact ⟨h,sj0 (sw0 _ h)⟩
 | .turn n,h=>by simp only [unr,oks,pb,and_true]; exact ⟨h,sj0 (sw0 _ h)⟩
 | .times n w,h=>by
  simp only [okd] at h;obtain ⟨a,b⟩:=zt0 w h.2;obtain ⟨a1,a2⟩:=wa1 _ a n.toNat;simp only [unr,pd];exact ⟨a1,by rw [a2,b,vn0 (ym0 w) h.1.1]⟩
theorem zt0:∀ w,oks w->oks (unrs w) /\ pb (unrs w)=pb w
 | [],h=>by simp only [unrs,oks,pb,and_self]
 | d :: r,h=>by
  simp only [oks] at h;obtain ⟨a1,a2⟩:=yb3 d h.1;obtain ⟨b1,b2⟩:=zt0 r h.2;simp only [unrs,pb];exact ⟨(xd0 _ _).mpr ⟨a1,b1⟩,by rw [vg0 _ _ a1,a2,b2]⟩
end
theorem xp1 {α:Type} (w:List α):∀ k:Nat,(List.replicate k w).flatten.length=k * w.length
 | 0=>by simp
 | k + 1=>by rw [replicate_succ,flatten_cons,length_append,xp1 w k,Nat.add_mul]; omega
theorem yv0 (w:List Dd):∀ k:Nat,encs (List.replicate k w).flatten=(List.replicate k (encs w)).flatten
 | 0=>by simp [encs]
 | k + 1=>by rw [replicate_succ,flatten_cons,vb0,yv0 w k,replicate_succ,flatten_cons]
theorem z2:2<=sizeLine:=by decide
theorem z3:3<=sizeLine:=by decide
noncomputable def encQ (p:Int × Int):D:=.tup [.int p.1,.int p.2]
noncomputable def mnP (p q:Int × Int):Int × Int:=if ltP q.1 q.2 p.1 p.2=true then q else p
noncomputable def btw (p q:Int × Int):T3:=((mnP p q).1,(mnP p q).2,if p.2=q.2 then 0 else 1)
noncomputable def ui4:Sp3:=λ ds μ Q=>∃ p q,ds=[encQ p,encQ q] /\ Q (encT (btw p q)) μ
theorem mn_eq (p q:Int × Int) (μ:Mu) (K:VK3):mnR [.tup [.int p.1,.int p.2],.tup [.int q.1,.int q.2]] μ K=K (encQ (mnP p q)) μ:=by
 rw [xg5];unfold mnP;split <;> rfl
theorem zu4:RdQ ui4 th3 sy2:=by
 rintro ds μ Q ⟨p,q,rfl,k⟩;unfold btw at k;simp only [th3,seq3,set3,wa0,xa0,v3,ua0,encQ,map_cons,map_nil,sy2,length_cons,length_nil,Nat.zero_add,Nat.reduceAdd,Nat.reduceSub,List.replicate,cons_append,nil_append,getI,nil3,ret3,tup3,o3,set_cons_succ,set_cons_zero,c3,ixR,if3,b3,atI1,wq1,decide_eq_true_eq,mn_eq,atI0];by_cases c:p.2=q.2
 ·rw [if_pos c] at k ⊢; exact ⟨z3,k⟩
 ·rw [if_neg c] at k ⊢; exact ⟨z3,k⟩
variable {p:Addr}
theorem yc4 {l:List D} (h:μ p=some (.lst l)) (k:Q (.tup l) μ):tupR [.ref p] μ Q:=by
 unfold tupR;simp only [h];exact k
theorem xg1 {l:List D} (h:μ p=some (.lst l)) (e:atI l i=some d) (k:K d μ):ixR (.ref p) (.int i) μ K:=by
 unfold ixR;simp only [h,e];exact k
noncomputable abbrev Pt:=Int × Int
noncomputable def gp (t:List Pt) (i:Nat):Pt:=t.getD i (0,0)
theorem at_q {t:List Pt} (h0:0<=i) (h1:i < t.length):atI (t.map encQ) i=some (encQ (gp t i.toNat)):=by
 have h2:i.toNat < t.length:=by omega
 unfold atI ixN gp;rw [if_pos h0,if_pos (by rw [length_map]; omega)];simp [getElem?_eq_getElem h2]
theorem tj1 {lo:Int} {x:D} (h:x ∈ rngD lo n):∃ i:Nat,i < n /\ x=.int (lo + i):=by
 unfold rngD at h;obtain ⟨i,hi,rfl⟩:=List.mem_map.mp h;exact ⟨i,List.mem_range.mp hi,rfl⟩
noncomputable def gI (g:Pt->Pt->D) (t:List Pt) (d:D):D:=match d with
 | .int i=>g (gp t (i - 1).toNat) (gp t i.toNat)
 | _=>.non
theorem si5 (g:Pt->Pt->D) (t:List Pt) (n:Nat):(rngD 1 n).map (gI g t)=(List.range n).map λ i=>g (gp t i) (gp t (i + 1)):=by
 unfold rngD;rw [map_map];apply map_congr_left;intro i _;show g (gp t (1 + (i:Int) - 1).toNat) (gp t (1 + (i:Int)).toNat)=_;rw [show (1 + (i:Int) - 1).toNat=i by omega,show (1 + (i:Int)).toNat=i + 1 by omega]
theorem uw2 {sp:Sp3} {q:Addr} {t:List Pt} {o:Option D} (g:Pt->Pt->D) (hq:μ q=some (.lst (t.map encQ))) (hl:t.length < 1000) (hp:μ p=none)
    (hx:∀ a b μ' (R:VK3),R (g a b) μ'->sp [encQ a,encQ b] μ' R) (hQ:∀ μ',Ext μ μ'->μ' p=some (.lst ((List.range (t.length - 1)).map λ i=>g (gp t i) (gp t (i + 1))))->Q (.ref p) μ') :
    xx2 (λ _=>True) p (gn3 0) tt3 (wa0 sp (xa0 (o3 ixR (v3 1) (o3 subR (v3 0) [4])) (xa0 (o3 ixR (v3 1) (v3 0)) nil3))) Q (rngD 1 (((t.map encQ).length:Int) - 1).toNat) [o,some (.ref q)] (updM μ p (.lst [])):=by
 have z:(1000:Nat) < sizeLine:=by decide
 have en:(((t.map encQ).length:Int) - 1).toNat=t.length - 1:=by rw [length_map]; omega
 rw [en];refine yo0 (rest:=[some (.ref q)]) (gI g t) hp (by rw [wh0]; omega) (λ _ _=>trivial) ?_ ?_
 ·intro x hx0 μ2 R ex kk;obtain ⟨i,hi,rfl⟩:=tj1 hx0;show ixR (.ref q) (.int (1 + (i:Int) - 1)) μ2 (λ d μ1=>ixR (.ref q) (.int (1 + (i:Int))) μ1 (λ e μ3=>sp [d,e] μ3 R));refine xg1 (ex _ _ hq) (at_q (i:=1 + (i:Int) - 1) [2] [2]) ?_;refine xg1 (ex _ _ hq) (at_q (i:=1 + (i:Int)) [2] [2]) ?_;exact hx _ _ _ _ (kk μ2 (Ext.refl _))
 ·intro μ2 ex ep;rw [si5] at ep;exact hQ μ2 ex ep
noncomputable def wy2 (t:List Pt):List T3:=(List.range (t.length - 1)).map λ i=>btw (gp t i) (gp t (i + 1))
noncomputable def spAl:Sp3:=λ ds μ Q=>∃ (q:Addr) (t:List Pt),ds=[.ref q] /\ μ q=some (.lst (t.map encQ)) /\ t.length < 1000 /\ ∀ r μ',Ext μ μ'->μ r=none->μ' r=some (.lst ((wy2 t).map encT))->Q (.ref r) μ'
theorem yu4:RdQ spAl (uh3 ui4) ty2:=by
 rintro ds μ Q ⟨q,t,rfl,hq,hl,k⟩;simp only [uh3,ret3,wm0,ir23,xa0,c3,wa0,v3,ua0,map_cons,map_nil,ty2,length_cons,length_nil,Nat.zero_add,Nat.reduceSub,List.replicate,cons_append,nil_append,getI,nil3,lenR,hq,subR,Option.bind_none,Option.bind_some];refine ⟨⟨by decide,by decide,by rw [length_map]; omega,by rw [length_map]; omega⟩,λ p hp=>?_⟩;refine uw2 (λ a b=>encT (btw a b)) hq hl hp (λ a b μ' R r=>⟨a,b,rfl,r⟩) λ μ' ex ep=>?_;exact k p μ' ex hp (by rw [ep]; unfold wy2; rw [map_map]; rfl)
theorem yu2 {a b:T3} (h:le3 a b) (k:le3 b a):a=b:=by
 unfold le3 at h k;have g:∀ {a b:T3},lt3 a b=false->¬ (a.1 < b.1 \/ a.1=b.1 /\ (a.2.1 < b.2.1 \/ a.2.1=b.2.1 /\ a.2.2 < b.2.2)):=λ h z=>by rw [lt3_iff.mpr z] at h; cases h
 have h:=g h;have k:=g k;have l:∀ {a b:Int},¬ a < b->¬ b < a->a=b:=λ h k=>Int.le_antisymm (Int.not_lt.mp k) (Int.not_lt.mp h);have e1:=l (λ z=>h (.inl z)) λ z=>k (.inl z);have e2:=l (λ z=>h (.inr ⟨e1,.inl z⟩)) λ z=>k (.inr ⟨e1.symm,.inl z⟩);have e3:=l (λ z=>h (.inr ⟨e1,.inr ⟨e2,z⟩⟩)) λ z=>k (.inr ⟨e1.symm,.inr ⟨e2.symm,z⟩⟩);exact (Prod.ext e1 (Prod.ext e2 e3)).symm
variable {us:List T3}
theorem uniq {vs:List T3} (a1:us.Perm vs) (a2:us.Pairwise le3) (a3:vs.Pairwise le3):us=vs:=List.Perm.eq_of_pairwise (λ a b _ _ h k=>yu2 h k) a2 a3 a1
noncomputable def pt (p:Pen) (i:Nat):Pt:=(p.1 + cs p.2.2 * (i:Int),p.2.1 + sn p.2.2 * (i:Int))
noncomputable def ln (p:Pen) (n:Nat):List T3:=(List.range n).map λ i=>btw (pt p i) (pt p (i + 1))
theorem sr1 (p:Pen) (n:Nat):wy2 ((List.range (n + 1)).map (pt p))=ln p n:=by
 unfold wy2 ln;rw [length_map,length_range,Nat.add_sub_cancel];apply map_congr_left;intro i hi;have hi':=List.mem_range.mp hi;unfold gp;rw [getD_eq_getElem?_getD,getD_eq_getElem?_getD,getElem?_map,getElem?_map,List.getElem?_range [2],List.getElem?_range [2]];rfl
theorem sa2 (p:Pen) (n:Nat):(ln p n).length=n:=by simp [ln]
noncomputable def fP (p:Pen) (d:D):D:=match d with
 | .int i=>encQ (p.1 + cs p.2.2 * i,p.2.1 + sn p.2.2 * i)
 | _=>.non
theorem se3 (p:Pen) (n:Nat):(rngD 0 n).map (fP p)=((List.range n).map (pt p)).map encQ:=by
 unfold rngD;rw [map_map,map_map];apply map_congr_left;intro i _;show encQ (p.1 + cs p.2.2 * (0 + (i:Int)),p.2.1 + sn p.2.2 * (0 + (i:Int)))=encQ (pt p i);rw [Int.zero_add];rfl
noncomputable def spGo:Sp3:=λ ds μ Q=>∃ (x:D) (p:Pen) (n:Int),ds=[x,.int n] /\ isP x p /\ Hd p /\ 0<=n /\ n<=400 /\ ∀ r μ',Ext μ μ'->μ r=none->μ' r=some (.lst ((ln p n.toNat).map encT))->Q (.ref r) μ'
theorem ut4:RdQ spGo (uc4 spAl) vx3:=by
 rintro ds μ Q ⟨x,p,n,rfl,hx,hp,h0,h1,q⟩;have hz:(1000:Nat) < sizeLine:=by decide
 rcases hx with rfl | rfl
 ·show ixR yk0 (.int p.2.2) μ _;refine yk1 (sc1 hp) ?_;refine ⟨⟨by omega,by omega⟩,λ r hr=>?_⟩;refine yo0 (rest:=[some (encP p),some (.ktp [.int (cs p.2.2),.int (sn p.2.2)])]) (fP p) hr (by rw [wh0]; omega) (λ _ _=>trivial) ?_ ?_
  ·intro x hx μ2 R ex kk;obtain ⟨i,hi,rfl⟩:=tj1 hx;exact ⟨.inl (.inl (ss0 _)),.inl (.inl (sr0 _)),z2,kk μ2 (Ext.refl _)⟩
  ·intro μ2 ex ep;rw [se3,show (n + 1).toNat=n.toNat + 1 by omega] at ep;refine ⟨r,_,rfl,ep,by simp_all;omega,λ g μ3 ex3 hg eg=>?_⟩;rw [sr1] at eg;exact q g μ3 (ex.trans ex3) (ex.free hg) eg
 ·show ixR yk0 (.int p.2.2) μ _;refine yk1 (sc1 hp) ?_;refine ⟨⟨by omega,by omega⟩,λ r hr=>?_⟩;refine yo0 (rest:=[some (encK p),some (.ktp [.int (cs p.2.2),.int (sn p.2.2)])]) (fP p) hr (by rw [wh0]; omega) (λ _ _=>trivial) ?_ ?_
  ·intro x hx μ2 R ex kk;obtain ⟨i,hi,rfl⟩:=tj1 hx;exact ⟨.inl (.inl (ss0 _)),.inl (.inl (sr0 _)),z2,kk μ2 (Ext.refl _)⟩
  ·intro μ2 ex ep;rw [se3,show (n + 1).toNat=n.toNat + 1 by omega] at ep;refine ⟨r,_,rfl,ep,by simp_all;omega,λ g μ3 ex3 hg eg=>?_⟩;rw [sr1] at eg;exact q g μ3 (ex.trans ex3) (ex.free hg) eg
mutual
theorem zb3:∀ d,okd d->((unr d).length:Int)=dn d
 | .go n,_=>by simp [unr,dn]
 | .jump n,_=>by simp [unr,dn]
 | .turn n,_=>by simp [unr,dn]
 | .times n w,h=>by
  have h':(0<=n /\ n<=G) /\ oks w:=by simpa [okd] using h
  have i:=tr0 w h'.2;simp only [unr,dn,xp1];rw [Int.natCast_mul,i,Int.toNat_of_nonneg h'.1.1]
theorem tr0:∀ w,oks w->((unrs w).length:Int)=dns w
 | [],_=>by simp [unrs,dns]
 | d :: r,h=>by
  have h':okd d /\ oks r:=by simpa [oks] using h
  simp only [unrs,dns,length_append];rw [Int.natCast_add,zb3 d h'.1,tr0 r h'.2]
end
theorem tm1 (w:List Dd):∀ k:Nat,sks (List.replicate k w).flatten=(k:Int) * sks w
 | 0=>by simp [sks]
 | k + 1=>by
  rw [replicate_succ,flatten_cons,tk0,tm1 w k,Int.natCast_add,Int.add_mul];omega
mutual
theorem tb4:∀ d,okd d->sks (unr d)=sk d
 | .go n,_=>by simp [unr,sks,sk]
 | .jump n,_=>by simp [unr,sks,sk]
 | .turn n,_=>by simp [unr,sks,sk]
 | .times n w,h=>by
  have h':(0<=n /\ n<=G) /\ oks w:=by simpa [okd] using h
  simp only [unr,sk];rw [tm1,vr0 w h'.2,Int.toNat_of_nonneg h'.1.1]
theorem vr0:∀ w,oks w->sks (unrs w)=sks w
 | [],_=>by simp [unrs]
 | d :: r,h=>by
  have h':okd d /\ oks r:=by simpa [oks] using h
  simp only [unrs,sks];rw [tk0,tb4 d h'.1,vr0 r h'.2]
end
noncomputable def spPl (j:Nat):Sp3:=λ ds μ Q=>∃ (w:List Dd),ds=[.tup (encs w)] /\ deps w < j /\ deps w < 5 /\ cnts w<=60 /\ oks w /\ dns w<=400 /\ ∀ p μ',Ext μ μ'->μ p=none->μ' p=some (.lst (encs (unrs w)))->Q (.ref p) μ'
theorem app_l {l:List D} (h1:μ p=some (.lst l)) (hl:l.length < sizeLine) (k:Q .non (updM μ p (.lst (l ++ [d])))):appR (.ref p) [d] μ Q:=by
 unfold appR
 simp_all
theorem tj5 (w:List Dd) (h:oks w):0<=dns w:=(uq1 w h).1
noncomputable def PdI (w:List Dd) (f:Addr) (μ:Mu) (l:List D) (ρ:St3) (μ':Mu):Prop:=∃ (r acc:List Dd) (o:Option D),l=encs r /\ ρ=[some (.tup (encs w)),some (.ref f),o] /\ Ext μ μ' /\ μ' f=some (.lst (encs acc)) /\ acc ++ unrs r=unrs w /\ deps r<=deps w /\ cnts r<=cnts w /\ oks r
theorem vu4 (j:Nat):RdQ (spPl (j + 1)) (xd4 (xj2 5) (spPl j)) sx3:=by
 rintro ds μ Q ⟨w,rfl,h1,h2,h3,h4,h5,q⟩;have hz:(1000:Nat) < sizeLine:=by decide
 have lw:=tr0 w h4;refine ⟨Nat.zero_le _,λ f hf=>?_⟩;refine sd0 (PdI w f μ) ?_ (λ _ _ _ _=>trivial) ?_ ?_
 ·exact ⟨w,[],none,rfl,rfl,Ext.new hf,by rw [ya0]; simp [encs],by simp,Nat.le_refl _,Nat.le_refl _,h4⟩
 ·rintro ρ μ' ⟨r,acc,o,e,rfl,ex,ef,ea,_⟩;cases r with
  | nil =>
   simp only [unrs,append_nil] at ea;subst ea;exact q f μ' ex hf ef
  | cons _ _=>simp [encs] at e
 ·rintro x rest ρ μ' ⟨r,acc,o,e,rfl,ex,ef,ea,r1,r2,r3⟩;cases r with
  | nil=>simp [encs] at e
  | cons d r =>
   simp only [encs,List.cons.injEq] at e;obtain ⟨rfl,rfl⟩:=e;simp only [deps,cnts,oks,unrs] at r1 r2 r3 ea
   have la:acc.length + (unr d).length<=400:=by
    have:=congrArg List.length ea;simp only [length_append] at this;omega
   have exu:∀ {μ2:Mu} {v:MO},Ext μ μ2->Ext μ (updM μ2 f v):=λ e g o hg=>by
    rw [ta0 (ug0 hg hf)]; exact e g o hg
   have plain:unr d=[d]->appR (.ref f) [enc d] μ' (λ _ μ2=>PdI w f μ (encs r) [some (.tup (encs w)),some (.ref f),some (enc d)] μ2):=λ hu=>by
    refine app_l ef (by rw [va0]; omega) ⟨r,acc ++ [d],_,rfl,rfl,exu ex,?_,?_,by omega,by omega,r3.2⟩
    ·rw [ya0,vb0]; simp only [encs]
    simp_all
   cases d with
   | go n => conv=>whnf
             rw [ef];exact plain (by simp only [unr])
   | jump n => conv=>whnf
               rw [ef];exact plain (by simp only [unr])
   | turn n => conv=>whnf
               rw [ef];exact plain (by simp only [unr])
   | times n v =>
    have r1':=r1;simp only [okd,dep,cnt] at r1 r2 r3;refine ⟨.times n v,rfl,by omega,by omega,by simp only [cnt]; omega,by simp only [okd]; exact r3.1,λ μ2 ex2=>?_⟩;have ld:=zb3 (.times n v) (by simp only [okd]; exact r3.1);have lv:=tr0 v r3.1.2;by_cases c:0 < dn (.times n v)
    ·show if (decide (0 < dn (.times n v)))=true then _ else _;rw [if_pos (decide_eq_true c)];simp only [dn] at c ld;have vn:=tj5 v r3.1.2
     have n1:1<=n:=by
      rcases Int.lt_or_le 0 n with z | z
      ·omega
      ·exfalso;have:n * dns v<=0:=Int.mul_nonpos_of_nonpos_of_nonneg z vn;omega
     have v1:1<=dns v:=by
      rcases Int.lt_or_le 0 (dns v) with z | z
      ·omega
      ·exfalso;have z0:dns v=0:=by omega
       simp_all
     have nv:n * dns v<=400:=by omega
     have n4:n<=400:=Int.le_trans (by have:=Int.mul_le_mul_of_nonneg_left v1 (show 0<=n by omega); omega) nv;have v4:dns v<=400:=Int.le_trans (by have:=Int.mul_le_mul_of_nonneg_right n1 vn; omega) nv;have ef2:=ex2 _ _ ef
     conv=>whnf
     rw [ef2];refine ⟨v,rfl,by omega,by omega,by omega,r3.1.2,v4,λ g μ3 ex3 hg eg=>?_⟩
     conv=>whnf
     rw [eg];refine ⟨⟨⟨by omega,by omega⟩,?_⟩,λ t ht=>?_⟩
     ·have:(encs (unrs v)).length * n.toNat<=400 * 400:=Nat.mul_le_mul (by rw [va0]; omega) [2];omega
     have ef3:=ex3 _ _ ef2;have hft:f ≠ t:=ug0 ef3 ht;have e4:updM μ3 t (.lst (List.replicate n.toNat (encs (unrs v))).flatten) f=some (.lst (encs acc)):=by rw [ta0 hft]; exact ef3
     have e5:updM μ3 t (.lst (List.replicate n.toNat (encs (unrs v))).flatten) t=some (.lst (List.replicate n.toNat (encs (unrs v))).flatten):=ya0;have x4:Ext μ (updM μ3 t (.lst (List.replicate n.toNat (encs (unrs v))).flatten)):=(ex.trans ex2).trans (ex3.trans (Ext.new ht));generalize updM μ3 t (.lst (List.replicate n.toNat (encs (unrs v))).flatten)=μ4 at e4 e5 x4
     conv=>whnf
     rw [e4,e5];refine ⟨?_,r,acc ++ unr (.times n v),_,rfl,rfl,exu x4,?_,by rw [<- ea]; simp,by omega,by omega,r3.2⟩
     ·rw [<- yv0,va0,va0];simp only [unr] at la;omega
     ·rw [ya0,vb0,<- yv0]; simp only [unr]
    ·show if (decide (0 < dn (.times n v)))=true then _ else _;rw [if_neg (λ e=>c (of_decide_eq_true e))];have u0:unr (.times n v)=[]:=List.eq_nil_of_length_eq_zero [2];rw [u0,nil_append] at ea;exact ⟨r,acc,_,rfl,rfl,ex.trans ex2,ex2 _ _ ef,ea,by omega,by omega,r3.2⟩
noncomputable def sg (p:Pen):Dd->List T3
 | .go n=>ln p n.toNat
 | _=>[]
noncomputable def wk:Pen->List Dd->List T3
 | _,[]=>[]
 | p,d :: r=>sg p d ++ wk (led p (pd d)) r
theorem zu1:∀ (w:List Dd) (p:Pen),plns w->oks w->((wk p w).length:Int)=sks w
 | [],p,_,_=>by simp [wk,sks]
 | d :: r,p,h,o=>by
  have o':okd d /\ oks r:=by simpa [oks] using o
  have i:=zu1 r (led p (pd d)) (λ x hx=>h x (mem_cons_of_mem _ hx)) o'.2;simp only [wk,sks,length_append];rw [Int.natCast_add,i];obtain ⟨n,e⟩:=h d (mem_cons_self ..);rcases e with rfl | rfl | rfl
  ·have:0<=n:=by have:=o'.1; simp only [okd] at this; exact this.1
   simp only [sg,sk,sa2];omega
  ·simp [sg,sk]
  ·simp [sg,sk]
noncomputable def spSf:Sp3:=λ ds μ Q=>∃ (x0:D) (p:Pen) (w:List Dd),ds=[x0,.tup (encs w)] /\ isP x0 p /\ Hd p /\ Wd w /\ dns w<=400 /\ sks w<=400 /\ ∀ g μ',Ext μ μ'->μ g=none->μ' g=some (.lst ((wk p (unrs w)).map encT))->Q (.ref g) μ'
noncomputable def SfI (x0:D) (w:List Dd) (g f:Addr) (p:Pen) (μ:Mu) (l:List D) (ρ:St3) (μ':Mu):Prop:=∃ (r:List Dd) (c:Pen) (y:D) (L:List T3) (o:Option D),l=encs r /\ isP y c /\ ρ=[some x0,some (.tup (encs w)),some (.ref g),some y,o] /\ Ext μ μ' /\ μ' f=some (.lst (encs (unrs w))) /\ μ' g=some (.lst (L.map encT)) /\ L ++ wk c r=wk p (unrs w) /\ plns r /\ oks r /\ Hd c
theorem tt4:RdQ spSf (tc4 xe1 (spPd 5) (spPl 5) spGo) ux3:=by
 rintro ds μ Q ⟨x0,p,w,rfl,hx0,hp0,hw,hd,hs,q⟩;have hz:(1000:Nat) < sizeLine:=by decide
 refine ⟨Nat.zero_le _,λ g hg=>?_⟩;refine ⟨w,rfl,by have:=hw.2.1; omega,by have:=hw.2.1; omega,by have:=hw.2.2; omega,hw.1,hd,λ f μ1 ex1 hf ef=>?_⟩;have gf:f ≠ g:=λ z=>by subst z; rw [ya0] at hf; cases hf
 have ou:=(zt0 w hw.1).1;have pu:=ur0 w;have tot:((wk p (unrs w)).length:Int)<=400:=by rw [zu1 _ _ pu ou,vr0 w hw.1]; exact hs
 conv=>whnf
 rw [ef];refine sd0 (SfI x0 w g f p μ) ?_ ?_ ?_ ?_
 ·exact ⟨unrs w,p,x0,[],none,rfl,hx0,rfl,(Ext.new hg).trans ex1,ef,ex1 _ _ ya0,by simp,pu,ou,hp0⟩
 ·rintro l ρ μ' ⟨r,c,y,L,o,_,_,_,_,ef',_⟩;exact ef'
 ·rintro ρ μ' ⟨r,c,y,L,o,e,hy,rfl,ex,ef',eg,ea,_⟩;cases r with
  | nil =>
   simp only [wk,append_nil] at ea;subst ea;exact q g μ' ex hg eg
  | cons _ _=>simp [encs] at e
 ·rintro x rest ρ μ' ⟨r,c,y,L,o,e,hy,rfl,ex,ef',eg,ea,pr,oo,hc⟩;cases r with
  | nil=>simp [encs] at e
  | cons d r =>
   simp only [encs,List.cons.injEq] at e;obtain ⟨rfl,rfl⟩:=e;simp only [oks] at oo;have pr':plns r:=λ x hx=>pr x (mem_cons_of_mem _ hx)
   have ll:L.length + (sg c d).length<=400:=by
    have:=congrArg List.length ea;simp only [wk,length_append] at this;omega
   have nxt:∀ (L':List T3) μ2,L'=L ++ sg c d->Ext μ μ2->μ2 f=some (.lst (encs (unrs w)))->μ2 g=some (.lst (L'.map encT))->SfI x0 w g f p μ (encs r) [some x0,some (.tup (encs w)),some (.ref g),some (encP (led c (pd d))),some (enc d)] μ2:=by
    intro L' μ2 eL e1 e2 e3;exact ⟨r,led c (pd d),_,L',_,rfl,.inl rfl,rfl,e1,e2,e3,by rw [eL,<- ea]; simp only [wk,append_assoc],pr',oo.2,ul0 _ _⟩
   obtain ⟨n,hn⟩:=pr d (mem_cons_self ..);have dd:dep d=0 /\ cnt d=1:=by rcases hn with rfl | rfl | rfl <;> exact ⟨by simp only [dep],by simp only [cnt]⟩
   rcases hn with rfl | rfl | rfl
   ·have n0:0<=n:=by have:=oo.1; simp only [okd] at this; exact this.1
    simp only [sg,sa2] at ll
    conv=>whnf
    rw [eg];refine ⟨y,c,n,rfl,hy,hc,n0,by omega,λ t μ2 ex2 ht et=>?_⟩;have eg2:=ex2 _ _ eg;have ef2:=ex2 _ _ ef'
    conv=>whnf
    rw [eg2,et];refine ⟨by rw [length_map,length_map,sa2]; omega,?_⟩;refine ⟨.go n,rfl,by omega,by omega,by omega,oo.1,λ e he=>?_⟩;refine ⟨y,e,c,_,rfl,hy,he,hc,nxt (L ++ ln c n.toNat) _ rfl ?_ ?_ ?_⟩
    ·intro a b hab;rw [ta0 (ug0 hab hg)];exact ex2 _ _ (ex _ _ hab)
    ·rw [ta0 gf]; exact ef2
    ·rw [ya0,map_append]
   ·refine ⟨.jump n,rfl,by omega,by omega,by omega,oo.1,λ e he=>⟨y,e,c,_,rfl,hy,he,hc,nxt L _ (by simp [sg]) ex ef' eg⟩⟩
   ·refine ⟨.turn n,rfl,by omega,by omega,by omega,oo.1,λ e he=>⟨y,e,c,_,rfl,hy,he,hc,nxt L _ (by simp [sg]) ex ef' eg⟩⟩
noncomputable def IsPic (L us:List T3):Prop:=us.Nodup /\ us.Pairwise le3 /\ ∀ x,x ∈ us ↔ x ∈ L
theorem IsPic.one {L vs:List T3} (h:IsPic L us) (k:IsPic L vs):us=vs :=
 uniq ((List.perm_ext_iff_of_nodup h.1 k.1).mpr λ x=>(h.2.2 x).trans (k.2.2 x).symm) h.2.1 k.2.1
theorem ub5 {ks L:List T3} (nd:ks.Nodup) (mk:∀ x,x ∈ ks ↔ x ∈ L) (pm:us.Perm ks) (up:us.Pairwise le3):IsPic L us :=
 ⟨pm.nodup_iff.mpr nd,up,λ x=>(pm.mem_iff).trans (mk x)⟩
noncomputable def spPw:Sp3:=λ ds μ Q=>∃ (g:Addr) (L:List T3),ds=[.ref g] /\ μ g=some (.lst (L.map encT)) /\ SB L /\ ∀ (us:List T3) μ',Ext μ μ'->IsPic L us->Q (.tup (us.map encT)) μ'
theorem uu4:RdQ spPw yd4 xy3:=by
 rintro ds μ Q ⟨g,L,rfl,hg,hl,q⟩;refine ⟨L,hg,hl,λ ks nd mk us pm up r hr=>?_⟩;exact yc4 ya0 (q us _ (Ext.new hr) (ub5 nd mk pm up))
noncomputable def ye1:Sp3:=λ ds μ Q=>∃ x p w,ds=[x,.tup (encs w)] /\ isP x p /\ Hd p /\ Wd w /\ Q (encP (led p (pb w))) μ
theorem uy4:RdQ ye1 (xg4 xj1 xe1 (spPb 5)) sa4:=by
 rintro ds μ Q ⟨x,p,w,rfl,hx,hp,hw,q⟩;exact ⟨w,rfl,hw,w,rfl,by have:=hw.2.1; omega,by have:=hw.2.1; omega,by have:=hw.2.2; omega,hw.1,λ e he=>⟨x,e,p,pb w,rfl,hx,he,hp,q⟩⟩
noncomputable def xx0:Sp3:=λ ds μ Q=>∃ w,ds=[.tup (encs w)] /\ Wd w /\ Q (encP (led st (pb w))) μ
theorem zv4:RdQ xx0 (td4 ye1) uy3:=by
 rintro ds μ Q ⟨w,rfl,hw,q⟩;exact ⟨_,st,w,rfl,.inr rfl,zr0,hw,q⟩
theorem up4 {ts:List T3} (h:ts.length<=400):SB ts:=λ l nd hl=>by
 have:=List.Nodup.length_le_of_subset nd hl;omega
noncomputable def spPo:Sp3:=λ ds μ Q=>∃ w,ds=[.tup (encs w)] /\ Wd w /\ (sks w<=400 /\ dns w<=400) /\ ∀ (us:List T3) μ',Ext μ μ'->IsPic (wk st (unrs w)) us->Q (.tup (us.map encT)) μ'
theorem tu4:RdQ spPo (zd4 si1 spPw spSf) yy3:=by
 rintro ds μ Q ⟨w,rfl,hw,n,q⟩;refine ⟨w,rfl,hw,λ μ1 ex1=>?_⟩;show if (!decide (sks w<=400 /\ dns w<=400))=true then _ else _;rw [decide_eq_true n];refine ⟨_,st,w,rfl,.inr rfl,zr0,hw,n.2,n.1,λ g μ2 ex2 hg eg=>?_⟩;refine ⟨g,_,rfl,eg,up4 ?_,λ us μ3 ex3 ip=>q us μ3 (ex1.trans (ex2.trans ex3)) ip⟩;have:=zu1 _ st (ur0 w) (zt0 w hw.1).1;rw [vr0 w hw.1] at this;omega
end Pv
namespace Mw
noncomputable abbrev Stk:=Int × Int × Int
noncomputable def mvS (p:Pen) (s:Stk):Stk :=
 if p.2.2=0 then (p.1 + s.1,p.2.1 + s.2.1,s.2.2)
 else if p.2.2=1 then (p.1 - s.2.1 - s.2.2,p.2.1 + s.1,1 - s.2.2)
 else if p.2.2=2 then (p.1 - s.1 - (1 - s.2.2),p.2.1 - s.2.1 - s.2.2,s.2.2)
 else (p.1 + s.2.1,p.2.1 - s.1 - (1 - s.2.2),1 - s.2.2)
theorem tf5 (s:Stk):mvS st s=s:=by
 obtain ⟨x,y,w⟩:=s; simp [mvS,st]
noncomputable def rt1 (s:Stk):Stk:=(-s.2.1 - s.2.2,s.1,1 - s.2.2)
noncomputable def trS (x y:Int) (s:Stk):Stk:=(x + s.1,y + s.2.1,s.2.2)
theorem trip {a b c d e f:Int} (h:a=d) (k:b=e) (l:c=f):(a,b,c)=(d,e,f):=by rw [h,k,l]
theorem yn1 (s:Stk):rt1 (rt1 s)=(-s.1 - (1 - s.2.2),-s.2.1 - s.2.2,s.2.2):=trip rfl rfl (Int.sub_sub_self ..)
theorem xa1 (s:Stk):rt1 (rt1 (rt1 (rt1 s)))=s:=by
 obtain ⟨a,b,c⟩:=s;rw [yn1,yn1]
 simp_all;omega
theorem zq2 (x y:Int) (s:Stk):rt1 (trS x y s)=trS (-y) x (rt1 s):=trip (by show -(y + s.2.1) - s.2.2 = -y + (-s.2.1 - s.2.2); omega) rfl rfl
theorem uh2 (x y u v:Int) (s:Stk):trS x y (trS u v s)=trS (x + u) (y + v) s:=trip (Int.add_assoc ..).symm (Int.add_assoc ..).symm rfl
theorem mv0 (x y:Int) (s:Stk):mvS (x,y,0) s=trS x y s:=rfl
theorem mv1 (x y:Int) (s:Stk):mvS (x,y,1) s=trS x y (rt1 s):=trip (by show x - s.2.1 - s.2.2=x + (-s.2.1 - s.2.2); omega) rfl rfl
theorem mv2 (x y:Int) (s:Stk):mvS (x,y,2) s=trS x y (rt1 (rt1 s)):=by
 rw [yn1];exact trip [2] (by simp_all;omega) rfl
theorem mv3 (x y:Int) (s:Stk):mvS (x,y,3) s=trS x y (rt1 (rt1 (rt1 s))):=by
 rw [yn1];exact trip (by show x + s.2.1=x + (-(-s.2.1 - s.2.2) - (1 - (1 - s.2.2))); omega) (by show y - s.1 - (1 - s.2.2)=y + (-s.1 - (1 - s.2.2)); omega) rfl
variable {p:Pen}
theorem ss3 {q:Pen} (hp:Hd p) (hq:Hd q) (s:Stk):mvS (led p q) s=mvS p (mvS q s):=by
 obtain ⟨x,y,h⟩:=p;obtain ⟨u,v,k⟩:=q;unfold Hd at hp hq;dsimp only at hp hq;have e:∀ {a b c d:Int},a=c->b=d->∀ r:Stk,trS a b r=trS c d r:=λ h k r=>by rw [h,k]
 rcases hp with rfl | rfl | rfl | rfl
 ·rw [mv0];have f:∀ r:Stk,_:=e (show x + u * 1 - v * 0=x + u by omega) (show y + u * 0 + v * 1=y + v by omega);rcases hq with rfl | rfl | rfl | rfl <;> simp only [mv0,mv1,mv2,mv3,zq2,uh2,xa1]
  ·exact (mv0 _ _ _).trans (f _)
  ·exact (mv1 _ _ _).trans (f _)
  ·exact (mv2 _ _ _).trans (f _)
  ·exact (mv3 _ _ _).trans (f _)
 ·rw [mv1];have f:∀ r:Stk,_:=e (show x + u * 0 - v * 1=x + -v by omega) (show y + u * 1 + v * 0=y + u by omega);rcases hq with rfl | rfl | rfl | rfl <;> simp only [mv0,mv1,mv2,mv3,zq2,uh2,xa1]
  ·exact (mv1 _ _ _).trans (f _)
  ·exact (mv2 _ _ _).trans (f _)
  ·exact (mv3 _ _ _).trans (f _)
  ·exact (mv0 _ _ _).trans (f _)
 ·rw [mv2];have f:∀ r:Stk,_:=e (show x + u * -1 - v * 0=x + -u by omega) (show y + u * 0 + v * -1=y + -v by omega);rcases hq with rfl | rfl | rfl | rfl <;> simp only [mv0,mv1,mv2,mv3,zq2,uh2,xa1]
  ·exact (mv2 _ _ _).trans (f _)
  ·exact (mv3 _ _ _).trans (f _)
  ·exact (mv0 _ _ _).trans (f _)
  ·exact (mv1 _ _ _).trans (f _)
 ·rw [mv3];have f:∀ r:Stk,_:=e (show x + u * 0 - v * -1=x + - -v by omega) (show y + u * -1 + v * 0=y + -u by omega);rcases hq with rfl | rfl | rfl | rfl <;> simp only [mv0,mv1,mv2,mv3,zq2,uh2,xa1]
  ·exact (mv3 _ _ _).trans (f _)
  ·exact (mv0 _ _ _).trans (f _)
  ·exact (mv1 _ _ _).trans (f _)
  ·exact (mv2 _ _ _).trans (f _)
noncomputable def tms (l:List Stk) (p:Pen) (n:Nat):List Stk:=(List.range n).flatMap λ k=>l.map (mvS (pw p k))
theorem vy0 (l:List Stk) (p:Pen) (n:Nat):tms l p (n + 1)=tms l p n ++ l.map (mvS (pw p n)):=by
 unfold tms;rw [List.range_succ,List.flatMap_append];simp
mutual
noncomputable def strk:Dd->List Stk
 | .go n=>(List.range n.toNat).map λ (k:Nat)=>((k:Int),(0:Int),(0:Int))
 | .jump _=>[]
 | .turn _=>[]
 | .times n w=>tms (zd0 w) (pb w) n.toNat
noncomputable def zd0:List Dd->List Stk
 | []=>[]
 | d :: r=>strk d ++ (zd0 r).map (mvS (pd d))
end
theorem ve0 {q:Pen} (hp:Hd p) (hq:Hd q) (l:List Stk):l.map (mvS (led p q))=(l.map (mvS q)).map (mvS p):=by
 rw [map_map];apply map_congr_left;intro s _;exact ss3 hp hq s
theorem we0 (l:List Stk):l.map (mvS st)=l:=by
 rw [show mvS st=id from funext tf5,List.map_id]
theorem yf0:∀ a b,oks a->zd0 (a ++ b)=zd0 a ++ (zd0 b).map (mvS (pb a))
 | [],b,_=>by simp only [nil_append,zd0,pb,we0]
 | d :: r,b,h=>by
  simp only [oks] at h;simp only [cons_append,zd0,pb,yf0 r b h.2,map_append,append_assoc];rw [ve0 (sw0 d h.1) (ym0 r)]
mutual
noncomputable def ro:Dd->List Dd
 | .times n w=>(List.replicate n.toNat (ros w)).flatten
 | .go n=>[.go n]
 | .jump n=>[.jump n]
 | .turn n=>[.turn n]
noncomputable def ros:List Dd->List Dd
 | []=>[]
 | d :: r=>ro d ++ ros r
end
noncomputable def plain (w:List Dd):Prop:=∀ d ∈ w,∃ n,d=.go n \/ d=.jump n \/ d=.turn n
noncomputable abbrev Bx:=Int × Int × Int × Int
noncomputable def mn (i j:Int):Int:=if j < i then j else i
noncomputable def mx (i j:Int):Int:=if j > i then j else i
theorem sl0 (i j:Int):mn i j<=i /\ mn i j<=j /\ (mn i j=i \/ mn i j=j):=by unfold mn; split <;> omega
theorem uj1 (i j:Int):i<=mx i j /\ j<=mx i j /\ (mx i j=i \/ mx i j=j):=by unfold mx; split <;> omega
noncomputable def bor:Option Bx->Option Bx->Option Bx
 | none,o=>o
 | some b,none=>some b
 | some a,some b=>some (mn a.1 b.1,mn a.2.1 b.2.1,mx a.2.2.1 b.2.2.1,mx a.2.2.2 b.2.2.2)
noncomputable def bfr (p:Pen):Option Bx->Option Bx
 | none=>none
 | some b=>some (mn (led p (b.1,b.2.1,0)).1 (led p (b.2.2.1,b.2.2.2,0)).1,mn (led p (b.1,b.2.1,0)).2.1 (led p (b.2.2.1,b.2.2.2,0)).2.1,
     mx (led p (b.1,b.2.1,0)).1 (led p (b.2.2.1,b.2.2.2,0)).1,mx (led p (b.1,b.2.1,0)).2.1 (led p (b.2.2.1,b.2.2.2,0)).2.1)
noncomputable def Inb (b:Bx) (s:Stk):Prop:=b.1<=s.1 /\ b.2.1<=s.2.1 /\ s.1 + 1 - s.2.2<=b.2.2.1 /\ s.2.1 + s.2.2<=b.2.2.2
noncomputable def Tight (l:List Stk) (b:Bx):Prop:=(∃ s ∈ l,s.1=b.1) /\ (∃ s ∈ l,s.2.1=b.2.1) /\ (∃ s ∈ l,s.1 + 1 - s.2.2=b.2.2.1) /\ ∃ s ∈ l,s.2.1 + s.2.2=b.2.2.2
noncomputable def IsBox (l:List Stk):Option Bx->Prop
 | none=>l=[]
 | some b=>(∀ s ∈ l,Inb b s) /\ Tight l b
variable {m:List Stk}
theorem Tight.mono {l:List Stk} {b:Bx} (h:Tight l b) (e:∀ s ∈ l,s ∈ m):Tight m b:=by
 obtain ⟨⟨s1,h1,e1⟩,⟨s2,h2,e2⟩,⟨s3,h3,e3⟩,⟨s4,h4,e4⟩⟩:=h;exact ⟨⟨s1,e _ h1,e1⟩,⟨s2,e _ h2,e2⟩,⟨s3,e _ h3,e3⟩,⟨s4,e _ h4,e4⟩⟩
theorem Tight.ne {l:List Stk} {b:Bx} (h:Tight l b):l ≠ []:=by
 obtain ⟨⟨s,hs,_⟩,_⟩:=h;intro e; simp_all
theorem IsBox.unique {l:List Stk} {a b:Option Bx} (ha:IsBox l a) (hb:IsBox l b):a=b:=by
 cases a with
 | none =>
  cases b with
  | none=>rfl
  | some b=>exact absurd ha hb.2.ne
 | some a =>
  cases b with
  | none=>exact absurd hb ha.2.ne
  | some b =>
   obtain ⟨i1,⟨s1,h1,e1⟩,⟨s2,h2,e2⟩,⟨s3,h3,e3⟩,⟨s4,h4,e4⟩⟩:=ha;obtain ⟨j1,⟨t1,k1,f1⟩,⟨t2,k2,f2⟩,⟨t3,k3,f3⟩,⟨t4,k4,f4⟩⟩:=hb;obtain ⟨a1,a2,a3,a4⟩:=a;obtain ⟨b1,b2,b3,b4⟩:=b;unfold Inb at i1 j1;dsimp only at *;have:=i1 _ k1; have:=i1 _ k2; have:=i1 _ k3; have:=i1 _ k4;have:=j1 _ h1; have:=j1 _ h2; have:=j1 _ h3; have:=j1 _ h4
   simp_all;omega
variable {o:Option Bx}
theorem IsBox.congr {l:List Stk} (h:IsBox l o) (e:∀ s,s ∈ l ↔ s ∈ m):IsBox m o:=by
 cases o with
 | none =>
  have h:l=[]:=h;subst h;exact List.eq_nil_iff_forall_not_mem.mpr λ s hs=>by simp_all
 | some b=>exact ⟨λ s hs=>h.1 s ((e s).mpr hs),h.2.mono λ s hs=>(e s).mp hs⟩
theorem IsBox.or {l:List Stk} {a b:Option Bx} (ha:IsBox l a) (hb:IsBox m b):IsBox (l ++ m) (bor a b):=by
 cases a with
 | none =>
  have e:l=[]:=ha;subst e;exact hb
 | some a =>
  cases b with
  | none =>
   have e:m=[]:=hb;subst e;rw [append_nil];exact ha
  | some b =>
   obtain ⟨i1,⟨s1,h1,e1⟩,⟨s2,h2,e2⟩,⟨s3,h3,e3⟩,⟨s4,h4,e4⟩⟩:=ha;obtain ⟨j1,⟨t1,k1,f1⟩,⟨t2,k2,f2⟩,⟨t3,k3,f3⟩,⟨t4,k4,f4⟩⟩:=hb;obtain ⟨m1,m2,m3⟩:=sl0 a.1 b.1;obtain ⟨m4,m5,m6⟩:=sl0 a.2.1 b.2.1;obtain ⟨m7,m8,m9⟩:=uj1 a.2.2.1 b.2.2.1;obtain ⟨n1,n2,n3⟩:=uj1 a.2.2.2 b.2.2.2;refine ⟨λ s hs=>?_,?_,?_,?_,?_⟩
   ·unfold Inb;dsimp only;rcases List.mem_append.mp hs with hs | hs
    ·have:=i1 s hs; unfold Inb at this; omega
    ·have:=j1 s hs; unfold Inb at this; omega
   ·rcases m3 with e | e
    ·exact ⟨s1,mem_append_left _ h1,by dsimp only; omega⟩
    ·exact ⟨t1,mem_append_right _ k1,by dsimp only; omega⟩
   ·rcases m6 with e | e
    ·exact ⟨s2,mem_append_left _ h2,by dsimp only; omega⟩
    ·exact ⟨t2,mem_append_right _ k2,by dsimp only; omega⟩
   ·rcases m9 with e | e
    ·exact ⟨s3,mem_append_left _ h3,by dsimp only; omega⟩
    ·exact ⟨t3,mem_append_right _ k3,by dsimp only; omega⟩
   ·rcases n3 with e | e
    ·exact ⟨s4,mem_append_left _ h4,by dsimp only; omega⟩
    ·exact ⟨t4,mem_append_right _ k4,by dsimp only; omega⟩
noncomputable def wy (s:Stk):Prop:=s.2.2=0 \/ s.2.2=1
noncomputable def wys (l:List Stk):Prop:=∀ s ∈ l,wy s
theorem ub4 (p:Pen) (s:Stk) (h:wy s):wy (mvS p s):=by
 unfold wy mvS at *;split
 ·exact h
 ·split
  ·dsimp only; omega
  ·split <;> dsimp only <;> omega
theorem yu1 {l:List Stk} (h:wys l):wys (l.map (mvS p)):=by
 intro s hs;obtain ⟨t,ht,rfl⟩:=List.mem_map.mp hs;exact ub4 _ _ (h t ht)
theorem xs1 {l:List Stk} (h:wys l) (k:wys m):wys (l ++ m):=λ s hs=>(List.mem_append.mp hs).elim (h s) (k s)
theorem vg3 {l:List Stk} (h:wys l) (n:Nat):wys (tms l p n):=by
 intro s hs;obtain ⟨k,_,hk⟩:=List.mem_flatMap.mp hs;exact yu1 h s hk
mutual
theorem xl1:∀ d,wys (strk d)
 | .go n=>by
  intro s hs;simp only [strk] at hs;obtain ⟨k,_,rfl⟩:=List.mem_map.mp hs;exact .inl rfl
 | .jump _=>by intro s hs; simp [strk] at hs
 | .turn _=>by intro s hs; simp [strk] at hs
 | .times n w=>by simp only [strk]; exact vg3 (yt0 w) _
theorem yt0:∀ w,wys (zd0 w)
 | []=>by intro s hs; simp [zd0] at hs
 | d :: r=>by simp only [zd0]; exact xs1 (xl1 d) (yu1 (yt0 r))
end
theorem mn_l {a b:Int} (h:a<=b):mn a b=a:=if_neg (Int.not_lt.mpr h)
theorem mx_l {a b:Int} (h:b<=a):mx a b=a:=if_neg (Int.not_lt.mpr h)
theorem mn_r {a b:Int} (h:b<=a):mn a b=b:=by have:=sl0 a b; omega
theorem mx_r {a b:Int} (h:a<=b):mx a b=b:=by have:=uj1 a b; omega
theorem IsBox.mv {l:List Stk} {c:Bx} {f:Stk->Stk} {s1 s2 s3 s4:Stk} (h1:s1 ∈ l) (h2:s2 ∈ l) (h3:s3 ∈ l) (h4:s4 ∈ l) (i:∀ s ∈ l,Inb c (f s)) (e1:(f s1).1=c.1) (e2:(f s2).2.1=c.2.1) (e3:(f s3).1 + 1 - (f s3).2.2=c.2.2.1) (e4:(f s4).2.1 + (f s4).2.2=c.2.2.2):IsBox (l.map f) (some c) :=
 ⟨λ s hs=>by obtain ⟨t,ht,rfl⟩:=List.mem_map.mp hs; exact i t ht,⟨_,List.mem_map_of_mem h1,e1⟩,⟨_,List.mem_map_of_mem h2,e2⟩,⟨_,List.mem_map_of_mem h3,e3⟩,⟨_,List.mem_map_of_mem h4,e4⟩⟩
theorem IsBox.fr {l:List Stk} (hp:Hd p) (hw:wys l) (h:IsBox l o):IsBox (l.map (mvS p)) (bfr p o):=by
 cases o with
 | none =>
  have e:l=[]:=h;subst e;rfl
 | some b =>
  obtain ⟨b1,b2,b3,b4⟩:=b;obtain ⟨i1,⟨s1,h1,e1⟩,⟨s2,h2,e2⟩,⟨s3,h3,e3⟩,⟨s4,h4,e4⟩⟩:=h;obtain ⟨x,y,h⟩:=p;have i2:∀ s ∈ l,b1<=s.1 /\ b2<=s.2.1 /\ s.1 + 1 - s.2.2<=b3 /\ s.2.1 + s.2.2<=b4:=i1
  have q:b1<=b3 /\ b2<=b4:=by
   have g:=i2 _ h1;have w:=hw _ h1;unfold wy at w;omega
  unfold Hd at hp;dsimp only at hp e1 e2 e3 e4;rcases hp with rfl | rfl | rfl | rfl
  ·rw [show bfr (x,y,0) (some (b1,b2,b3,b4))=some (x + b1,y + b2,x + b3,y + b4) by
     simp [bfr,led,cs,sn];exact ⟨mn_l [2],mn_l [2],mx_r [2],mx_r [2]⟩]
   exact mv h1 h2 h3 h4 (λ s hs=>by have ⟨z1,z2,z3,z4⟩:=i2 s hs; exact ⟨by show x + b1<=x + s.1; omega,by show y + b2<=y + s.2.1; omega,by show x + s.1 + 1 - s.2.2<=x + b3; omega,by show y + s.2.1 + s.2.2<=y + b4; omega⟩) (by show x + s1.1=x + b1; omega) (by show y + s2.2.1=y + b2; omega) (by show x + s3.1 + 1 - s3.2.2=x + b3; omega) (by show y + s4.2.1 + s4.2.2=y + b4; omega)
  ·rw [show bfr (x,y,1) (some (b1,b2,b3,b4))=some (x - b4,y + b1,x - b2,y + b3) by
     simp [bfr,led,cs,sn];exact ⟨mn_r [2],mn_l [2],mx_l [2],mx_r [2]⟩]
   exact mv h4 h1 h2 h3 (λ s hs=>by have ⟨z1,z2,z3,z4⟩:=i2 s hs; exact ⟨by show x - b4<=x - s.2.1 - s.2.2; omega,by show y + b1<=y + s.1; omega,by show x - s.2.1 - s.2.2 + 1 - (1 - s.2.2)<=x - b2; omega,by show y + s.1 + (1 - s.2.2)<=y + b3; omega⟩) (by show x - s4.2.1 - s4.2.2=x - b4; omega) (by show y + s1.1=y + b1; omega) (by show x - s2.2.1 - s2.2.2 + 1 - (1 - s2.2.2)=x - b2; omega) (by show y + s3.1 + (1 - s3.2.2)=y + b3; omega)
  ·rw [show bfr (x,y,2) (some (b1,b2,b3,b4))=some (x - b3,y - b4,x - b1,y - b2) by
     simp [bfr,led,cs,sn];exact ⟨mn_r [2],mn_r [2],mx_l [2],mx_l [2]⟩]
   exact mv h3 h4 h1 h2 (λ s hs=>by have ⟨z1,z2,z3,z4⟩:=i2 s hs; exact ⟨by show x - b3<=x - s.1 - (1 - s.2.2); omega,by show y - b4<=y - s.2.1 - s.2.2; omega,by show x - s.1 - (1 - s.2.2) + 1 - s.2.2<=x - b1; omega,by show y - s.2.1 - s.2.2 + s.2.2<=y - b2; omega⟩) (by show x - s3.1 - (1 - s3.2.2)=x - b3; omega) (by show y - s4.2.1 - s4.2.2=y - b4; omega) (by show x - s1.1 - (1 - s1.2.2) + 1 - s1.2.2=x - b1; omega) (by show y - s2.2.1 - s2.2.2 + s2.2.2=y - b2; omega)
  ·rw [show bfr (x,y,3) (some (b1,b2,b3,b4))=some (x + b2,y - b3,x + b4,y - b1) by
     simp [bfr,led,cs,sn];exact ⟨mn_l [2],mn_r [2],mx_r [2],mx_l [2]⟩]
   exact mv h2 h3 h4 h1 (λ s hs=>by have ⟨z1,z2,z3,z4⟩:=i2 s hs; exact ⟨by show x + b2<=x + s.2.1; omega,by show y - b3<=y - s.1 - (1 - s.2.2); omega,by show x + s.2.1 + 1 - (1 - s.2.2)<=x + b4; omega,by show y - s.1 - (1 - s.2.2) + (1 - s.2.2)<=y - b1; omega⟩) (by show x + s2.2.1=x + b2; omega) (by show y - s3.1 - (1 - s3.2.2)=y - b3; omega) (by show x + s4.2.1 + 1 - (1 - s4.2.2)=x + b4; omega) (by show y - s1.1 - (1 - s1.2.2) + (1 - s1.2.2)=y - b1; omega)
noncomputable def brs (b:Option Bx) (p:Pen) (o:Option Bx) (ks:List Int):Option Bx:=ks.foldl (λ w k=>bor w (bfr (rep p k) b)) o
noncomputable def outer (p:Pen) (n:Int):List Int:=if p.2.2=0 then [0,n - 1] else (List.range (mn n 4).toNat).map λ i=>(0:Int) + (i:Nat)
mutual
noncomputable def bxd:Dd->Option Bx
 | .go n=>if n=0 then none else some (0,0,n,0)
 | .jump _=>none
 | .turn _=>none
 | .times n w=>if n=0 then none else brs (bxa w none st) (pb w) none (outer (pb w) n)
noncomputable def bxa:List Dd->Option Bx->Pen->Option Bx
 | [],o,_=>o
 | d :: r,o,p=>bxa r (bor o (bfr p (bxd d))) (led p (pd d))
end
theorem wf2 {l:List Stk} {b:Option Bx} {p:Pen} (hp:Hd p) (hw:wys l) (h:IsBox l b):∀ (ks:List Int) (m:List Stk) (o:Option Bx),(∀ k ∈ ks,0<=k)->IsBox m o->IsBox (m ++ ks.flatMap λ k=>l.map (mvS (pw p k.toNat))) (brs b p o ks)
 | [],m,o,_,hm=>by simpa [brs] using hm
 | k :: ks,m,o,hk,hm=>by
  have h1:=wf2 hp hw h ks (m ++ l.map (mvS (pw p k.toNat))) (bor o (bfr (rep p k) b)) (λ x hx=>hk x (mem_cons_of_mem _ hx)) (by
   rw [vn0 hp (hk k (mem_cons_self ..))];exact hm.or (h.fr (zq0 _ _) hw))
  rw [append_assoc] at h1;exact h1
theorem tf2 {a:Int} {k m:Nat} (h:k<=m):(0<=a * k /\ a * k<=a * m) \/ (a * m<=a * k /\ a * k<=0):=by
 rcases Int.le_total 0 a with h0 | h0
 ·exact .inl ⟨Int.mul_nonneg h0 [2],Int.mul_le_mul_of_nonneg_left [2] h0⟩
 ·exact .inr ⟨Int.mul_le_mul_of_nonpos_left h0 [2],Int.mul_nonpos_of_nonpos_of_nonneg h0 [2]⟩
theorem yh3 {l:List Stk} {b:Option Bx} (hp:Hd p) (hw:wys l) (h:IsBox l b) {n:Int} (hn:0 < n):IsBox (tms l p n.toNat) (brs b p none (outer p n)):=by
 have h0:∀ k ∈ outer p n,0<=k:=by
  unfold outer;intro k hk;split at hk
  ·simp_all;omega
  simp_all;omega
 have h1:=wf2 hp hw h (outer p n) [] none h0 rfl;rw [nil_append] at h1;by_cases hz:p.2.2=0
 ·rw [outer,if_pos hz] at h1 ⊢;simp only [List.flatMap_cons,List.flatMap_nil,append_nil] at h1;generalize brs b p none [0,n - 1]=o at h1 ⊢;cases o with
  | none =>
   have e:l.map (mvS (pw p (0:Int).toNat)) ++ l.map (mvS (pw p (n - 1).toNat))=[]:=h1
   have e1:l=[]:=by
    simp_all
   subst e1;show tms [] p n.toNat=[];unfold tms;simp
  | some c =>
   obtain ⟨i1,t1⟩:=h1;refine ⟨λ s hs=>?_,t1.mono λ s hs=>?_⟩
   ·obtain ⟨k,hk,hs⟩:=List.mem_flatMap.mp hs;obtain ⟨t,ht,rfl⟩:=List.mem_map.mp hs;have hk:k < n.toNat:=List.mem_range.mp hk;have a1:=i1 _ (mem_append_left _ (List.mem_map.mpr ⟨t,ht,rfl⟩));have a2:=i1 _ (mem_append_right _ (List.mem_map.mpr ⟨t,ht,rfl⟩));have b1:=tf2 (a:=p.1) (k:=k) (m:=(n - 1).toNat) [2];have b2:=tf2 (a:=p.2.1) (k:=k) (m:=(n - 1).toNat) [2];rw [zj1 hz] at a1 a2 ⊢;simp only [mvS,if_true,Inb] at a1 a2 ⊢
    simp_all;omega
   ·rcases List.mem_append.mp hs with hs | hs
    ·exact List.mem_flatMap.mpr ⟨0,List.mem_range.mpr [2],hs⟩
    ·exact List.mem_flatMap.mpr ⟨(n - 1).toNat,List.mem_range.mpr [2],hs⟩
 ·refine h1.congr λ s=>?_;rw [outer,if_neg hz];unfold tms;simp only [List.mem_flatMap,mem_map,List.mem_range]
  have em:(mn n 4).toNat<=4 /\ (mn n 4).toNat<=n.toNat /\ ((mn n 4).toNat=4 \/ (mn n 4).toNat=n.toNat):=by
   have:=sl0 n 4; omega
  constructor
  ·rintro ⟨k,⟨i,hi,rfl⟩,t,ht,rfl⟩;refine ⟨i,by omega,t,ht,?_⟩;simp
  ·rintro ⟨k,hk,t,ht,rfl⟩;refine ⟨0 + ((k % 4:Nat):Int),⟨k % 4,?_,rfl⟩,t,ht,?_⟩
   ·omega
   ·have e:((0:Int) + ((k % 4:Nat):Int)).toNat=k % 4:=by omega
    rw [e,<- wc3 hp hz]
mutual
theorem zw3:∀ d,okd d->IsBox (strk d) (bxd d)
 | .go n,h=>by
  simp only [okd] at h;simp only [strk,bxd];split
  ·next e=>subst e; rfl
  ·next e =>
   refine ⟨λ s hs=>?_,⟨(((0:Nat):Int),0,0),?_,rfl⟩,⟨(((0:Nat):Int),0,0),?_,rfl⟩,⟨(((n - 1).toNat:Int),0,0),?_,?_⟩,⟨(((0:Nat):Int),0,0),?_,rfl⟩⟩
   ·obtain ⟨k,hk,rfl⟩:=List.mem_map.mp hs;have:=List.mem_range.mp hk;simp only [Inb];omega
   ·simp_all;omega
   ·simp_all;omega
   ·exact List.mem_map.mpr ⟨(n - 1).toNat,List.mem_range.mpr [2],rfl⟩
   ·dsimp only; omega
   simp_all;omega
 | .jump n,h=>by rfl
 | .turn n,h=>by rfl
 | .times n w,h=>by
  simp only [okd] at h;simp only [strk,bxd];split
  ·next e=>subst e; rfl
  ·next e =>
   refine yh3 (ym0 w) (yt0 w) ?_ [2];have:=sk1 w h.2 [] none st zr0 rfl;rw [nil_append,we0] at this;exact this
theorem sk1:∀ w,oks w->∀ (m:List Stk) (o:Option Bx) (p:Pen),Hd p->IsBox m o->IsBox (m ++ (zd0 w).map (mvS p)) (bxa w o p)
 | [],_,m,o,p,_,hm=>by simpa [zd0,bxa] using hm
 | d :: r,h,m,o,p,hp,hm=>by
  simp only [oks] at h;have h1:=sk1 r h.2 (m ++ (strk d).map (mvS p)) (bor o (bfr p (bxd d))) (led p (pd d)) (ul0 _ _) (hm.or ((zw3 d h.1).fr hp (xl1 d)));rw [ve0 hp (sw0 d h.1),append_assoc] at h1;simp only [zd0,bxa,map_append];exact h1
end
theorem sv0 (w:List Dd) (h:oks w):IsBox (zd0 w) (bxa w none st):=by
 have:=sk1 w h [] none st zr0 rfl;rw [nil_append,we0] at this;exact this
end Mw
namespace Pv
open PySem Mw
noncomputable def encB:Option Bx->D
 | none=>.non
 | some b=>.tup [.int b.1,.int b.2.1,.int b.2.2.1,.int b.2.2.2]
noncomputable def tk3:Sp3:=λ ds μ Q=>∃ a b,ds=[encB a,encB b] /\ Q (encB (bor a b)) μ
theorem ty4:RdQ tk3 yg4 xb4:=by
 rintro ds μ Q ⟨a,b,rfl,q⟩;cases a with
 | none=>exact q
 | some a =>
  cases b with
  | none=>exact q
  | some b=>exact ⟨Z1,Z1,(show 2 + 2<=sizeLine by decide),q⟩
noncomputable def sk3:Sp3:=λ ds μ Q=>∃ x p b,ds=[x,encB b] /\ isP x p /\ Hd p /\ Q (encB (bfr p b)) μ
theorem yz4:RdQ sk3 (zg4 xe1) yb4:=by
 rintro ds μ Q ⟨x,p,b,rfl,hx,hp,q⟩;cases b with
 | none=>exact q
 | some b=>exact ⟨Z0,x,_,p,(b.1,b.2.1,0),rfl,hx,.inl rfl,hp,Z0,x,_,p,(b.2.2.1,b.2.2.2,0),rfl,hx,.inl rfl,hp,Z1,Z1,(show 2 + 2<=sizeLine by decide),q⟩
noncomputable def uh4:Sp3:=λ ds μ Q=>∃ x p n,ds=[x,.int n] /\ isP x p /\ 0 < n /\ n<=G /\ ∀ r,μ r=none->Q (.ref r) (updM μ r (.lst ((outer p n).map D.int)))
theorem vv4:RdQ uh4 sh3 xz2:=by
 rintro ds μ Q ⟨x,p,n,rfl,hx,h0,h1,q⟩;rcases hx with rfl | rfl <;> simp only [sh3,seq3,ifs3,b3,o3,v3,ua0,encP,map_cons,map_nil,xz2,length_cons,length_nil,Nat.zero_add,Nat.reduceAdd,Nat.reduceSub,List.replicate,cons_append,nil_append,getI,c3,ixR,atI2,ret3,lst3,xa0,subR,zh0,nil3,sa0,tt2,wa0,yg5,wq1,decide_eq_true_eq,encK] <;> split
 ·next e =>
  refine ⟨by decide,λ r hr=>?_⟩;have:=q r hr;rw [outer,if_pos e] at this;exact this
 ·next e =>
  have hb:(if 4 < n then 4 else n)=mn n 4:=rfl;rw [hb];have:=sl0 n 4;refine ⟨⟨⟨by omega,by omega⟩,by omega⟩,λ r hr=>?_⟩;have:=q r hr;rw [outer,if_neg e,map_map] at this;exact this
 ·next e =>
  refine ⟨by decide,λ r hr=>?_⟩;have:=q r hr;rw [outer,if_pos e] at this;exact this
 ·next e =>
  have hb:(if 4 < n then 4 else n)=mn n 4:=rfl;rw [hb];have:=sl0 n 4;refine ⟨⟨⟨by omega,by omega⟩,by omega⟩,λ r hr=>?_⟩;have:=q r hr;rw [outer,if_neg e,map_map] at this;exact this
noncomputable def tb3:Sp3:=λ ds μ Q=>∃ b x p n,ds=[encB b,x,.int n] /\ isP x p /\ Hd p /\ 0 < n /\ n<=G /\ p.1.natAbs < 2 ^ 1000 /\ p.2.1.natAbs < 2 ^ 1000 /\ ∀ μ',Ext μ μ'->Q (encB (brs b p none (outer p n))) μ'
variable {n:Int}
theorem xt2 {p:Pen} (h:0 < n):∀ k ∈ outer p n,0<=k /\ k<=n:=by
 unfold outer;intro k hk;split at hk
 ·simp_all;omega
 ·obtain ⟨i,hi,rfl⟩:=List.mem_map.mp hk;have:=List.mem_range.mp hi;have:=sl0 n 4;omega
noncomputable def BrI (b:Option Bx) (p:Pen) (y:D) (n:Int) (r:Addr) (μ:Mu) (l:List D) (ρ:St3) (μ':Mu):Prop:=μ'=updM μ r (.lst ((outer p n).map D.int)) /\ ∃ (ks:List Int) (o:Option Bx) (dd:Option D),l=ks.map D.int /\ ρ=[some (encB b),some y,some (.int n),some (encB o),dd] /\ (∀ k ∈ ks,0<=k /\ k<=n) /\ brs b p o ks=brs b p none (outer p n)
theorem sy4:RdQ tb3 (xj3 sk3 tk3 uh4 zk3) ya3:=by
 rintro ds μ Q ⟨b,y,p,n,rfl,hy,hp,h0,h1,b1,b2,q⟩;simp only [xj3,seq3,set3,c3,for3,is3,wa0,xa0,v3,ua0,map_cons,map_nil,ya3,length_cons,length_nil,Nat.zero_add,Nat.reduceAdd,Nat.reduceSub,List.replicate,cons_append,nil_append,set_cons_succ,set_cons_zero,getI,nil3];refine ⟨y,p,n,rfl,hy,h0,h1,λ r hr=>?_⟩;simp only [ya0];refine sd0 (BrI b p y n r μ) ?_ ?_ ?_ ?_
 ·exact ⟨rfl,outer p n,none,none,rfl,rfl,xt2 h0,rfl⟩
 ·rintro l ρ μ' ⟨rfl,_⟩;exact ya0
 ·rintro ρ μ' ⟨rfl,ks,o,dd,e,rfl,_,e2⟩;cases ks with
  | nil =>
   simp only [ret3,v3,getI];have e3:o=brs b p none (outer p n):=e2;rw [e3];exact q _ (Ext.new hr)
  | cons _ _=>simp at e
 ·rintro x rest ρ μ' ⟨rfl,ks,o,dd,e,rfl,hk,e2⟩;cases ks with
  | nil=>simp at e
  | cons k ks =>
   simp only [map_cons,List.cons.injEq] at e;obtain ⟨rfl,rfl⟩:=e;have:=hk k (mem_cons_self ..);simp only [gn3,set3,wa0,xa0,v3,set_cons_succ,set_cons_zero,getI,nil3];refine ⟨y,p,k,rfl,hy,hp,this.1,by omega,b1,b2,λ e he=>⟨e,rep p k,b,rfl,he,ze3 hp this.1,o,bfr (rep p k) b,rfl,rfl,ks,_,_,rfl,rfl,λ x hx=>hk x (mem_cons_of_mem _ hx),e2⟩⟩
noncomputable def yj2 (j:Nat):Sp3:=λ ds μ Q=>∃ w,ds=[.tup (encs w)] /\ deps w < j /\ deps w<=4 /\ cnts w<=60 /\ oks w /\ ∀ μ',Ext μ μ'->Q (encB (bxa w none st)) μ'
noncomputable def uk3 (j:Nat):Sp3:=λ ds μ Q=>∃ d,ds=[enc d] /\ dep d < j /\ dep d<=4 /\ cnt d<=60 /\ okd d /\ ∀ μ',Ext μ μ'->Q (encB (bxd d)) μ'
theorem yx4 (j:Nat):RdQ (uk3 (j + 1)) (zi3 tb3 (spPb 5) (yj2 j)) wz2:=by
 rintro ds μ Q ⟨d,rfl,h1,h2,h2',h3,q⟩;cases d <;> simp only [zi3,seq3,ifs3,b3,o3,v3,ua0,enc,map_cons,map_nil,wz2,length_cons,length_nil,Nat.zero_add,Nat.reduceSub,List.replicate,cons_append,nil_append,getI,c3,ixR,atI1,ret3,sa0,atI0,tup3,xa0,nil3,Nat.reduceAdd,wa0,tg1,kn_go_times,decide_eq_true_eq,if_false,if_true,wq1,kn_jump_times,kn_jump_go,kn_turn_times,kn_turn_go,atI2,kn_times_go]
 case go n =>
  have:=q μ (Ext.refl _);simp only [bxd] at this;split
  ·next e=>rw [if_pos e] at this; exact this
  ·next e=>rw [if_neg e] at this; trivial
 case jump n =>
  have:=q μ (Ext.refl _);simp only [bxd] at this;split <;> exact this
 case turn n =>
  have:=q μ (Ext.refl _);simp only [bxd] at this;split <;> exact this
 case times n w =>
  simp only [okd,dep,cnt,bxd] at h1 h2 h2' h3 q;split
  ·next e=>have:=q μ (Ext.refl _); rw [if_pos e] at this; exact this
  ·next e =>
   obtain ⟨b1,b2⟩:=sc3 (ys2 w h3.2) [2] [2];refine ⟨w,rfl,by omega,by omega,by omega,h3.2,λ μ1 e1=>⟨w,rfl,by omega,by omega,by omega,h3.2,λ z hz=>⟨_,z,pb w,n,rfl,hz,ym0 w,by omega,h3.1.2,b1,b2,λ μ2 e2=>?_⟩⟩⟩;have:=q μ2 (e1.trans e2)
   simp_all
noncomputable def BwI (w:List Dd) (μ:Mu) (l:List D) (ρ:St3) (μ':Mu):Prop:=Ext μ μ' /\ ∃ (r:List Dd) (o:Option Bx) (p:Pen) (y:D) (dd:Option D),l=encs r /\ isP y p /\ ρ=[some (.tup (encs w)),some (encB o),some y,dd] /\ oks r /\ deps r<=deps w /\ cnts r<=cnts w /\ Hd p /\ bxa r o p=bxa w none st
theorem zt4 (j:Nat):RdQ (yj2 j) (wh3 sk3 tk3 (uk3 j) xe1 (spPd 5)) vy2:=by
 rintro ds μ Q ⟨w,rfl,h1,h2,h2',h3,q⟩;simp only [wh3,seq3,set3,c3,for3,is3,v3,ua0,map_cons,map_nil,vy2,length_cons,length_nil,Nat.zero_add,Nat.reduceAdd,Nat.reduceSub,List.replicate,cons_append,nil_append,set_cons_succ,set_cons_zero,getI];refine sd0 (BwI w μ) ?_ (λ _ _ _ _=>trivial) ?_ ?_
 ·exact ⟨Ext.refl _,w,none,st,_,none,rfl,.inr rfl,rfl,h3,Nat.le_refl _,Nat.le_refl _,zr0,rfl⟩
 ·rintro ρ μ' ⟨ex,r,o,p,y,dd,e,hy,rfl,_,_,_,_,e2⟩;cases r with
  | nil =>
   simp only [bxa] at e2;simp only [ret3,v3,getI]
   simp_all
  | cons _ _=>simp [encs] at e
 ·rintro x rest ρ μ' ⟨ex,r,o,p,y,dd,e,hy,rfl,ok,dp,cn,hp,e2⟩;cases r with
  | nil=>simp [encs] at e
  | cons d r =>
   simp only [encs,List.cons.injEq] at e;obtain ⟨rfl,rfl⟩:=e;simp only [oks,deps,cnts,bxa] at ok dp cn e2;simp only [gn3,seq3,set3,wa0,xa0,v3,set_cons_succ,set_cons_zero,getI,nil3];refine ⟨d,rfl,by omega,by omega,by omega,ok.1,λ μ1 e1=>⟨y,p,bxd d,rfl,hy,hp,o,bfr p (bxd d),rfl,?_⟩⟩;exact ⟨d,rfl,by omega,by omega,by omega,ok.1,λ e he=>⟨y,e,p,pd d,rfl,hy,he,hp,ex.trans e1,r,_,_,_,_,rfl,.inl rfl,rfl,ok.2,by omega,by omega,ul0 _ _,e2⟩⟩
noncomputable def uv1:Sp3:=λ ds μ Q=>∃ w,ds=[.tup (encs w)] /\ Wd w /\ ∀ μ',Ext μ μ'->Q (encB (bxa w none st)) μ'
theorem xz4:RdQ uv1 (yj3 xj1 (yj2 5)) za3:=by
 rintro ds μ Q ⟨w,rfl,⟨h1,h2,h3⟩,q⟩;simp only [yj3,seq3,vd0,wa0,xa0,v3,ua0,map_cons,map_nil,za3,length_cons,length_nil,Nat.zero_add,Nat.reduceSub,List.replicate,cons_append,nil_append,getI,nil3,ret3];exact ⟨w,rfl,⟨h1,h2,h3⟩,w,rfl,by omega,by omega,by omega,h1,q⟩
noncomputable abbrev St1:=Kd × List Int × Int
inductive Wlk:List Dd->List St1->List Dd->Prop
 | nil {w:List Dd}:Wlk w [] w
 | cons {w v u:List Dd} {k:Kd} {way:List Int} {i:Int} {r:List St1}:way.length < 6->aft way w k i=some v->(∀ d,k=.inn d->dep d<=10)->Wd v->Wlk v r u->Wlk w ((k,way,i) :: r) u
noncomputable def xd2 (s:St1):D:=vf0 s.1 s.2.1 s.2.2
noncomputable def yh4:Sp3:=λ ds μ Q=>∃ (g:Addr) (w v:List Dd) (ss:List St1),ds=[.tup (encs w),.ref g] /\ μ g=some (.lst (ss.map xd2)) /\ Wd w /\ Wlk w ss v /\ Q (.tup (encs v)) μ
theorem vt4:RdQ yh4 (vc4 xj1 spWb) wx3:=by
 rintro ds μ Q ⟨g,w,v,ss,rfl,hg,hw,hk,q⟩;refine ⟨w,rfl,hw,?_⟩;show (match μ g with | some (.lst l)=>_ | _=>False);rw [hg];refine sd0 (λ l ρ μ'=>μ'=μ /\ ∃ (c:List Dd) (r:List St1) (o:Option D),l=r.map xd2 /\ ρ=[some (.tup (encs w)),some (.ref g),some (.tup (encs c)),o] /\ Wd c /\ Wlk c r v) ⟨rfl,w,ss,none,rfl,rfl,hw,hk⟩ ?_ ?_ ?_
 ·simp_all
 ·rintro ρ μ' ⟨rfl,c,r,o,e,rfl,hc,hk⟩;cases r with
  | nil=>cases hk; exact q
  | cons _ _=>cases e
 ·rintro x rest ρ μ' ⟨rfl,c,r,o,e,rfl,hc,hk⟩;cases hk with
  | nil=>cases e
  | cons h1 h2 h3 h4 h5 =>
   simp only [map_cons,List.cons.injEq] at e;obtain ⟨rfl,rfl⟩:=e;exact ⟨c,_,_,_,_,rfl,h1,h2,by have:=hc.2.1; omega,by have:=hc.2.2; omega,h3,h4,rfl,_,_,_,rfl,rfl,h4,h5⟩
theorem wu1:∀ (a b:List Dd) (p:Pen),Hd p->oks a->wk p (a ++ b)=wk p a ++ wk (led p (pb a)) b
 | [],b,p,hp,_=>by simp only [nil_append,wk,pb,sj0 hp]
 | d :: r,b,p,hp,h=>by
  simp only [oks] at h;simp only [cons_append,wk,pb,append_assoc];rw [wu1 r b _ (ul0 _ _) h.2,tn0 _ hp (sw0 d h.1)]
theorem ln_mv {p:Pen} (hp:Hd p) (n:Nat):ln p n=((List.range n).map λ (k:Nat)=>((k:Int),(0:Int),(0:Int))).map (mvS p):=by
 unfold ln;rw [map_map];apply map_congr_left;intro i _;obtain ⟨x,y,h⟩:=p;unfold Hd at hp;dsimp only at hp;rcases hp with rfl | rfl | rfl | rfl <;> simp [btw,mnP,ltP,pt,mvS,cs,sn] <;> (try split) <;> simp <;> omega
theorem ta3 {u:List Dd} (h:oks u) (l:List Stk) (hl:∀ q,Hd q->wk q u=l.map (mvS q)) {p:Pen} (hp:Hd p):∀ n,wk p (List.replicate n u).flatten=(tms l (pb u) n).map (mvS p)
 | 0=>by simp [wk,tms]
 | n + 1=>by
  rw [List.replicate_succ',List.flatten_append,wu1 _ _ p hp (wa1 u h n).1,ta3 h l hl hp n,(wa1 u h n).2,vy0,map_append];simp only [flatten_cons,List.flatten_nil,append_nil];rw [hl _ (ul0 _ _),ve0 hp (zq0 _ _)]
mutual
theorem wk_d:∀ d,okd d->∀ p,Hd p->wk p (unr d)=(strk d).map (mvS p)
 | .go n,h,p,hp=>by simp only [unr,wk,sg,append_nil,strk]; exact ln_mv hp _
 | .jump n,h,p,hp=>by rfl
 | .turn n,h,p,hp=>by rfl
 | .times n w,h,p,hp=>by
  simp only [okd] at h;have e:=zt0 w h.2;simp only [unr,strk];rw [ta3 e.1 (zd0 w) (λ q hq=>wk_w w h.2 q hq) hp,e.2]
theorem wk_w:∀ w,oks w->∀ p,Hd p->wk p (unrs w)=(zd0 w).map (mvS p)
 | [],_,p,hp=>by rfl
 | d :: r,h,p,hp=>by
  simp only [oks] at h;have e:=yb3 d h.1;simp only [unrs,zd0,map_append];rw [wu1 _ _ p hp e.1,wk_d d h.1 p hp,e.2,wk_w r h.2 _ (ul0 _ _),ve0 hp (sw0 d h.1)]
end
noncomputable def Alk (b:Prop) (w v:List Dd):Prop:=pb w=pb v /\ (∀ s,s ∈ zd0 w ↔ s ∈ zd0 v) /\ (b->sks w=sks v)
theorem Alk.rfl {b:Prop} {w:List Dd}:Alk b w w:=⟨Eq.refl _,λ _=>Iff.rfl,λ _=>Eq.refl _⟩
theorem Alk.symm {b:Prop} {w v:List Dd} (h:Alk b w v):Alk b v w:=⟨h.1.symm,λ s=>(h.2.1 s).symm,λ c=>(h.2.2 c).symm⟩
theorem Alk.trans {b:Prop} {w v u:List Dd} (h:Alk b w v) (k:Alk b v u):Alk b w u:=⟨h.1.trans k.1,λ s=>(h.2.1 s).trans (k.2.1 s),λ c=>(h.2.2 c).trans (k.2.2 c)⟩
variable {w v:List Dd}
theorem Alk.mid {b:Prop} {a c:List Dd} (ha:oks a) (hw:oks w) (hv:oks v) (h:Alk b w v):Alk b (a ++ w ++ c) (a ++ v ++ c):=by
 have h1:=(xd0 a w).mpr ⟨ha,hw⟩;have h2:=(xd0 a v).mpr ⟨ha,hv⟩;have e:pb (a ++ w)=pb (a ++ v):=by rw [vg0 _ _ ha,vg0 _ _ ha,h.1]
 refine ⟨by rw [vg0 _ _ h1,vg0 _ _ h2,e],λ s=>?_,λ z=>by simp only [tk0,h.2.2 z]⟩;rw [yf0 _ _ h1,yf0 _ _ h2,e,yf0 _ _ ha,yf0 _ _ ha];simp only [mem_append,mem_map,h.2.1]
theorem Alk.tms {b:Prop} {w v:List Dd} (n:Int) (h:Alk b w v):Alk b [.times n w] [.times n v]:=by
 refine ⟨by simp only [pb,pd,h.1],λ s=>?_,λ z=>by simp only [sks,sk,h.2.2 z]⟩;simp only [zd0,strk,Mw.tms,h.1,map_nil,append_nil,List.mem_flatMap,mem_map,h.2.1]
theorem xf0 {b:Prop} (h1:pb w=pb v) (h2:zd0 w=zd0 v) (h3:sks w=sks v):Alk b w v:=⟨h1,λ s=>by rw [h2],λ _=>h3⟩
theorem go_go (a b:Nat):((List.range (a + b)).map λ (k:Nat)=>((k:Int),(0:Int),(0:Int)))=((List.range a).map λ (k:Nat)=>((k:Int),(0:Int),(0:Int))) ++ ((List.range b).map λ (k:Nat)=>((k:Int),(0:Int),(0:Int))).map (mvS ((a:Int),0,0)):=by
 simp [List.range_add,map_map,Function.comp_def,mvS]
theorem xv1 {l:List Stk} {p:Pen} (hp:Hd p) (a:Nat):∀ b,tms l p (a + b)=tms l p a ++ (tms l p b).map (mvS (pw p a))
 | 0=>by simp [tms]
 | b + 1=>by rw [<- Nat.add_assoc,vy0,xv1 hp a b,vy0,map_append,append_assoc,tx0 hp,ve0 (zq0 _ _) (zq0 _ _)]
variable {d e:Dd}
theorem zg3 {b:Prop} {x:Dd} (hd:okd d) (he:okd e) (h:jn d e=some x):Alk b [d,e] [x]:=by
 cases d <;> cases e <;> simp only [jn] at h <;> first | (cases h; done) | skip
 ·rename_i m n;cases h;simp only [okd] at hd he;refine xf0 (by simp [pb,pd,led,st,cs,sn]) ?_ (by simp [sks,sk]);simp only [zd0,strk,pd,map_nil,append_nil];rw [show (m + n).toNat=m.toNat + n.toNat by omega,go_go,Int.toNat_of_nonneg hd.1]
 ·cases h;exact xf0 (by simp [pb,pd,led,st,cs,sn]) (by simp [zd0,strk]) (by simp [sks,sk])
 ·cases h;exact xf0 (by simp [pb,pd,led,st]) (by simp [zd0,strk]) (by simp [sks,sk])
 ·rename_i m v n v';split at h <;> cases h
  next c =>
  subst c;simp only [okd] at hd he;have hv:=ym0 v;refine xf0 ?_ ?_ ?_
  ·simp only [pb,pd];rw [vn0 hv hd.1.1,vn0 hv he.1.1,vn0 hv [2],show (m + n).toNat=m.toNat + n.toNat by omega,tx0 hv,sj0 (zq0 _ _),sj0 (ul0 _ _)]
  ·simp only [zd0,strk,pd,map_nil,append_nil];rw [vn0 hv hd.1.1,show (m + n).toNat=m.toNat + n.toNat by omega,xv1 hv]
  ·simp only [sks,sk,Int.add_mul]; omega
theorem vg2 {b:Prop} (h:idl d=true):Alk b [d] []:=by
 cases d <;> simp only [idl,decide_eq_true_eq,Bool.or_eq_true,List.isEmpty_iff] at h
 ·subst h; exact xf0 (by rfl) (by simp [zd0,strk]) (by simp [sks,sk])
 ·subst h; exact xf0 (by rfl) (by simp [zd0,strk]) (by simp [sks,sk])
 ·exact xf0 (by simp [pb,pd,led,st,h]) (by simp [zd0,strk]) (by simp [sks,sk])
 ·rename_i n w;rcases h with rfl | rfl
  ·refine xf0 ?_ (by rfl) (by simp [sks,sk]);simp only [pb,pd];rw [vn0 (ym0 _) (Int.le_refl 0)];exact sj0 zr0
  ·refine xf0 ?_ ?_ (by simp [sks,sk])
   ·simp [pb,pd,rep,st,led]
   ·simp [zd0,strk,tms]
theorem wg2 {b:Prop} (w:List Dd):Alk b [.times 1 w] w:=by
 have hv:=ym0 w;refine xf0 ?_ ?_ (by simp [sks,sk])
 ·simp only [pb,pd];rw [vn0 hv (by decide),sj0 (zq0 _ _)];exact yc3 hv
 ·simp [zd0,strk,tms,pw,we0]
theorem zg2 {b:Prop} (hb:¬ b):Alk b [.go n] [.go n,.jump (-n),.go n]:=by
 refine ⟨by simp [pb,pd,led,st,cs,sn]; omega,λ s=>?_,λ z=>absurd z hb⟩;simp only [zd0,strk,pd,map_nil,append_nil,nil_append];rw [<- ve0 (p:=(n,0,0)) (q:=(-n,0,0)) (.inl rfl) (.inl rfl),show led ((n,0,0):Pen) (-n,0,0)=st by simp [led,st,cs,sn]; omega,we0,mem_append,or_self]
noncomputable def plk:Kd->Prop
 | .once=>False
 | .twice=>False
 | _=>True
variable {k:Kd}
theorem xx3 {b:Prop} {rest:List Dd} {n:Nat} {x:List Dd} (hb:b->plk k) (hr:oks rest) (hx:oks x) (h:chg rest k=some (n,x)):Alk b (rest.take n) x:=by
 cases k with
 | inn d=>simp only [chg] at h; split at h <;> simp at h; next c=>obtain ⟨rfl,rfl⟩:=h; exact (vg2 c).symm
 | close m=>simp only [chg] at h; split at h <;> simp at h; obtain ⟨rfl,rfl⟩:=h; exact (wg2 _).symm
 | out=>cases rest with
  | nil=>simp [chg] at h
  | cons d r=>simp only [chg] at h; split at h <;> simp at h; next c=>obtain ⟨rfl,rfl⟩:=h; exact vg2 c
 | opn =>
  simp only [chg] at h;split at h
  ·split at h <;> simp at h; next c=>subst c; obtain ⟨rfl,rfl⟩:=h; exact wg2 _
  ·cases h
 | twice =>
  simp only [chg] at h;split at h
  ·simp at h; obtain ⟨rfl,rfl⟩:=h; exact zg2 hb
  ·cases h
 | part m=>cases rest with
  | nil=>simp [chg] at h
  | cons d r =>
   simp only [chg,Option.map_eq_some_iff] at h; obtain ⟨⟨d1,d2⟩,hp,e⟩:=h; simp at e; obtain ⟨rfl,rfl⟩:=e;simp only [oks] at hx;refine (zg3 hx.1 hx.2.1 ?_).symm;cases d <;> simp only [prt] at hp
   ·split at hp <;> simp at hp; obtain ⟨rfl,rfl⟩:=hp; simp [jn]; omega
   ·simp at hp; obtain ⟨rfl,rfl⟩:=hp; simp [jn]; omega
   ·simp at hp; obtain ⟨rfl,rfl⟩:=hp; simp [jn]; omega
   ·split at hp <;> simp at hp; obtain ⟨rfl,rfl⟩:=hp; simp [jn]; omega
 | once =>
  simp only [chg] at h;split at h
  ·split at h <;> simp at h; next c=>obtain ⟨rfl,rfl⟩:=c; obtain ⟨rfl,rfl⟩:=h; exact (zg2 hb).symm
  ·cases h
 | join =>
  simp only [chg] at h;split at h
  ·next d e r =>
   simp only [Option.map_eq_some_iff] at h; obtain ⟨p,hp,e'⟩:=h; simp at e'; obtain ⟨rfl,rfl⟩:=e';simp only [oks] at hr;exact zg3 hr.1 hr.2.1 hp
  ·cases h
theorem uz1 (h:oks w) (n:Nat):oks (w.take n) /\ oks (w.drop n):=by
 rw [<- take_append_drop n w] at h;exact (xd0 _ _).mp h
theorem ug2 {b:Prop} {k:Kd} (hb:b->plk k):∀ {way:List Int} {w:List Dd} {i:Int} {v:List Dd},oks w->oks v->aft way w k i=some v->Alk b w v
 | [],w,i,v,hw,hv,h=>by
  simp only [aft,cha] at h;split at h
  ·obtain ⟨⟨n,x⟩,hc,rfl⟩:=Option.map_eq_some_iff.mp h;have o1:=uz1 hw i.toNat;have o2:=(xd0 _ _).mp ((xd0 _ _).mp hv).1;have m:=Alk.mid (c:=w.drop (i.toNat + n)) o1.1 (uz1 o1.2 n).1 o2.2 (xx3 hb o1.2 o2.2 hc);have e:w.take i.toNat ++ (w.drop i.toNat).take n ++ w.drop (i.toNat + n)=w:=by rw [append_assoc,<- List.drop_drop,take_append_drop,take_append_drop]
   simp_all
  ·cases h
 | a :: way,w,i,v,hw,hv,h=>by
  simp only [aft] at h;split at h
  ·split at h
   ·next n u hu =>
    obtain ⟨v',hv',rfl⟩:=Option.map_eq_some_iff.mp h;have o1:=uz1 hw a.toNat;have o2:=(xd0 _ _).mp ((xd0 _ _).mp hv).1
    have ed:w.drop a.toNat=.times n u :: w.drop (a.toNat + 1):=by
     have la:a.toNat < w.length:=by
      rcases Nat.lt_or_ge a.toNat w.length with z | z
      ·exact z
      simp_all
     rw [getElem?_eq_getElem la] at hu;rw [<- Option.some.inj hu,List.getElem_cons_drop_succ_eq_drop]
    have o3':=o1.2;rw [ed] at o3';simp only [oks,okd] at o3' o2;have m:=Alk.mid (a:=w.take a.toNat) (c:=w.drop (a.toNat + 1)) o1.1 (w:=[.times n u]) (v:=[.times n v']) (by simp only [oks,okd]; simp_all) (by simp only [oks,okd]; exact o2.2) ((ug2 hb o3'.1.2 o2.2.1.2 hv').tms n)
    rwa [append_assoc,List.singleton_append,<- ed,take_append_drop] at m
   ·cases h
  ·cases h
variable {ss:List St1}
theorem yg2 {b:Prop} (h:Wlk w ss v) (hw:Wd w) (hb:b->∀ s ∈ ss,plk s.1):Alk b w v:=by
 induction h with
 | nil=>exact Alk.rfl
 | cons h1 h2 h3 h4 h5 ih=>exact (ug2 (λ z=>hb z _ (mem_cons_self ..)) hw.1 h4.1 h2).trans (ih h4 λ z s hs=>hb z s (mem_cons_of_mem _ hs))
theorem yx3 {b:Prop} (h:Alk b w v) (hw:oks w) (hv:oks v):bxa w none st=bxa v none st :=
 ((sv0 w hw).congr h.2.1).unique (sv0 v hv)
theorem sw3 {b:Prop} {us:List T3} (h:Alk b w v) (hw:oks w) (hv:oks v) (hp:IsPic (wk st (unrs w)) us):IsPic (wk st (unrs v)) us:=by
 rw [wk_w w hw _ zr0,we0] at hp;rw [wk_w v hv _ zr0,we0];exact ⟨hp.1,hp.2.1,λ x=>(hp.2.2 x).trans (h.2.1 x)⟩
noncomputable def spLI:Sp3:=λ ds μ Q=>∃ d,ds=[enc d] /\ dep d<=20 /\ Q (.bl (idl d)) μ
theorem rd_q5:RdQ spLI t_q5 N_q5:=by
 rintro ds μ Q ⟨d,rfl,hd,q⟩;cases d with
 | go n =>
  simp only [idl] at q;by_cases c:n=0
  ·show if (decide (n=0))=true then _ else _
   simp_all
  ·show if (decide (n=0))=true then _ else _;rw [if_neg (λ h=>c (of_decide_eq_true h))];rw [decide_eq_false c] at q;exact q
 | jump n =>
  simp only [idl] at q;by_cases c:n=0
  ·show if (decide (n=0))=true then _ else _
   simp_all
  ·show if (decide (n=0))=true then _ else _;rw [if_neg (λ h=>c (of_decide_eq_true h))];rw [decide_eq_false c] at q;exact q
 | turn n=>exact ⟨show (0:Int) < 4 by decide,q⟩
 | times n w =>
  simp only [dep] at hd;simp only [idl] at q;by_cases c:n=0
  ·show if (decide (n=0))=true then _ else _
   simp_all
  ·show if (decide (n=0))=true then _ else _;rw [if_neg (λ h=>c (of_decide_eq_true h))];rw [decide_eq_false c,Bool.false_or] at q;refine ⟨Nat.zero_le _,?_⟩;show eqR (.tup (encs w)) (.tup (encs [])) μ Q;refine eq_W [2] (by simp [deps]) λ b hb=>?_;rw [isE w hb];exact q
noncomputable def encC:Option (Nat × List Dd)->D
 | none=>.non
 | some (n,x)=>.tup [.int n,.tup (encs x)]
variable {c:TT3} {D':Ends3} {ρ:St3} {μ:Mu}
theorem ye0 {t r:TS3} (hc:∀ K:Bool->Mu->Prop,K true μ->c ρ μ K) (k:t { D' with nx:=r D' } ρ μ):seq3 (ifs3 c t sa0) r D' ρ μ:=hc _ k
theorem uw3 (a b z:Str):([PyData.str a,.str b].any λ e=>PyData.eqv e (.str z))=(decide (a=z) || decide (b=z)):=by rw [Bool.eq_iff_iff]; simp [PyData.eqv]
variable {p:Addr} {z:Str} {K:VK3}
theorem ye3 {a b:Str} (ha:PyData.strOk a=true) (hb:PyData.strOk b=true) (hz:PyData.strOk z=true) (hp:μ p=some (.lst [.str a,.str b])) {c:Bool} (hc:(decide (a=z) || decide (b=z))=c) (k:K (.bl c) μ):inR false (.str z) (.ref p) μ K:=by
 show inD false (.str z) (.ref p) μ K;have d1:datM μ (.str z)=some (.str z):=by simp only [datM,dat,hz,if_true]
 have d2:datM μ (.ref p)=some (.list [.str a,.str b]):=by simp only [datM,hp,dats,dat,ha,hb,if_true]
 unfold inD;simp only [d1,d2];refine ⟨⟨by simp [PyData.depth],by simp [PyData.depth,PyData.depthAll]⟩,?_⟩;rw [uw3,hc];exact k
theorem tw2 (n:Int) (r:List Dd) [Decidable (r.take 2=[.jump (0 - n),.go n])]:chg (.go n :: r) .once=if r.take 2=[.jump (0 - n),.go n] then some (3,[.go n]) else none:=by
 rcases r with _ | ⟨d,_ | ⟨e,r⟩⟩
 ·simp [chg]
 ·simp [chg]
 ·cases d <;> cases e <;> simp [chg]
  all_goals (split <;> split <;> simp_all <;> omega)
noncomputable def spLC:Sp3:=λ ds μ Q=>∃ (w:List Dd) (i:Int) (k:Kd) (way:List Int) (i0:Int),ds=[.tup (encs w),.int i,vf0 k way i0] /\ 0<=i /\ i<=w.length /\ deps w<=10 /\ (∀ d,k=.inn d->dep d<=10) /\ ∀ μ',Ext μ μ'->Q (encC (chg (w.drop i.toNat) k)) μ'
theorem wk0:∀ (w:List Dd) (n:Nat),deps (w.drop n)<=deps w
 | [],n=>by simp
 | d :: r,0=>by simp
 | d :: r,n + 1=>by have:=wk0 r n; simp only [List.drop_succ_cons,deps]; omega
theorem zk0:∀ (w:List Dd) (n:Nat),deps (w.take n)<=deps w
 | [],n=>by simp
 | d :: r,0=>by simp [deps]
 | d :: r,n + 1=>by have:=zk0 r n; simp only [List.take_succ_cons,deps]; omega
noncomputable def kdn:Dd->Str
 | .go _ => "go"
 | .jump _ => "jump"
 | .turn _ => "turn"
 | .times _ _ => "times"
theorem ix0 (e:Dd) (k:K (.str (kdn e)) μ):ixR (enc e) (.int 0) μ K:=by cases e <;> exact k
theorem ix1 (e:Dd) (k:K (.int (num e)) μ):ixR (enc e) (.int 1) μ K:=by cases e <;> exact k
variable {x:D} {Q:VK3}
theorem o3_l {r:R3} {a b:TE3} (ha:∀ K:VK3,K x μ->a ρ μ K) (k:b ρ μ λ y μ2=>r x y μ2 Q):o3 r a b ρ μ Q:=ha _ k
theorem o3_2 {r:R3} {a b:TE3} {y:D} (ha:∀ K:VK3,K x μ->a ρ μ K) (hb:∀ K:VK3,K y μ->b ρ μ K) (k:r x y μ Q):o3 r a b ρ μ Q:=ha _ (hb _ k)
theorem yj4 {r:D->Option Int->Option Int->Mu->VK3->Prop} {te:TE3} {tl th:TO3} (ha:∀ K:VK3,K x μ->te ρ μ K) (k:tl ρ μ λ l μ2=>th ρ μ2 λ u μ3=>r x l u μ3 Q):sl3 r te tl th ρ μ Q:=ha _ k
variable {t:TE3}
theorem or_t {u:TE3} {K:Bool->Mu->Prop} (h1:∀ K:VK3,K (.bl true) μ->t ρ μ K) (k:K true μ):or3 (b3 t) (b3 u) ρ μ K:=h1 _ k
theorem or_ft {u:TE3} {K:Bool->Mu->Prop} (h1:∀ K:VK3,K (.bl false) μ->t ρ μ K) (h2:∀ K:VK3,K (.bl true) μ->u ρ μ K) (k:K true μ):or3 (b3 t) (b3 u) ρ μ K:=h1 _ (h2 _ k)
noncomputable def tl2:Dd->List D
 | .times _ v=>[.tup (encs v)]
 | _=>[]
theorem sl2 (e:Dd) (k:K (.tup (tl2 e)) μ):slR (enc e) (some 2) none μ K:=by cases e <;> exact k
variable {u:TA3}
theorem yb0 {a:TE3} {Q:List D->Mu->Prop} (ha:∀ K:VK3,K x μ->a ρ μ K) (k:u ρ μ λ ds μ2=>Q (x :: ds) μ2):xa0 a u ρ μ Q:=ha _ k
variable {ds:List D}
theorem uj0 (ha:∀ K:List D->Mu->Prop,K ds μ->u ρ μ K) (l:ds.length<=sizeLine) (k:Q (.tup ds) μ):tup3 u ρ μ Q:=ha _ ⟨l,k⟩
theorem ut0 {t r:TS3} (hc:c ρ μ λ b μ1=>if b=true then t { D' with nx:=r D' } ρ μ1 else r D' ρ μ1):seq3 (ifs3 c t sa0) r D' ρ μ:=hc
theorem yl3 (d:Dd):PyData.strOk (kdn d)=true:=by cases d <;> first | exact vm1 | exact vz0 | exact wz0 | exact xi0
noncomputable def cc (d:Dd):Bool:=decide (("go" : Str)=kdn d) || decide (("times" : Str)=kdn d)
noncomputable def wt (m:Int):Dd->Dd
 | .go _=>.go m
 | .jump _=>.jump m
 | .turn _=>.turn m
 | .times _ v=>.times m v
theorem uj5 (m:Int) (d:Dd):enc (wt m d)=.tup ([.str (kdn d),.int m] ++ tl2 d):=by cases d <;> rfl
theorem vc3 (m:Int) (d:Dd):prt m d=if (cc d && !decide (0<=m /\ m<=num d))=true then none else some (wt m d,wt (num d - m) d):=by
 cases d with
 | go n =>
  have:cc (.go n)=true:=rfl;rw [this,Bool.true_and];show (if 0<=m /\ m<=n then some (Dd.go m,Dd.go (n - m)) else none)=if (!decide (0<=m /\ m<=n))=true then none else some (Dd.go m,Dd.go (n - m));by_cases c:0<=m /\ m<=n
  ·simp_all
  simp [*]
 | jump n=>rfl
 | turn n=>rfl
 | times n v =>
  have:cc (.times n v)=true:=rfl;rw [this,Bool.true_and];show (if 0<=m /\ m<=n then some (Dd.times m v,Dd.times (n - m) v) else none)=if (!decide (0<=m /\ m<=n))=true then none else some (Dd.times m v,Dd.times (n - m) v);by_cases c:0<=m /\ m<=n
  ·simp_all
  simp [*]
variable {tb tc:TE3} {m:Int}
theorem nch (hb:∀ K:VK3,K (.int m) μ->tb ρ μ K) (hc:∀ K:VK3,K (.int n) μ->tc ρ μ K) {K:Bool->Mu->Prop} (k:K (!decide (0<=m /\ m<=n)) μ):not3 (b3 (ch3 leR leR [3] tb tc)) ρ μ K:=by
 simp only [not3,b3,ch3,c3];refine hb _ ?_;simp only [leR,zh0];by_cases c1:0<=m
 ·simp_all
 ·rw [decide_eq_false (λ h=>c1 h.1)] at k;simp only [decide_eq_false c1];exact k
theorem in_y {a:TE3} {K:Bool->Mu->Prop} (ha:∀ μ (K:VK3),K (.str (kdn d)) μ->a ρ μ K) (hb:∀ μ (K:VK3),K (.int m) μ->tb ρ μ K) (hc:∀ μ (K:VK3),K (.int (num d)) μ->tc ρ μ K)
    (k:∀ p,μ p=none->K (cc d && !decide (0<=m /\ m<=num d)) (updM μ p (.lst [.str "go",.str "times"]))):and3 (b3 (o3 (inR false) a (lst3 (xa0 (c3 (.str "go")) (xa0 (c3 (.str "times")) nil3))))) (not3 (b3 (ch3 leR leR [3] tb tc))) ρ μ K:=by
 unfold and3 b3 o3;refine ha _ _ ?_;refine ⟨show 2<=sizeLine by decide,λ p hp=>ye3 (c:=cc d) vm1 xi0 (yl3 d) ya0 rfl ?_⟩;have x:=k p hp;cases e:cc d with
 | true=>rw [e] at x; exact nch (hb _) (hc _) x
 | false=>simp_all
theorem xj5 (s t:Str) (n m:Int):PyData.eqv (.tuple [.str s,.int n]) (.tuple [.str t,.int m])=(decide (s=t) && decide (n=m)):=by rw [Bool.eq_iff_iff]; simp [PyData.eqv,PyData.eqvAll]
noncomputable abbrev ρC (w:List Dd) (i:Int) (k:Kd) (way:List Int) (i0:Int) (rest:List Dd) (o1 o2:Option D):St3:=[some (.tup (encs w)),some (.int i),some (vf0 k way i0),some (.tup (encs rest)),some (.str (kn k)),o1,o2]
theorem rd_q1:RdQ spLC (t_q1 spLI) N_q1:=by
 rintro ds μ Q ⟨w,i,k,way,i0,rfl,h0,h1,hw,hk,q⟩;have z2:2<=sizeLine:=by decide
 have z1:1<=sizeLine:=by decide
 have z3:3<=sizeLine:=by decide
 have q0:=q μ (Ext.refl μ);show vj0 spLI { nx:=λ _ μ'=>Q .non μ',rt:=Q } [some (.tup (encs w)),some (.int i),some (vf0 k way i0),some (.tup (cut3 (encs w) (some i) none)),none,none,none] μ;have hr:=wk0 w i.toNat;rw [yj0 _ h0 (by rw [va0]; exact h1),wg0];generalize w.drop i.toNat=rest at q q0 hr ⊢;have ek:∀ K:VK3,K (.str (kn k)) μ->ixR (vf0 k way i0) (.int 0) μ K:=λ K kk=>sf0 atI0 kk;refine ek (λ d μ1=>tf0 spLI { nx:=λ _ μ'=>Q .non μ',rt:=Q } [some (.tup (encs w)),some (.int i),some (vf0 k way i0),some (.tup (encs rest)),some d,none,none] μ1) ?_;show tf0 spLI { nx:=λ _ μ'=>Q .non μ',rt:=Q } (ρC w i k way i0 rest none none) μ
 have mid:(∀ m,k ≠ .close m)->(∀ d,k ≠ .inn d)->(∀ d r,rest=d :: r->uf0 spLI { nx:=λ _ μ'=>Q .non μ',rt:=Q } (ρC w i k way i0 (d :: r) (some (enc d)) none) μ)->wj0 spLI { nx:=λ _ μ'=>Q .non μ',rt:=Q } (ρC w i k way i0 rest none none) μ:=λ n1 n2 go=>by
  refine ⟨Nat.zero_le _,?_⟩;show eqR (.tup (encs rest)) (.tup (encs [])) μ _;refine eq_W [2] (by simp [deps]) λ b hb=>?_;cases rest with
  | nil =>
   rw [hb.mpr rfl]
   have e:encC (chg [] k)=.non:=by
    cases k with
    | close m=>simp_all
    | inn d=>simp_all
    | _=>rfl
   rw [e] at q0;exact q0
  | cons d r =>
   have:b=false:=by simp_all
   subst this;exact sf0 (K:=λ d' μ1=>uf0 spLI { nx:=λ _ μ'=>Q .non μ',rt:=Q } (ρC w i k way i0 (d :: r) (some d') none) μ1) atI0 (go d r rfl)
 cases k with
 | inn d =>
  refine ye0 (λ K kk=>kk) ?_;refine ⟨d,rfl,by have:=hk d rfl; omega,?_⟩;simp only [chg] at q0;show if idl d=true then _ else _;by_cases c:idl d=true
  ·rw [if_pos c] at q0 ⊢;trivial
  ·rw [if_neg c] at q0 ⊢;exact q0
 | close m =>
  refine zb0 (λ K kk=>kk) ?_;refine ye0 (λ K kk=>kk) ?_;simp only [chg] at q0;by_cases c1:m < 0
  ·rw [if_neg [2]] at q0;show if decide (m < 0)=true then _ else _;rw [if_pos (decide_eq_true c1)];exact q0
  ·show if decide (m < 0)=true then _ else _;rw [if_neg (λ h=>c1 (of_decide_eq_true h))];by_cases c2:(rest.length:Int) < m
   ·rw [if_neg [2]] at q0;show if decide (((encs rest).length:Int) < m)=true then _ else _;rw [if_pos (decide_eq_true (by rw [va0]; exact c2))];exact q0
   ·rw [if_pos [2]] at q0;show if decide (((encs rest).length:Int) < m)=true then _ else _;rw [if_neg (λ h=>c2 (by have:=of_decide_eq_true h; rw [va0] at this; exact this))];refine ⟨z3,z1,z2,?_⟩;show Q (.tup [.int m,.tup [.tup [.str "times",.int 1,.tup (cut3 (encs rest) none (some m))]]]) μ;rw [ts0 _ [2] (by rw [va0]; omega),tg0];simp only [encC,encs,enc] at q0;rw [show ((m.toNat:Nat):Int)=m by omega] at q0;exact q0
 | out =>
  refine zb0 (λ K kk=>kk) (zb0 (λ K kk=>kk) (mid (by simp) (by simp) λ d r e=>?_));subst e;refine ye0 (λ K kk=>kk) ?_;simp only [deps] at hr;refine ⟨d,rfl,by omega,?_⟩;simp only [chg] at q0;show if idl d=true then _ else _;by_cases c:idl d=true
  ·rw [if_pos c] at q0 ⊢;trivial
  ·rw [if_neg c] at q0 ⊢;exact q0
 | opn =>
  refine zb0 (λ K kk=>kk) (zb0 (λ K kk=>kk) (mid (by simp) (by simp) λ d r e=>?_));subst e;refine zb0 (λ K kk=>kk) (ye0 (λ K kk=>kk) ?_)
  have ed:∀ (s:Str) (n:Int) (b:Bool),PyData.strOk s=true->b=(decide (s = "times") && decide (n=1))->∀ K:VK3,K (.bl b) μ->eqR (.tup [.str s,.int n]) (.tup [.str "times",.int 1]) μ K:=λ s n b hs hb K kk=>by
   have d1:∀ (s:Str) (n:Int),PyData.strOk s=true->datM μ (.tup [.str s,.int n])=some (.tuple [.str s,.int n]):=λ s n h=>by simp only [datM,dat,dats,h,if_true]
   rw [xc1 rfl (d1 s n hs) (d1 "times" 1 xi0) (by simp [PyData.depth,PyData.depthAll]) (by trivial)];rw [xj5,<- hb]; exact kk
  simp only [chg] at q0;cases d with
  | go n=>exact ⟨z2,ed "go" n false vm1 rfl _ q0⟩
  | jump n=>exact ⟨z2,ed "jump" n false vz0 rfl _ q0⟩
  | turn n=>exact ⟨z2,ed "turn" n false wz0 rfl _ q0⟩
  | times n v =>
   by_cases c:n=1
   ·subst c;exact ⟨z2,ed "times" 1 true xi0 rfl _ ⟨z2,q0⟩⟩
   ·simp only [if_neg c] at q0;exact ⟨z2,ed "times" n false xi0 (by simp_all) _ q0⟩
 | twice =>
  refine zb0 (λ K kk=>kk) (zb0 (λ K kk=>kk) (mid (by simp) (by simp) λ d r e=>?_));subst e;refine zb0 (λ K kk=>kk) (zb0 (λ K kk=>kk) (ye0 (λ K kk=>kk) ?_));simp only [chg] at q0;cases d with
  | go n =>
   refine ⟨z2,z3,z2,?_⟩;show Q (.tup [.int 1,.tup [enc (.go n),.tup [.str "jump",.int (0 - n)],enc (.go n)]]) μ;rw [show (0 - n:Int) = -n by omega];exact q0
  | jump n=>exact q0
  | turn n=>exact q0
  | times n v=>exact q0
 | part m =>
  refine zb0 (λ K kk=>kk) (zb0 (λ K kk=>kk) (mid (by simp) (by simp) λ d r e=>?_));subst e;refine zb0 (λ K kk=>kk) (zb0 (λ K kk=>kk) (zb0 (λ K kk=>kk) (ye0 (λ K kk=>kk) ?_)));refine ut0 (in_y (d:=d) (m:=m) (λ μ K k=>ix0 d k) (λ μ K k=>k) (λ μ K k=>ix1 d k) λ p hp=>?_);have x:=q _ (Ext.new (o:=.lst [.str "go",.str "times"]) hp);simp only [chg,vc3] at x;have l1:2 + (tl2 d).length<=sizeLine:=by have:(tl2 d).length<=1:=(by cases d <;> simp [tl2]); omega
  by_cases c:(cc d && !decide (0<=m /\ m<=num d))=true
  ·rw [if_pos c] at x ⊢;exact x
  ·rw [if_neg c] at x ⊢;simp only [Option.map_some,encC,encs,uj5] at x
   exact uj0 (ds:=[D.int 1,D.tup [D.tup ([D.str (kdn d),D.int m] ++ tl2 d),D.tup ([D.str (kdn d),D.int (num d - m)] ++ tl2 d)]]) (λ Q k=>yb0 (x:=D.int 1) (λ K k=>k) (yb0 (x:=D.tup [D.tup ([D.str (kdn d),D.int m] ++ tl2 d),D.tup ([D.str (kdn d),D.int (num d - m)] ++ tl2 d)])
    (λ K k=>uj0 (ds:=[D.tup ([D.str (kdn d),D.int m] ++ tl2 d),D.tup ([D.str (kdn d),D.int (num d - m)] ++ tl2 d)]) (λ Q k=>yb0 (x:=D.tup ([D.str (kdn d),D.int m] ++ tl2 d))
     (λ K k=>o3_2 (x:=D.tup [D.str (kdn d),D.int m]) (y:=D.tup (tl2 d)) (λ K k=>uj0 (ds:=[D.str (kdn d),D.int m]) (λ Q k=>yb0 (λ K k=>ix0 d k) (yb0 (x:=D.int m) (λ K k=>k) k)) z2 k) (λ K k=>sl2 d k) ⟨l1,k⟩)
     (yb0 (x:=D.tup ([D.str (kdn d),D.int (num d - m)] ++ tl2 d))
      (λ K k=>o3_2 (x:=D.tup [D.str (kdn d),D.int (num d - m)]) (y:=D.tup (tl2 d)) (λ K k=>uj0 (ds:=[D.str (kdn d),D.int (num d - m)]) (λ Q k=>yb0 (λ K k=>ix0 d k) (yb0 (x:=D.int (num d - m)) (λ K k=>o3_2 (x:=D.int (num d)) (y:=D.int m) (λ K k=>ix1 d k) (λ K k=>k) k) k)) z2 k) (λ K k=>sl2 d k) ⟨l1,k⟩) k)) z2 k) k)) z2 x
 | once =>
  refine zb0 (λ K kk=>kk) (zb0 (λ K kk=>kk) (mid (by simp) (by simp) λ d r e=>?_));subst e;refine zb0 (λ K kk=>kk) (zb0 (λ K kk=>kk) (zb0 (λ K kk=>kk) (zb0 (λ K kk=>kk) (ye0 (λ K kk=>kk) ?_))));simp only [deps] at hr;cases d with
  | go n =>
   haveI:Decidable (r.take 2=[.jump (0 - n),.go n]):=Classical.propDecidable _
   rw [tw2] at q0;refine ⟨z2,z2,?_⟩;show eqR (.tup (cut3 (encs (.go n :: r)) (some 1) (some 3))) (.tup (encs [.jump (0 - n),.go n])) μ _
   have e:cut3 (encs (.go n :: r)) (some 1) (some 3)=encs (r.take 2):=by
    rw [<- tg0];unfold cut3 sIx3;simp only [encs,length_cons]
    simp_all;omega
   rw [e];refine eq_W (by have:=zk0 r 2; omega) (by simp [deps,dep]) λ b hb=>?_;cases b with
   | true =>
    rw [if_pos (hb.mp rfl)] at q0;trivial
   | false =>
    rw [if_neg (λ h=>by cases hb.mpr h)] at q0;exact q0
  | jump n=>exact q0
  | turn n=>exact q0
  | times n v=>exact q0
 | join =>
  refine zb0 (λ K kk=>kk) (zb0 (λ K kk=>kk) (mid (by simp) (by simp) λ d r e=>?_));subst e;refine zb0 (λ K kk=>kk) (zb0 (λ K kk=>kk) (zb0 (λ K kk=>kk) (zb0 (λ K kk=>kk) (zb0 (λ K kk=>kk) ?_))));simp only [deps] at hr;cases r with
  | nil =>
   assumption
  | cons e r =>
  simp only [deps] at hr;have e0:decide ((((encs (d :: e :: r)).length:Nat):Int) < 2)=false:=decide_eq_false (by rw [va0]; simp_all;omega)
  have z:∀ {c:TT3} {K:Bool->Mu->Prop},c (ρC w i .join way i0 (d :: e :: r) (some (enc d)) none) μ K->or3 (b3 (o3 ltR (wa0 lenR (xa0 (v3 3) nil3)) (c3 (.int 2)))) c (ρC w i .join way i0 (d :: e :: r) (some (enc d)) none) μ K:=λ {c K} kk=>by
   assumption
  have t1:∀ K:VK3,K (enc e) μ->o3 ixR (v3 3) [4] (ρC w i .join way i0 (d :: e :: r) (some (enc d)) none) μ K:=λ K kk=>sf0 atI1 kk;have n1:∀ K:VK3,K (.bl (!decide (kdn e=kdn d))) μ->o3 neR (o3 ixR (o3 ixR (v3 3) [4]) [3]) (o3 ixR (v3 5) [3]) (ρC w i .join way i0 (d :: e :: r) (some (enc d)) none) μ K:=λ K kk=>o3_2 (λ K kk=>o3_l t1 (ix0 e kk)) (λ K kk=>ix0 d kk) kk;have n2:∀ K:VK3,neR (.tup (tl2 e)) (.tup (tl2 d)) μ K->o3 neR (sl3 slR (o3 ixR (v3 3) [4]) (pt3 (c3 (.int 2))) np3) (sl3 slR (v3 5) (pt3 (c3 (.int 2))) np3) (ρC w i .join way i0 (d :: e :: r) (some (enc d)) none) μ K:=λ K kk=>o3_2 (λ K kk=>yj4 t1 (sl2 e kk)) (λ K kk=>sl2 d kk) kk
  have lst:Q (.tup [.int 2,D.tup [D.tup ([D.str (kdn d),D.int (num d + num e)] ++ tl2 d)]]) μ->uh0 spLI { nx:=λ _ μ'=>Q .non μ',rt:=Q } (ρC w i .join way i0 (d :: e :: r) (some (enc d)) none) μ:=λ kk =>
   uj0 (ds:=[.int 2,D.tup [D.tup ([D.str (kdn d),D.int (num d + num e)] ++ tl2 d)]]) (λ Q k=>yb0 (x:=.int 2) (λ K k=>k) (yb0 (x:=D.tup [D.tup ([D.str (kdn d),D.int (num d + num e)] ++ tl2 d)]) (λ K k=>uj0 (ds:=[D.tup ([D.str (kdn d),D.int (num d + num e)] ++ tl2 d)]) (λ Q k=>yb0 (x:=D.tup ([D.str (kdn d),D.int (num d + num e)] ++ tl2 d)) (λ K k=>o3_2 (x:=D.tup [D.str (kdn d),D.int (num d + num e)]) (y:=.tup (tl2 d)) (λ K k=>uj0 (ds:=[D.str (kdn d),D.int (num d + num e)]) (λ Q k=>yb0 (λ K k=>ix0 d k) (yb0 (x:=.int (num d + num e)) (λ K k=>o3_2 (x:=.int (num d)) (y:=.int (num e)) (λ K k=>ix1 d k) (λ K k=>o3_l t1 (ix1 e k)) k) k)) z2 k) (λ K k=>sl2 d k) ⟨show 2 + (tl2 d).length<=sizeLine by have:(tl2 d).length<=1:=(by cases d <;> simp [tl2]); omega,k⟩) k) z1 k) k)) z2 kk
  have mm:∀ d e:Dd,kdn e ≠ kdn d->jn d e=none:=λ d e h=>by
   cases d <;> cases e <;> first | rfl | exact absurd rfl h
  by_cases ck:kdn e=kdn d
  ·have ck':(!decide (kdn e=kdn d))=false:=by simp_all
   have same:∀ v,deps v<=20->tl2 e=tl2 d->(tl2 d=[] \/ tl2 d=[.tup (encs v)])->Q (.tup [.int 2,D.tup [D.tup ([D.str (kdn d),D.int (num d + num e)] ++ tl2 d)]]) μ->th0 spLI { nx:=λ _ μ'=>Q .non μ',rt:=Q } (ρC w i .join way i0 (d :: e :: r) (some (enc d)) none) μ:=λ v hv e1 e2 kk =>
    zb0 (λ K kk=>z (xe5 (λ K kk=>n1 K (by rw [ck']; exact kk)) (λ K kk=>n2 K (by rw [e1]; exact xa2 (v:=v) hv e2 kk)) kk)) (lst kk)
   cases d <;> cases e <;> first | (simp only [kdn,kn_jump_go,kn_turn_go,kn_times_go,kn_go_jump,kn_turn_jump,kn_times_jump,kn_go_turn,kn_jump_turn,kn_times_turn,kn_go_times,kn_jump_times,kn_turn_times] at ck; done) | skip
   ·exact same [] (by simp [deps]) rfl (.inl rfl) q0
   ·exact same [] (by simp [deps]) rfl (.inl rfl) q0
   ·exact same [] (by simp [deps]) rfl (.inl rfl) q0
   ·rename_i a v b v';simp only [dep] at hr;simp only [chg,jn] at q0;by_cases c:v=v'
    ·subst c;rw [if_pos rfl] at q0;exact same v [2] rfl (.inr rfl) q0
    ·rw [if_neg c] at q0;refine ye0 (λ K kk=>z (or_ft (λ K kk=>n1 K (by rw [ck']; exact kk)) (λ K kk=>n2 K ?_) kk)) q0;show neR (.tup [.tup (encs v')]) (.tup [.tup (encs v)]) μ _;have dd:∀ v,datM μ (.tup [.tup (encs v)])=some (.tuple [.tuple (pes v)]):=λ v=>by simp only [datM,dat,dats,yh0]
     have dp:∀ v,deps v<=20->(PyData.tuple [.tuple (pes v)]).depth<=64:=λ v h=>by have:=xh0 v; simp only [PyData.depth,PyData.depthAll]; omega
     rw [up0 rfl (dd v') (dd v) (dp v' [2]) (dp v [2])]
     have ev:PyData.eqv (.tuple [.tuple (pes v')]) (.tuple [.tuple (pes v)])=false:=by
      rw [Bool.eq_false_iff];intro h;simp only [PyData.eqv,PyData.eqvAll,Bool.and_true] at h;exact c (wf1 v' v h).symm
     simp_all
  ·have e1:=mm d e ck;have ck':(!decide (kdn e=kdn d))=true:=by simp_all
   simp only [chg,e1] at q0;exact ye0 (λ K kk=>z (or_t (λ K kk=>n1 K (by rw [ck']; exact kk)) kk)) q0
theorem uv3 {α:Type} (x:α) (t:List α):cut3 (x :: t) (some 1) none=t:=by rw [yj0 _ (by decide) (by simp_all;omega)]; rfl
theorem vv3 {α:Type} (x y:α) (t:List α):cut3 (x :: y :: t) (some 2) none=t:=by rw [yj0 _ (by decide) (by simp_all;omega)]; rfl
theorem atN {α:Type} {l:List α} {a:Int} {d:α} (h0:0<=a) (h:l[a.toNat]?=some d):atI l a=some d:=by
 have hl:a.toNat < l.length:=by
  rcases Nat.lt_or_ge a.toNat l.length with z | z
  ·exact z
  simp_all
 unfold atI ixN
 simp_all
theorem yb2 {a:Int} (h0:0<=a) (h:w[a.toNat]?=some d) (k:K (enc d) μ):ixR (.tup (encs w)) (.int a) μ K:=sf0 (atN h0 (at_enc h)) k
theorem zv0:∀ l:List Int,dats (l.map D.int)=some (l.map PyData.int)
 | []=>rfl
 | a :: r=>by simp only [map_cons,dats,dat,zv0 r]
theorem wq0:∀ l:List Int,PyData.depthAll (l.map PyData.int)<=1
 | []=>by trivial
 | a :: r=>by have:=wq0 r; assumption
theorem vd3 (l:List Int) (k:K (.bl (!l.isEmpty)) μ):neR (.tup (l.map D.int)) (.tup []) μ K:=by
 have d1:datM μ (.tup (l.map D.int))=some (.tuple (l.map PyData.int)):=by simp only [datM,dat,zv0]
 have d2:datM μ (.tup [])=some (.tuple []):=by rfl
 rw [up0 rfl d1 d2 (by have:=wq0 l; simp only [PyData.depth]; omega) (by trivial)];rw [show PyData.eqv (.tuple (l.map PyData.int)) (.tuple [])=l.isEmpty by cases l <;> simp [PyData.eqv,PyData.eqvAll]];exact k
theorem nch2 (hb:∀ K:VK3,K (.int m) μ->tb ρ μ K) (hc:∀ K:VK3,K (.int n) μ->tc ρ μ K) {K:Bool->Mu->Prop} (k:K (!decide (0<=m /\ m < n)) μ):not3 (b3 (ch3 leR ltR [3] tb tc)) ρ μ K:=by
 simp only [not3,b3,ch3,c3];refine hb _ ?_;simp only [leR,zh0];by_cases c1:0<=m
 ·simp only [decide_eq_true c1];refine hc _ ?_;simp only [ltR,zh0]
  simp_all
 ·rw [decide_eq_false (λ h=>c1 h.1)] at k;simp only [decide_eq_false c1];exact k
variable {j:Nat}
theorem tl3 {r:TS3} (h:∀ K:VK3,K x μ->t ρ μ K) (k:r D' (ρ.set j (some x)) μ):seq3 (set3 j t) r D' ρ μ:=h _ k
theorem or_c {u:TT3} {b:Bool} {K:Bool->Mu->Prop} (h:∀ K:Bool->Mu->Prop,K b μ->c ρ μ K) (k:if b=true then K true μ else u ρ μ K):or3 c u ρ μ K:=h _ k
theorem b3_c {b:Bool} {K:Bool->Mu->Prop} (h:∀ K:VK3,K (.bl b) μ->t ρ μ K) (k:K b μ):b3 t ρ μ K:=h _ k
noncomputable def encO:Option (List Dd)->D
 | none=>.non
 | some v=>.tup (encs v)
noncomputable def zz0 (j:Nat):Sp3:=λ ds μ Q=>∃ (w:List Dd) (k:Kd) (way:List Int) (i:Int),ds=[.tup (encs w),vf0 k way i] /\ way.length < j /\ way.length<=1000 /\ deps w<=10 /\ cnts w<=200 /\ (∀ d,k=.inn d->dep d<=10) /\ ∀ μ',Ext μ μ'->Q (encO (aft way w k i)) μ'
theorem sw2 {rest:List Dd} {n:Nat} {x:List Dd} (h:chg rest k=some (n,x)):x.length<=cnts rest + 3:=by
 cases k with
 | inn d=>simp only [chg] at h; split at h <;> simp at h; obtain ⟨_,rfl⟩:=h; simp <;> omega
 | close m=>simp only [chg] at h; split at h <;> simp at h; obtain ⟨_,rfl⟩:=h; simp <;> omega
 | out=>cases rest with
  | nil=>simp [chg] at h
  | cons d r=>simp only [chg] at h; simp_all
 | opn =>
  simp only [chg] at h;split at h
  ·next m v r=>split at h <;> simp at h; obtain ⟨_,rfl⟩:=h; have:=wc0 v; simp only [cnts,cnt]; omega
  ·cases h
 | twice =>
  simp only [chg] at h;split at h
  ·simp at h; obtain ⟨_,rfl⟩:=h; simp
  ·cases h
 | part m=>cases rest with
  | nil=>simp [chg] at h
  | cons d r=>simp only [chg,Option.map_eq_some_iff] at h; obtain ⟨p,_,e⟩:=h; simp at e; obtain ⟨_,rfl⟩:=e; simp <;> omega
 | once =>
  simp only [chg] at h;split at h
  ·split at h <;> simp at h; obtain ⟨_,rfl⟩:=h; simp <;> omega
  ·cases h
 | join =>
  simp only [chg] at h;split at h
  ·simp only [Option.map_eq_some_iff] at h; obtain ⟨p,_,e⟩:=h; simp at e; obtain ⟨_,rfl⟩:=e; simp <;> omega
  ·cases h
theorem zh1:∀ (w:List Dd) (n:Nat),cnts (w.drop n)<=cnts w
 | [],n=>by simp
 | d :: r,0=>by simp
 | d :: r,n + 1=>by have:=zh1 r n; simp only [List.drop_succ_cons,cnts]; omega
theorem ts3 (k:Kd):(ned k).length<=1:=by cases k <;> simp [ned]
theorem rd_q0 (j:Nat):RdQ (zz0 (j + 1)) (t_q0 (zz0 j) spLC) N_q0:=by
 rintro ds μ Q ⟨w,k,way,i,rfl,hj,hl,hw,hc,hk,q⟩;have z1:1<=sizeLine:=by decide
 have z2:2<=sizeLine:=by decide
 have z3:3<=sizeLine:=by decide
 have hz:(1000:Nat) < sizeLine:=by decide
 have lw:=wc0 w;cases way with
 | nil =>
  refine zb0 (ρ:=[some (.tup (encs w)),some (vf0 k [] i),none,none,none]) (λ K kk=>b3_c (λ K kk=>o3_2 (x:=.tup (([]:List Int).map D.int)) (y:=.tup []) (λ K kk=>sf0 atI1 kk) (λ K kk=>⟨Nat.zero_le _,kk⟩) (vd3 [] kk)) kk) ?_;refine tl3 (x:=.int i) (λ K kk=>sf0 atI2 kk) ?_;refine ut0 (nch (m:=i) (n:=((encs w).length:Int)) (λ K k=>k) (λ K k=>k) ?_);by_cases c:0<=i /\ i<=((encs w).length:Int)
  ·rw [decide_eq_true c,if_neg (by decide)];rw [va0] at c;refine ⟨w,i,k,[],i,rfl,c.1,c.2,hw,hk,λ μ' ex=>?_⟩;have qq:=q μ' ex;simp only [aft,cha,if_pos c] at qq;cases hx:chg (w.drop i.toNat) k with
   | none =>
    rw [hx] at qq;exact qq
   | some p =>
    obtain ⟨n,x⟩:=p;rw [hx] at qq;have l3:=we2 hx;rw [length_drop] at l3;have l4:=sw2 hx;have l5:=zh1 w i.toNat;have e1:cut3 (encs w) none (some i)=encs (w.take i.toNat):=by rw [ts0 _ c.1 (by rw [va0]; omega),tg0]
    have e2:cut3 (encs w) (some (i + (n:Int))) none=encs (w.drop (i.toNat + n)):=by
     rw [yj0 _ [2] (by rw [va0]; omega),wg0,show (i + (n:Int)).toNat=i.toNat + n by omega]
    have l1:(w.take i.toNat).length<=w.length:=by simp_all
    have l2:(w.drop (i.toNat + n)).length<=w.length:=by simp
    refine ⟨?_,?_,?_⟩
    ·show (cut3 (encs w) none (some i)).length + (encs x).length<=_;rw [e1,va0,va0]; omega
    ·show (cut3 (encs w) none (some i) ++ encs x).length + (cut3 (encs w) (some (i + (n:Int))) none).length<=_;rw [e1,e2,length_append,va0,va0,va0]; omega
    ·show Q (.tup (cut3 (encs w) none (some i) ++ encs x ++ cut3 (encs w) (some (i + (n:Int))) none)) μ';rw [e1,e2,<- vb0,<- vb0];exact qq
  ·rw [decide_eq_false c,if_pos (by decide)];have qq:=q μ (Ext.refl μ);rw [va0] at c;simp only [aft,cha,if_neg c] at qq;exact qq
 | cons a way =>
  refine ye0 (ρ:=[some (.tup (encs w)),some (vf0 k (a :: way) i),none,none,none]) (λ K kk=>b3_c (λ K kk=>o3_2 (x:=.tup ((a :: way).map D.int)) (y:=.tup []) (λ K kk=>sf0 atI1 kk) (λ K kk=>⟨Nat.zero_le _,kk⟩) (vd3 (a :: way) kk)) kk) ?_;refine tl3 (x:=.int a) (λ K kk=>o3_l (x:=.tup ((a :: way).map D.int)) (λ K kk=>sf0 atI1 kk) (sf0 atI0 kk)) ?_;have q0:=q μ (Ext.refl μ);refine ut0 (or_c (b:=!decide (0<=a /\ a < ((encs w).length:Int))) (λ K kk=>nch2 (m:=a) (n:=((encs w).length:Int)) (λ K k=>k) (λ K k=>k) kk) ?_);by_cases c:0<=a /\ a < ((encs w).length:Int)
  ·rw [decide_eq_true c,if_neg (by decide)];rw [va0] at c;have hlt:a.toNat < w.length:=by omega
   obtain ⟨d,hd⟩:∃ d,w[a.toNat]?=some d:=⟨_,getElem?_eq_getElem hlt⟩;have ta:∀ (μ:Mu) (o3' o4:Option D) (K:VK3),K (enc d) μ->o3 ixR (v3 0) (v3 2) [some (.tup (encs w)),some (vf0 k (a :: way) i),some (.int a),o3',o4] μ K:=λ μ o3' o4 K kk=>yb2 c.1 hd kk;refine b3_c (b:=!decide (kdn d = "times")) (λ K kk=>o3_2 (x:=.str (kdn d)) (y:=.str "times") (λ K kk=>o3_l (ta μ none none) (ix0 d kk)) (λ K kk=>kk) kk) ?_;have mu:=mem_of_getElem? hd;have c1:=vq0 mu;have d1:=vk0 mu;cases d with
   | go n=>simp only [aft,if_pos c.1,hd] at q0; exact q0
   | jump n=>simp only [aft,if_pos c.1,hd] at q0; exact q0
   | turn n=>simp only [aft,if_pos c.1,hd] at q0; exact q0
   | times n v =>
    simp only [cnt,dep] at c1 d1;rw [length_cons] at hj hl;refine o3_l (r:=ixR) (ta μ none none) ?_;have er:([D.str (kn k),D.tup (way.map D.int)] ++ cut3 (.str (kn k) :: .tup ((a :: way).map .int) :: .int i :: ned k) (some 2) none)=.str (kn k) :: .tup (way.map .int) :: .int i :: ned k:=by rw [vv3]; rfl
    have nl:=ts3 k;refine o3_2 (r:=addR) (x:=.tup [D.str (kn k),D.tup (way.map D.int)]) (y:=.tup (cut3 (.str (kn k) :: .tup ((a :: way).map .int) :: .int i :: ned k) (some 2) none)) (λ K kk=>uj0 (ds:=[D.str (kn k),D.tup (way.map D.int)]) (λ Q kk=>yb0 (x:=.str (kn k)) (λ K kk=>sf0 atI0 kk) (yb0 (x:=.tup (way.map D.int)) (λ K kk=>yj4 (x:=.tup ((a :: way).map D.int)) (λ K kk=>sf0 atI1 kk) (show K (.tup (cut3 ((a :: way).map D.int) (some 1) none)) _ by rw [map_cons,uv3]; exact kk)) kk)) z2 kk) (λ K kk=>kk) ⟨?_,?_⟩
    ·simp_all;omega
    ·rw [er];refine ⟨v,k,way,i,rfl,by omega,by omega,by omega,by omega,hk,λ μ' ex=>?_⟩;have qq:=q μ' ex;simp only [aft,if_pos c.1,hd] at qq;cases hx:aft way v k i with
     | none =>
      rw [hx] at qq;exact qq
     | some v' =>
      rw [hx] at qq;have e1:cut3 (encs w) none (some a)=encs (w.take a.toNat):=by rw [ts0 _ c.1 (by rw [va0]; omega),tg0]
      have e2:cut3 (encs w) (some (a + 1)) none=encs (w.drop (a.toNat + 1)):=by
       rw [yj0 _ [2] (by rw [va0]; omega),wg0,show (a + 1).toNat=a.toNat + 1 by omega]
      have l1:(w.take a.toNat).length<=w.length:=by simp_all;omega
      have l2:(w.drop (a.toNat + 1)).length<=w.length:=by simp
      show o3 addR (o3 addR (sl3 slR (v3 0) np3 (pt3 (v3 2))) (tup3 (xa0 (tup3 (xa0 (c3 (.str "times")) (xa0 (o3 ixR (o3 ixR (v3 0) (v3 2)) [4]) (xa0 (v3 3) nil3)))) nil3))) (sl3 slR (v3 0) (pt3 (o3 addR (v3 2) [4])) np3) [some (.tup (encs w)),some (vf0 k (a :: way) i),some (.int a),some (.tup (encs v')),none] μ' Q;refine o3_2 (x:=.tup (encs (w.take a.toNat) ++ [enc (.times n v')])) (y:=.tup (encs (w.drop (a.toNat + 1)))) (λ K kk=>o3_2 (r:=addR) (x:=.tup (encs (w.take a.toNat))) (y:=.tup [enc (.times n v')]) (λ K kk=>(show K (.tup (cut3 (encs w) none (some a))) μ' by rw [e1]; exact kk)) (λ K kk=>uj0 (ds:=[enc (.times n v')]) (λ Q kk=>yb0 (x:=enc (.times n v')) (λ K kk=>uj0 (ds:=[D.str "times",D.int n,D.tup (encs v')]) (λ Q kk=>yb0 (x:=.str "times") (λ K kk=>kk) (yb0 (x:=.int n) (λ K kk=>o3_l (ta μ' _ _) kk) (yb0 (x:=.tup (encs v')) (λ K kk=>kk) kk))) z3 kk) kk) z1 kk) ⟨?_,kk⟩) (λ K kk=>(show K (.tup (cut3 (encs w) (some (a + 1)) none)) μ' by rw [e2]; exact kk)) ⟨?_,?_⟩
      ·rw [va0]; simp_all;omega
      ·rw [length_append,va0,va0]; simp_all;omega
      ·simp only [Option.map_some,encO,vb0,encs] at qq;exact qq
  ·rw [decide_eq_false c,if_pos (by decide)];rw [va0] at c
   have:aft (a :: way) w k i=none:=by
    simp only [aft]
    simp_all
   rw [this] at q0;exact q0
theorem o3_v {r:R3} {a b:TE3} {y z:D} (h1:∀ K:VK3,K x μ->a ρ μ K) (h2:∀ K:VK3,K y μ->b ρ μ K) (h3:∀ K:VK3,K z μ->r x y μ K) (K:VK3) (k:K z μ):o3 r a b ρ μ K:=h1 _ (h2 _ (h3 _ k))
variable {i:Int}
theorem ix_v {l:List D} {d:D} (h:getI ρ j=some (.ref p)) (hp:μ p=some (.lst l)) (e:atI l i=some d) (K:VK3) (k:K d μ):o3 ixR (v3 j) (c3 (.int i)) ρ μ K:=by
 unfold o3 v3 c3;rw [h];exact xg1 hp e k
variable {sp:Sp3}
theorem vf3 {z:D} (h:∀ R:List D->Mu->Prop,R ds μ->u ρ μ R) (h2:∀ K:VK3,K z μ->sp ds μ K) (K:VK3) (k:K z μ):wa0 sp u ρ μ K:=h _ (h2 _ k)
variable {E:Ends3}
theorem wh5 (h:∀ R:List D->Mu->Prop,R ds μ->u ρ μ R) (hl:ds.length<=sizeLine) (k:∀ p,μ p=none->E.nx (ρ.set j (some (.ref p))) (updM μ p (.lst ds))):set3 j (lst3 u) E ρ μ:=h _ ⟨hl,k⟩
theorem lst_c {r:TS3} (h:∀ R:List D->Mu->Prop,R ds μ->u ρ μ R) (hl:ds.length<=sizeLine) (k:∀ p,μ p=none->r E (ρ.set j (some (.ref p))) (updM μ p (.lst ds))):seq3 (set3 j (lst3 u)) r E ρ μ:=h _ ⟨hl,k⟩
noncomputable def zm1:Sp3:=λ ds μ Q=>∃ (ns:List Int) (k:Int),ds=[.fls (ns.map D.int),.int k] /\ 0<=k /\ ∀ a b p,0<=a->μ p=none->Q (.ref p) (updM μ p (.lst [.int a,.int b]))
theorem rd_q8:RdQ zm1 t_q8 N_q8:=by
 rintro ds μ Q ⟨ns,k,rfl,hk,q⟩;have e:((10:Int) ^ (18:Int).toNat)=1000000000000000000:=by decide
 have c:CPow 10 18:=⟨by decide,by decide,by decide⟩;simp only [t_q8,seq3,set3,c3,ifs3,b3,o3,v3,ua0,map_cons,map_nil,N_q8,length_cons,length_nil,Nat.zero_add,Nat.reduceAdd,Nat.reduceSub,List.replicate,cons_append,nil_append,set_cons_succ,set_cons_zero,getI,wa0,xa0,nil3,lenR,ltR,zh0,decide_eq_true_eq,ixR,powR,int2,c,geR,e,ret3,lst3,subR,true_and,sa0,mulR,addR,modR]
 have key:∀ i:Int,(if 1000000000000000000<=i then 2<=sizeLine /\ ∀ p,μ p=none->Q (.ref p) (updM μ p (.lst [.int (i - 1000000000000000000),.int 1]))
     else CMul 7919 k /\ (0:Int) < 2147483647 /\ 2<=sizeLine /\ ∀ p,μ p=none->Q (.ref p) (updM μ p (.lst [.int ((i + 7919 * k) % 2147483647),.int 0]))):=by
  intro i;split
  ·exact ⟨by decide,λ p hp=>q _ _ p [2] hp⟩
  ·exact ⟨.inl (.inl (by decide)),by decide,by decide,λ p hp=>q _ _ p (Int.emod_nonneg _ (by decide)) hp⟩
 split
 ·next h1 =>
  obtain ⟨d,hd,e⟩:=sf2 (l:=ns.map D.int) hk h1;obtain ⟨i,_,rfl⟩:=List.mem_map.mp hd
  simp_all
 ·exact key 0
noncomputable def sh0:Sp3:=λ ds μ Q=>∃ (p:Addr) (m a b:Int),ds=[.ref p,.int m] /\ 0 < m /\ m < 2 ^ 80 /\ μ p=some (.lst [.int a,.int b]) /\ 0<=a ∧
 ∀ r a' b',0<=r->r < m->0<=a'->Q (.int r) (updM μ p (.lst [.int a',.int b']))
theorem vj3 {r:TS3} {l l':List D} {d:D} (ht:∀ K:VK3,K d μ->t ρ μ K) (h:getI ρ 0=some (.ref p)) (hp:μ p=some (.lst l)) (e:ixN l.length i=some j) (el:l.set j d=l') (k:r E ρ (updM μ p (.lst l'))):seq3 (asg3 t (sub3 (v3 0) (c3 (.int i)))) r E ρ μ:=by
 subst el;refine ht _ ?_;unfold sub3 v3 c3
 simp_all
theorem vl3 {r:TS3} (h:∀ K:VK3,K x μ->t ρ μ K) (k:r E (ρ.set j (some x)) μ):seq3 (set3 j t) r E ρ μ:=h _ k
theorem and_b {u:TT3} {x y:Bool} (h1:∀ K:Bool->Mu->Prop,K x μ->c ρ μ K) (h2:∀ K:Bool->Mu->Prop,K y μ->u ρ μ K) (K:Bool->Mu->Prop) (k:K (x && y) μ):and3 c u ρ μ K:=h1 _ (by
 cases x with
 | false=>exact k
 | true=>exact h2 _ k)
theorem b3_v {b:Bool} (h:∀ K:VK3,K (.bl b) μ->t ρ μ K) (K:Bool->Mu->Prop) (k:K b μ):b3 t ρ μ K:=h _ k
theorem wz4:RdQ sh0 vg4 wb4:=by
 rintro ds μ Q ⟨p,m,a,b,rfl,h1,h2,h3,h4,q⟩;have v:∀ {ρ:St3} {μ:Mu} (j:Nat) {d:D},getI ρ j=some d->∀ K:VK3,K d μ->v3 j ρ μ K:=λ j d h K k=>by unfold v3; rw [h]; exact k
 have hc:∀ K:Bool->Mu->Prop,K (decide (b=1) && decide (0 < a)) μ->and3 (b3 (o3 eqR (o3 ixR (v3 0) [4]) [4])) (b3 (o3 gtR (o3 ixR (v3 0) [3]) [3])) [some (.ref p),some (.int m),none,none] μ K:=and_b (b3_v (o3_v (ix_v rfl h3 atI1) (y:=.int 1) (λ K k=>k) λ K k=>k)) (b3_v (o3_v (ix_v rfl h3 atI0) (y:=.int 0) (λ K k=>k) λ K k=>k));cases e:(decide (b=1) && decide (0 < a)) with
 | true =>
  rw [e] at hc;refine ye0 hc ?_;refine vl3 (x:=.int (a % m)) (o3_v (ix_v rfl h3 atI0) (v 1 rfl) λ K k=>⟨h1,k⟩) ?_;refine vj3 (d:=.int (a / m)) (o3_v (ix_v rfl h3 atI0) (v 1 rfl) λ K k=>⟨⟨h1,by omega⟩,k⟩) rfl h3 ixN0 rfl ?_;exact q _ _ _ (Int.emod_nonneg _ [2]) (Int.emod_lt_of_pos _ h1) (Int.ediv_nonneg h4 [2])
 | false =>
  rw [e] at hc;refine zb0 hc ?_;refine vj3 (d:=.int 0) (l':=[.int a,.int 0]) (λ K k=>k) rfl h3 ixN1 rfl ?_;refine vj3 (d:=.int ((a * 48271 + 69621) % 2147483647)) (o3_v (x:=.int (a * 48271 + 69621)) (o3_v (x:=.int (a * 48271)) (o3_v (ix_v rfl ya0 atI0) (y:=.int 48271) (λ K k=>k) λ K k=>⟨.inl (.inr (by decide)),k⟩) (y:=.int 69621) (λ K k=>k) λ K k=>k) (y:=.int 2147483647) (λ K k=>k) λ K k=>⟨show (0:Int) < 2147483647 by decide,k⟩) rfl ya0 ixN0 rfl ?_;rw [vh0];have n1:0<=(a * 48271 + 69621) % 2147483647:=Int.emod_nonneg _ (by decide);have n2:(a * 48271 + 69621) % 2147483647 < 2147483647:=Int.emod_lt_of_pos _ (by decide);generalize (a * 48271 + 69621) % 2147483647=c at n1 n2 ⊢;have ix:∀ {ρ:St3} {o:D},getI ρ 0=some (.ref p)->∀ K:VK3,K (.int c) (updM μ p (.lst [.int c,o]))->o3 ixR (v3 0) [3] ρ (updM μ p (.lst [.int c,o])) K:=λ h=>ix_v h ya0 atI0;refine vl3 (x:=.int ((c * c + 16807 * c) % 2147483629)) (o3_v (x:=.int (c * c + 16807 * c)) (o3_v (x:=.int (c * c)) (o3_v (ix rfl) (ix rfl) λ K k=>⟨.inl (.inl [2]),k⟩) (y:=.int (16807 * c)) (o3_v (x:=.int 16807) (λ K k=>k) (ix rfl) λ K k=>⟨.inl (.inl (by decide)),k⟩) λ K k=>k) (y:=.int 2147483629) (λ K k=>k) λ K k=>⟨show (0:Int) < 2147483629 by decide,k⟩) ?_;have n3:0<=(c * c + 16807 * c) % 2147483629:=Int.emod_nonneg _ (by decide);have n4:(c * c + 16807 * c) % 2147483629 < 2147483629:=Int.emod_lt_of_pos _ (by decide);generalize (c * c + 16807 * c) % 2147483629=d at n3 n4 ⊢;refine vl3 (x:=.int ((d * d + 39373 * d) % 2147483587)) (o3_v (x:=.int (d * d + 39373 * d)) (o3_v (x:=.int (d * d)) (o3_v (v 3 rfl) (v 3 rfl) λ K k=>⟨.inl (.inl [2]),k⟩) (y:=.int (39373 * d)) (o3_v (x:=.int 39373) (λ K k=>k) (v 3 rfl) λ K k=>⟨.inl (.inl (by decide)),k⟩) λ K k=>k) (y:=.int 2147483587) (λ K k=>k) λ K k=>⟨show (0:Int) < 2147483587 by decide,k⟩) ?_;exact o3_v (x:=.int ((d * d + 39373 * d) % 2147483587 / 8)) (o3_v (v 3 rfl) (y:=.int 8) (λ K k=>k) λ K k=>⟨⟨by decide,by decide⟩,k⟩) (v 1 rfl) (λ K k=>⟨h1,k⟩) _ (q _ _ _ (Int.emod_nonneg _ [2]) (Int.emod_lt_of_pos _ h1) n1)
mutual
noncomputable def sd1:Dd->Prop
 | .go n=>0<=n /\ n<=2
 | .jump n=>-2<=n /\ n<=2
 | .turn n=>-4<=n /\ n<=4
 | .times n w=>(0<=n /\ n<=3) /\ w.length<=4 /\ sds w
noncomputable def sds:List Dd->Prop
 | []=>True
 | d :: r=>sd1 d /\ sds r
end
theorem yi0:∀ a b,sds (a ++ b) ↔ sds a /\ sds b
 | [],b=>by simp [sds]
 | d :: r,b=>by simp only [cons_append,sds,yi0 r b,and_assoc]
theorem ww2:∀ a b,deps (a ++ b)=max (deps a) (deps b):=wd0
theorem tu0 {a b:Nat} (h:a<=b):4 ^ a<=4 ^ b:=Nat.pow_le_pow_right (by decide) h
mutual
theorem wj4:∀ d,sd1 d->okd d /\ 3 * cnt d + 1<=4 * 4 ^ dep d
 | .go n,h=>by
  simp only [sd1] at h;simp only [okd,G,dep,cnt];omega
 | .jump n,h=>by
  simp only [sd1] at h;simp only [okd,G,dep,cnt];omega
 | .turn n,h=>by
  simp only [sd1] at h;simp only [okd,G,dep,cnt];omega
 | .times n w,h=>by
  simp only [sd1] at h;obtain ⟨h1,h2,h3⟩:=h;obtain ⟨a1,a4⟩:=sw1 w h3;simp only [okd,G,dep,cnt];rw [Nat.add_comm 1 (deps w),Nat.pow_succ];have c4:1<=4 ^ deps w:=Nat.pow_pos (by decide);have c3:w.length=0 \/ w.length=1 \/ w.length=2 \/ w.length=3 \/ w.length=4:=by omega
  refine ⟨⟨by omega,a1⟩,?_⟩;rcases c3 with e | e | e | e | e <;> rw [e] at a4 <;> omega
theorem sw1:∀ w,sds w->oks w /\ 3 * cnts w + w.length<=w.length * (4 * 4 ^ deps w)
 | [],h=>by simp [oks,cnts]
 | d :: r,h=>by
  simp only [sds] at h;obtain ⟨a1,a4⟩:=wj4 d h.1;obtain ⟨b1,b4⟩:=sw1 r h.2;simp only [oks,cnts,deps,length_cons,Nat.add_mul,Nat.one_mul];have c3:4 ^ dep d<=4 ^ max (dep d) (deps r):=tu0 [2];have c4:4 ^ deps r<=4 ^ max (dep d) (deps r):=tu0 [2];have e3:r.length * (4 * 4 ^ deps r)<=r.length * (4 * 4 ^ max (dep d) (deps r)):=Nat.mul_le_mul_left _ [2]
  simp_all;omega
end
theorem ym3 (h:sd1 d) (hd:dep d<=2):Wd [d]:=by
 obtain ⟨a,b⟩:=wj4 d h;have c:4 ^ dep d<=4 ^ 2:=tu0 hd;exact ⟨by trivial,by simp only [deps]; omega,by simp only [cnts]; omega⟩
theorem vr1 {α:Type} (l:List α) (a:α):atI (l ++ [a]) (-1)=some a:=by
 unfold atI ixN;rw [if_neg (by decide),if_pos (by simp_all;omega)];simp only [Option.bind_some];rw [show ((-1:Int) + ((l ++ [a]).length:Int)).toNat=l.length by simp_all;omega];simp
variable {r q:Addr}
theorem ne_L (hw:deps w<=20) (hr:μ r=some (.lst (encs w))) (hq:μ q=some (.lst [])) (k:K (.bl (!w.isEmpty)) μ):neR (.ref r) (.ref q) μ K:=by
 have d1:datM μ (.ref r)=some (.list (pes w)):=by simp only [datM,hr,yh0]
 have d2:datM μ (.ref q)=some (.list []):=by simp only [datM,hq,dats]
 have dp:(PyData.list (pes w)).depth<=64:=by have:=xh0 w; simp only [PyData.depth]; omega
 rw [up0 rfl d1 d2 dp (by decide)];rw [show PyData.eqv (.list (pes w)) (.list [])=w.isEmpty by cases w <;> simp [pes,PyData.eqv,PyData.eqvAll]];exact k
noncomputable def vi2 (j:Nat):Sp3:=λ ds μ Q=>∃ (p:Addr) (deep m:Int),ds=[.ref p,.int deep,.int m] /\ deep < j /\ 0<=deep /\ deep<=10 /\ 0<=m /\ m<=1000 /\ ∃ a b,μ p=some (.lst [.int a,.int b]) /\ 0<=a ∧
 ∀ w a' b' μ',ExtB p μ μ'->μ' p=some (.lst [.int a',.int b'])->0<=a'->sds w->(deps w:Int)<=deep->(w.length:Int)<=2 * m->Q (.tup (encs w)) μ'
noncomputable def spLd (j:Nat):Sp3:=λ ds μ Q=>∃ (p:Addr) (deep:Int),ds=[.ref p,.int deep] /\ deep < j /\ 0<=deep /\ deep<=10 /\ ∃ a b,μ p=some (.lst [.int a,.int b]) /\ 0<=a ∧
 ∀ d a' b' μ',ExtB p μ μ'->μ' p=some (.lst [.int a',.int b'])->0<=a'->sd1 d->(dep d:Int)<=deep->Q (enc d) μ'
theorem rd_q2 (j:Nat):RdQ (spLd (j + 1)) (t_q2 (vi2 j) sh0) N_q2:=by
 rintro ds μ Q ⟨p,deep,rfl,h1,h2,h10,a,b,h3,h4,q⟩;simp only [t_q2,seq3,set3,wa0,xa0,v3,ua0,map_cons,map_nil,N_q2,length_cons,length_nil,Nat.zero_add,Nat.reduceAdd,Nat.reduceSub,List.replicate,cons_append,nil_append,getI,o3,c3,gtR,zh0,nil3,intR,mulR,decide_eq_true_eq,addR,ifs3,b3,set_cons_succ,set_cons_zero,ret3,tup3,subR,sa0,ltR];refine ⟨.inl (.inl (by decide)),p,_,a,b,rfl,by split <;> omega,by split <;> omega,h3,h4,λ k a1 b1 k1 k2 k3=>?_⟩;have ex:∀ o,ExtB p μ (updM μ p o):=λ o=>ExtB.upd;simp only [wq1,decide_eq_true_eq];split
 ·refine ⟨p,9,a1,b1,rfl,by decide,by decide,ya0,k3,λ n a2 b2 n1 n2 n3=>?_⟩;simp only [vh0];exact ⟨by decide,q (.turn (n - 4)) a2 b2 _ (ex _) ya0 n3 (by simp only [sd1]; omega) (by assumption)⟩
 ·split
  ·refine ⟨p,5,a1,b1,rfl,by decide,by decide,ya0,k3,λ n a2 b2 n1 n2 n3=>?_⟩;simp only [vh0];exact ⟨by decide,q (.jump (n - 2)) a2 b2 _ (ex _) ya0 n3 (by simp only [sd1]; omega) (by assumption)⟩
  ·split
   ·refine ⟨p,3,a1,b1,rfl,by decide,by decide,ya0,k3,λ n a2 b2 n1 n2 n3=>?_⟩;simp only [vh0];exact ⟨by decide,q (.go n) a2 b2 _ (ex _) ya0 n3 (by simp only [sd1]; omega) (by assumption)⟩
   ·next g1 g2 g3 =>
    have hd:0 < deep:=by
     omega
    refine ⟨p,4,a1,b1,rfl,by decide,by decide,ya0,k3,λ n a2 b2 n1 n2 n3=>?_⟩;simp only [vh0];refine ⟨p,3,a2,b2,rfl,by decide,by decide,ya0,n3,λ m a3 b3 x1 x2 x3=>?_⟩;simp only [vh0];refine ⟨p,deep - 1,m,rfl,by omega,by omega,by omega,x1,by omega,a3,b3,ya0,x3,λ w a4 b4 μ4 y1 y2 y3 y4 y5 y6=>?_⟩;exact ⟨by decide,q (.times n w) a4 b4 μ4 ((ex _).trans y1) y2 y3 (by simp only [sd1]; simp_all;omega) (by simp only [dep]; omega)⟩
noncomputable def Ldm (p:Addr) (μ μ':Mu):Prop:=ExtB p μ μ' /\ ∃ a b,μ' p=some (.lst [.int a,.int b]) /\ 0<=a
noncomputable def LdP (p r:Addr) (L:List D) (μ μ':Mu):Prop:=μ' r=some (.lst L) /\ Ldm p μ μ'
noncomputable def LdW (p:Addr) (deep m:Int) (μ:Mu) (n:Nat) (ρ:St3) (μ':Mu):Prop:=∃ (r:Addr) (w:List Dd) (o:Option D),ρ=[some (.ref p),some (.int deep),some (.int m),some (.ref r),o] /\ r ≠ p /\ μ r=none /\ LdP p r (encs w) μ μ' /\ sds w /\ (deps w:Int)<=deep /\ (w.length:Int) + 2 * (n:Int)<=2 * m
theorem Ldm.new {p s:Addr} {μ μ':Mu} {o:MO} (h:Ldm p μ μ') (hs:μ' s=none):Ldm p μ (updM μ' s o):=by
 obtain ⟨h1,a,b,h2,h3⟩:=h;exact ⟨h1.trans ((Ext.new hs).b p),a,b,by rw [ta0 (ug0 h2 hs)]; exact h2,h3⟩
theorem LdP.new {p r s:Addr} {L:List D} {μ μ':Mu} {o:MO} (h:LdP p r L μ μ') (hs:μ' s=none):LdP p r L μ (updM μ' s o):=⟨by rw [ta0 (ug0 h.1 hs)]; exact h.1,h.2.new hs⟩
variable {L:List D} {μ':Mu}
theorem LdP.take {a b:Int} (h:LdP p r L μ μ') (rp:r ≠ p) (ha:0<=a):LdP p r L μ (updM μ' p (.lst [.int a,.int b])):=⟨by rw [ta0 rp]; exact h.1,h.2.1.trans ExtB.upd,a,b,ya0,ha⟩
theorem yg3 {u:TT3} {K:Bool->Mu->Prop} (hr:getI ρ 3=some (.ref r)) (h:LdP p r (encs w) μ μ') (hd:deps w<=20) (hu:w ≠ []->∀ μ1,LdP p r (encs w) μ μ1->u ρ μ1 K) (hf:∀ μ1,LdP p r (encs w) μ μ1->K false μ1):and3 (b3 (o3 neR (v3 3) (lst3 nil3))) u ρ μ' K:=by
 unfold and3 b3 o3 v3;rw [hr];refine ⟨Nat.zero_le _,λ s hs=>ne_L hd (h.new hs).1 ya0 ?_⟩;cases w with
 | nil=>exact hf _ (h.new hs)
 | cons d t=>exact hu (by simp) _ (h.new hs)
theorem ti1 {K:Bool->Mu->Prop} (h0:getI ρ 0=some (.ref p)) (rp:r ≠ p) (h:LdP p r L μ μ') (m0:0 < m) (m1:m < 2 ^ 80) (k:∀ b μ1,LdP p r L μ μ1->K b μ1):b3 (o3 eqR (wa0 sh0 (xa0 (v3 0) (xa0 (c3 (.int m)) nil3))) [3]) ρ μ' K:=by
 unfold b3 o3 wa0 xa0 v3;rw [h0];obtain ⟨a,b,h2,h3⟩:=h.2.2;exact ⟨p,m,a,b,rfl,m0,m1,h2,h3,λ t a2 b2 _ _ t3=>k _ _ (h.take rp t3)⟩
variable {P:Mu->Prop}
theorem ti5 {G:Prop} {t u:TS3} (h:∀ K:Bool->Mu->Prop,(∀ b μ1,P μ1->(b=true->G)->K b μ1)->c ρ μ K) (kt:G->∀ μ1,P μ1->t E ρ μ1) (ku:∀ μ1,P μ1->u E ρ μ1):ifs3 c t u E ρ μ:=h _ λ b μ1 p g=>by
 simp_all
theorem yp1 (hr:getI ρ 3=some (.ref r)) (h:μ r=some (.lst (encs (v ++ [e])))) (K:VK3) (k:K (enc e) μ):o3 ixR (v3 3) (un3 negR [4]) ρ μ K:=by
 rw [vb0] at h;unfold o3 v3;rw [hr];exact xg1 h (vr1 (encs v) (enc e)) k
theorem and_go {u:TT3} {K:Bool->Mu->Prop} (hr:getI ρ 3=some (.ref r)) (h:μ r=some (.lst (encs (v ++ [e])))) (kg:∀ n,e=.go n->u ρ μ K) (kf:(∀ n,e ≠ .go n)->K false μ):and3 (b3 (o3 eqR (o3 ixR (o3 ixR (v3 3) (un3 negR [4])) [3]) (c3 (.str "go")))) u ρ μ K:=by
 have hv:∀ K:VK3,K (.str (kdn e)) μ->o3 ixR (o3 ixR (v3 3) (un3 negR [4])) [3] ρ μ K:=λ K k=>o3_l (yp1 hr h) (by cases e <;> exact k);unfold and3 b3;refine o3_l hv ?_;cases e with
 | go n=>exact kg n rfl
 | jump n=>exact kf λ _ z=>nomatch z
 | turn n=>exact kf λ _ z=>nomatch z
 | times n u=>exact kf λ _ z=>nomatch z
theorem set_e {i:Nat} (h:t ρ μ λ d μ1=>E.nx (ρ.set i (some d)) μ1):set3 i t E ρ μ:=h
theorem add_l {a b:List D} (h1:μ p=some (.lst a)) (h2:μ q=some (.lst b)) (hl:a.length + b.length<=sizeLine) (k:∀ s,μ s=none->Q (.ref s) (updM μ s (.lst (a ++ b)))):addR (.ref p) (.ref q) μ Q:=by
 unfold addR
 simp_all
theorem zy2 {d:D} :appR (.ref r) [d] μ Q=∃ l,μ r=some (.lst l) /\ l.length < sizeLine /\ Q .non (updM μ r (.lst (l ++ [d]))):=by
 unfold appR;dsimp only;cases μ r with
 | none=>simp
 | some o=>cases o <;> simp
theorem app_d {u:TE3} {l0:List D} (hr:getI ρ 3=some (.ref r)) (h0:μ r=some (.lst l0)) (h2:u ρ μ λ d μ3=>∃ l,μ3 r=some (.lst l) /\ l.length < sizeLine /\ E.nx ρ (updM μ3 r (.lst (l ++ [d])))):vd0 (mt3 appR (v3 3) (xa0 u nil3)) E ρ μ:=by
 unfold vd0 mt3 v3;rw [hr];show (match μ r with | some (.lst xs)=>_ | _=>False);rw [h0];unfold xa0 nil3;simp only [zy2];exact h2
theorem LdW.app {deep:Int} {μ3:Mu} {n:Nat} (rp:r ≠ p) (r0:μ r=none) (h:LdP p r (encs w) μ μ3) (w1:sds w) (w2:(deps w:Int)<=deep) (w3:(w.length:Int) + 2 * ((n + 1:Nat):Int)<=2 * m) (hd:sd1 d) (hd2:(dep d:Int)<=deep):LdW p deep m μ n [some (.ref p),some (.int deep),some (.int m),some (.ref r),some x] (updM μ3 r (.lst (encs w ++ [enc d]))):=by
 obtain ⟨g1,g2,a,b,g3,g4⟩:=h;refine ⟨r,w ++ [d],some x,rfl,rp,r0,⟨by rw [ya0,vb0]; simp only [encs],λ c o hc hq=>?_,a,b,by rw [ta0 (Ne.symm rp)]; exact g3,g4⟩,?_,?_,?_⟩
 ·rw [ta0 (ug0 hq r0)]; exact g2 c o hc hq
 ·rw [yi0]; trivial
 ·rw [ww2]; simp only [deps]; omega
 simp_all;omega
theorem Ldm.free {s:Addr} {μ2:Mu} (h:Ldm p μ μ2) (hs:μ2 s=none):μ s=none:=by
 obtain ⟨e1,a,b,e2,_⟩:=h;cases h:μ s with
 | none=>rfl
 | some o =>
  by_cases c:s=p
  ·simp_all
  ·rw [e1 s o c h] at hs; cases hs
theorem rd_q3 (j:Nat):RdQ (vi2 j) (t_q3 (spLd j) sh0) N_q3:=by
 rintro ds μ Q ⟨p,deep,m,rfl,h1,h2,h10,m0,m1,a,b,h3,h4,q⟩;have hz:(100000:Nat) < sizeLine:=by decide
 refine ⟨Nat.zero_le _,λ r hr=>⟨⟨by omega,by omega⟩,?_⟩⟩;refine sd0 (λ l ρ μ'=>LdW p deep m μ l.length ρ μ') ?_ (λ _ _ _ _=>trivial) ?_ ?_
 ·refine ⟨r,[],none,rfl,Ne.symm (ug0 h3 hr),hr,⟨ya0,Ldm.new ⟨ExtB.refl _ _,a,b,h3,h4⟩ hr⟩,by simp only [sds],by assumption,?_⟩;rw [wh0,length_nil];omega
 ·rintro ρ μ' ⟨r,w,o,rfl,rp,r0,⟨er,ex,a',b',e2,e3⟩,w1,w2,w3⟩;exact yc4 er (q w a' b' μ' ex e2 e3 w1 w2 (by simpa using w3))
 ·rintro x l ρ μ' ⟨r,w,o,rfl,rp,r0,hP,w1,w2,w3⟩;rw [length_cons] at w3;have wl:w.length<=2000:=by omega
  have lw:(encs w).length < sizeLine:=by rw [va0]; omega
  show ifs3 _ _ _ _ [some (.ref p),some (.int deep),some (.int m),some (.ref r),some x] μ';refine ti5 (P:=LdP p r (encs w) μ) (G:=w ≠ []) (λ K k=>yg3 rfl hP [2] (λ ne μ1 p1=>ti1 rfl rp p1 (by decide) (by decide) λ b μ2 p2=>k b μ2 p2 λ _=>ne) λ μ1 p1=>k false μ1 p1 λ z=>nomatch z) ?_ ?_
  ·intro ne μ1 p1
   obtain ⟨v,e,rfl⟩:∃ v e,w=v ++ [e]:=by
    rcases List.eq_nil_or_concat w with z | ⟨v,e,z⟩
    ·exact absurd z ne
    simp_all
   refine app_d rfl p1.1 (yp1 rfl p1.1 _ ⟨_,p1.1,lw,?_⟩);have s:=w1;rw [yi0] at s;rw [ww2] at w2;simp only [sds,deps] at s w2;exact LdW.app rp r0 p1 w1 (by rw [ww2]; assumption) w3 s.2.1 [2]
  ·intro μ1 p1;refine ti5 (P:=LdP p r (encs w) μ) (G:=∃ v n,w=v ++ [.go n]) (λ K k=>yg3 rfl p1 [2] (λ ne μ1 p1=>?_) λ μ1 p1=>k false μ1 p1 λ z=>nomatch z) ?_ ?_
   ·obtain ⟨v,e,rfl⟩:∃ v e,w=v ++ [e]:=by
      rcases List.eq_nil_or_concat w with z | ⟨v,e,z⟩
      ·exact absurd z ne
      simp_all
    exact and_go rfl p1.1 (λ n z=>ti1 rfl rp p1 (by decide) (by decide) λ b μ2 p2=>k b μ2 p2 λ _=>⟨v,n,by rw [z]⟩) λ _=>k false μ1 p1 λ z=>nomatch z
   ·rintro ⟨v,n,rfl⟩ μ2 p2;have z2:2<=sizeLine:=by decide
    refine set_e (o3_l (x:=.ref r) (λ K k=>k) (yb0 (x:=.tup [.str "jump",.int (0 - n)]) (λ K k=>uj0 (ds:=[.str "jump",.int (0 - n)]) (λ R k=>yb0 (λ K k=>k) (yb0 (x:=.int (0 - n)) (o3_v (x:=.int 0) (y:=.int n) (λ K k=>k) (λ K k=>o3_l (yp1 rfl p2.1) k) λ K k=>k) k)) z2 k) (yb0 (x:=enc (.go n)) (yp1 rfl p2.1) ?_)));refine ⟨z2,λ s3 hs3=>?_⟩;have p3:=p2.new (o:=.lst [.tup [.str "jump",.int (0 - n)],enc (.go n)]) hs3;refine add_l p3.1 ya0 (by rw [va0]; simp_all;omega) λ s4 hs4=>?_;refine ⟨s4,v ++ [.go n] ++ [.jump (0 - n),.go n],some x,rfl,λ z=>?_,p3.2.free hs4,⟨?_,p3.2.new hs4⟩,?_,?_,?_⟩
    ·obtain ⟨_,a,b,e,_⟩:=p3.2; simp_all
    ·rw [ya0,vb0 (v ++ [Dd.go n]) [.jump (0 - n),.go n]]; rfl
    ·rw [yi0];have s:=w1;rw [yi0] at s;simp only [sds,sd1] at s ⊢
     simp_all;omega
    ·rw [ww2]; simp only [deps,dep]; omega
    simp_all;omega
   ·intro μ2 p2;obtain ⟨a5,b5,g5,g6⟩:=p2.2.2;exact app_d rfl p2.1 ⟨p,deep,rfl,h1,h2,h10,a5,b5,g5,g6,λ d a6 b6 μ3 y1 y2 y3 y4 y5=>⟨_,y1 r _ rp p2.1,lw,LdW.app rp r0 ⟨y1 r _ rp p2.1,p2.2.1.trans y1,a6,b6,y2,y3⟩ w1 w2 w3 y4 y5⟩⟩
variable {S:Mu->Prop}
theorem vw2 {tc:TT3} {l:List D} {o:Option D} {rest:St3} (f:D->Bool) (hp:μ p=none) (hl:l.length<=sizeLine) (hS:∀ μ',Ext μ μ'->S μ')
    (hx:∀ x ∈ l,∀ μ' R,Ext μ μ'->R (f x) μ'->tc (some x :: rest) μ' R) (hQ:∀ μ',Ext μ μ'->μ' p=some (.lst (l.filter f))->Q (.ref p) μ'):xx2 S p (gn3 0) tc (v3 0) Q l (o :: rest) (updM μ p (.lst [])):=by
 refine ⟨λ r ys ρ μ'=>Ext μ μ' /\ μ' p=some (.lst ys) /\ (∃ o',ρ=o' :: rest) /\ ∃ a,a ++ r=l /\ ys=a.filter f,?_,?_,?_,?_⟩
 ·exact ⟨Ext.new hp,ya0,⟨o,rfl⟩,[],rfl,rfl⟩
 ·simp_all
 ·simp_all
 ·rintro x r ys ρ μ' ⟨h1,h2,⟨o',rfl⟩,a,e,rfl⟩;refine ⟨?_,?_⟩
  ·have h3:=congrArg List.length e;rw [length_append,length_cons] at h3;have:=List.length_filter_le f a;omega
  ·refine hx x (by rw [<- e]; simp) μ' _ h1 ?_;have e2:(a ++ [x]) ++ r=l:=by rw [<- e]; simp
   cases c:f x with
   | true =>
    refine ⟨h2,λ b v hb=>?_,ya0,⟨_,rfl⟩,a ++ [x],e2,?_⟩
    ·rw [ta0 (ug0 hb hp)];exact h1 b v hb
    simp_all
   | false =>
    refine ⟨h1,h2,⟨_,rfl⟩,a ++ [x],e2,?_⟩
    simp_all
noncomputable def Vw:List Int->List Dd->Prop
 | [],_=>True
 | a :: way,w=>0<=a /\ ∃ n v,w[a.toNat]?=some (.times n v) /\ Vw way v
noncomputable def isT:Option Dd->Bool
 | some (.times _ _)=>true
 | _=>false
noncomputable def fT (w:List Dd):D->Bool
 | .int a=>isT w[a.toNat]?
 | _=>false
theorem xr1:∀ l:List D,(∀ x ∈ l,∃ a,x=.int a)->∃ ps,dats l=some ps /\ PyData.depthAll ps<=1 /\ ps.isEmpty=l.isEmpty
 | [],_=>⟨[],rfl,by trivial,rfl⟩
 | x :: r,h=>by
  obtain ⟨a,rfl⟩:=h x (by simp);obtain ⟨ps,e,d,_⟩:=xr1 r λ y hy=>h y (by simp [hy]);exact ⟨.int a :: ps,by simp only [dats,dat,e],by assumption,rfl⟩
theorem zv3 {l:List D} (hl:∀ x ∈ l,∃ a,x=.int a) (hr:μ r=some (.lst l)) (hq:μ q=some (.lst [])) (k:K (.bl l.isEmpty) μ):eqR (.ref r) (.ref q) μ K:=by
 obtain ⟨ps,e,d,em⟩:=xr1 l hl;have d1:datM μ (.ref r)=some (.list ps):=by simp only [datM,hr,e]
 have d2:datM μ (.ref q)=some (.list []):=by simp only [datM,hq,dats]
 rw [xc1 rfl d1 d2 (by simp only [PyData.depth]; omega) (by decide)];rw [show PyData.eqv (.list ps) (.list [])=ps.isEmpty by cases ps <;> simp [PyData.eqv,PyData.eqvAll],em];exact k
noncomputable def spWy (j:Nat):Sp3:=λ ds μ Q=>∃ (p:Addr) (w:List Dd) (a b:Int),ds=[.ref p,.tup (encs w)] /\ deps w < j /\ deps w<=10 /\ cnts w<=1000 /\ μ p=some (.lst [.int a,.int b]) /\ 0<=a ∧
 ∀ way a' b' μ',ExtB p μ μ'->μ' p=some (.lst [.int a',.int b'])->0<=a'->Vw way w->way.length<=deps w->Q (.tup [.tup (way.map D.int),.tup (encs (sub way w))]) μ'
theorem seq_b {G:Prop} {t r:TS3} (h:∀ K:Bool->Mu->Prop,(∀ b μ1,P μ1->(b=false->G)->K b μ1)->c ρ μ K) (kt:∀ μ1,P μ1->t { E with nx:=r E } ρ μ1) (ku:G->∀ μ1,P μ1->r E ρ μ1):seq3 (ifs3 c t sa0) r E ρ μ:=h _ λ b μ1 p g=>by
 cases b with
 | true=>exact kt μ1 p
 | false=>exact ku (g rfl) μ1 p
theorem sd5 {u:TT3} {K:Bool->Mu->Prop} (hr:getI ρ 2=some (.ref r)) (h:LdP p r L μ μ') (hL:∀ x ∈ L,∃ a,x=.int a) (ht:∀ μ1,LdP p r L μ μ1->K true μ1) (hu:L ≠ []->∀ μ1,LdP p r L μ μ1->u ρ μ1 K):or3 (b3 (o3 eqR (v3 2) (lst3 nil3))) u ρ μ' K:=by
 unfold or3 b3 o3 v3;rw [hr];refine ⟨Nat.zero_le _,λ s hs=>zv3 hL (h.new hs).1 ya0 ?_⟩;cases L with
 | nil=>exact ht _ (h.new hs)
 | cons d t=>exact hu (by simp) _ (h.new hs)
theorem uf3 (h:∀ R:List D->Mu->Prop,R ds μ->u ρ μ R) (k:sp ds μ K):wa0 sp u ρ μ K:=h _ k
theorem len_l {l:List D} (h:μ r=some (.lst l)) (K:VK3) (k:K (.int l.length) μ):lenR [.ref r] μ K:=by
 unfold lenR
 simp_all
theorem zz4 (j:Nat):RdQ (spWy (j + 1)) (wg4 sh0 (spWy j)) zb4:=by
 rintro ds μ Q ⟨p,w,a,b,rfl,hj,hd,hc,h3,h4,q⟩;have hz:(100000:Nat) < sizeLine:=by decide
 have lw:=wc0 w;refine ⟨⟨by omega,by rw [va0]; omega⟩,λ r hr=>?_⟩;refine vw2 (rest:=[some (.tup (encs w))]) (fT w) hr (by rw [wh0,va0]; omega) (λ _ _=>trivial) ?_ ?_
 ·rintro x hx μ' R ex kk;obtain ⟨n,hn,rfl⟩:=List.mem_map.mp hx;rw [List.mem_range] at hn;rw [va0] at hn;have hlt:(0 + (n:Int)).toNat < w.length:=by omega
  obtain ⟨d,hd'⟩:∃ d,w[(0 + (n:Int)).toNat]?=some d:=⟨_,getElem?_eq_getElem hlt⟩;refine b3_c (b:=decide (kdn d = "times")) (λ K k=>o3_2 (x:=.str (kdn d)) (y:=.str "times") (λ K k=>o3_l (x:=enc d) (λ K k=>yb2 [2] hd' k) (ix0 d k)) (λ K k=>k) k) ?_;simp only [fT,hd',isT] at kk;cases d <;> exact kk
 ·rintro μ1 ex1 er;show zn0 sh0 (spWy j) { nx:=λ _ μ'=>Q .non μ',rt:=Q } [some (.ref p),some (.tup (encs w)),some (.ref r),none,none,none] μ1
  have hL:∀ x ∈ (rngD 0 ((encs w).length:Int).toNat).filter (fT w),∃ a,x=.int a /\ 0<=a /\ ∃ n v,w[a.toNat]?=some (.times n v):=λ x hx=>by
   obtain ⟨h1,h2⟩:=List.mem_filter.mp hx;obtain ⟨n,hn,rfl⟩:=List.mem_map.mp h1;refine ⟨_,rfl,by omega,?_⟩;simp only [fT] at h2;cases e:w[(0 + (n:Int)).toNat]? with
   | none=>rw [e] at h2; cases h2
   | some d =>
    rw [e] at h2;cases d with
    | times n v=>simp
    | _=>cases h2
  have ll:((rngD 0 ((encs w).length:Int).toNat).filter (fT w)).length<=1000:=by
   refine Nat.le_trans (List.length_filter_le _ _) ?_;rw [wh0,va0];omega
  generalize (rngD 0 ((encs w).length:Int).toNat).filter (fT w)=L at er hL ll;have rp:r ≠ p:=Ne.symm (ug0 h3 hr);have hP:LdP p r L μ μ1:=⟨er,ex1.b p,a,b,ex1 _ _ h3,h4⟩;refine seq_b (P:=LdP p r L μ) (G:=L ≠ []) (λ K k=>sd5 rfl hP (λ x hx=>by obtain ⟨a,e,_⟩:=hL x hx; exact ⟨a,e⟩) (λ μ2 p2=>k true μ2 p2 λ z=>nomatch z) λ ne μ2 p2=>ti1 rfl rp p2 (by decide) (by decide) λ b μ3 p3=>k b μ3 p3 λ _=>ne) ?_ ?_
  ·rintro μ2 ⟨_,e2,a2,b2,e3,h5⟩;exact ⟨Nat.zero_le _,by show 2<=_; omega,q [] a2 b2 μ2 e2 e3 h5 trivial (Nat.zero_le _)⟩
  ·rintro ne μ2 ⟨e1,e2,a2,b2,e3,h5⟩;have l0:=List.length_pos_iff.mpr ne;refine o3_l (x:=.ref r) (λ K k=>k) (uf3 (ds:=[.ref p,.int L.length]) (λ R k=>yb0 (λ K k=>k) (yb0 (vf3 (ds:=[.ref r]) (λ R k=>k) (len_l e1)) k)) ⟨p,_,a2,b2,rfl,by omega,by omega,e3,h5,λ t a3 b3' u1 u2 u3=>?_⟩);obtain ⟨x,hx,exx⟩:=sf2 (l:=L) u1 u2;obtain ⟨c,rfl,c0,n,v,hv⟩:=hL x hx;refine xg1 (by rw [ta0 rp]; exact e1) exx ?_;have mu:=mem_of_getElem? hv;have c1:=vq0 mu;have d1:=vk0 mu;simp only [cnt,dep] at c1 d1;show yn0 sh0 (spWy j) { nx:=λ _ μ'=>Q .non μ',rt:=Q } [some (.ref p),some (.tup (encs w)),some (.ref r),some (.int c),none,none] _;refine uf3 (ds:=[.ref p,.tup (encs v)]) (λ R k=>yb0 (λ K k=>k) (yb0 (o3_v (x:=enc (.times n v)) (o3_v (x:=.tup (encs w)) (y:=.int c) (λ K k=>k) (λ K k=>k) λ K k=>yb2 c0 hv k) (y:=.int 2) (λ K k=>k) λ K k=>k) k)) ⟨p,v,a3,b3',rfl,by omega,by omega,by omega,ya0,u3,λ way a' b' μ' g1 g2 g3 g4 g5=>⟨rfl,?_⟩⟩;have:=q (c :: way) a' b' μ' ((e2.trans ExtB.upd).trans g1) g2 g3 ⟨c0,n,v,hv,g4⟩ (by simp_all;omega);simp only [sub,hv] at this;exact ⟨by show 1<=_; omega,by simp_all;omega,by show 2<=_; omega,this⟩
noncomputable def spI1:Sp3:=λ ds μ Q=>∃ (p:Addr) (a b:Int),ds=[.ref p] /\ μ p=some (.lst [.int a,.int b]) /\ 0<=a ∧
 ∀ d a' b' μ',ExtB p μ μ'->μ' p=some (.lst [.int a',.int b'])->0<=a'->idl d=true->nn1 d->dep d<=2->Q (enc d) μ'
theorem rd_q6:RdQ spI1 (t_q6 sh0) N_q6:=by
 rintro ds μ Q ⟨p,a,b,rfl,h3,h4,q⟩;simp only [t_q6,seq3,set3,lst3,xa0,tup3,c3,nil3,length_cons,length_nil,Nat.zero_add,Nat.reduceAdd,o3,wa0,v3,ua0,map_cons,map_nil,N_q6,Nat.reduceSub,List.replicate,cons_append,nil_append,getI,mulR,subR,zh0,ret3,set_cons_succ,set_cons_zero,addR,ixR];refine ⟨by decide,by decide,p,3,a,b,rfl,by decide,by decide,h3,h4,λ t a1 b1 t1 t2 t3=>?_⟩;simp only [];refine ⟨.inl (.inl (by decide)),by decide,by decide,by decide,by decide,by decide,λ r hr=>?_⟩;have hpr:r ≠ p:=λ h=>by subst h; rw [ya0] at hr; cases hr
 have f1:updM (updM μ p (.lst [.int a1,.int b1])) r [7] p=some (.lst [.int a1,.int b1]):=by rw [ta0 (Ne.symm hpr),ya0]
 have x1:ExtB p μ (updM (updM μ p (.lst [.int a1,.int b1])) r [7]):=ExtB.upd.trans ((Ext.new hr).b p);have fr:updM (updM μ p (.lst [.int a1,.int b1])) r [7] r=some [7]:=ya0;generalize updM (updM μ p (.lst [.int a1,.int b1])) r [7]=μ2 at f1 x1 fr ⊢;refine ⟨p,4,a1,b1,rfl,by decide,by decide,f1,t3,λ t' a2 b2 u1 u2 u3=>?_⟩;simp only [];refine ⟨by decide,by decide,by decide,λ s hs=>?_⟩;have hsp:s ≠ p:=λ h=>by subst h; rw [ya0] at hs; cases hs
 have fr2:updM μ2 p (.lst [.int a2,.int b2]) r=some [7]:=by rw [ta0 hpr]; exact fr
 have hsr:s ≠ r:=λ h=>by simp_all
 have fr3:updM (updM μ2 p (.lst [.int a2,.int b2])) s (.lst [.tup [.str "times",.int t',.tup []]]) r=some [7]:=by rw [ta0 (Ne.symm hsr)]; exact fr2
 simp only [fr3,ya0,length_cons,length_nil,Nat.zero_add,Nat.reduceAdd,cons_append,nil_append];refine ⟨by decide,λ s2 hs2=>?_⟩;have f4:updM (updM μ2 p (.lst [.int a2,.int b2])) s (.lst [.tup [.str "times",.int t',.tup []]]) p=some (.lst [.int a2,.int b2]):=by rw [ta0 (Ne.symm hsp),ya0]
 have h2p:s2 ≠ p:=λ h=>by simp_all
 refine ⟨p,5,a2,b2,rfl,by decide,by decide,by rw [ta0 (Ne.symm h2p)]; exact f4,u3,λ k a3 b3 k1 k2 k3=>?_⟩;simp only [ta0 h2p,ya0]
 have fin:∀ d,idl d=true->nn1 d->dep d<=2->Q (enc d) (updM (updM (updM (updM μ2 p (.lst [.int a2,.int b2])) s (.lst [.tup [.str "times",.int t',.tup []]])) s2 (.lst [.tup [.str "go",.int 0],.tup [.str "jump",.int 0],.tup [.str "turn",.int (4 * t - 4)],.tup [.str "times",.int 0,.tup [.tup [.str "go",.int 2]]],.tup [.str "times",.int t',.tup []]])) p (.lst [.int a3,.int b3])):=λ d d1 d2 d3 =>
  q d a3 b3 _ ((((x1.trans ExtB.upd).trans ((Ext.new hs).b p)).trans ((Ext.new hs2).b p)).trans ExtB.upd) ya0 k3 d1 d2 d3
 have hk:k=0 \/ k=1 \/ k=2 \/ k=3 \/ k=4:=by omega
 rcases hk with rfl | rfl | rfl | rfl | rfl
 ·exact fin (.go 0) rfl (by simp [nn1]) (by simp [dep])
 ·exact fin (.jump 0) rfl (by simp [nn1]) (by simp [dep])
 ·exact fin (.turn (4 * t - 4)) (by simp only [idl,decide_eq_true_eq]; omega) (by simp [nn1]) (by simp [dep])
 ·exact fin (.times 0 [.go 2]) rfl (by simp [nn1,nns]) (by simp [dep,deps])
 ·exact fin (.times t' []) (by simp [idl]) (by trivial) (by simp [dep,deps])
noncomputable def spSz (j:Nat):Sp3:=λ ds μ Q=>∃ w:List Dd,ds=[.tup (encs w)] /\ deps w < j /\ ∀ p μ',Ext μ μ'->μ' p=some (.lst [.int ((cnts w:Int) + 1),.int (deps w)])->Q (.ref p) μ'
noncomputable def LsI (w:List Dd) (μ:Mu) (l:List D) (ρ:St3) (μ':Mu):Prop:=∃ (a b:List Dd) (r:Addr) (o1 o2:Option D),a ++ b=w /\ l=encs b /\ ρ=[some (.tup (encs w)),some (.ref r),o1,o2] /\ Ext μ μ' /\ μ' r=some (.lst [.int ((cnts a:Int) + 1),.int (deps a)])
theorem rd_q7 (j:Nat):RdQ (spSz (j + 1)) (t_q7 (spSz j)) N_q7:=by
 rintro ds μ Q ⟨w,rfl,hj,q⟩;have z2:2<=sizeLine:=by decide
 refine ⟨z2,λ r hr=>?_⟩;refine sd0 (LsI w μ) ?_ (λ _ _ _ _=>trivial) ?_ ?_
 ·exact ⟨[],w,r,none,none,rfl,rfl,rfl,Ext.new hr,by rw [ya0]; simp [cnts,deps]⟩
 ·rintro ρ μ' ⟨a,b,r,o1,o2,e,eb,rfl,ex,er⟩;cases b with
  | nil=>rw [append_nil] at e; subst e; exact q r μ' ex er
  | cons d t=>simp [encs] at eb
 ·rintro x l ρ μ' ⟨a,b,r,o1,o2,e,eb,rfl,ex,er⟩;cases b with
  | nil=>simp [encs] at eb
  | cons d b =>
  simp only [encs,List.cons.injEq] at eb;obtain ⟨rfl,rfl⟩:=eb
  have last:∀ (u:Addr) (μ2:Mu) (c k:Int),Ext μ' μ2->μ2 u=some (.lst [.int c,.int k])->c=(cnt d:Int) - 1->k=dep d->∀ E:Ends3,E.nx=(λ ρ μ3=>LsI w μ (encs b) ρ μ3) ->
      set3 1 (lst3 (xa0 (o3 addR (o3 addR (o3 ixR (v3 1) [3]) [4]) (o3 ixR (v3 3) [3])) (xa0 (wa0 mxR (xa0 (o3 ixR (v3 1) [4]) (xa0 (o3 ixR (v3 3) [4]) nil3))) nil3))) E [some (.tup (encs w)),some (.ref r),some (enc d),some (.ref u)] μ2:=λ u μ2 c k g1 g2 hc hk E hE=>by
   have g3:=g1 _ _ er;refine wh5 (ds:=[.int ((cnts a:Int) + 1 + 1 + c),.int (if k > (deps a:Int) then k else deps a)]) (λ R kk=>yb0 (x:=.int ((cnts a:Int) + 1 + 1 + c)) (o3_v (o3_v (x:=.int ((cnts a:Int) + 1)) (ix_v rfl g3 atI0) (y:=.int 1) (λ K k=>k) (z:=.int ((cnts a:Int) + 1 + 1)) λ K k=>k) (ix_v rfl g2 atI0) λ K k=>k) (yb0 (vf3 (ds:=[.int (deps a),.int k]) (λ R kk=>yb0 (ix_v rfl g3 atI1) (yb0 (ix_v rfl g2 atI1) kk)) λ K kk=>by assumption) kk)) z2 λ s2 hs2=>?_;rw [hE];refine ⟨a ++ [d],b,s2,_,_,by rw [<- e]; simp,rfl,rfl,(ex.trans g1).trans (Ext.new hs2),?_⟩;rw [ya0,vv0,wd0,hc,hk];simp only [cnts,deps]
   simp_all;omega
  have hd:dep d<=deps w:=by rw [<- e,wd0]; simp only [deps]; omega
  refine lst_c (ds:=[.int 0,.int 0]) (λ R kk=>kk) z2 λ s hs=>?_;cases d with
  | go n =>
   refine zb0 (λ K kk=>kk) ?_;exact last s _ 0 0 (Ext.new hs) ya0 (by simp [cnt]) (by simp [dep]) _ rfl
  | jump n =>
   refine zb0 (λ K kk=>kk) ?_;exact last s _ 0 0 (Ext.new hs) ya0 (by simp [cnt]) (by simp [dep]) _ rfl
  | turn n =>
   refine zb0 (λ K kk=>kk) ?_;exact last s _ 0 0 (Ext.new hs) ya0 (by simp [cnt]) (by simp [dep]) _ rfl
  | times n v =>
   refine ye0 (λ K kk=>kk) ?_;simp only [dep] at hd;refine ⟨v,rfl,by omega,λ z μ2 g1 g2=>?_⟩;dsimp only;refine wh5 (ds:=[.int ((cnts v:Int) + 1 - 1),.int ((deps v:Int) + 1)]) (λ R kk=>yb0 (x:=.int ((cnts v:Int) + 1 - 1)) (o3_v (ix_v rfl g2 atI0) (y:=.int 1) (λ K k=>k) λ K k=>k) (yb0 (x:=.int ((deps v:Int) + 1)) (o3_v (ix_v rfl g2 atI1) (y:=.int 1) (λ K k=>k) λ K k=>k) kk)) z2 λ s2 hs2=>?_;exact last s2 _ _ _ (((Ext.new hs).trans g1).trans (Ext.new hs2)) ya0 (by simp only [cnt]; omega) (by simp only [dep]; omega) _ rfl
noncomputable def ti2 (j:Nat):Sp3:=λ ds μ Q=>∃ w:List Dd,ds=[.tup (encs w)] /\ deps w < j /\ deps w<=9 /\ ∀ b μ',Ext μ μ'->(b=true->bnds w /\ cnts w<=30 /\ deps w<=4)->Q (.bl b) μ'
theorem xw0:∀ a b,bnds (a ++ b) ↔ bnds a /\ bnds b
 | [],b=>by simp [bnds]
 | d :: r,b=>by simp only [cons_append,bnds,xw0 r b,and_assoc]
noncomputable def LfI (w:List Dd) (μ:Mu) (l:List D) (ρ:St3) (μ':Mu):Prop:=∃ (a b:List Dd) (o:Option D),a ++ b=w /\ l=encs b /\ ρ=[some (.tup (encs w)),some (.int ((cnts w:Int) + 1)),some (.int (deps w)),o] /\ Ext μ μ' /\ bnds a
theorem rd_q4 (j:Nat):RdQ (ti2 (j + 1)) (t_q4 (ti2 j) (spSz 10)) N_q4:=by
 rintro ds μ Q ⟨w,rfl,hj,hj9,q⟩;have e20:((10:Int) ^ (20:Int).toNat)=100000000000000000000:=by decide
 have c20:CPow 10 20:=⟨by decide,by decide,by decide⟩;simp only [t_q4,seq3,asg3,wa0,xa0,v3,ua0,map_cons,map_nil,N_q4,length_cons,length_nil,Nat.zero_add,Nat.reduceAdd,Nat.reduceSub,List.replicate,cons_append,nil_append,getI,nil3,geR,powR,leR];refine ⟨w,rfl,by omega,λ p μ1 x1 e1=>?_⟩;simp only [wc2,e1,length_cons,length_nil,Nat.zero_add,Nat.reduceAdd,xo0,gn3,ut1,seq3,for3,is3,v3,set_cons_succ,set_cons_zero,getI,true_and];refine sd0 (LfI w μ) ?_ (λ _ _ _ _=>trivial) ?_ ?_
 ·exact ⟨[],w,none,rfl,rfl,rfl,x1,by simp [bnds]⟩
 ·rintro ρ μ' ⟨a,b,o,e,eb,rfl,ex,hb⟩
  have:b=[]:=by cases b with
   | nil=>rfl
   | cons d t=>simp [encs] at eb
  subst this;rw [append_nil] at e;subst e;simp only [ret3,tc1,o3,v3,getI,c3,zh0,decide_eq_true_eq];split
  ·exact q _ μ' ex λ h=>⟨hb,by omega,by simp_all;omega⟩
  simp_all
 ·rintro x l ρ μ' ⟨a,b,o,e,eb,rfl,ex,hb⟩;cases b with
  | nil=>simp [encs] at eb
  | cons d b =>
  simp only [encs,List.cons.injEq] at eb;obtain ⟨rfl,rfl⟩:=eb;have hd:dep d<=deps w:=by rw [<- e,wd0]; simp only [deps]; omega
  have fin:∀ μ2:Mu,Ext μ μ2->bnd1 d->LfI w μ (encs b) [some (D.tup (encs w)),some (.int ((cnts w:Int) + 1)),some (.int (deps w)),some (enc d)] μ2:=λ μ2 g1 g2 =>
   ⟨a ++ [d],b,_,by rw [<- e]; simp,rfl,rfl,g1,by rw [xw0]; trivial⟩
  cases d with
  | go n =>
   simp only [gn3,ifs3,or3,b3,o3,wa0,xa0,v3,enc,set_cons_succ,set_cons_zero,getI,c3,ixR,atI1,nil3,absR,int2,c20,zh0,e20,decide_eq_true_eq,ret3,sa0,if_true,and3,atI0,not3,Bool.not_eq_true',Bool.false_eq_true,if_false,tg1,kn_go_times,true_and];have hA:n<=(if n < 0 then -n else n) /\ -n<=(if n < 0 then -n else n):=by split <;> omega
   generalize (if n < 0 then -n else n)=A at hA ⊢;split
   ·simp_all
   ·exact fin μ' ex (by simp only [bnd1,G]; omega)
  | jump n =>
   simp only [gn3,ifs3,or3,b3,o3,wa0,xa0,v3,enc,set_cons_succ,set_cons_zero,getI,c3,ixR,atI1,nil3,absR,int2,c20,zh0,e20,decide_eq_true_eq,ret3,sa0,if_true,and3,atI0,not3,Bool.not_eq_true',Bool.false_eq_true,if_false,tg1,kn_jump_times,true_and];have hA:n<=(if n < 0 then -n else n) /\ -n<=(if n < 0 then -n else n):=by split <;> omega
   generalize (if n < 0 then -n else n)=A at hA ⊢;split
   ·simp_all
   ·exact fin μ' ex (by simp only [bnd1,G]; omega)
  | turn n =>
   simp only [gn3,ifs3,or3,b3,o3,wa0,xa0,v3,enc,set_cons_succ,set_cons_zero,getI,c3,ixR,atI1,nil3,absR,int2,c20,zh0,e20,decide_eq_true_eq,ret3,sa0,if_true,and3,atI0,not3,Bool.not_eq_true',Bool.false_eq_true,if_false,tg1,kn_turn_times,true_and];have hA:n<=(if n < 0 then -n else n) /\ -n<=(if n < 0 then -n else n):=by split <;> omega
   generalize (if n < 0 then -n else n)=A at hA ⊢;split
   ·simp_all
   ·exact fin μ' ex (by simp only [bnd1,G]; omega)
  | times n v =>
   simp only [gn3,ifs3,or3,b3,o3,wa0,xa0,v3,enc,set_cons_succ,set_cons_zero,getI,c3,ixR,atI1,nil3,absR,int2,c20,zh0,e20,decide_eq_true_eq,ret3,sa0,if_true,and3,atI0,not3,atI2,Bool.not_eq_true',Bool.false_eq_true,if_false,tg1,true_and];have hA:n<=(if n < 0 then -n else n) /\ -n<=(if n < 0 then -n else n):=by split <;> omega
   generalize (if n < 0 then -n else n)=A at hA ⊢;split
   ·simp_all
   ·simp only [dep] at hd;refine ⟨v,rfl,by omega,by omega,λ b2 μ2 g1 g2=>?_⟩;simp only [];cases b2 with
    | false=>simp only [if_true]; exact q _ μ2 (ex.trans g1) λ h=>by cases h
    | true=>exact fin μ2 (ex.trans g1) (by simp only [bnd1,G]; simp_all;omega)
theorem ub3:∀ {way:List Int} {w:List Dd},Vw way w->cnts (sub way w)<=cnts w /\ deps (sub way w)<=deps w
 | [],w,_=>⟨Nat.le_refl _,Nat.le_refl _⟩
 | a :: way,w,h=>by
  obtain ⟨h0,n,v,hv,h⟩:=h;have ih:=ub3 h;have c1:=vq0 (mem_of_getElem? hv);have d1:=vk0 (mem_of_getElem? hv);simp only [cnt,dep] at c1 d1;simp only [sub,hv];omega
theorem tg2:∀ {way:List Int} {w:List Dd} {d:Dd} {i:Int},Vw way w->idl d=true->0<=i->i<=(sub way w).length->∃ v,aft way w (.inn d) i=some v
 | [],w,d,i,_,hd,h0,h1=>by
  simp only [sub] at h1;simp only [aft,cha,if_pos (And.intro h0 h1),chg,if_pos hd];exact ⟨_,rfl⟩
 | a :: way,w,d,i,h,hd,h0,h1=>by
  obtain ⟨ha,n,v,hv,h⟩:=h;simp only [sub,hv] at h1;obtain ⟨v',e⟩:=tg2 h hd h0 h1;simp only [aft,if_pos ha,hv,e];exact ⟨_,rfl⟩
noncomputable def kok (k:Kd):Prop:=∀ d,k=.inn d->dep d<=2 /\ nn1 d
theorem wm1:PyData.strOk ("part" : Str)=true:=by decide +kernel
theorem ze1:PyData.strOk ("close" : Str)=true:=by decide +kernel
theorem xw1 (k:Kd):PyData.strOk (kn k)=true:=by cases k <;> (simp only [kn]; decide +kernel)
theorem zv2 {c:Bool} {K:Bool->Mu->Prop} (h6:getI ρ 6=some (.str z)) (hz:PyData.strOk z=true) (hc:(decide (("part" : Str)=z) || decide (("close" : Str)=z))=c) (k:∀ q,μ q=none->K c (updM μ q (.lst [.str "part",.str "close"]))):b3 (o3 (inR false) (v3 6) (lst3 (xa0 (c3 (.str "part")) (xa0 (c3 (.str "close")) nil3)))) ρ μ K:=by
 unfold b3 o3 v3;rw [h6];exact ⟨show 2<=sizeLine by decide,λ p hp=>ye3 wm1 ze1 hz ya0 hc (k p hp)⟩
variable {way:List Int} {g:Addr} {ys:List D}
theorem wi2 (h1:getI ρ 1=some (.tup (encs w))) (h5:getI ρ 5=some (.ref g)) (h8:getI ρ 8=some (vf0 k way i)) (hg:μ g=some (.lst ys)) (hl:ys.length < sizeLine)
    (b1:way.length < 6) (b2:deps w<=10) (b3':cnts w<=200) (b4:∀ d,k=.inn d->dep d<=10) (hn:aft way w k i=none->∀ μ',Ext μ μ'->E.nx ρ μ') (hs:∀ v,aft way w k i=some v->∀ μ',Ext μ μ'->E.nx ρ (updM μ' g (.lst (ys ++ [vf0 k way i])))) :
    (ifs3 (b3 (o3 (isNR true) (wa0 (zz0 6) (xa0 (v3 1) (xa0 (v3 8) nil3))) (c3 .non))) (vd0 (mt3 appR (v3 5) (xa0 (v3 8) nil3))) sa0) E ρ μ:=by
 simp only [ifs3,b3,o3,wa0,xa0,v3,h1,h8,nil3];refine ⟨w,k,way,i,rfl,b1,by omega,b2,b3',b4,λ μ' ex=>?_⟩;cases e:aft way w k i with
 | none=>exact hn e μ' ex
 | some v =>
  have hg':=ex _ _ hg;show (vd0 (mt3 appR (v3 5) (xa0 (v3 8) nil3))) E ρ μ';simp only [vd0,mt3,v3,h5,h8,xa0,nil3,hg',appR]
  simp_all
variable {ti:TI3}
theorem for_c {g:TG3} {tb r:TS3} {l:List D} (h:∀ R:List D->(Mu->Prop)->Mu->Prop,R l S μ->ti ρ μ R) (k:vk1 S g tb { D' with nx:=r D' } l ρ μ):seq3 (for3 ti g tb) r D' ρ μ:=h _ k
theorem for_d {g:TG3} {tb:TS3} {l:List D} (h:∀ R:List D->(Mu->Prop)->Mu->Prop,R l S μ->ti ρ μ R) (k:vk1 S g tb D' l ρ μ):for3 ti g tb D' ρ μ:=h _ k
noncomputable def KL:List D:=[.str "join",.str "part",.str "out",.str "in",.str "open",.str "close",.str "once",.str "twice"]
noncomputable def Mem (μ0:Mu) (p kq g:Addr) (ys:List D) (μ:Mu):Prop:=ExtB p μ0 μ /\ μ kq=some (.lst KL) /\ μ g=some (.lst ys) /\ ∃ a b,μ p=some (.lst [.int a,.int b]) /\ 0<=a
variable {μ0:Mu} {kq:Addr}
theorem Mem.ext (m:Mem μ0 p kq g ys μ) (e:Ext μ μ'):Mem μ0 p kq g ys μ':=by
 obtain ⟨m1,m2,m3,a,b,m4,m5⟩:=m;exact ⟨m1.trans (e.b p),e _ _ m2,e _ _ m3,a,b,e _ _ m4,m5⟩
theorem Mem.extB (m:Mem μ0 p kq g ys μ) (n1:kq ≠ p) (n2:g ≠ p) (e:ExtB p μ μ') {a b:Int} (h:μ' p=some (.lst [.int a,.int b])) (h0:0<=a):Mem μ0 p kq g ys μ':=by
 obtain ⟨m1,m2,m3,_⟩:=m;exact ⟨m1.trans e,e _ _ n1 m2,e _ _ n2 m3,a,b,h,h0⟩
theorem Mem.app {zs:List D} (m:Mem μ0 p kq g ys μ) (n1:g ≠ p) (n2:g ≠ kq) (h:μ0 g=none):Mem μ0 p kq g zs (updM μ g (.lst zs)):=by
 obtain ⟨m1,m2,m3,a,b,m4,m5⟩:=m;refine ⟨λ c o hc ho=>?_,by rw [ta0 (Ne.symm n2)]; exact m2,ya0,a,b,by rw [ta0 (Ne.symm n1)]; exact m4,m5⟩;rw [ta0 (ug0 ho h)];exact m1 c o hc ho
noncomputable def Gds (w:List Dd) (way:List Int) (ys:List D):Prop:=∀ y ∈ ys,∃ k i v,y=vf0 k way i /\ aft way w k i=some v /\ kok k
noncomputable def spSt:Sp3:=λ ds μ Q=>∃ (p:Addr) (w:List Dd) (a b:Int),ds=[.ref p,.tup (encs w)] /\ Wd w /\ μ p=some (.lst [.int a,.int b]) /\ 0<=a ∧
 ∀ k way i v a' b' μ',ExtB p μ μ'->μ' p=some (.lst [.int a',.int b'])->0<=a'->aft way w k i=some v->Vw way w->way.length<=4->kok k->Q (vf0 k way i) μ'
noncomputable def SR (p kq g:Addr) (w:List Dd) (way:List Int) (a b c:Option D):St3:=[some (.ref p),some (.tup (encs w)),some (.tup (way.map D.int)),some (.tup (encs (sub way w))),some (.ref kq),some (.ref g),a,b,c]
noncomputable def SJ (μ1:Mu) (p kq g:Addr) (w:List Dd) (way:List Int) (x:D) (l r:List D) (ρ:St3) (μ':Mu):Prop:=∃ (ys:List D) (o7 o8:Option D),ρ=SR p kq g w way (some x) o7 o8 /\ Mem μ1 p kq g ys μ' /\ Gds w way ys /\ ys.length + r.length + 100 * l.length<=800 /\ (∀ y ∈ r,∃ i:Int,y=.int i /\ 0<=i /\ i<=(sub way w).length) /\ (ys ≠ [] \/ D.str "in" ∈ l \/ (x=D.str "in" /\ r ≠ []))
noncomputable def sLst:TS3:=(ifs3 (b3 (o3 (isNR true) (wa0 (zz0 6) (xa0 (v3 1) (xa0 (v3 8) nil3))) (c3 .non))) (vd0 (mt3 appR (v3 5) (xa0 (v3 8) nil3))) sa0)
noncomputable def sBd:TS3:=(seq3 (ifs3 (b3 (o3 (inR false) (v3 6) (lst3 (xa0 (c3 (.str "part")) (xa0 (c3 (.str "close")) nil3))))) (set3 8 (o3 addR (v3 8) (tup3 (xa0 (wa0 sh0 (xa0 (v3 0) (xa0 (c3 (.int 3)) nil3))) nil3)))) sa0) (seq3 (ifs3 (b3 (o3 eqR (v3 6) (c3 (.str "in")))) (set3 8 (o3 addR (v3 8) (tup3 (xa0 (wa0 spI1 (xa0 (v3 0) nil3)) nil3)))) sa0) sLst))
noncomputable def SO (μ1:Mu) (p kq g:Addr) (w:List Dd) (way:List Int) (l:List D) (ρ:St3) (μ':Mu):Prop:=∃ (ys:List D) (o6 o7 o8:Option D),ρ=(SR p kq g w way o6 o7 o8) /\ Mem μ1 p kq g ys μ' /\ Gds w way ys /\ ys.length + 100 * l.length<=800 /\ (∃ a,a ++ l=KL) /\ (ys ≠ [] \/ D.str "in" ∈ l)
theorem rd_q9:RdQ spSt (t_q9 (zz0 6) spI1 sh0 (spWy 6)) N_q9:=by
 rintro ds μ Q ⟨p,w,a,b,rfl,wd,h3,h4,q⟩;obtain ⟨_,wd2,wd3⟩:=wd;have hz:(100000:Nat) < sizeLine:=by decide
 refine ⟨p,w,a,b,rfl,by omega,by omega,by omega,h3,h4,λ way a1 b1 μ1 x1 e1 e1' hv hl=>⟨rfl,?_⟩⟩;show vl0 (zz0 6) spI1 sh0 (spWy 6) { nx:=λ _ μ'=>Q .non μ',rt:=Q } [some (.ref p),some (.tup (encs w)),some (.tup (way.map D.int)),some (.tup (encs (sub way w))),none,none,none,none,none] μ1;have sb:=ub3 hv;have ls:=wc0 (sub way w);refine ⟨show 8<=sizeLine by omega,λ kq hkq=>?_⟩;refine ⟨Nat.zero_le _,λ g hg=>?_⟩;have npk:kq ≠ p:=λ h=>by simp_all
 have ng0:g ≠ kq:=λ h=>by subst h; rw [ya0] at hg; cases hg
 have ng1:g ≠ p:=λ h=>by subst h; rw [ta0 (Ne.symm npk),e1] at hg; cases hg
 have g0:μ1 g=none:=by rw [ta0 ng0] at hg; exact hg
 have M0:Mem μ1 p kq g [] (updM (updM μ1 kq (.lst KL)) g (.lst [])):=⟨((Ext.new hkq).trans (Ext.new hg)).b p,by rw [ta0 (Ne.symm ng0),ya0],ya0,a1,b1,by rw [ta0 (Ne.symm ng1),ta0 (Ne.symm npk)]; exact e1,e1'⟩;show wl0 (zz0 6) spI1 sh0 (spWy 6) { nx:=λ _ μ'=>Q .non μ',rt:=Q } (SR p kq g w way none none none) (updM (updM μ1 kq (.lst KL)) g (.lst []));generalize updM (updM μ1 kq (.lst KL)) g (.lst [])=μ2 at M0 ⊢;have ek:μ2 kq=some (.lst KL):=M0.2.1
 have ek':∀ R:List D->(Mu->Prop)->Mu->Prop,R KL (λ μ=>μ kq=some (.lst KL)) μ2->is3 (v3 4) (SR p kq g w way none none none) μ2 R:=λ R h=>by
  simp only [is3,v3,SR,getI,ek];exact h
 refine for_c ek' ?_;refine sd0 (SO μ1 p kq g w way) ?_ ?_ ?_ ?_
 ·exact ⟨[],none,none,none,rfl,M0,λ y hy=>(by cases hy),by simp [KL],⟨[],rfl⟩,.inr (by simp [KL])⟩
 ·rintro l ρ μ' ⟨ys,_,_,_,_,m,_⟩;exact m.2.1
 ·rintro ρ μ' ⟨ys,o6,o7,o8,rfl,m,hg,hl',_,hne⟩;obtain ⟨m1,m2,m3,a',b',m4,m5⟩:=m;have hy:ys ≠ []:=by simp_all
  have hp:0 < ys.length:=List.length_pos_iff.mpr hy;simp only [zl0,ret3,o3,v3,SR,getI,wa0,xa0,nil3,lenR,m3,ixR];simp only [length_nil,Nat.mul_zero,Nat.add_zero] at hl';refine ⟨p,ys.length,a',b',rfl,by omega,by omega,m4,m5,λ t a2 b2 t1 t2 t3=>?_⟩;have m6:updM μ' p (.lst [.int a2,.int b2]) g=some (.lst ys):=by rw [ta0 ng1]; exact m3
  obtain ⟨y,hy1,hy2⟩:=sf2 (l:=ys) t1 t2;obtain ⟨k,i,v,rfl,e,ko⟩:=hg y hy1;simp only [m6,hy2];exact q k way i v a2 b2 _ ((x1.trans m1).trans ExtB.upd) ya0 t3 e hv [2] ko
 ·rintro x l ρ μ' ⟨ys,o6,o7,o8,rfl,m,hg,hl',⟨al,hal⟩,hne⟩;rw [length_cons] at hl';have hx:x ∈ KL:=by rw [<- hal]; simp
  refine for_d (l:=rngD 0 (((encs (sub way w)).length:Int) + 1).toNat) (S:=λ _=>True) (λ R k=>⟨⟨show -(2 ^ 62)<=(((encs (sub way w)).length:Int) + 1) by omega,show (((encs (sub way w)).length:Int) + 1) < 2 ^ 62 by rw [va0]; omega⟩,k⟩) ?_;rw [va0];refine sd0 (λ r ρ μ'=>SJ μ1 p kq g w way x l r ρ μ') ?_ (λ _ _ _ _=>trivial) ?_ ?_
  ·refine ⟨ys,o7,o8,rfl,m,hg,?_,?_,?_⟩
   ·simp only [rngD,length_map,length_range]; omega
   ·intro y hy;obtain ⟨n,hn,rfl⟩:=List.mem_map.mp hy
    simp_all;omega
   ·rcases hne with h | h
    ·exact .inl h
    ·rcases List.mem_cons.mp h with h | h
     ·refine .inr (.inr ⟨h.symm,λ e=>?_⟩);have:=congrArg List.length e;simp only [rngD,length_map,length_range,length_nil] at this;omega
     simp_all
  ·rintro ρ μ' ⟨ys,o7,o8,rfl,m,hg,hl',_,hne⟩;refine ⟨ys,_,_,_,rfl,m,hg,by simpa using hl',⟨al ++ [x],by rw [<- hal]; simp⟩,?_⟩
   simp_all
  ·rintro y r ρ μ' ⟨ys,o7,o8,rfl,m,hg,hl',hr,hne⟩;obtain ⟨i,rfl,i0,i1⟩:=hr _ (mem_cons_self);rw [length_cons] at hl';have hr':∀ y ∈ r,∃ i:Int,y=.int i /\ 0<=i /\ i<=(sub way w).length:=λ y hy=>hr y (mem_cons_of_mem _ hy)
   have lst:∀ (k:Kd) (E:Ends3) (μ3:Mu),x=.str (kn k)->kok k->(∀ d,k=.inn d->idl d=true)->Mem μ1 p kq g ys μ3->(∀ ρ μ',SJ μ1 p kq g w way x l r ρ μ'->E.nx ρ μ') ->
       sLst E (SR p kq g w way (some x) (some (.int i)) (some (vf0 k way i))) μ3:=λ k E μ3 ex ko ki m3 nx=>by
    refine wi2 rfl rfl rfl m3.2.2.1 [2] [2] [2] [2] (λ d e=>by have:=(ko d e).1; omega) (λ hn μ4 e4=>?_) (λ v hs μ4 e4=>?_)
    ·refine nx _ _ ⟨ys,_,_,rfl,m3.ext e4,hg,by omega,hr',?_⟩;rcases hne with h | h | h
     ·exact .inl h
     ·exact .inr (.inl h)
     ·cases k with
      | inn d =>
       obtain ⟨v,hv'⟩:=tg2 hv (ki d rfl) i0 i1
       simp_all
      | _=>rw [ex] at h; exact absurd h.1 (by simp only [kn,D.str.injEq]; decide)
    ·refine nx _ _ ⟨ys ++ [vf0 k way i],_,_,rfl,(m3.ext e4).app ng1 ng0 g0,λ y hy=>?_,by simp_all;omega,hr',.inl (by simp)⟩;rcases List.mem_append.mp hy with hy | hy
     ·exact hg y hy
     ·rw [List.mem_singleton.mp hy]; exact ⟨k,i,v,rfl,hs,ko⟩
   refine tl3 (x:=.tup [x,.tup (way.map D.int),.int i]) (λ K kk=>⟨show 3<=sizeLine by omega,kk⟩) ?_;obtain ⟨m1,m2,m3,a2,b2,m4,m5⟩:=id m
   have plain:∀ k:Kd,x=.str (kn k)->ned k=[]->(decide (("part" : Str)=kn k) || decide (("close" : Str)=kn k))=false->(∀ K:Bool->Mu->Prop,∀ μ,K false μ->K (decide (kn k=("in" : Str))) μ)->∀ E:Ends3,(∀ ρ μ',SJ μ1 p kq g w way x l r ρ μ'->E.nx ρ μ') ->
       sBd E (SR p kq g w way (some x) (some (.int i)) (some (.tup [x,.tup (way.map D.int),.int i]))) μ':=λ k ex hn hc hi E nx=>by
    have ko:kok k:=λ d e=>by rw [e] at hn; cases hn
    have ki:∀ d,k=.inn d->idl d=true:=λ d e=>by rw [e] at hn; cases hn
    refine ut0 (zv2 (z:=kn k) (c:=false) (by rw [ex]; rfl) (xw1 k) hc λ s hs=>?_);rw [if_neg (by decide)];have e8:D.tup [x,.tup (way.map D.int),.int i]=vf0 k way i:=by rw [ex,vf0,hn]
    rw [e8];refine zb0 (λ K kk=>?_) (lst k E _ ex ko ki (m.ext (Ext.new hs)) nx);rw [ex];exact hi (λ b μ=>K b μ) _ kk
   simp only [KL,mem_cons,List.mem_nil_iff,or_false] at hx;rcases hx with hx | hx | hx | hx | hx | hx | hx | hx
   ·exact plain .join hx rfl rfl (λ K μ k=>k) _ λ _ _ h=>h
   ·subst hx;refine ut0 (zv2 (z := "part") (c:=true) rfl wm1 rfl λ s hs=>?_);rw [if_pos rfl];have M1:=m.ext (Ext.new (o:=.lst [.str "part",.str "close"]) hs);have m4':=Ext.new (o:=.lst [.str "part",.str "close"]) hs _ _ m4;refine ⟨p,3,a2,b2,rfl,by decide,by decide,m4',m5,λ t a3 bb3 t1 t2 t3=>⟨show 1<=sizeLine by omega,show 3 + 1<=sizeLine by omega,?_⟩⟩;dsimp only;refine zb0 (λ K kk=>kk) ?_;exact lst (.part t) _ _ rfl (λ d e=>by cases e) (λ d e=>by cases e) (M1.extB npk ng1 ExtB.upd ya0 t3) λ _ _ h=>h
   ·exact plain .out hx rfl rfl (λ K μ k=>k) _ λ _ _ h=>h
   ·subst hx;refine ut0 (zv2 (z := "in") (c:=false) rfl (xw1 (.inn (.go 0))) rfl λ s hs=>?_);rw [if_neg (by decide)];have M1:=m.ext (Ext.new (o:=.lst [.str "part",.str "close"]) hs);have m4':=Ext.new (o:=.lst [.str "part",.str "close"]) hs _ _ m4;refine ye0 (λ K kk=>kk) ?_;refine ⟨p,a2,b2,rfl,m4',m5,λ d a3 b3 μ5 g1 g2 g3 g4 g5 g6=>⟨show 1<=sizeLine by omega,show 3 + 1<=sizeLine by omega,?_⟩⟩;exact lst (.inn d) _ _ rfl (λ d e=>by simp_all) (λ d e=>by cases e; exact g4) (M1.extB npk ng1 g1 g2 g3) λ _ _ h=>h
   ·exact plain .opn hx rfl rfl (λ K μ k=>k) _ λ _ _ h=>h
   ·subst hx;refine ut0 (zv2 (z := "close") (c:=true) rfl ze1 rfl λ s hs=>?_);rw [if_pos rfl];have M1:=m.ext (Ext.new (o:=.lst [.str "part",.str "close"]) hs);have m4':=Ext.new (o:=.lst [.str "part",.str "close"]) hs _ _ m4;refine ⟨p,3,a2,b2,rfl,by decide,by decide,m4',m5,λ t a3 bb3 t1 t2 t3=>⟨show 1<=sizeLine by omega,show 3 + 1<=sizeLine by omega,?_⟩⟩;dsimp only;refine zb0 (λ K kk=>kk) ?_;exact lst (.close t) _ _ rfl (λ d e=>by cases e) (λ d e=>by cases e) (M1.extB npk ng1 ExtB.upd ya0 t3) λ _ _ h=>h
   ·exact plain .once hx rfl rfl (λ K μ k=>k) _ λ _ _ h=>h
   ·exact plain .twice hx rfl rfl (λ K μ k=>k) _ λ _ _ h=>h
theorem xw3 {rest:List Dd} {n:Nat} {x:List Dd} (ko:kok k) (h:chg rest k=some (n,x)):deps x<=deps rest + 3:=by
 cases k with
 | inn d=>simp only [chg] at h; split at h <;> simp at h; obtain ⟨_,rfl⟩:=h; have:=(ko d rfl).1; simp only [deps]; omega
 | close m=>simp only [chg] at h; split at h <;> simp at h; obtain ⟨_,rfl⟩:=h; have:=zk0 rest m.toNat; simp only [deps,dep]; omega
 | out=>cases rest with
  | nil=>simp [chg] at h
  | cons d r=>simp only [chg] at h; split at h <;> simp at h; obtain ⟨_,rfl⟩:=h; simp [deps]
 | opn =>
  simp only [chg] at h;split at h
  ·next m v r=>split at h <;> simp at h; obtain ⟨_,rfl⟩:=h; simp only [deps,dep]; omega
  ·cases h
 | twice =>
  simp only [chg] at h;split at h
  ·simp at h; obtain ⟨_,rfl⟩:=h; simp [deps,dep]
  ·cases h
 | part m=>cases rest with
  | nil=>simp [chg] at h
  | cons d r =>
   simp only [chg,Option.map_eq_some_iff] at h; obtain ⟨p,hp,e⟩:=h; simp at e; obtain ⟨_,rfl⟩:=e;rw [vc3] at hp;split at hp <;> simp at hp;subst hp;have:∀ m,dep (wt m d)=dep d:=λ m=>by cases d <;> rfl
   simp only [deps,this]; omega
 | once =>
  simp only [chg] at h;split at h
  ·split at h <;> simp at h; obtain ⟨_,rfl⟩:=h; simp [deps,dep]
  ·cases h
 | join =>
  simp only [chg] at h;split at h
  ·next d e r =>
   simp only [Option.map_eq_some_iff] at h; obtain ⟨p,hp,e'⟩:=h; simp at e'; obtain ⟨_,rfl⟩:=e'
   have:dep p=dep d:=by
    cases d <;> cases e <;> simp only [jn] at hp <;> first | (cases hp; done) | skip
    ·cases hp; rfl
    ·cases hp; rfl
    ·cases hp; rfl
    ·split at hp <;> cases hp; rfl
   simp only [deps,this]; omega
  ·cases h
theorem xh2:∀ {way:List Int} {w:List Dd} {k:Kd} {i:Int} {v:List Dd},kok k->aft way w k i=some v->deps v<=deps w + 3
 | [],w,k,i,v,ko,h=>by
  simp only [aft,cha] at h;split at h
  ·next c =>
   obtain ⟨⟨n,x⟩,hc,rfl⟩:=Option.map_eq_some_iff.mp h;have h1:=xw3 ko hc;have h2:=wk0 w i.toNat;have h3:=wk0 w (i.toNat + n);have h4:=zk0 w i.toNat;simp only [wd0];omega
  ·cases h
 | a :: way,w,k,i,v,ko,h=>by
  simp only [aft] at h;split at h
  ·split at h
   ·next n u hu =>
    obtain ⟨v',hv,rfl⟩:=Option.map_eq_some_iff.mp h;have ih:=xh2 ko hv;have d1:=vk0 (mem_of_getElem? hu);have h3:=wk0 w (a.toNat + 1);have h4:=zk0 w a.toNat;simp only [dep] at d1;simp only [wd0,deps,dep];omega
   ·cases h
  ·cases h
noncomputable def pT (s:T3):PyData:=.tuple [.int s.1,.int s.2.1,.int s.2.2]
theorem zf3:∀ L:List T3,dats (L.map encT)=some (L.map pT)
 | []=>rfl
 | t :: r=>by simp only [map_cons,dats,encT,dat,zf3 r,pT]
theorem zd2:∀ L:List T3,PyData.depthAll (L.map pT)<=2
 | []=>by trivial
 | t :: r=>by
  have:=zd2 r;simp only [map_cons,PyData.depthAll,pT,PyData.depth];omega
theorem tq1 (L:List T3):(PyData.tuple (L.map pT)).depth<=64:=by
 have:=zd2 L;simp only [PyData.depth];omega
theorem zj5:∀ L:List T3,PyData.eqvAll (L.map pT) (L.map pT)=true
 | []=>by rfl
 | t :: r=>by
  simp only [map_cons,PyData.eqvAll,zj5 r,pT];simp [PyData.eqv,PyData.eqvAll]
theorem eq_TT (L:List T3) (k:K (.bl true) μ):eqR (.tup (L.map encT)) (.tup (L.map encT)) μ K:=by
 have d:datM μ (.tup (L.map encT))=some (.tuple (L.map pT)):=by simp only [datM,dat,zf3]
 rw [xc1 rfl d d (tq1 L) (tq1 L),show PyData.eqv (.tuple (L.map pT)) (.tuple (L.map pT))=true by simp [PyData.eqv,zj5 L]];exact k
theorem zq1:∀ l:List Int,PyData.eqvAll (l.map PyData.int) (l.map PyData.int)=true
 | []=>by rfl
 | a :: r=>by simp [PyData.eqvAll,PyData.eqv,zq1 r]
theorem ya2 (l:List Int) (k:K (.bl false) μ):neR (.tup (l.map D.int)) (.tup (l.map D.int)) μ K:=by
 have d:datM μ (.tup (l.map D.int))=some (.tuple (l.map PyData.int)):=by simp only [datM,dat,zv0]
 have dp:(PyData.tuple (l.map PyData.int)).depth<=64:=by have:=wq0 l; simp only [PyData.depth]; omega
 rw [up0 rfl d d dp dp,show PyData.eqv (.tuple (l.map PyData.int)) (.tuple (l.map PyData.int))=true by simp [PyData.eqv,zq1 l]];exact k
theorem vf5 (o:Option Bx) (k:K (.bl false) μ):neR (encB o) (encB o) μ K:=by
 cases o with
 | none=>exact k
 | some b=>exact ya2 [b.1,b.2.1,b.2.2.1,b.2.2.2] k
noncomputable def kD (ss:List St1):List D:=ss.map λ s=>.str (kn s.1)
theorem sd2:∀ ss:List St1,dats (kD ss)=some (ss.map λ s=>.str (kn s.1)) /\ PyData.depthAll (ss.map λ s=>PyData.str (kn s.1))<=1
 | []=>by trivial
 | s :: r=>by
  have i:=sd2 r;unfold kD at i;simp only [kD,map_cons,dats,dat,xw1,if_true,i.1,PyData.depthAll,PyData.depth]
  simp_all
theorem in_kD (hz:PyData.strOk z=true) (hg:μ g=some (.lst (kD ss))) (k:∀ b:Bool,(b=true->∀ s ∈ ss,kn s.1 ≠ z)->K (.bl b) μ):inR true (.str z) (.ref g) μ K:=by
 show inD true (.str z) (.ref g) μ K;obtain ⟨i1,i2⟩:=sd2 ss;have d1:datM μ (.str z)=some (.str z):=by simp only [datM,dat,hz,if_true]
 have d2:datM μ (.ref g)=some (.list (ss.map λ s=>.str (kn s.1))):=by simp only [datM,hg,i1]
 unfold inD;simp only [d1,d2];refine ⟨⟨by simp [PyData.depth],by simp only [PyData.depth]; omega⟩,k _ λ h s hs e=>?_⟩;simp only [if_true,Bool.not_eq_true',List.any_eq_false,mem_map,forall_exists_index,and_imp,forall_apply_eq_imp_iff₂] at h;refine h s hs ?_;rw [e];simp [PyData.eqv]
theorem zj2:PyData.strOk ("once" : Str)=true:=by decide +kernel
theorem sv1:PyData.strOk ("twice" : Str)=true:=by decide +kernel
theorem vb5 (h1:kn k ≠ "once") (h2:kn k ≠ "twice"):plk k:=by
 cases k <;> first | trivial | exact absurd rfl h1 | exact absurd rfl h2
theorem Wlk.snoc {c:List Dd} (h:Wlk w ss c) (h1:way.length < 6) (h2:aft way c k i=some v) (h3:∀ d,k=.inn d->dep d<=10) (h4:Wd v):Wlk w (ss ++ [(k,way,i)]) v:=by
 induction h with
 | nil=>exact .cons h1 h2 h3 h4 .nil
 | cons a b c d e ih=>exact .cons a b c d (ih h2)
theorem ne_vv {i:Nat} (h1:getI ρ i=some (.tup (encs w))) (h2:getI ρ j=some (.tup (encs w))) (hd:deps w<=20) (k:K (.bl false) μ):o3 neR (v3 i) (v3 j) ρ μ K:=by
 unfold o3 v3;simp only [h1,h2];exact ne_W hd hd λ b hb=>by simp_all
theorem app_c {u:TE3} {r:TS3} {l:List D} {d:D} (h1:∀ K:VK3,K (.ref p) μ->t ρ μ K) (h2:∀ K:VK3,K d μ->u ρ μ K) (hp:μ p=some (.lst l)) (hl:l.length < sizeLine) (k:r E ρ (updM μ p (.lst (l ++ [d])))):seq3 (vd0 (mt3 appR t (xa0 u nil3))) r E ρ μ:=h1 _ (by
 show (match μ p with | some (.lst xs)=>_ | _=>False);rw [hp];refine h2 _ ?_;dsimp only [nil3];exact app_l hp hl k)
theorem and_c {u:TT3} {K:Bool->Mu->Prop} (h:c ρ μ λ b μ1=>if b=true then u ρ μ1 K else K false μ1):and3 c u ρ μ K:=h
theorem in_v (hz:PyData.strOk z=true) (h:getI ρ j=some (.ref g)) (hg:μ g=some (.lst (kD ss))) {K:Bool->Mu->Prop} (k:∀ b:Bool,(b=true->∀ s ∈ ss,kn s.1 ≠ z)->K b μ):b3 (o3 (inR true) (c3 (.str z)) (v3 j)) ρ μ K:=by
 unfold b3 o3 c3 v3;simp only [h];exact in_kD hz hg λ b hb=>k b hb
noncomputable def Sml (w:List Dd):Prop:=sks w<=400 /\ dns w<=400
noncomputable def ui2:Sp3:=λ ds μ Q=>∃ ns:List Int,ds=[.fls (ns.map D.int)] /\ ns.length<=63 /\ ∀ μ',Q (.bl true) μ'
noncomputable abbrev LT (t:Sp3->Sp3->Sp3->Sp3->Sp3->Sp3->Sp3->Sp3->Sp3->Sp3->Sp3->Sp3->TS3):TS3:=t (zz0 6) (vi2 3) (ti2 9) zm1 spSt sh0 uv1 si1 xx0 spPo xk3 yh4
theorem wt3 (q:∀ μ',Q (.bl true) μ') {f:Addr} {o0 o1 o6 o7 o8 o9:Option D} (ww:Wd w) (wv:Wd v) (sw:Sml w) (sv:Sml v) (hk:Wlk w ss v) (hf:μ f=some (.lst (ss.map xd2))) (hg:μ g=some (.lst (kD ss))) :
    LT tl1 { nx:=λ _ μ'=>Q .non μ',rt:=Q } [o0,o1,some (.tup (encs w)),some (.ref f),some (.tup (encs v)),some (.ref g),o6,o7,o8,o9] μ:=by
 have al:=yg2 (b:=False) hk ww (λ z=>z.elim);refine ⟨f,w,v,ss,rfl,hf,ww,hk,?_⟩;show LT ul1 { nx:=λ _ μ'=>Q .non μ',rt:=Q } [o0,o1,some (.tup (encs w)),some (.ref f),some (.tup (encs v)),some (.ref g),o6,o7,o8,some (.tup (encs v))] μ;refine ut0 ?_;refine or_c (b:=false) (λ K k=>b3_c (λ K k=>ne_vv (w:=v) rfl rfl (by have:=wv.2.1; omega) k) k) ?_;rw [if_neg (by decide)];refine ⟨v,rfl,wv,w,rfl,ww,?_⟩;rw [al.1];refine ya2 [(led st (pb v)).1,(led st (pb v)).2.1,(led st (pb v)).2.2] ?_;refine ⟨v,rfl,wv,λ μ1 x1=>⟨w,rfl,ww,λ μ2 x2=>?_⟩⟩;rw [yx3 al ww.1 wv.1];refine vf5 _ ?_;have g2:=x2 _ _ (x1 _ _ hg)
 have pic:∀ μ3:Mu,LT vd1 { nx:=λ _ μ'=>Q .non μ',rt:=Q } [o0,o1,some (.tup (encs w)),some (.ref f),some (.tup (encs v)),some (.ref g),o6,o7,o8,some (.tup (encs v))] μ3:=λ μ3=>by
  refine ⟨v,rfl,wv,sv,λ us μ4 x4 hu=>⟨w,rfl,ww,sw,λ us' μ5 x5 hu'=>?_⟩⟩;rw [hu.one (sw3 al ww.1 wv.1 hu')];exact eq_TT _ (q μ5)
 refine ut0 ?_;refine and_c (in_v zj2 rfl g2 λ b1 h1=>?_);cases b1 with
 | false=>exact pic μ2
 | true =>
  rw [if_pos rfl];refine and_c (in_v sv1 rfl g2 λ b2 h2=>?_);cases b2 with
  | false=>exact pic μ2
  | true =>
   rw [if_pos rfl];refine ⟨v,rfl,wv,λ μ3 x3=>⟨w,rfl,ww,λ μ4 x4=>?_⟩⟩;have e:=(yg2 (b:=True) hk ww (λ _ s hs=>vb5 (h1 rfl s hs) (h2 rfl s hs))).2.2 trivial;rw [e];dsimp only;rw [uf5,decide_eq_true rfl];exact pic μ4
noncomputable def LWv (p f g:Addr) (ns:List Int) (w:List Dd) (l:List D) (ρ:St3) (μ':Mu):Prop:=∃ (c:List Dd) (ss:List St1) (o6 o7 o8:Option D),ρ=[some (.fls (ns.map D.int)),some (.ref p),some (.tup (encs w)),some (.ref f),some (.tup (encs c)),some (.ref g),o6,o7,o8,none] /\ Wd c /\ Sml c /\ Wlk w ss c /\ ss.length + l.length<=9 /\ μ' f=some (.lst (ss.map xd2)) /\ μ' g=some (.lst (kD ss)) /\ ∃ a b,μ' p=some (.lst [.int a,.int b]) /\ 0<=a
theorem xw4:RdQ ui2 (LT we4) zz3:=by
 rintro ds μ Q ⟨ns,rfl,hl,q⟩;have hz:(100:Nat) < sizeLine:=by decide
 refine ⟨ns,0,rfl,by decide,λ a b p ha hp=>?_⟩;refine ⟨p,4,a,b,rfl,by decide,by decide,ya0,ha,λ m a1 b1 m0 m1 ha1=>?_⟩;refine ⟨p,2,m,rfl,by decide,by decide,by decide,m0,by omega,a1,b1,ya0,ha1,λ w a2 b2 μ2 x2 e2 ha2 hs hd hlen=>?_⟩;have dw:deps w<=2:=by omega
 show LT sl1 { nx:=λ _ μ'=>Q .non μ',rt:=Q } [some (.fls (ns.map D.int)),some (.ref p),some (.tup (encs w)),none,none,none,none,none,none,none] μ2
 have main:∀ (w:List Dd) (μ3:Mu),Wd w->(∃ a b,μ3 p=some (.lst [.int a,.int b]) /\ 0<=a)->LT uy0 { nx:=λ _ μ'=>Q .non μ',rt:=Q } [some (.fls (ns.map D.int)),some (.ref p),some (.tup (encs w)),none,none,none,none,none,none,none] μ3:=λ w μ3 wd h3=>by
  obtain ⟨a3,b3',e3,ha3⟩:=h3;refine ut0 ?_;refine ⟨w,rfl,wd,λ μ4 x4=>?_⟩;by_cases sm:sks w<=400 /\ dns w<=400
  ·show if (!decide (sks w<=400 /\ dns w<=400))=true then _ else _;rw [decide_eq_true sm];have e4:=x4 _ _ e3;refine ⟨Nat.zero_le _,λ f hf=>?_⟩;refine ⟨Nat.zero_le _,λ g hg=>?_⟩;have fp:f ≠ p:=λ z=>by simp_all
   have gf:g ≠ f:=λ z=>by rw [z,ya0] at hg; cases hg
   have gp:g ≠ p:=λ z=>by rw [z,ta0 (Ne.symm fp),e4] at hg; cases hg
   refine ⟨p,9,a3,b3',rfl,by decide,by decide,by rw [ta0 (Ne.symm gp),ta0 (Ne.symm fp)]; exact e4,ha3,λ n a5 b5 n0 n1 ha5=>?_⟩;refine ⟨⟨by omega,by omega⟩,?_⟩;refine sd0 (λ l ρ μ'=>LWv p f g ns w l ρ μ') ⟨w,[],none,none,none,rfl,wd,sm,.nil,?_,?_,?_,a5,b5,ya0,ha5⟩ (λ _ _ _ _=>trivial) ?_ ?_
   ·rw [wh0]; simp; omega
   ·rw [ta0 fp,ta0 (Ne.symm gf),ya0]; rfl
   ·rw [ta0 gp,ya0]; rfl
   ·rintro ρ μ' ⟨c,ss,o6,o7,o8,rfl,wc,sc,hk,_,hf',hg',_⟩;exact wt3 q wd wc sm sc hk hf' hg'
   ·rintro x l ρ μ' ⟨c,ss,o6,o7,o8,rfl,wc,sc,hk,hlen,hf',hg',a6,b6,e6,ha6⟩;refine ⟨p,c,a6,b6,rfl,wc,e6,ha6,λ k way i v a7 b7 μ7 x7 e7 ha7 hv vw wl ko=>?_⟩;obtain ⟨w1,w2,w3⟩:=id wc;refine ⟨c,k,way,i,rfl,by omega,by omega,by omega,by omega,λ d e=>by have:=(ko d e).1; omega,λ μ8 x8=>?_⟩;rw [hv];have dv:=xh2 ko hv;have f8:=x8 _ _ (x7 _ _ fp hf');have g8:=x8 _ _ (x7 _ _ gp hg');refine ⟨v,rfl,by omega,by omega,λ fb μ9 x9 hfb=>?_⟩;have e9:=x9 _ _ (x8 _ _ e7);have f9:=x9 _ _ f8;have g9:=x9 _ _ g8;simp only [length_cons] at hlen;cases fb with
    | false=>exact ⟨c,ss,_,_,_,rfl,wc,sc,hk,by omega,f9,g9,a7,b7,e9,ha7⟩
    | true =>
     obtain ⟨f1,f2,f3⟩:=hfb rfl
     have nk:nnk k:=by
      cases k with
      | inn d=>exact (ko d rfl).2
      | _=>trivial
     have wv:Wd v:=⟨(zo1 v).mpr ⟨wg3 ((zo1 c).mp w1).1 nk hv,f1⟩,f3,f2⟩;refine ⟨v,rfl,wv,λ μA xA=>?_⟩;have eA:=xA _ _ e9;have fA:=xA _ _ f9;have gA:=xA _ _ g9;by_cases sv:sks v<=400 /\ dns v<=400
     ·show if decide (sks v<=400 /\ dns v<=400)=true then _ else _;rw [decide_eq_true sv];rw [if_pos rfl];refine app_c (p:=f) (d:=xd2 (k,way,i)) (λ K k=>k) (λ K k=>k) fA (by simp_all;omega) ?_;refine app_c (p:=g) (l:=kD ss) (d:=.str (kn k)) (λ K k=>k) (λ K k=>sf0 atI0 k) (by rw [ta0 gf]; exact gA) (by rw [kD,length_map]; omega) ?_;refine ⟨v,ss ++ [(k,way,i)],_,_,_,rfl,wv,sv,hk.snoc [2] hv (λ d e=>by have:=(ko d e).1; omega) wv,by simp_all;omega,?_,?_,a7,b7,?_,ha7⟩
      ·rw [ta0 (Ne.symm gf),ya0,map_append]; rfl
      ·rw [ya0]; simp only [kD,map_append]; rfl
      ·rw [ta0 (Ne.symm gp),ta0 (Ne.symm fp)]; exact eA
     ·show if decide (sks v<=400 /\ dns v<=400)=true then _ else _;rw [decide_eq_false sv];exact ⟨c,ss,_,_,_,rfl,wc,sc,hk,by omega,fA,gA,a7,b7,eA,ha7⟩
  ·show if (!decide (sks w<=400 /\ dns w<=400))=true then _ else _;rw [decide_eq_false sm];exact q μ4
 have cut:∀ μ3:Mu,μ3 p=some (.lst [.int a2,.int b2])->LT uy0 { nx:=λ _ μ'=>Q .non μ',rt:=Q } [some (.fls (ns.map D.int)),some (.ref p),some (.tup (cut3 (encs w) none (some 1))),none,none,none,none,none,none,none] μ3:=λ μ3 e3=>by
  cases w with
  | nil=>exact main [] μ3 ⟨by simp [oks],by simp [deps],by simp [cnts]⟩ ⟨a2,b2,e3,ha2⟩
  | cons d r =>
   have ec:cut3 (encs (d :: r)) none (some 1)=encs [d]:=by
    rfl
   rw [ec];simp only [sds,deps] at hs dw;exact main [d] μ3 (ym3 hs.1 [2]) ⟨a2,b2,e3,ha2⟩
 refine ut0 ?_;refine ⟨w,rfl,by omega,by omega,λ fb μ3 x3 hfb=>?_⟩;have e3:=x3 _ _ e2;cases fb with
 | true =>
  obtain ⟨f1,f2,f3⟩:=hfb rfl;have wd:Wd w:=⟨(sw1 w hs).1,f3,f2⟩;refine ⟨w,rfl,wd,λ μ4 x4=>?_⟩;by_cases sm:sks w<=400 /\ dns w<=400
  ·show if (!decide (sks w<=400 /\ dns w<=400))=true then _ else _;rw [decide_eq_true sm];exact main w μ4 wd ⟨a2,b2,x4 _ _ e3,ha2⟩
  ·show if (!decide (sks w<=400 /\ dns w<=400))=true then _ else _;rw [decide_eq_false sm];exact cut μ4 (x4 _ _ e3)
 | false=>exact cut μ3 e3
end Pv
namespace Pv
open PySem PySem.Spec PyProof.Rows L2
theorem bn1 {P:List Value->Prop} (h:∀ a,P [a]) (us:List Value) (e:us.length=1):P us:=by
 match us,e with
 | [a],_=>exact h a
theorem bn2 {P:List Value->Prop} (h:∀ a b,P [a,b]) (us:List Value) (e:us.length=2):P us:=by
 match us,e with
 | [a,b],_=>exact h a b
theorem bn3 {P:List Value->Prop} (h:∀ a b c,P [a,b,c]) (us:List Value) (e:us.length=3):P us:=by
 match us,e with
 | [a,b,c],_=>exact h a b c
theorem bn4 {P:List Value->Prop} (h:∀ a b c d,P [a,b,c,d]) (us:List Value) (e:us.length=4):P us:=by
 match us,e with
 | [a,b,c,d],_=>exact h a b c d
noncomputable abbrev NsR (K:Fg) (x:Str) (p:Addr):Prop:=nsIn K mainGlobals x=some (some (.ref p))
noncomputable def FnA (K:Fg) (x:Str) (st:Stmt) (p:Addr):Prop:=∃ oc od sl kV dc pm an cd ct,K.lookup p=some ⟨oc,od,.func (fnOf x x (xj0 st) (xe0 st) (za0 st) .none kV dc pm an cd ct),sl⟩ /\ codeIn K cd x=true /\ keepIn K (.ref p)=true
variable {K:Fg} {p:Addr} {sl:Array (Option Value)}
theorem fnA_mk {x:Str} {st:Stmt} {oc kV dc pm cd ct:Value} {od an:Option Addr} (l:K.lookup p=some ⟨oc,od,.func (fnOf x x (xj0 st) (xe0 st) (za0 st) .none kV dc pm an cd ct),sl⟩) (c:codeIn K cd x=true) (k:keepIn K (.ref p)=true):FnA K x st p:=⟨_,_,_,_,_,_,_,_,_,l,c,k⟩
theorem FnA.fn {x:Str} {st:Stmt} (h:FnA K x st p):∃ fd,Fun K x x st p fd:=by
 obtain ⟨_,_,_,_,_,_,_,_,_,l,c,k⟩:=h;exact ⟨_,we3 (st:=st) l c k⟩
local macro_rules | `(tactic| trivial)=>`(tactic| first | (intro _ _ F; exact F.binds λ _ _ _ _ _ _=>by first | exact bn1 λ _=>rfl | exact bn2 λ _ _=>rfl | exact bn3 λ _ _ _=>rfl | exact bn4 λ _ _ _ _=>rfl) | (intros; rename_i h; (first | exact h.elim | exact h.1 | repeat first | omega | (obtain ⟨e,_⟩:=h; subst e; rfl) | obtain ⟨_,h⟩:=h); done))
local macro_rules | `(tactic| trivial)=>`(tactic| first | with_reducible assumption | decide | exact Cal.mono (by with_reducible assumption) (by omega) | exact CalX.mono (by with_reducible assumption) (by omega))
noncomputable def FnB (K:Fg) (x:Str) (st:Stmt):Prop:=∃ p,NsR K x p /\ FnA K x st p
theorem fnB_mk {x:Str} {st:Stmt} {oc kV dc pm cd ct:Value} {od an:Option Addr} (a:NsR K x p) (l:K.lookup p=some ⟨oc,od,.func (fnOf x x (xj0 st) (xe0 st) (za0 st) .none kV dc pm an cd ct),sl⟩) (c:codeIn K cd x=true) (k:keepIn K (.ref p)=true):FnB K x st:=⟨p,a,fnA_mk l c k⟩
theorem calZ {P:Program} {w:World} {K:Fg} {mg:Str->Option Value} {base h:Heap} {x:Str} {st:Stmt} {ps:List Str} {c:Nat} {sp:Sp3} (X:K.In h) (G:h.Ns mainGlobals mg) (A:FnB K x st)
    (hb:∀ f fd,Fun K x x st f fd->Binds K fd ps []:=by trivial)
    (hz:∀ (ds:List D) (μ:Mu) (Q:VK3),sp ds μ Q->False:=by trivial):Cal P w K mg base (c) x ps (sp):=by
 obtain ⟨p,a,A⟩:=A;obtain ⟨_,F⟩:=A.fn;exact (vx2 F (mg_of X G a) (hb _ _ F) hz).mono (Nat.zero_le _)
variable {w:World} {mg:Str->Option Value} {base:Heap} {ps:List Str} {sd:Nat->Sp3} {c:Nat}
theorem pr {P:Program} {x y:Str} {qs:List Str} {sw:Nat->Sp3} (h0:Cal P w K mg base (c) x ps (sd 0)) (h1:∀ j,Cal P w K mg base (2 * j + c) x ps (sd j)->Cal P w K mg base (2 * j + c + 1) y qs (sw j)) (h2:∀ j,Cal P w K mg base (2 * j + c + 1) y qs (sw j)->Cal P w K mg base (2 * j + c + 2) x ps (sd (j + 1))) (J:Nat):Cal P w K mg base (2 * J + c) x ps (sd J) /\ Cal P w K mg base (2 * J + c + 1) y qs (sw J):=by
 have h:∀ j,Cal P w K mg base (2 * j + c) x ps (sd j):=λ j=>by
  induction j with
  | zero=>exact h0.mono [2]
  | succ j ih=>exact (h2 j (h1 j ih)).mono [2]
 exact ⟨h J,h1 J (h J)⟩
theorem se {P:Program} {x:Str} (h0:Cal P w K mg base (c) x ps (sd 0)) (h1:∀ j,Cal P w K mg base (j + c) x ps (sd j)->Cal P w K mg base (j + c + 1) x ps (sd (j + 1))) (J:Nat):Cal P w K mg base (J + c) x ps (sd J):=by
 induction J with
 | zero=>exact h0.mono [2]
 | succ j ih=>exact (h1 j ih).mono [2]
theorem calB {P:Program} {w:World} {K:Fg} {mg:Str->Option Value} {base h:Heap} {x:Str} {st:Stmt} {N ps:List Str} {k:Nat} {sp:Sp3} {t:TS3} (X:K.In h) (G:h.Ns mainGlobals mg) (A:FnB K x st) (S:FnScope N ps (za0 st))
    (rs:∀ (f:Addr) (cdv:Value) (A:Around) (outer:List Env) (s:Shared) (H:Hp) (E:XK),Room k (A.deeper (envOfC x (za0 st) s.heap.objs.size f cdv))->RSs (cxOf CX0 P w K mg base N x (za0 st) f cdv A outer s H E).nox (xe0 st) t)
    (rd:∀ (ds:List D) (μ:Mu) (Q:VK3),sp ds μ Q->t { nx:=λ _ μ'=>Q .non μ',rt:=Q } (ua0 N ds) μ)
    (hb:∀ f fd,Fun K x x st f fd->Binds K fd ps []:=by trivial)
    (len:∀ (ds:List D) (μ:Mu) (Q:VK3),sp ds μ Q->ds.length=ps.length:=by trivial):Cal P w K mg base (k + 1) x ps sp:=by
 obtain ⟨p,a,A⟩:=A;obtain ⟨_,F⟩:=A.fn;exact uk0 F (mg_of X G a) (hb _ _ F) S len (rs p) rd
section
variable {P:Program} 
noncomputable def rx_0:=[6].1.2.2.2.1
noncomputable def rx_1:=[6].1.2.1
noncomputable def rx_2:=[6].1.2.2.1
noncomputable def rx_3:=[6].1.1
noncomputable def rx_4:=[6].1.2.2.2.2.2.2.1
noncomputable def rx_5:=[6].2.1.2.1
noncomputable def rx_6:=[6].1.2.2.2.2.2.2.2
noncomputable def rx_7:=[6].2.1.1
noncomputable def rx_8:=[6].1.2.2.2.2.2.1
noncomputable def rx_9:=[6].1.2.2.2.2.1
noncomputable def rx_10:=[6].2.1.2.2.2.1
noncomputable def rx_11:=[6].2.1.2.2.2.2.1
noncomputable def rx_12:=[6].2.1.2.2.1
noncomputable def rx_13:=[6].2.1.2.2.2.2.2.2.1
noncomputable def rx_14:=[6].2.1.2.2.2.2.2.2.2
noncomputable def rx_15:=[6].2.1.2.2.2.2.2.1
noncomputable def rx_16:=[6].2.2.1.1
noncomputable def rx_17:=[6].2.2.1.2.2.2.2.1
noncomputable def rx_18:=[6].2.2.1.2.2.2.2.2.1
noncomputable def rx_19:=[6].2.2.2.1.2.2.1
noncomputable def rx_20:=[6].2.2.2.1.1
noncomputable def rx_21:=[6].2.2.2.1.2.1
noncomputable def rx_22:=[6].2.2.2.1.2.2.2.1
noncomputable def rx_23:=[6].2.2.2.1.2.2.2.2.1
noncomputable def rx_24:=[6].2.2.2.1.2.2.2.2.2.2.1
noncomputable def rx_25:=[6].2.2.2.1.2.2.2.2.2.1
noncomputable def rx_26:=[6].2.2.1.2.2.2.2.2.2.2
noncomputable def rx_27:=[6].2.2.1.2.2.2.2.2.2.1
noncomputable def rx_28:=[6].2.2.2.1.2.2.2.2.2.2.2
noncomputable def rx_29:=[6].2.2.1.2.2.2.1
noncomputable def rx_30:=[6].2.2.1.2.2.1
noncomputable def rx_31:=[6].2.2.1.2.1
noncomputable def rx_32:=[6].2.2.2.2.1.1
noncomputable def rx_33:=[6].2.2.2.2.1.2.1
noncomputable def rx_34:=[6].2.2.2.2.1.2.2.2.2.2.2.1
noncomputable def rx_35:=[6].2.2.2.2.1.2.2.2.2.2.1
noncomputable def rx_36:=[6].2.2.2.2.1.2.2.2.2.1
noncomputable def rx_37:=[6].2.2.2.2.1.2.2.1
noncomputable def rx_38:=[6].2.2.2.2.1.2.2.2.1
noncomputable def rx_39:=[6].2.2.2.2.2.1.2.2.2.2.1
noncomputable def rx_40:=[6].2.2.2.2.2.1.2.2.2.2.2.1
noncomputable def rx_41:=[6].2.2.2.2.2.1.2.2.2.1
noncomputable def rx_42:=[6].2.2.2.2.2.1.2.2.1
noncomputable def rx_43:=[6].2.2.2.2.2.1.1
noncomputable def rx_44:=[6].2.2.2.2.2.1.2.1
noncomputable def rx_45:=[6].2.2.2.2.1.2.2.2.2.2.2.2
noncomputable def rx_46:=[6].2.2.2.2.2.1.2.2.2.2.2.2.1
noncomputable def rx_47:=[6].2.2.2.2.2.1.2.2.2.2.2.2.2
noncomputable def rx_48:=[6].2.2.2.2.2.2.1.2.1
noncomputable def rx_49:=[6].2.2.2.2.2.2.1.1
noncomputable def rx_50:=[6].2.2.2.2.2.2.1.2.2.1
noncomputable def rx_51:=[6].2.2.2.2.2.2.1.2.2.2.1
noncomputable def rx_52:=[6].2.2.2.2.2.2.1.2.2.2.2.1
noncomputable def rx_53:=[6].2.2.2.2.2.2.1.2.2.2.2.2.1
noncomputable def rx_54:=[6].2.2.2.2.2.2.1.2.2.2.2.2.2.1
noncomputable def rx_55:=[6].2.2.2.2.2.2.1.2.2.2.2.2.2.2
noncomputable def rx_56:=[6].2.2.2.2.2.2.2.2.1
noncomputable def rx_57:=[6].2.2.2.2.2.2.2.1
noncomputable def rx_58:=[6].2.2.2.2.2.2.2.2.2
end
local macro_rules | `([9003,$x])=>`(λ _ _ _ _ _ _ _ r=>by apply $x (hr:=r) <;> trivial)
theorem all_mk {l:PySem.W.OpenLaw} {h:Heap} {fa:Addr} (X:K.In h) (G:h.Ns mainGlobals mg) (hfa:mg "law" = some (.ref fa)) {p_q36 p_q42 p_q38 p_q50 p_q40 p_q23 p_q31 p_q32 jde:Addr} {t_1:Tok} {t_2:Tok} {t_3:Tok} {t_4:Tok} {t_6:Tok} {t_7:Tok} {t_8:Tok} {q_5:Addr} {qo_5:Option Addr} {qn_5:Nat} {qs_5:Array (Option Value)} {t_10:Tok} {t_11:Tok} {q_9:Addr} {qo_9:Option Addr} {qn_9:Nat} {qs_9:Array (Option Value)} {t_13:Tok} {t_14:Tok} {t_15:Tok} {q_12:Addr} {jdu:Option Addr} {jdv:Nat} {jdw:Array (Option Value)} {t_18:Tok} {t_19:Tok} {q_17:Addr} {jdx:Option Addr} {jdy:Nat} {jdz:Array (Option Value)} {t_21:Tok} {t_22:Tok} {q_20:Addr} {jd0:Option Addr} {jd1:Nat} {jd2:Array (Option Value)} {t_24:Tok} {t_25:Tok} {q_23:Addr} {jd3:Option Addr} {jd4:Nat} {jd5:Array (Option Value)} {t_27:Tok} {t_28:Tok} {q_26:Addr} {jd6:Option Addr} {jd7:Nat} {jd8:Array (Option Value)} {q_16:Addr} {jd9:Option Addr} {jea:Nat} {jeb:Array (Option Value)} {t_30:Tok} {t_31:Tok} {t_32:Tok} {q_29:Addr} {jec:Option Addr} {jed:Nat} {jee:Array (Option Value)} {a_CHANGES:Addr} {ja7:Array DictEntry} {jbd:Nat} {a_DEEDS_TAKEN:Addr} {jas:Array DictEntry} {ja6:Nat} {jax:Tok} {jay:Tok} {jaz:Tok} {ja0:Tok} {ja1:Tok} {ja2:Tok} {ja3:Tok} (jbu:FnB K "check_word" to2) (jbv:FnB K "checked_count" uo2) (jbl:FnB K "checked_deed_count" vo2) (jbw:FnB K "check_number" xp2) (jbx:FnB K "pen_after" xm2) (jby:FnB K "carried" wp2) (jbz:FnB K "led" vm2) (jb0:FnB K "pen_behind" ul2) (jbm:FnB K "pen_behind_deed" vl2) (jb1:FnB K "pen_repeated" wl2) (jb2:FnB K "strokes_drawn" wk2) (jb3:FnB K "count_strokes" xo2) (jbn:FnB K "count_strokes_of_deed" sn2) (jb4:FnB K "deeds_done" un2) (jb5:FnB K "count_done" zo2) (jbo:FnB K "count_done_of_deed" yo2) (jb6:FnB K "is_small" sm2) (jb7:FnB K "walked" xk2) (jb8:FnB K "word_behind" sj2) (jbp:FnB K "changed_word" yp2) (jb9:FnB K "deeds_from" vn2) (jca:FnB K "exchanged" yn2) (jcb:NsR K "join_deeds" p_q36) (jcc:FnA K "join_deeds" tm2 p_q36) (jcd:NsR K "part_deed" p_q42) (jce:FnA K "part_deed" ym2 p_q42) (jcf:NsR K "leave_out" p_q38) (jcg:FnA K "leave_out" um2 p_q38) (jch:NsR K "put_in" p_q50) (jci:FnA K "put_in" sk2 p_q50) (jcj:FnB K "is_idle" xn2) (jck:NsR K "open_times" p_q40) (jcl:FnA K "open_times" wm2 p_q40) (jcm:NsR K "close_deeds" p_q23) (jcn:FnA K "close_deeds" wo2 p_q23) (jco:NsR K "draw_once" p_q31) (jcp:FnA K "draw_once" wn2 p_q31) (jcq:NsR K "draw_twice" p_q32) (jcr:FnA K "draw_twice" zn2 p_q32) (jcs:FnB K "changed_deeds" zp2) (jct:FnB K "stroke_between" uk2) (jcu:FnB K "strokes_along" vk2) (jcv:FnB K "picture_with" yl2) (jcw:FnB K "picture_of" zl2) (jcx:FnB K "strokes_from" zk2) (jbq:FnB K "plain_deeds" xl2) (jcy:FnB K "strokes_of_go" yk2) (jcz:FnB K "box_of" tp2) (jc0:FnB K "word_box" tj2) (jbr:FnB K "deed_box" tn2) (jc1:FnB K "box_repeated" up2) (jc2:FnB K "outermost_doings" zm2) (jc3:FnB K "box_round" vp2) (jc4:FnB K "box_from" sp2) (A_q8:FnB K "_law_state" s_q8) (jc5:FnB K "_law_take" yq2) (A_q2:FnB K "_law_deed" s_q2) (A_q3:FnB K "_law_deeds" s_q3) (A_q5:FnB K "_law_idle" s_q5) (A_q1:FnB K "_law_change" s_q1) (A_q0:FnB K "_law_after" s_q0) (A_q7:FnB K "_law_size" s_q7) (A_q4:FnB K "_law_fits" s_q4) (jbs:FnB K "_law_way" xq2) (A_q9:FnB K "_law_step" s_q9) (A_q6:FnB K "_law_idle_one" s_q6) (jbt:NsR K "law" jde) (jc6:FnA K "law" se1 jde) (jar:nsIn K mainGlobals "MOST_DEEDS" = some (some (.int (30) t_1))) (jat:nsIn K mainGlobals "MOST_DEEP" = some (some (.int (4) t_2))) (jab:nsIn K mainGlobals "GREATEST_NUMBER" = some (some (.int (99999999999999999999) t_3))) (jak:nsIn K mainGlobals "MOST_OF_SMALL" = some (some (.int (400) t_4))) (jao:nsIn K mainGlobals "PLAIN_KINDS" = some (some (.ref q_5))) (ql_5:K.lookup q_5=some ⟨.type "tuple",qo_5,.seq #[.str "go" t_6,.str "jump" t_7,.str "turn" t_8] qn_5,qs_5⟩) (jaa:nsIn K mainGlobals "KINDS_FROM_NOUGHT" = some (some (.ref q_9))) (ql_9:K.lookup q_9=some ⟨.type "tuple",qo_9,.seq #[.str "go" t_10,.str "times" t_11] qn_9,qs_9⟩) (jba:nsIn K mainGlobals "START" = some (some (.ref q_12))) (jc7:K.lookup q_12=some ⟨.type "tuple",jdu,.seq #[.int (0) t_13,.int (0) t_14,.int (0) t_15] jdv,jdw⟩) (jbb:nsIn K mainGlobals "AHEAD" = some (some (.ref q_16))) (jc8:K.lookup q_16=some ⟨.type "tuple",jd9,.seq #[.ref q_17,.ref q_20,.ref q_23,.ref q_26] jea,jeb⟩) (jc9:K.lookup q_26=some ⟨.type "tuple",jd6,.seq #[.int (0) t_27,.int (-1) t_28] jd7,jd8⟩) (jda:K.lookup q_23=some ⟨.type "tuple",jd3,.seq #[.int (-1) t_24,.int (0) t_25] jd4,jd5⟩) (jdb:K.lookup q_20=some ⟨.type "tuple",jd0,.seq #[.int (0) t_21,.int (1) t_22] jd1,jd2⟩) (jdc:K.lookup q_17=some ⟨.type "tuple",jdx,.seq #[.int (1) t_18,.int (0) t_19] jdy,jdz⟩) (jac:nsIn K mainGlobals "KINDS_WITH_NEED" = some (some (.ref q_29))) (jdd:K.lookup q_29=some ⟨.type "tuple",jec,.seq #[.str "part" t_30,.str "in" t_31,.str "close" t_32] jed,jee⟩) (ja4:nsIn K mainGlobals "CHANGES" = some (some (.ref a_CHANGES))) (jau:K.lookup a_CHANGES=some ⟨.type "dict",none,.dict ja7 jbd,#[]⟩) (jav:KeysLit w.params ja7.toList) (jaw:(a_CHANGES == sysModules)=false) (me_CHANGES_join_deeds:nsIn K a_CHANGES "join" = some (some (.ref p_q36))) (me_CHANGES_part_deed:nsIn K a_CHANGES "part" = some (some (.ref p_q42))) (me_CHANGES_leave_out:nsIn K a_CHANGES "out" = some (some (.ref p_q38))) (me_CHANGES_put_in:nsIn K a_CHANGES "in" = some (some (.ref p_q50))) (me_CHANGES_open_times:nsIn K a_CHANGES "open" = some (some (.ref p_q40))) (me_CHANGES_close_deeds:nsIn K a_CHANGES "close" = some (some (.ref p_q23))) (me_CHANGES_draw_once:nsIn K a_CHANGES "once" = some (some (.ref p_q31))) (me_CHANGES_draw_twice:nsIn K a_CHANGES "twice" = some (some (.ref p_q32))) (jap:nsIn K mainGlobals "DEEDS_TAKEN" = some (some (.ref a_DEEDS_TAKEN))) (jal:K.lookup a_DEEDS_TAKEN=some ⟨.type "dict",none,.dict jas ja6,#[]⟩) (jam:KeysLit w.params jas.toList) (jan:(a_DEEDS_TAKEN == sysModules)=false) (jad:nsIn K a_DEEDS_TAKEN "join" = some (some (.int 2 jax))) (jae:nsIn K a_DEEDS_TAKEN "part" = some (some (.int 1 jay))) (jaf:nsIn K a_DEEDS_TAKEN "out" = some (some (.int 1 jaz))) (jag:nsIn K a_DEEDS_TAKEN "in" = some (some (.int 0 ja0))) (jah:nsIn K a_DEEDS_TAKEN "open" = some (some (.int 1 ja1))) (jai:nsIn K a_DEEDS_TAKEN "once" = some (some (.int 3 ja2))) (jaj:nsIn K a_DEEDS_TAKEN "twice" = some (some (.int 1 ja3))) (jbe:nsIn K mainGlobals "abs" = some none) (jbf:nsIn K mainGlobals "int" = some none) (jaq:nsIn K mainGlobals "isinstance" = some none) (jbg:nsIn K mainGlobals "len" = some none) (jbc:nsIn K mainGlobals "list" = some none) (jbh:nsIn K mainGlobals "max" = some none) (jbi:nsIn K mainGlobals "min" = some none) (ja8:nsIn K mainGlobals "range" = some none) (jbj:nsIn K mainGlobals "set" = some none) (ja5:nsIn K mainGlobals "sorted" = some none) (jbk:nsIn K mainGlobals "sum" = some none) (ja9:nsIn K mainGlobals "tuple" = some none) :
    ∃ fd:FuncData,(∀ (s:Shared) (v:Value),BindsTo s fd ⟨[v],[]⟩ [("script",v)]) /\ ∀ base:Heap,K.In base->base.Ns mainGlobals mg->FnOk l.prog w K mg base CX0 26 fa fd ["script"] (lift K ui2):=by
 have e:=hfa.symm.trans (mg_of X G jbt);cases e;have g_MOST_DEEDS:Gd K mg "MOST_DEEDS" xk0:=xq1 X G jar;have g_MOST_DEEP:Gd K mg "MOST_DEEP" xm0:=xq1 X G jat;have g_GREATEST_NUMBER:Gd K mg "GREATEST_NUMBER" ue0:=xq1 X G jab;have g_MOST_OF_SMALL:Gd K mg "MOST_OF_SMALL" td0:=xq1 X G jak;have g_PLAIN_KINDS:Gd K mg "PLAIN_KINDS" ti0:=zg1 X G jao (TupK.mk ql_5 Z0 (.str (.str (.str .nil))));have g_KINDS_FROM_NOUGHT:Gd K mg "KINDS_FROM_NOUGHT" xc0:=zg1 X G jaa (TupK.mk ql_9 Z1 (.str (.str .nil)));have g_START:Gd K mg "START" ud0:=zg1 X G jba (TupK.mk jc7 Z0 (.int (.int (.int .nil))));have g_AHEAD:Gd K mg "AHEAD" yk0:=zg1 X G jbb (TupK.mk jc8 (show 4<=sizeLine by decide) (.tup (TupK.mk jdc Z1 (.int (.int .nil))) (.tup (TupK.mk jdb Z1 (.int (.int .nil))) (.tup (TupK.mk jda Z1 (.int (.int .nil))) (.tup (TupK.mk jc9 Z1 (.int (.int .nil))) .nil)))));have g_KINDS_WITH_NEED:Gd K mg "KINDS_WITH_NEED" vc0:=zg1 X G jac (TupK.mk jdd Z0 (.str (.str (.str .nil))));have md_CHANGES:Mdc w K mg "CHANGES" a_CHANGES:=⟨mg_of X G ja4,jaw,_,_,jau,jav⟩;have mn_CHANGES_ok:=xb1 me_CHANGES_join_deeds me_CHANGES_part_deed me_CHANGES_leave_out me_CHANGES_put_in me_CHANGES_open_times me_CHANGES_close_deeds me_CHANGES_draw_once me_CHANGES_draw_twice;have md_DEEDS_TAKEN:Mdc w K mg "DEEDS_TAKEN" a_DEEDS_TAKEN:=⟨mg_of X G jap,jan,_,_,jal,jam⟩;have mi_DEEDS_TAKEN_ok:=tp0 jad jae jaf jag jah jai jaj;have z_abs:=mg_none_of X G jbe;have z_int:=mg_none_of X G jbf;have z_isinstance:=mg_none_of X G jaq;have z_len:=mg_none_of X G jbg;have z_list:=mg_none_of X G jbc;have z_max:=mg_none_of X G jbh;have z_min:=mg_none_of X G jbi;have z_range:=mg_none_of X G ja8;have z_set:=mg_none_of X G jbj;have z_sorted:=mg_none_of X G ja5;have z_sum:=mg_none_of X G jbk;have z_tuple:=mg_none_of X G ja9;obtain ⟨_,jdf⟩:=jcc.fn;have jef:=jdf.binds (ps:=["deeds", "need"]) λ _ _ _ _ _ _=>bn2 λ _ _=>rfl;have jeg:=mg_of X G jcb;obtain ⟨_,jdg⟩:=jce.fn;have jeh:=jdg.binds (ps:=["deeds", "number"]) λ _ _ _ _ _ _=>bn2 λ _ _=>rfl;have jei:=mg_of X G jcd;obtain ⟨_,jdh⟩:=jcg.fn;have jej:=jdh.binds (ps:=["deeds", "need"]) λ _ _ _ _ _ _=>bn2 λ _ _=>rfl;have jek:=mg_of X G jcf;obtain ⟨_,jdi⟩:=jci.fn;have jel:=jdi.binds (ps:=["deeds", "deed"]) λ _ _ _ _ _ _=>bn2 λ _ _=>rfl;have jem:=mg_of X G jch;obtain ⟨_,jdj⟩:=jcl.fn;have jen:=jdj.binds (ps:=["deeds", "need"]) λ _ _ _ _ _ _=>bn2 λ _ _=>rfl;have jeo:=mg_of X G jck;obtain ⟨_,jdk⟩:=jcn.fn;have jep:=jdk.binds (ps:=["deeds", "number"]) λ _ _ _ _ _ _=>bn2 λ _ _=>rfl;have jeq:=mg_of X G jcm;obtain ⟨_,jdl⟩:=jcp.fn;have jer:=jdl.binds (ps:=["deeds", "need"]) λ _ _ _ _ _ _=>bn2 λ _ _=>rfl;have jes:=mg_of X G jco;obtain ⟨_,jdm⟩:=jcr.fn;have jet:=jdm.binds (ps:=["deeds", "need"]) λ _ _ _ _ _ _=>bn2 λ _ _=>rfl;have jeu:=mg_of X G jcq;obtain ⟨_,_,_,jdn,jdo,jdp,jdq,jdr,jds,jev,jew,jex⟩:=jc6;have jdt:=we3 (st:=se1) jev jew jex;have je5:=jdt.binds (ps:=["script"]) λ _ _ _ _ _ _=>bn1 λ _=>rfl;have je6:=mg_of X G jbt;refine ⟨fnOf "law" "law" (xj0 se1) (xe0 se1) (za0 se1) .none jdn jdo jdp jdq jdr jds,λ s v=>.of_eq rfl,λ base KB GB=>?_⟩;have calZ:=@calZ l.prog w K mg base h;have calB:=@calB l.prog w K mg base h;have uk0:=@uk0 l.prog w K mg base;have je7:=calB X G jbw (k:=0) wo4 [9003,rx_0] zy4;obtain ⟨je8,je9⟩:=pr (sd:=vv1) (sw:=yz0) (c:=1) (calZ X G jbl) (λ j _=>calB X G jbv yo4 [9003,rx_1] (xy4 j)) (λ j _=>calB X G jbl xo4 [9003,rx_2] (sx4 j)) 5;have jfa:=calB X G jbu (k:=12) zo4 [9003,rx_3] yy4;have jfb:=calB X G jbz (k:=0) sl4 [9003,rx_4] tv4;have jfc:=calB X G jb1 (k:=1) xl4 [9003,rx_5] su4;obtain ⟨jfd,jfe⟩:=pr (sd:=spPd) (sw:=spPb) (c:=2) (calZ X G jbm) (λ j _=>calB X G jb0 zl4 [9003,rx_6] (yv4 j)) (λ j _=>calB X G jbm yl4 [9003,rx_7] (xv4 j)) 5;have jff:=calB X G jby (k:=13) to4 [9003,rx_8] uy4;have jey:=calB X G jbx (k:=14) wl4 [9003,rx_9] zv4;obtain ⟨jfg,jfh⟩:=pr (sd:=yk3) (sw:=spSk) (c:=0) (calZ X G jbn) (λ j _=>calB X G jb3 vn4 [9003,rx_10] (wx4 j)) (λ j _=>calB X G jbn wn4 [9003,rx_11] (zx4 j)) 5;have jez:=calB X G jb2 (k:=13) yk4 [9003,rx_12] xu4;obtain ⟨jfi,jfj⟩:=pr (sd:=xj2) (sw:=spDn) (c:=0) (calZ X G jbo) (λ j _=>calB X G jb5 tn4 [9003,rx_13] (ux4 j)) (λ j _=>calB X G jbo un4 [9003,rx_14] (vx4 j)) 5;have jfk:=calB X G jb4 (k:=13) yn4 [9003,rx_15] xx4;have je0:=calB X G jb6 (k:=14) wm4 [9003,rx_16] zw4;have jfl:=calB X G jb9 (k:=0) xn4 [9003,rx_17] sw4;have jfm:=calB X G jca (k:=0) um4 [9003,rx_18] vw4;have jfn:=calB X G jcj (k:=0) vm4 [9003,rx_19] ww4;have jfo:=uk0 jdh jek jej xm4 (by rintro _ _ _ ⟨_,_,rfl,_⟩; rfl) (k:=1) (λ _ _ _ _ _ _ r=>by apply rx_20 (hr:=r) <;> trivial) sv4;have jfp:=uk0 jdi jem jel vk4 (by rintro _ _ _ ⟨_,rfl,_⟩; rfl) (k:=1) (λ _ _ _ _ _ _ r=>by apply rx_21 (hr:=r) <;> trivial) wu4;have jfq:=uk0 jdj jeo jen tl4 (by rintro _ _ _ ⟨_,_,rfl,_⟩; rfl) (k:=0) (λ _ _ _ _ _ _ r=>by apply rx_22 (hr:=r) <;> trivial) uv4;have jfr:=uk0 jdk jeq jep sn4 (by rintro _ _ _ ⟨_,_,rfl,_⟩; rfl) (k:=0) (λ _ _ _ _ _ _ r=>by apply rx_23 (hr:=r) <;> trivial) tx4;have jfs:=uk0 jdm jeu jet tm4 (by rintro _ _ _ ⟨_,_,rfl,_⟩; rfl) (k:=0) (λ _ _ _ _ _ _ r=>by apply rx_24 (hr:=r) <;> trivial) uw4;have jft:=uk0 jdl jes jer sm4 (by rintro _ _ _ ⟨_,_,rfl,_⟩; rfl) (k:=1) (λ _ _ _ _ _ _ r=>by apply rx_25 (hr:=r) <;> trivial) tw4;have jfu:=uk0 jdg jei jeh vl4 (by rintro _ _ _ ⟨_,_,_,rfl,_⟩; rfl) (k:=0) (λ _ _ _ _ _ _ r=>by apply rx_26 (hr:=r) <;> trivial) wv4;have jfv:=uk0 jdf jeg jef zm4 (by rintro _ _ _ ⟨_,_,_,_,rfl,_⟩; rfl) (k:=0) (λ _ _ _ _ _ _ r=>by apply rx_27 (hr:=r) <;> trivial) yw4;have jfw:=calB X G jcs (k:=2) uo4 [9003,rx_28] vy4;have jfx:=se (sd:=spCw) (c:=3) (calZ X G jbp) (λ j _=>calB X G jbp vo4 [9003,rx_29] (wy4 j)) 6;have jfy:=calB X G jb8 (k:=13) uj4 [9003,rx_30] wt4;have je1:=calB X G jb7 (k:=14) tj4 [9003,rx_31] vt4;have jfz:=calB X G jct (k:=0) wk4 [9003,rx_32] zu4;have jf0:=calB X G jcu (k:=1) zk4 [9003,rx_33] yu4;have jf1:=calB X G jcy (k:=2) sj4 [9003,rx_34] ut4;have jf2:=se (sd:=spPl) (c:=10) (calZ X G jbq) (λ j _=>calB X G jbq uk4 [9003,rx_35] (vu4 j)) 5;have jf3:=calB X G jcx (k:=15) xk4 [9003,rx_36] tt4;have jf4:=calB X G jcv (k:=0) tk4 [9003,rx_37] uu4;have je2:=calB X G jcw (k:=16) sk4 [9003,rx_38] tu4;have jf5:=calB X G jc3 (k:=0) so4 [9003,rx_39] ty4;have jf6:=calB X G jc4 (k:=1) zp4 [9003,rx_40] yz4;have jf7:=calB X G jc2 (k:=0) ul4 [9003,rx_41] vv4;have jf8:=calB X G jc1 (k:=2) xp4 [9003,rx_42] sy4;obtain ⟨jf9,jga⟩:=pr (sd:=uk3) (sw:=yj2) (c:=13) (calZ X G jbr) (λ j _=>calB X G jc0 vj4 [9003,rx_43] (zt4 j)) (λ j _=>calB X G jbr zn4 [9003,rx_44] (yx4 j)) 5;have je3:=calB X G jcz (k:=24) yp4 [9003,rx_45] xz4;have h_q8:=calB X G A_q8 (k:=0) sc_q8 [9003,rx_46] rd_q8;have je4:=calB X G jc5 (k:=0) vp4 [9003,rx_47] wz4;obtain ⟨h_q2,h_q3⟩:=pr (sd:=spLd) (sw:=vi2) (c:=1) (calZ X G A_q2) (λ j _=>calB X G A_q3 sc_q3 [9003,rx_48] (rd_q3 j)) (λ j _=>calB X G A_q2 sc_q2 [9003,rx_49] (rd_q2 j)) 3;have h_q5:=calB X G A_q5 (k:=0) sc_q5 [9003,rx_50] rd_q5;have h_q1:=calB X G A_q1 (k:=1) sc_q1 [9003,rx_51] rd_q1;have h_q0:=se (sd:=zz0) (c:=2) (calZ X G A_q0) (λ j _=>calB X G A_q0 sc_q0 [9003,rx_52] (rd_q0 j)) 6;have h_q7:=se (sd:=spSz) (c:=0) (calZ X G A_q7) (λ j _=>calB X G A_q7 sc_q7 [9003,rx_53] (rd_q7 j)) 10;have h_q4:=se (sd:=ti2) (c:=10) (calZ X G A_q4) (λ j _=>calB X G A_q4 sc_q4 [9003,rx_54] (rd_q4 j)) 9;have jgb:=se (sd:=spWy) (c:=1) (calZ X G jbs) (λ j _=>calB X G jbs wp4 [9003,rx_55] (zz4 j)) 6;have h_q6:=calB X G A_q6 (k:=1) sc_q6 [9003,rx_56] rd_q6;have h_q9:=calB X G A_q9 (k:=8) sc_q9 [9003,rx_57] rd_q9;exact uc2 jdt ym4 (by rintro _ _ _ ⟨_,rfl,_⟩; rfl) (k:=25) (λ cdv A outer s H E hr=>rx_58 (h_q0.mono (by decide)) (h_q3.mono (by decide)) (h_q4.mono (by decide)) (h_q8.mono (by decide)) (h_q9.mono (by decide)) (je4.mono (by decide)) (je3.mono (by decide)) (je0.mono (by decide)) (jey.mono (by decide)) (je2.mono (by decide)) (jez.mono (by decide)) (je1.mono (by decide)) z_range hr) xw4
theorem walk {l:PySem.W.OpenLaw} {q:Program} {loose:List Str} {XP:(Str->Option Value)->Heap->Prop} {YP:World->Heap->Prop} {d:DefRec} {K:Params->Fg} (hn:l.most=some 63) (hdf:d.params.defaults=[])
    (hY:∀ (w:World) (h:Heap),YP w h->(K w.params).In h)
    (F:∀ (w:World) (mg:Str->Option Value) (fa:Addr) (h:Heap),(K w.params).In h->h.Ns mainGlobals mg->mg d.name=some (.ref fa) ->
     ∃ fd:FuncData,(∀ (s:Shared) (u:Value),BindsTo s fd ⟨[u],[]⟩ [("script",u)]) /\ ∀ base:Heap,(K w.params).In base->base.Ns mainGlobals mg->FnOk l.prog w (K w.params) mg base CX0 26 fa fd ["script"] (lift (K w.params) ui2)) :
    PySem.W.WalkO q loose XP YP l.row.toRowW d [] (λ f vs=>PySem.call f vs) :=
 L2.walk_of (n:=63) (k:=26) (x := "script") (CX:=λ _=>CX0) (sp:=λ w=>lift (K w.params) ui2) hn (by decide) hdf ⟨rfl,by decide,by decide⟩ hY F (λ _ _ a ns hl hO hS=>zu2 hO hS ⟨ns,rfl,hl,λ _=>rfl⟩) λ _ _ _ _ _ z=>z
noncomputable abbrev vb:Value:=.bool true
noncomputable abbrev vi:Value:=.int 181 0
end Pv
open PySem PySem.W PyProof.Rows
set_option maxRecDepth 100000 in
set_option maxHeartbeats 0 in
theorem PySem.Challenge.cw_penwright_k75_whole_steps_keep_the_pictu_holds : PySem.Challenge.rw_penwright_k75_whole_steps_keep_the_pictu.Holds := by
 w_on
 refine PySem.W.holds_law Pv.h_said λ said=>?_;refine PySem.W.holds_open (YP:=PySem.W.Hook.says (kHook Pv.KK Pv.KA Pv.ke)) Pv.h_left (PySem.W.Hook.of (kHook Pv.KK Pv.KA Pv.ke)) (PySem.W.Hook.keeps (kHook Pv.KK Pv.KA Pv.ke)) (λ s e=>PySem.W.xl_of s (Bool.and_eq_true_iff.mp e).1) PySem.W.XL.keeps (by rfl) (by rfl) (by rfl) (λ s e=>PySem.W.recFacts_of (Bool.and_eq_true_iff.mp e).2) (by rfl) said (by decide +kernel) ⟨rfl,rfl,rfl,rfl,rfl,by decide +kernel⟩ ?hw ?hc
 case hw=>w_witness2
 k_fill
 refine Pv.walk (l:=PySem.Challenge.rw_penwright_k75_whole_steps_keep_the_pictu) rfl rfl (λ w h Y=>PySem.W.kIn_of Y) ?F
 case F =>
  intro w mg fa h KX G hmg;refine' Pv.all_mk KX G hmg ?jbu ?jbv ?jbl ?jbw ?jbx ?jby ?jbz ?jb0 ?jbm ?jb1 ?jb2 ?jb3 ?jbn ?jb4 ?jb5 ?jbo ?jb6 ?jb7 ?jb8 ?jbp ?jb9 ?jca ?jcb ?jcc ?jcd ?jce ?jcf ?jcg ?jch ?jci ?jcj ?jck ?jcl ?jcm ?jcn ?jco ?jcp ?jcq ?jcr ?jcs ?jct ?jcu ?jcv ?jcw ?jcx ?jbq ?jcy ?jcz ?jc0 ?jbr ?jc1 ?jc2 ?jc3 ?jc4 ?A_q8 ?jc5 ?A_q2 ?A_q3 ?A_q5 ?A_q1 ?A_q0 ?A_q7 ?A_q4 ?jbs ?A_q9 ?A_q6 ?jbt ?jc6 ?jar ?jat ?jab ?jak ?jao ?ql_5 ?jaa ?ql_9 ?jba ?jc7 ?jbb ?jc8 ?jc9 ?jda ?jdb ?jdc ?jac ?jdd ?ja4 ?jau ?jav ?jaw ?me_CHANGES_join_deeds ?me_CHANGES_part_deed ?me_CHANGES_leave_out ?me_CHANGES_put_in ?me_CHANGES_open_times ?me_CHANGES_close_deeds ?me_CHANGES_draw_once ?me_CHANGES_draw_twice ?jap ?jal ?jam ?jan ?jad ?jae ?jaf ?jag ?jah ?jai ?jaj ?jbe ?jbf ?jaq ?jbg ?jbc ?jbh ?jbi ?ja8 ?jbj ?ja5 ?jbk ?ja9
  (case jar | jat | jab | jak | jao | ql_5 | jaa | ql_9 | jba | jc7 | jbb | jc8 | jc9 | jda | jdb | jdc | jac | jdd | ja4 | jau | me_CHANGES_join_deeds | me_CHANGES_part_deed | me_CHANGES_leave_out | me_CHANGES_put_in | me_CHANGES_open_times | me_CHANGES_close_deeds | me_CHANGES_draw_once | me_CHANGES_draw_twice | jap | jal | jad | jae | jaf | jag | jah | jai | jaj | jbe | jbf | jaq | jbg | jbc | jbh | jbi | ja8 | jbj | ja5 | jbk | ja9=>k_is)
  (case jbu | jbv | jbl | jbw | jbx | jby | jbz | jb0 | jbm | jb1 | jb2 | jb3 | jbn | jb4 | jb5 | jbo | jb6 | jb7 | jb8 | jbp | jb9 | jca | jcj | jcs | jct | jcu | jcv | jcw | jcx | jbq | jcy | jcz | jc0 | jbr | jc1 | jc2 | jc3 | jc4 | A_q8 | jc5 | A_q2 | A_q3 | A_q5 | A_q1 | A_q0 | A_q7 | A_q4 | jbs | A_q9 | A_q6=>(refine' Pv.fnB_mk ?a ?l ?c ?k; (case a=>(show _=_; k_is)); (case l=>k_is); (case c=>k_is); (case k=>k_is)))
  (case jcb | jcd | jcf | jch | jck | jcm | jco | jcq | jbt=>(show _=_; k_is))
  (case jcc | jce | jcg | jci | jcl | jcn | jcp | jcr | jc6=>(refine' Pv.fnA_mk ?l ?c ?k; (case l=>k_is); (case c=>k_is); (case k=>k_is)))
  (case jav | jam=>k_keys)
  (case jaw | jan=>rfl)
