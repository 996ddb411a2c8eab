import PyProof.Rows.All
import Wide.All
import OpenK.AllK
import Wide.FinOn
import Lean
import PyProof.EqAt
import PyProof.EqKinds
import PyProof.TupleCall
import PyProof.P3Statements
import KE.KIntText
import KE.KRevIter
import KE.KRevSl
import KE.KSortTup
import KE.KDictSum
import PyProof.LongRange
import PySem.Challenge.RW_penwright_k49_what_is_drawn_for_ever
open List(length_cons length_append getElem?_eq_getElem append_assoc length_map map_cons length_nil getElem?_append_right nil_append size_toArray mem_singleton mem_cons_of_mem getD_eq_getElem?_getD length_take cons_append mem_cons_self append_nil mem_append_right getElem?_map map_nil flatten_cons take_append_drop getElem?_append_left replicate_succ mem_append_left pairwise_singleton map_append getElem_mem set_cons_zero getElem?_take_of_lt length_drop find?_cons length_reverse take_zero take_of_length_le any_cons set_cons_succ mem_of_getElem? length_range eq_nil_of_length_eq_zero mem_cons lookup_cons drop_sublist getElem?_drop drop_eq_nil_of_le getElem?_cons_succ map_map filterMap_cons take_sublist mem_of_mem_drop mem_of_mem_take not_mem_nil ext_getElem? reverse_perm mem_append sum_cons range_succ)
open Array(length_toList getElem?_toList toList_append getElem?_eq_none toList_push toList_extract size_map)
set_option Elab.async false
set_option linter.all false
set_option maxRecDepth 100000
set_option maxHeartbeats 4000000
open PySem.W (fnOf kHook methodObj findIn keepIn cellsFrom_some codeIn nsIn kitOne kia_one mg_of mg_none_of)
open PySem.F (slot_tuple_add entry_tuple_add args_tuple_add_2 slot_dict_get entry_dict_get)
noncomputable section
theorem Z0:3<=PySem.sizeLine:=by decide
theorem Z1:2<=PySem.sizeLine:=by decide
namespace L2
open PySem PySem.Spec PyProof.Rows
def yk0 (s:Stmt):Arguments:=match s with
 | .FunctionDef _ a _ _ _ _ _ _ _ _=>a
 | _=>{ posonlyargs:=[],args:=[],vararg:=none,kwonlyargs:=[],kw_defaults:=[],kwarg:=none,defaults:=[] }
def zb0 (s:Stmt):List Stmt:=match s with
 | .FunctionDef _ _ b _ _ _ _ _ _ _=>b
 | _=>[]
def za0 (s:Stmt):Scope:=match s with
 | .FunctionDef _ _ _ _ _ _ sc _ _ _=>sc
 | _=>{ kind:=.function,names:=[],isGenerator:=false,isCoroutine:=false }
end L2
namespace Pv
open PySem PySem.Spec PyProof.Rows L2
def top (i:Nat):Stmt:=PySem.Challenge.pw_penwright_k49_what_is_drawn_for_ever.main.body.getD i (.Pass ⟨0,0,0,0⟩)
abbrev ss1:Stmt:=top 14
abbrev ts1:Stmt:=top 15
abbrev us1:Stmt:=top 16
abbrev zt1:Stmt:=top 17
abbrev tq1:Stmt:=top 18
abbrev vq1:Stmt:=top 19
abbrev wq1:Stmt:=top 20
abbrev zq1:Stmt:=top 21
abbrev wp1:Stmt:=top 22
abbrev zs1:Stmt:=top 23
abbrev ys1:Stmt:=top 24
abbrev xs1:Stmt:=top 25
abbrev vs1:Stmt:=top 26
abbrev ws1:Stmt:=top 27
abbrev zr1:Stmt:=top 28
abbrev xt1:Stmt:=top 31
abbrev up1:Stmt:=top 32
abbrev vp1:Stmt:=top 33
abbrev xq1:Stmt:=top 34
abbrev zp1:Stmt:=top 35
abbrev sp1:Stmt:=top 36
abbrev yp1:Stmt:=top 37
abbrev uq1:Stmt:=top 38
abbrev yt1:Stmt:=top 41
abbrev tp1:Stmt:=top 42
abbrev ur1:Stmt:=top 43
abbrev sr1:Stmt:=top 44
abbrev yq1:Stmt:=top 45
abbrev tr1:Stmt:=top 46
abbrev vr1:Stmt:=top 47
abbrev yr1:Stmt:=top 48
abbrev xr1:Stmt:=top 49
abbrev wr1:Stmt:=top 50
abbrev s_q9:Stmt:=top 52
abbrev vt1:Stmt:=top 53
abbrev wt1:Stmt:=top 54
abbrev s_q0:Stmt:=top 55
abbrev s_q1:Stmt:=top 56
abbrev s_q6:Stmt:=top 57
abbrev s_q7:Stmt:=top 58
abbrev s_q8:Stmt:=top 59
abbrev s_q3:Stmt:=top 60
abbrev s_q2:Stmt:=top 61
abbrev s_q4:Stmt:=top 62
abbrev s_q5:Stmt:=top 63
abbrev ss0:Stmt:=top 64
abbrev vb:Value:=.bool true
abbrev vi:Value:=.int 181 0
def en (P:Params) (x:Str) (t:Tok) (v:Value):DictEntry:=⟨PyData.keyHash P x,.str x t,v⟩
def fo (x y:Str) (st:Stmt) (m c:Value):Obj:=⟨.type "function",none,.func (fnOf x y (yk0 st) (zb0 st) (za0 st) .none .none .none m none c .none),#[]⟩
def co (x:Str) (a:Tok) (y:Str) (b c:Tok) (ns:List Int) (vs:List Value) (d e:Int) (f:Tok):Obj:=⟨.type "code",none,.fields (.str x a :: .str y b :: .str "/claim/cut.py" c :: (ns.map (λ n=>Value.int n 0) ++ (vs ++ [.int d 0,.int e 0,.str "/claim/cut.py" f]))).toArray,#[]⟩
def tO (vs:List Value):Obj:=⟨.type "tuple",none,.seq vs.toArray 0,#[]⟩
abbrev z6:Value:=.str "law_penwright_k49_what_is_drawn_for_ever" 562
def z7 (x:Str) (s:Stmt) (c:Addr):Obj:=fo x x s z6 (.ref c)
def z8 (x:Str) (a:Tok):=co x a x
def z9 (P:Params) (x:Str) (t:Tok) (a:Addr):DictEntry:=en P x t (.ref a)
def Z2 (x:Str):=fo x x
abbrev Z3:Value:=.str "penwright.errors" 187
abbrev Z4:Value:=.str "penwright.words" 255
abbrev Z5:Value:=.str "penwright.pictures" 404
abbrev Z6:Value:=.str "penwright.ever" 473
def KK:PySem.Params->PySem.W.Frag:=λ P=>(nat_lit 2,⟨.none,none,.dict #[] 0,#[]⟩) :: (nat_lit 3,⟨.type "dict",none,.dict #[en P "__name__" 165 z6,en P "__doc__" 166 (.none),en P "__package__" 167 (.none),en P "__loader__" 168 (.builtin "__main__.__loader__#opaque"),en P "__spec__" 169 (.none),z9 P "__annotations__" 170 6,z9 P "__builtins__" 171 4,en P "__file__" 173 (.str "/claim/cut.py" 172),en P "__cached__" 174 (.none),z9 P "PenError" 206 24,z9 P "NoWord" 222 37,z9 P "NoPicture" 238 49,z9 P "NoRoom" 254 61,en P "MOST_DEEDS" 258 (.int 30 257),en P "MOST_DEEP" 260 (.int 4 259),en P "GREATEST_NUMBER" 262 (.int 99999999999999999999 261),en P "MOST_OF_SMALL" 264 (.int 400 263),z9 P "PLAIN_KINDS" 268 64,z9 P "KINDS_FROM_NOUGHT" 271 65,z9 P "START" 275 66,z9 P "AHEAD" 286 71,z9 P "check_word" 293 78,z9 P "checked_count" 303 85,z9 P "checked_deed_count" 311 92,z9 P "check_number" 319 99,z9 P "led" 330 106,z9 P "pen_behind" 339 113,z9 P "pen_behind_deed" 346 120,z9 P "pen_repeated" 356 127,z9 P "strokes_drawn" 363 134,z9 P "count_strokes" 369 139,z9 P "count_strokes_of_deed" 376 146,z9 P "deeds_done" 383 153,z9 P "count_done" 389 158,z9 P "count_done_of_deed" 396 165,z9 P "is_small" 403 172,z9 P "WAYS" 408 173,z9 P "check_stroke" 415 180,z9 P "stroke_between" 424 187,z9 P "strokes_along" 430 192,z9 P "picture_with" 437 199,z9 P "strokes_from" 448 206,z9 P "plain_deeds" 457 213,z9 P "strokes_of_go" 463 218,z9 P "moved_stroke" 472 225,en P "MOST_POINTS" 476 (.int 60 475),z9 P "check_short" 483 232,z9 P "points_gone" 489 237,z9 P "ever_of" 496 244,z9 P "drawn_for_ever" 504 251,z9 P "picture_of_four" 515 258,z9 P "ever_drawn" 523 265,z9 P "is_drawn" 532 272,z9 P "lane_and_number" 541 279,z9 P "lanes_of" 551 286,z9 P "is_in_lanes" 561 293,z9 P "_law_state" 572 300,z9 P "_law_take" 582 307,z9 P "_law_whole" 589 314,z9 P "_law_deed" 598 321,z9 P "_law_deeds" 604 326,z9 P "_law_rolled_out" 614 333,z9 P "_law_run" 630 340,z9 P "_law_short" 639 347,z9 P "_law_gone" 645 352,z9 P "_law_ever" 654 359,z9 P "_law_in" 671 366,z9 P "_law_is_told" 677 371,z9 P "law" 691 378] 69,#[]⟩) :: (nat_lit 15,tO [.type "ValueError"]) :: (nat_lit 22,tO []) :: (nat_lit 23,⟨.type "dict",none,.dict #[en P "__module__" 196 Z3,en P "__firstlineno__" 200 (.int 2 199),z9 P "__static_attributes__" 201 22,z9 P "__weakref__" 203 25,en P "__doc__" 204 (.none)] 3,#[]⟩) :: (nat_lit 24,⟨.type "type",none,.cls ⟨"PenError",[.type "ValueError"],[.ref 24,.type "ValueError",.type "Exception",.type "BaseException",.type "object"],23, "PenError",true,[],[.ref 37,.ref 49,.ref 61],false,none,false⟩,#[some (.ref 15),none,some (.str "PenError" 189),some (.str "PenError" 197),some (.builtin "ValueError.__new__"),some (.bool true)]⟩) :: (nat_lit 25,⟨.type "getset_descriptor",none,.fields #[.str "__weakref__" 202,.ref 24,.builtin "ExceptionGroup.__weakref__",.none],#[]⟩) :: (nat_lit 28,tO [.ref 24]) :: (nat_lit 35,tO []) :: (nat_lit 36,⟨.type "dict",none,.dict #[en P "__module__" 214 Z3,en P "__firstlineno__" 218 (.int 4 217),z9 P "__static_attributes__" 219 35,en P "__doc__" 220 (.none)] 2,#[]⟩) :: (nat_lit 37,⟨.type "type",none,.cls ⟨"NoWord",[.ref 24],[.ref 37,.ref 24,.type "ValueError",.type "Exception",.type "BaseException",.type "object"],36, "NoWord",true,[],[],false,none,false⟩,#[some (.ref 28),none,some (.str "NoWord" 207),some (.str "NoWord" 215),some (.builtin "ValueError.__new__"),some (.bool true)]⟩) :: (nat_lit 40,tO [.ref 24]) :: (nat_lit 47,tO []) :: (nat_lit 48,⟨.type "dict",none,.dict #[en P "__module__" 230 Z3,en P "__firstlineno__" 234 (.int 6 233),z9 P "__static_attributes__" 235 47,en P "__doc__" 236 (.none)] 2,#[]⟩) :: (nat_lit 49,⟨.type "type",none,.cls ⟨"NoPicture",[.ref 24],[.ref 49,.ref 24,.type "ValueError",.type "Exception",.type "BaseException",.type "object"],48, "NoPicture",true,[],[],false,none,false⟩,#[some (.ref 40),none,some (.str "NoPicture" 223),some (.str "NoPicture" 231),some (.builtin "ValueError.__new__"),some (.bool true)]⟩) :: (nat_lit 52,tO [.ref 24]) :: (nat_lit 59,tO []) :: (nat_lit 60,⟨.type "dict",none,.dict #[en P "__module__" 246 Z3,en P "__firstlineno__" 250 (.int 8 249),z9 P "__static_attributes__" 251 59,en P "__doc__" 252 (.none)] 2,#[]⟩) :: (nat_lit 61,⟨.type "type",none,.cls ⟨"NoRoom",[.ref 24],[.ref 61,.ref 24,.type "ValueError",.type "Exception",.type "BaseException",.type "object"],60, "NoRoom",true,[],[],false,none,false⟩,#[some (.ref 52),none,some (.str "NoRoom" 239),some (.str "NoRoom" 247),some (.builtin "ValueError.__new__"),some (.bool true)]⟩) :: (nat_lit 64,tO [.str "go" 265,.str "jump" 266,.str "turn" 267]) :: (nat_lit 65,tO [.str "go" 269,.str "times" 270]) :: (nat_lit 66,tO [.int 0 272,.int 0 273,.int 0 274]) :: (nat_lit 67,tO [.int 1 276,.int 0 277]) :: (nat_lit 68,tO [.int 0 278,.int 1 279]) :: (nat_lit 69,tO [.int (-1) 281,.int 0 282]) :: (nat_lit 70,tO [.int 0 283,.int (-1) 285]) :: (nat_lit 71,tO [.ref 67,.ref 68,.ref 69,.ref 70]) :: (nat_lit 77,z8 "check_word" 287 288 289 [19,1,0,0,3] [.ref 72,vb,vi,.ref 73,.none,.ref 74,.ref 75,.ref 76] 291 19 292) :: (nat_lit 78,Z2 "check_word" ss1 Z4 (.ref 77)) :: (nat_lit 84,z8 "checked_count" 294 295 296 [21,2,0,0,3] [.ref 79,vb,vi,.ref 80,.none,.ref 81,.ref 82,.ref 83] 301 21 302) :: (nat_lit 85,Z2 "checked_count" ts1 Z4 (.ref 84)) :: (nat_lit 91,z8 "checked_deed_count" 304 305 306 [32,2,0,0,3] [.ref 86,vb,vi,.ref 87,.none,.ref 88,.ref 89,.ref 90] 309 32 310) :: (nat_lit 92,Z2 "checked_deed_count" us1 Z4 (.ref 91)) :: (nat_lit 98,z8 "check_number" 312 313 314 [42,2,0,0,3] [.ref 93,vb,vi,.ref 94,.none,.ref 95,.ref 96,.ref 97] 317 42 318) :: (nat_lit 99,Z2 "check_number" zt1 Z4 (.ref 98)) :: (nat_lit 105,z8 "led" 320 321 322 [49,2,0,0,3] [.ref 100,vb,vi,.ref 101,.none,.ref 102,.ref 103,.ref 104] 328 49 329) :: (nat_lit 106,Z2 "led" tq1 Z4 (.ref 105)) :: (nat_lit 112,z8 "pen_behind" 331 332 333 [54,1,0,0,3] [.ref 107,vb,vi,.ref 108,.none,.ref 109,.ref 110,.ref 111] 337 54 338) :: (nat_lit 113,Z2 "pen_behind" vq1 Z4 (.ref 112)) :: (nat_lit 119,z8 "pen_behind_deed" 340 341 342 [59,1,0,0,3] [.ref 114,vb,vi,.ref 115,.none,.ref 116,.ref 117,.ref 118] 344 59 345) :: (nat_lit 120,Z2 "pen_behind_deed" wq1 Z4 (.ref 119)) :: (nat_lit 126,z8 "pen_repeated" 347 348 349 [65,2,0,0,3] [.ref 121,vb,vi,.ref 122,.none,.ref 123,.ref 124,.ref 125] 354 65 355) :: (nat_lit 127,Z2 "pen_repeated" zq1 Z4 (.ref 126)) :: (nat_lit 133,z8 "strokes_drawn" 357 358 359 [72,1,0,0,3] [.ref 128,vb,vi,.ref 129,.none,.ref 130,.ref 131,.ref 132] 361 72 362) :: (nat_lit 134,Z2 "strokes_drawn" wp1 Z4 (.ref 133)) :: (nat_lit 138,z8 "count_strokes" 364 365 366 [75,1,0,0,3] [.ref 135,vb,vi,.ref 136,.none,.none,.none,.ref 137] 367 75 368) :: (nat_lit 139,Z2 "count_strokes" zs1 Z4 (.ref 138)) :: (nat_lit 145,z8 "count_strokes_of_deed" 370 371 372 [77,1,0,0,3] [.ref 140,vb,vi,.ref 141,.none,.ref 142,.ref 143,.ref 144] 374 77 375) :: (nat_lit 146,Z2 "count_strokes_of_deed" ys1 Z4 (.ref 145)) :: (nat_lit 152,z8 "deeds_done" 377 378 379 [83,1,0,0,3] [.ref 147,vb,vi,.ref 148,.none,.ref 149,.ref 150,.ref 151] 381 83 382) :: (nat_lit 153,Z2 "deeds_done" xs1 Z4 (.ref 152)) :: (nat_lit 157,z8 "count_done" 384 385 386 [86,1,0,0,3] [.ref 154,vb,vi,.ref 155,.none,.none,.none,.ref 156] 387 86 388) :: (nat_lit 158,Z2 "count_done" vs1 Z4 (.ref 157)) :: (nat_lit 164,z8 "count_done_of_deed" 390 391 392 [88,1,0,0,3] [.ref 159,vb,vi,.ref 160,.none,.ref 161,.ref 162,.ref 163] 394 88 395) :: (nat_lit 165,Z2 "count_done_of_deed" ws1 Z4 (.ref 164)) :: (nat_lit 171,z8 "is_small" 397 398 399 [92,1,0,0,3] [.ref 166,vb,vi,.ref 167,.none,.ref 168,.ref 169,.ref 170] 401 92 402) :: (nat_lit 172,Z2 "is_small" zr1 Z4 (.ref 171)) :: (nat_lit 173,tO [.int 0 406,.int 1 407]) :: (nat_lit 179,z8 "check_stroke" 409 410 411 [96,1,0,0,3] [.ref 174,vb,vi,.ref 175,.none,.ref 176,.ref 177,.ref 178] 413 96 414) :: (nat_lit 180,Z2 "check_stroke" xt1 Z5 (.ref 179)) :: (nat_lit 186,z8 "stroke_between" 416 417 418 [99,2,0,0,3] [.ref 181,vb,vi,.ref 182,.none,.ref 183,.ref 184,.ref 185] 422 99 423) :: (nat_lit 187,Z2 "stroke_between" up1 Z5 (.ref 186)) :: (nat_lit 191,z8 "strokes_along" 425 426 427 [102,1,0,0,3] [.ref 188,vb,vi,.ref 189,.none,.none,.none,.ref 190] 428 102 429) :: (nat_lit 192,Z2 "strokes_along" vp1 Z5 (.ref 191)) :: (nat_lit 198,z8 "picture_with" 431 432 433 [104,1,0,0,3] [.ref 193,vb,vi,.ref 194,.none,.ref 195,.ref 196,.ref 197] 435 104 436) :: (nat_lit 199,Z2 "picture_with" xq1 Z5 (.ref 198)) :: (nat_lit 205,z8 "strokes_from" 438 439 440 [106,2,0,0,3] [.ref 200,vb,vi,.ref 201,.none,.ref 202,.ref 203,.ref 204] 446 106 447) :: (nat_lit 206,Z2 "strokes_from" zp1 Z5 (.ref 205)) :: (nat_lit 212,z8 "plain_deeds" 449 450 451 [114,1,0,0,3] [.ref 207,vb,vi,.ref 208,.none,.ref 209,.ref 210,.ref 211] 455 114 456) :: (nat_lit 213,Z2 "plain_deeds" sp1 Z5 (.ref 212)) :: (nat_lit 217,z8 "strokes_of_go" 458 459 460 [122,2,0,0,3] [.ref 214,vb,vi,.ref 215,.none,.none,.none,.ref 216] 461 122 462) :: (nat_lit 218,Z2 "strokes_of_go" yp1 Z5 (.ref 217)) :: (nat_lit 224,z8 "moved_stroke" 464 465 466 [126,3,0,0,3] [.ref 219,vb,vi,.ref 220,.none,.ref 221,.ref 222,.ref 223] 470 126 471) :: (nat_lit 225,Z2 "moved_stroke" uq1 Z5 (.ref 224)) :: (nat_lit 231,z8 "check_short" 477 478 479 [130,1,0,0,3] [.ref 226,vb,vi,.ref 227,.none,.ref 228,.ref 229,.ref 230] 481 130 482) :: (nat_lit 232,Z2 "check_short" yt1 Z6 (.ref 231)) :: (nat_lit 236,z8 "points_gone" 484 485 486 [133,1,0,0,3] [.ref 233,vb,vi,.ref 234,.none,.none,.none,.ref 235] 487 133 488) :: (nat_lit 237,Z2 "points_gone" tp1 Z6 (.ref 236)) :: (nat_lit 243,z8 "ever_of" 490 491 492 [135,1,0,0,3] [.ref 238,vb,vi,.ref 239,.none,.ref 240,.ref 241,.ref 242] 494 135 495) :: (nat_lit 244,Z2 "ever_of" ur1 Z6 (.ref 243)) :: (nat_lit 250,z8 "drawn_for_ever" 497 498 499 [138,1,0,0,3] [.ref 245,vb,vi,.ref 246,.none,.ref 247,.ref 248,.ref 249] 502 138 503) :: (nat_lit 251,Z2 "drawn_for_ever" sr1 Z6 (.ref 250)) :: (nat_lit 257,z8 "picture_of_four" 505 506 507 [143,2,0,0,3] [.ref 252,vb,vi,.ref 253,.none,.ref 254,.ref 255,.ref 256] 513 143 514) :: (nat_lit 258,Z2 "picture_of_four" yq1 Z6 (.ref 257)) :: (nat_lit 264,z8 "ever_drawn" 516 517 518 [150,2,0,0,3] [.ref 259,vb,vi,.ref 260,.none,.ref 261,.ref 262,.ref 263] 521 150 522) :: (nat_lit 265,Z2 "ever_drawn" tr1 Z6 (.ref 264)) :: (nat_lit 271,z8 "is_drawn" 524 525 526 [154,2,0,0,3] [.ref 266,vb,vi,.ref 267,.none,.ref 268,.ref 269,.ref 270] 530 154 531) :: (nat_lit 272,Z2 "is_drawn" vr1 Z6 (.ref 271)) :: (nat_lit 278,z8 "lane_and_number" 533 534 535 [157,2,0,0,3] [.ref 273,vb,vi,.ref 274,.none,.ref 275,.ref 276,.ref 277] 539 157 540) :: (nat_lit 279,Z2 "lane_and_number" yr1 Z6 (.ref 278)) :: (nat_lit 285,z8 "lanes_of" 542 543 544 [162,1,0,0,3] [.ref 280,vb,vi,.ref 281,.none,.ref 282,.ref 283,.ref 284] 549 162 550) :: (nat_lit 286,Z2 "lanes_of" xr1 Z6 (.ref 285)) :: (nat_lit 292,z8 "is_in_lanes" 552 553 554 [168,3,0,0,3] [.ref 287,vb,vi,.ref 288,.none,.ref 289,.ref 290,.ref 291] 559 168 560) :: (nat_lit 293,Z2 "is_in_lanes" wr1 Z6 (.ref 292)) :: (nat_lit 299,z8 "_law_state" 564 565 566 [172,2,0,0,3] [.ref 294,vb,vi,.ref 295,.none,.ref 296,.ref 297,.ref 298] 570 172 571) :: (nat_lit 300,z7 "_law_state" s_q9 299) :: (nat_lit 306,z8 "_law_take" 573 574 575 [179,2,0,0,3] [.ref 301,vb,vi,.ref 302,.none,.ref 303,.ref 304,.ref 305] 580 179 581) :: (nat_lit 307,z7 "_law_take" vt1 306) :: (nat_lit 313,z8 "_law_whole" 583 584 585 [189,1,0,0,3] [.ref 308,vb,vi,.ref 309,.none,.ref 310,.ref 311,.ref 312] 587 189 588) :: (nat_lit 314,z7 "_law_whole" wt1 313) :: (nat_lit 320,z8 "_law_deed" 590 591 592 [191,2,0,0,3] [.ref 315,vb,vi,.ref 316,.none,.ref 317,.ref 318,.ref 319] 596 191 597) :: (nat_lit 321,z7 "_law_deed" s_q0 320) :: (nat_lit 325,z8 "_law_deeds" 599 600 601 [200,3,0,0,3] [.ref 322,vb,vi,.ref 323,.none,.none,.none,.ref 324] 602 200 603) :: (nat_lit 326,z7 "_law_deeds" s_q1 325) :: (nat_lit 332,z8 "_law_rolled_out" 605 606 607 [202,1,0,0,3] [.ref 327,vb,vi,.ref 328,.none,.ref 329,.ref 330,.ref 331] 612 202 613) :: (nat_lit 333,z7 "_law_rolled_out" s_q6 332) :: (nat_lit 339,z8 "_law_run" 615 616 617 [211,2,0,0,3] [.ref 334,vb,vi,.ref 335,.none,.ref 336,.ref 337,.ref 338] 628 211 629) :: (nat_lit 340,z7 "_law_run" s_q7 339) :: (nat_lit 346,z8 "_law_short" 631 632 633 [227,2,0,0,3] [.ref 341,vb,vi,.ref 342,.none,.ref 343,.ref 344,.ref 345] 637 227 638) :: (nat_lit 347,z7 "_law_short" s_q8 346) :: (nat_lit 351,z8 "_law_gone" 640 641 642 [232,1,0,0,3] [.ref 348,vb,vi,.ref 349,.none,.none,.none,.ref 350] 643 232 644) :: (nat_lit 352,z7 "_law_gone" s_q3 351) :: (nat_lit 358,z8 "_law_ever" 646 647 648 [234,1,0,0,3] [.ref 353,vb,vi,.ref 354,.none,.ref 355,.ref 356,.ref 357] 652 234 653) :: (nat_lit 359,z7 "_law_ever" s_q2 358) :: (nat_lit 365,z8 "_law_in" 655 656 657 [239,2,0,0,3] [.ref 360,vb,vi,.ref 361,.none,.ref 362,.ref 363,.ref 364] 669 239 670) :: (nat_lit 366,z7 "_law_in" s_q4 365) :: (nat_lit 370,z8 "_law_is_told" 672 673 674 [252,2,0,0,3] [.ref 367,vb,vi,.ref 368,.none,.none,.none,.ref 369] 675 252 676) :: (nat_lit 371,z7 "_law_is_told" s_q5 370) :: (nat_lit 377,z8 "law" 678 679 680 [259,1,0,0,3] [.ref 372,vb,vi,.ref 373,.none,.ref 374,.ref 375,.ref 376] 689 259 690) :: (nat_lit 378,z7 "law" ss0 377) :: []
def KA:List Addr:=[2,3,15,22,23,24,25,28,35,36,37,40,47,48,49,52,59,60,61,64,65,66,67,68,69,70,71,77,78,84,85,91,92,98,99,105,106,112,113,119,120,126,127,133,134,138,139,145,146,152,153,157,158,164,165,171,172,173,179,180,186,187,191,192,198,199,205,206,212,213,217,218,224,225,231,232,236,237,243,244,250,251,257,258,264,265,271,272,278,279,285,286,292,293,299,300,306,307,313,314,320,321,325,326,332,333,339,340,346,347,351,352,358,359,365,366,370,371,377,378]
theorem ke:∀ P,KA=(KK P).map (·.1):=λ _=>by kernel_rfl
def vw:Program:={ PySem.Challenge.pw_penwright_k49_what_is_drawn_for_ever with main:={ PySem.Challenge.pw_penwright_k49_what_is_drawn_for_ever.main with body:=[top 1,top 2,top 3,top 4,top 6,top 7,top 8,top 9,top 10,top 11,top 12,top 13,top 14,top 15,top 16,top 17,top 18,top 19,top 20,top 21,top 22,top 23,top 24,top 25,top 26,top 27,top 28,top 30,top 31,top 32,top 33,top 34,top 35,top 36,top 37,top 38,top 40,top 41,top 42,top 43,top 44,top 45,top 46,top 47,top 48,top 49,top 50,top 52,top 53,top 54,top 55,top 56,top 57,top 58,top 59,top 60,top 61,top 62,top 63,top 64] } }
theorem h_said:PySem.Challenge.rw_penwright_k49_what_is_drawn_for_ever.wellSaid=true:=by kernel_rfl
theorem h_left:PySem.W.LeftO (PySem.W.OpenLaw.row PySem.Challenge.rw_penwright_k49_what_is_drawn_for_ever).prog vw [] (λ s=>PySem.W.xlAt vw [] s && PySem.W.recOk (PySem.W.RowW.records (PySem.W.OpenRow.toRowW (PySem.W.OpenLaw.row PySem.Challenge.rw_penwright_k49_what_is_drawn_for_ever))) s) (PySem.W.Hook.obs (kHook KK KA ke)) (PySem.W.Hook.val (kHook KK KA ke)) 4908:=by
 intro w
 delta PySem.W.openEnds PySem.W.fencedOpening PySem.W.topFrom
 rw [PySem.W.Fast.te14082659384304107361,PySem.W.Fast.te10274390034422433532,PySem.W.Fast.te14289696077712309145,PySem.W.Fast.te1435165496053646825,PySem.W.Fast.te14364793385576792824,PySem.W.Fast.te4187177175401517315]
 kernel_rfl
end Pv
namespace L2
open PySem PySem.Spec PyProof.Rows
abbrev Key:=Sum Int Str
def tu1:Key->Value->Bool
 | .inl k,v=>Value.isInt k v
 | .inr x,v=>Value.isStrOf x v
def keyH (w:World):Key->Int
 | .inl k=>hashInt k
 | .inr x=>hashStr w x
theorem xe0:∀ {k:Key} {v:Value},tu1 k v=true->(∃ i t,k=Sum.inl i /\ v=Value.int i t) \/ (∃ x t,k=Sum.inr x /\ v=Value.str x t)
 | .inl i,v,h=>by
  obtain ⟨t,e⟩:=Value.isInt_shape (k:=i) (v:=v) h
  exact .inl ⟨i,t,rfl,e⟩
 | .inr x,v,h=>by
  obtain ⟨t,e⟩:=Value.isStrOf_shape (x:=x) (v:=v) h
  exact .inr ⟨x,t,rfl,e⟩
theorem tc2 (i:Int) (t:Tok):tu1 (.inl i) (.int i t)=true:=by simp [tu1,Value.isInt]
theorem uc2 (x:Str) (t:Tok):tu1 (.inr x) (.str x t)=true:=by simp [tu1,Value.isStrOf]
theorem sm4 (a b:Int):decide ((Sum.inl a:Key)=Sum.inl b)=(a == b):=by
 by_cases e:a=b
 ·subst e; simp
 ·have h:¬ (Sum.inl a:Key)=Sum.inl b:=λ q=>e (Sum.inl.inj q)
  rw [decide_eq_false h]
  exact (beq_eq_false_iff_ne.mpr e).symm
theorem vm4 (a b:Str):decide ((Sum.inr a:Key)=Sum.inr b)=decide (a=b):=by
 by_cases e:a=b
 ·subst e; simp
 ·have h:¬ (Sum.inr a:Key)=Sum.inr b:=λ q=>e (Sum.inr.inj q)
  rw [decide_eq_false h,decide_eq_false e]
theorem tm4 (a:Int) (b:Str):decide ((Sum.inl a:Key)=Sum.inr b)=false:=decide_eq_false (λ q=>nomatch q)
theorem um4 (a:Str) (b:Int):decide ((Sum.inr a:Key)=Sum.inl b)=false:=decide_eq_false (λ q=>nomatch q)
def te0 (prog:Program) (w:World):PySem.KeyKind prog w Key where
 is:=tu1
 hash:=keyH w
 inj:=λ v a b ha hb=>by
  rcases xe0 ha with ⟨i,t,rfl,rfl⟩ | ⟨x,t,rfl,rfl⟩
  ·rcases xe0 hb with ⟨j,u,rfl,e⟩ | ⟨y,u,rfl,e⟩
   ·injection e with e1 _; rw [e1]
   ·exact nomatch e
  ·rcases xe0 hb with ⟨j,u,rfl,e⟩ | ⟨y,u,rfl,e⟩
   ·exact nomatch e
   ·injection e with e1 _; rw [e1]
 byValue:=λ k v h=>by
  rcases xe0 h with ⟨i,t,rfl,rfl⟩ | ⟨x,t,rfl,rfl⟩ <;> rfl
 pyHash:=λ hv h=>by
  rcases xe0 hv with ⟨i,t,rfl,rfl⟩ | ⟨x,t,rfl,rfl⟩
  ·exact wpAny_pyHash_int h
  ·exact wpAny_pyHash_str h
 eqBool:=λ hu hv h=>by
  rcases xe0 hu with ⟨i,t,rfl,rfl⟩ | ⟨x,t,rfl,rfl⟩
  ·rcases xe0 hv with ⟨j,u,rfl,rfl⟩ | ⟨y,u,rfl,rfl⟩
   ·rw [sm4] at h; exact wpAny_eqBool_int h
   ·rw [tm4] at h; exact SeqAt.EqAt.int_str i t y u _ _ _ _ h
  ·rcases xe0 hv with ⟨j,u,rfl,rfl⟩ | ⟨y,u,rfl,rfl⟩
   ·rw [um4] at h; exact SeqAt.EqAt.str_int x t j u _ _ _ _ h
   ·rw [vm4] at h; exact wpAny_eqBool_str h
 «strs» := λ k x t v h=>by
  rcases xe0 h with ⟨i,u,rfl,e⟩ | ⟨y,u,rfl,e⟩
  ·exact nomatch e
  ·injection e with e1 _
   subst e1
   cases v <;> rfl
theorem uh1 (prog:Program) (w:World) (i:Int) (t:Tok):(te0 prog w).is (.inl i) (.int i t)=true:=tc2 i t
theorem vh1 (prog:Program) (w:World) (x:Str) (t:Tok):(te0 prog w).is (.inr x) (.str x t)=true:=uc2 x t
inductive V where
 | non | bl (b:Bool) | int (i:Int) | str (x:Str) | byt (b:Array UInt8) | flt (b:UInt64) | ref (a:Addr) | ty (n:String)
 deriving DecidableEq
def RelV:V->Value->Prop
 | .non,u=>u=Value.none
 | .bl b,u=>u=Value.bool b
 | .int i,u=>∃ t,u=Value.int i t
 | .str x,u=>∃ t,u=Value.str x t
 | .byt b,u=>∃ t,u=Value.bytes b t
 | .flt b,u=>∃ t,u=Value.float b t
 | .ref a,u=>u=Value.ref a
 | .ty n,u=>u=Value.type n
abbrev Vals:List V->List Value->Prop:=Paired RelV
theorem Vals.length {xs:List V} {us:List Value} (r:Vals xs us):xs.length=us.length:=Paired.length r
theorem Vals.get:∀ {xs:List V} {us:List Value} {i:Nat} {x:V},Vals xs us->xs[i]?=some x->∃ u,us[i]?=some u /\ RelV x u
 | _,_,_,_,.nil,e=>by simp at e
 | _,_,0,_,.cons r _,e=>by simp at e; subst e; exact ⟨_,rfl,r⟩
 | _,_,i + 1,x,.cons _ t,e=>by
  obtain ⟨u,h1,h2⟩:=Vals.get (i:=i) (x:=x) t (by simpa using e)
  exact ⟨u,by simpa using h1,h2⟩
theorem Vals.set {x:V} {u:Value} (r:RelV x u):∀ {xs:List V} {us:List Value} (i:Nat),Vals xs us->Vals (xs.set i x) (us.set i u)
 | _,_,_,.nil=>.nil
 | _,_,0,.cons _ t=>.cons r t
 | _,_,i + 1,.cons q t=>.cons q (Vals.set r i t)
theorem Vals.append:∀ {xs ys:List V} {us ws:List Value},Vals xs us->Vals ys ws->Vals (xs ++ ys) (us ++ ws)
 | _,_,_,_,.nil,s=>s
 | _,_,_,_,.cons r t,s=>.cons r (Vals.append t s)
theorem Vals.take:∀ {xs:List V} {us:List Value} (n:Nat),Vals xs us->Vals (xs.take n) (us.take n)
 | _,_,0,_=>.nil
 | _,_,_ + 1,.nil=>.nil
 | _,_,n + 1,.cons r t=>.cons r (Vals.take n t)
theorem Vals.drop:∀ {xs:List V} {us:List Value} (n:Nat),Vals xs us->Vals (xs.drop n) (us.drop n)
 | _,_,0,r=>r
 | _,_,_ + 1,.nil=>.nil
 | _,_,n + 1,.cons _ t=>Vals.drop n t
def RelO:Option V->Option Value->Prop
 | some v,some u=>RelV v u
 | none,none=>True
 | _,_=>False
def KV {κ:Type}:List (κ × V)->List (κ × Value)->Prop:=Paired λ (p:κ × V) (q:κ × Value)=>p.1=q.1 /\ RelV p.2 q.2
def kV:Key->V
 | .inl i=>.int i
 | .inr x=>.str x
inductive HO where
 | lst (xs:List V)
 | tup (xs:List V)
 | dK (kvs:List (Key × V)) | dT (kvs:List (List Key × V))
 | set (S:Int->Bool) (n:Nat)
 | ins (C dx:Addr) (fs:List (Str × V))
 | own (x:Addr)
 | xd (fs:List (Str × V))
 | met (f x:Addr)
 | rng (lo hi:Int)
 | frz (o:Obj) (u:HO)
 | tbl (ps:Array Value)
 | ext (φ:Heap->Prop)
abbrev Hp:=Addr->Option HO
def upd (H:Hp) (a:Addr) (o:HO):Hp:=λ b=>if b=a then some o else H b
theorem yf0 {H:Hp} {a:Addr} {o:HO}:upd H a o a=some o:=by unfold upd; rw [if_pos rfl]
theorem tc0 {H:Hp} {a b:Addr} {o:HO} (h:b ≠ a):upd H a o b=H b:=by unfold upd; rw [if_neg h]
theorem sb2 {H:Hp} {a b:Addr} {o u:HO} (h:H a=some o) (h':H b=some u) (d:o ≠ u):a ≠ b:=by
 intro e; subst e; rw [h] at h'; exact d (Option.some.inj h')
theorem sf0 {H:Hp} {a b:Addr} {o:HO} (h:H a=some o) (h':H b=none):a ≠ b:=by
 intro e; subst e; rw [h] at h'; cases h'
section
variable (P:Program) (w:World)
def ObjOk (H:Hp) (h:Heap) (a:Addr):HO->Prop
 | .lst xs=>xs.length<=sizeLine /\ ∃ (its:List Value) (n:Nat),Vals xs its /\ h.get? a=some { cls:=.type "list",data:=.seq its.toArray n }
 | .tup xs=>xs.length<=sizeLine /\ ∃ its:List Value,Vals xs its /\ IsTup h a its.toArray
 | .dK kvs=>kvs.length<=sizeLine /\ (a == sysModules)=false /\ ∃ vs,KV kvs vs /\ h.DictOf (te0 P w) a vs
 | .dT kvs=>kvs.length<=sizeLine /\ (a == sysModules)=false /\ ∃ xs:List (List Key × Addr × Value),
     Paired (λ (p:List Key × V) (q:List Key × Addr × Value)=>p.1=q.1 /\ H q.2.1=some (.tup (p.1.map kV)) /\ RelV p.2 q.2.2) kvs xs ∧
     ∃ o es ep,h.get? a=some o /\ o.ExactDict /\ o.data=.dict es ep /\ es.toList=xs.map (entryOfKey (tupleKind (te0 P w))) /\ (xs.map (·.1)).Nodup /\ ep=kvs.length
 | .set S n=>h.SetOf (intKind P w) a S n
 | .ins C dx fs=>H dx=some (.own a) /\ fs.length<=1000 /\ dx ≠ a /\ h.get? a=some (PySem.W.instObj C dx) ∧
     ∃ mA,h.Ns1 dx mA /\ (∀ f,RelO (fs.lookup f) (mA f)) /\ PySem.Within mA (fs.map (·.1))
 | .own _=>∃ o,h.get? a=some o
 | .xd fs=>∃ mA,h.Ns1 a mA /\ ∀ f,RelO (fs.lookup f) (mA f)
 | .rng lo hi=>∃ t u v,h.get? a=some { cls:=.type "range",data:=.fields #[.int lo t,.int hi u,.int 1 v] }
 | .frz o u=>h.get? a=some o /\ ObjOk H h a u
 | .tbl ps=>h.get? a=some { cls:=.none,data:=.fields ps }
 | .met f x=>h.get? a=some (methodObj (.ref f) (.ref x))
 | .ext φ=>φ h /\ (∃ o,h.get? a=some o) /\ ∀ h1 h2:Heap,φ h1->(∀ o,h1.get? a=some o->h2.get? a=some o)->φ h2
def HOk (H:Hp) (h:Heap):Prop:=∀ a o,H a=some o->ObjOk P w H h a o
end
section
variable {P:Program} {w:World} {H H':Hp} {h h':Heap} {a:Addr} {o:HO}
theorem ObjOk.lt (x:ObjOk P w H h a o):a < h.objs.size:=by
 cases o with
 | lst xs=>obtain ⟨_,_,_,_,e⟩:=x; exact Heap.lt_size e
 | tup xs=>obtain ⟨_,_,_,p⟩:=x; exact p.lt
 | dK kvs=>obtain ⟨_,_,_,_,o,_,_,e,_⟩:=x; exact Heap.lt_size e
 | dT kvs=>obtain ⟨_,_,_,_,o,_,_,e,_⟩:=x; exact Heap.lt_size e
 | set S n=>obtain ⟨o,_,_,_,e,_⟩:=x; exact Heap.lt_size e
 | ins C dx fs=>obtain ⟨_,_,_,e,_⟩:=x; exact Heap.lt_size e
 | own y=>obtain ⟨_,e⟩:=x; exact Heap.lt_size e
 | xd fs=>obtain ⟨_,⟨_,_,_,e,_⟩,_⟩:=x; exact Heap.lt_size e
 | rng lo hi=>obtain ⟨_,_,_,e⟩:=x; exact Heap.lt_size e
 | frz ob u=>obtain ⟨e,_⟩:=x; exact Heap.lt_size e
 | tbl ps=>exact Heap.lt_size (show h.get? a=some _ from x)
 | met f y=>exact Heap.lt_size (show h.get? a=some _ from x)
 | ext φ=>obtain ⟨_,⟨_,e⟩,_⟩:=x; exact Heap.lt_size e
theorem Paired.mapP {α β:Type} {F G:α->β->Prop}:∀ {l₁:List α} {l₂:List β},Paired F l₁ l₂->(∀ a b,F a b->G a b)->Paired G l₁ l₂
 | _,_,.nil,_=>.nil
 | _,_,.cons r t,f=>.cons (f _ _ r) (Paired.mapP t f)
theorem ObjOk.stay (x:ObjOk P w H h a o) (k:∀ b u,(b=a \/ H b=some (.own a))->h.get? b=some u->h'.get? b=some u)
    (ho:∀ b,H b=some (.own a)->H' b=some (.own a)) (ht:∀ b xs,H b=some (.tup xs)->H' b=some (.tup xs)):ObjOk P w H' h' a o:=by
 induction o with
 | lst xs=>obtain ⟨z,its,n,r,e⟩:=x; exact ⟨z,its,n,r,k _ _ (.inl rfl) e⟩
 | tup xs=>obtain ⟨z,its,r,ob,e,c⟩:=x; exact ⟨z,its,r,ob,k _ _ (.inl rfl) e,c⟩
 | dK kvs=>obtain ⟨z,y,vs,r,ob,es,ep,e,c⟩:=x; exact ⟨z,y,vs,r,ob,es,ep,k _ _ (.inl rfl) e,c⟩
 | dT kvs =>
  obtain ⟨z,y,xs,r,ob,es,ep,e,c⟩:=x
  exact ⟨z,y,xs,Paired.mapP r λ p q z=>⟨z.1,ht _ _ z.2.1,z.2.2⟩,ob,es,ep,k _ _ (.inl rfl) e,c⟩
 | set S n=>obtain ⟨ob,es,ep,t,e,c⟩:=x; exact ⟨ob,es,ep,t,k _ _ (.inl rfl) e,c⟩
 | ins C dx fs =>
  obtain ⟨d,z,ne,e,mA,⟨od,es,ep,e2,c⟩,r⟩:=x
  exact ⟨ho _ d,z,ne,k _ _ (.inl rfl) e,mA,⟨od,es,ep,k _ _ (.inr d) e2,c⟩,r⟩
 | own y=>obtain ⟨ob,e⟩:=x; exact ⟨ob,k _ _ (.inl rfl) e⟩
 | xd fs=>obtain ⟨mA,⟨od,es,ep,e,c⟩,r⟩:=x; exact ⟨mA,⟨od,es,ep,k _ _ (.inl rfl) e,c⟩,r⟩
 | rng lo hi=>obtain ⟨t,u,v,e⟩:=x; exact ⟨t,u,v,k _ _ (.inl rfl) e⟩
 | frz ob u ih=>obtain ⟨e,q⟩:=x; exact ⟨k _ _ (.inl rfl) e,ih q⟩
 | tbl ps =>
  have e:h.get? a=some { cls:=.none,data:=.fields ps }:=x
  show h'.get? a=some { cls:=.none,data:=.fields ps }
  exact k a _ (.inl rfl) e
 | met f y =>
  have e:h.get? a=some (methodObj (.ref f) (.ref y)):=x
  show h'.get? a=some (methodObj (.ref f) (.ref y))
  exact k a _ (.inl rfl) e
 | ext φ=>obtain ⟨p,⟨o,e⟩,st⟩:=x; exact ⟨st _ _ p λ o q=>k _ _ (.inl rfl) q,⟨o,k _ _ (.inl rfl) e⟩,st⟩
theorem HOk.lt (x:HOk P w H h) (e:H a=some o):a < h.objs.size:=(x a o e).lt
theorem HOk.fresh (x:HOk P w H h) (e:h.objs.size<=a):H a=none:=by
 cases q:H a with
 | none=>rfl
 | some u=>exact absurd (Nat.lt_of_lt_of_le (x.lt q) e) (Nat.lt_irrefl _)
theorem HOk.kept (x:HOk P w H h) (k:∀ b u,h.get? b=some u->h'.get? b=some u):HOk P w H h':=λ a o e =>
 (x a o e).stay (λ b u _ q=>k b u q) (λ _ q=>q) λ _ _ q=>q
theorem HOk.laid (x:HOk P w H h) (k:∀ b u,h.get? b=some u->h'.get? b=some u) (hp:h.objs.size<=a) (new:ObjOk P w (upd H a o) h' a o):HOk P w (upd H a o) h':=λ b u e=>by
 have hn:=x.fresh hp
 by_cases hb:b=a
 ·subst hb; rw [yf0] at e; cases e; exact new
 ·rw [tc0 hb] at e
  exact (x b u e).stay (λ c v _ q=>k c v q) (λ c q=>by rw [tc0 (sf0 q hn)]; exact q) λ c xs q=>by rw [tc0 (sf0 q hn)]; exact q
end
def Rd (H:Hp) (a:Addr) (u:HO):Prop:=H a=some u \/ ∃ o,H a=some (.frz o u)
theorem Rd.ok {P:Program} {w:World} {H:Hp} {h:Heap} {a:Addr} {u:HO} (r:Rd H a u) (x:HOk P w H h):ObjOk P w H h a u:=by
 rcases r with r | ⟨o,r⟩
 ·exact x a u r
 ·obtain ⟨_,q⟩:=x a _ r
  exact q
def Mut:Option HO->Prop
 | some (.lst _)=>True
 | some (.dK _)=>True
 | some (.dT _)=>True
 | some (.set _ _)=>True
 | some (.ins _ _ _)=>True
 | some (.ext _)=>True
 | _=>False
section
variable {P:Program} {w:World} {H:Hp} {h h':Heap} {x e:Addr} {o':HO}
theorem HOk.write (ok:HOk P w H h) (mu:Mut (H x)) (he:e=x \/ H e=some (.own x)) (k:∀ b u,b ≠ e->h.get? b=some u->h'.get? b=some u) (heo:∃ u,h'.get? e=some u)
    (new:ObjOk P w (upd H x o') h' x o'):HOk P w (upd H x o') h':=λ b u q=>by
 have nown:∀ c y,H c=some (.own y)->c ≠ x:=λ c y r z=>by subst z; rw [r] at mu; exact mu
 have ntup:∀ c xs,H c=some (.tup xs)->c ≠ x:=λ c xs r z=>by subst z; rw [r] at mu; exact mu
 by_cases hb:b=x
 ·subst hb; rw [yf0] at q; cases q; exact new
 ·rw [tc0 hb] at q
  by_cases hbe:b=e
  ·have q':H b=some (.own x):=by
     rcases he with z | z
     ·exact absurd (hbe.trans z) hb
     ·rw [hbe]; exact z
   rw [q] at q'; cases q'
   obtain ⟨v,hv⟩:=heo
   exact ⟨v,by rw [hbe]; exact hv⟩
  ·refine (ok b u q).stay (λ c v hc r=>k c v ?_ r) (λ c r=>by rw [tc0 (nown c b r)]; exact r) λ c xs r=>by rw [tc0 (ntup c xs r)]; exact r
   rcases hc with rfl | hc
   ·exact hbe
   ·rintro rfl
    rcases he with z | z
    ·exact nown c b hc z
    ·rw [hc] at z; cases z; exact hb rfl
end
structure Un (fs ex:List Addr) (H H':Hp) (h h':Heap):Prop where
 keep:∀ b o,h.get? b=some o->H b=none->b ∉ fs->b ∉ ex->h'.get? b=some o
 slot:∀ b o,h.get? b=some o->H b=none->b ∈ fs->b ∉ ex->∃ sl,h'.get? b=some { o with slots:=sl }
 free:∀ b o,h.get? b=some o->H b=none->b ∉ ex->H' b=none
 there:∀ b o,h.get? b=some o->b ∉ ex->∃ o',h'.get? b=some o'
 tups:∀ b xs,H b=some (.tup xs)->H' b=some (.tup xs)
 frzs:∀ b o u,H b=some (.frz o u)->H' b=some (.frz o u)
 tbls:∀ b ps,H b=some (.tbl ps)->∃ more,H' b=some (.tbl (ps ++ more))
section
variable {fs fs' ex ex':List Addr} {H H1 H2:Hp} {h h1 h2 h':Heap} {a x e:Addr} {o:HO}
theorem Un.any (u:Un fs ex H H1 h h1) {b:Addr} {ob:Obj} (q:h.get? b=some ob) (n:H b=none) (hx:b ∉ ex):∃ sl,h1.get? b=some { ob with slots:=sl }:=by
 by_cases hb:b ∈ fs
 ·exact u.slot b ob q n hb hx
 ·exact ⟨ob.slots,u.keep b ob q n hb hx⟩
theorem Un.kept (k:∀ b u,h.get? b=some u->h'.get? b=some u):Un fs ex H H h h' :=
 ⟨λ b ob q _ _ _=>k b ob q,λ b ob q _ _ _=>⟨ob.slots,k b ob q⟩,λ _ _ _ n _=>n,λ b ob q _=>⟨ob,k b ob q⟩,λ _ _ q=>q,λ _ _ _ q=>q,λ _ ps q=>⟨#[],by rw [q]; simp⟩⟩
theorem Un.refl:Un fs ex H H h h:=Un.kept λ _ _ q=>q
theorem Un.laid (k:∀ b u,h.get? b=some u->h'.get? b=some u) (hp:h.objs.size<=a) (hn:H a=none):Un fs ex H (upd H a o) h h' where
 keep:=λ b u q _ _ _=>k b u q
 slot:=λ b u q _ _ _=>⟨u.slots,k b u q⟩
 free:=λ b u q n _=>by rw [tc0 (Nat.ne_of_lt (Nat.lt_of_lt_of_le (Heap.lt_size q) hp))]; exact n
 there:=λ b u q _=>⟨u,k b u q⟩
 tups:=λ b xs q=>by rw [tc0 (sf0 q hn)]; exact q
 frzs:=λ b u xs q=>by rw [tc0 (sf0 q hn)]; exact q
 tbls:=λ b ps q=>⟨#[],by rw [tc0 (sf0 q hn),q]; simp⟩
theorem Un.write (mu:Mut (H x)) (he:e=x \/ H e=some (.own x)) (k:∀ b u,b ≠ e->h.get? b=some u->h'.get? b=some u) (heo:∃ u,h'.get? e=some u):Un fs ex H (upd H x o) h h':=by
 have hx:∀ b,H b=none->b ≠ x:=λ b n z=>by subst z; rw [n] at mu; exact mu
 have hb:∀ b,H b=none->b ≠ e:=λ b n z=>by
  subst z
  rcases he with r | r
  ·exact hx b n r
  ·rw [n] at r; cases r
 have hm:∀ b u,H b=some u->¬ Mut (some u)->b ≠ x:=λ b u q nm z=>by subst z; rw [q] at mu; exact nm mu
 refine ⟨λ b u q n _ _=>k b u (hb b n) q,λ b u q n _ _=>⟨u.slots,k b u (hb b n) q⟩,λ b u q n _=>by rw [tc0 (hx b n)]; exact n,λ b u q _=>?_,
  λ b xs q=>by rw [tc0 (hm b _ q λ z=>z)]; exact q,λ b u xs q=>by rw [tc0 (hm b _ q λ z=>z)]; exact q,λ b ps q=>⟨#[],by rw [tc0 (hm b _ q λ z=>z),q]; simp⟩⟩
 by_cases hbe:b=e
 ·subst hbe; exact heo
 ·exact ⟨u,k b u hbe q⟩
end
def trk (h:Heap) (H:Hp):List Addr:=(List.range h.objs.size).filter λ a=>(H a).isSome
def hidT (h:Heap) (H:Hp):Heap:=PySem.W.hideAll h (trk h H)
theorem ud2 (h:Heap) (H:Hp):(hidT h H).objs.size=h.objs.size:=PySem.W.hideAll_size _ _
theorem zq2 {h:Heap} {H:Hp} {b:Addr} {o:Obj} (e:h.get? b=some o) (n:H b=none):(hidT h H).get? b=some o :=
 PySem.W.hideAll_get _ e λ hm=>by
  have q:(H b).isSome=true:=(List.mem_filter.mp hm).2
  rw [n] at q; simp at q
theorem vh3 {h:Heap} {H:Hp} {b:Addr} {o:Obj} (e:(hidT h H).get? b=some o):h.get? b=some o /\ H b=none:=by
 have e':h.get? b=some o:=PySem.W.of_hideAll (trk h H) e
 refine ⟨e',?_⟩
 cases q:H b with
 | none=>rfl
 | some x =>
  have hm:b ∈ trk h H:=List.mem_filter.mpr ⟨List.mem_range.mpr (Heap.lt_size e'),by simp [q]⟩
  have z:(hidT h H).get? b=none:=PySem.W.hideAll_none (trk h H) hm
  rw [z] at e; cases e
def tk3 (g h:Heap) (L:Addr):List (Addr × Obj):=(List.range h.objs.size).filterMap λ a=>if a=L \/ (g.get? a).isSome=true then none else (h.get? a).map λ o=>(a,o)
def rest (g h:Heap) (L d:Addr):List (Addr × Obj):=(tk3 g h L).filter λ p=>decide (p.1 ≠ d)
structure Mod (K:PySem.W.Frag) (mg:Str->Option Value) (base:Heap):Prop where
 kin:K.In base
 glob:base.Ns mainGlobals mg
 blt:∃ mb,base.Ns builtinsNs mb /\ ∀ x:Str,x ≠ "__name__" -> mb x=bootBuiltins x
 nolimit:base.NoLimit
structure Cx where
 prog:Program
 w:World
 K:PySem.W.Frag
 mg:Str->Option Value
 base:Heap
 A:Around
 N:List Str
 s₀:Shared
 H₀:Hp
 env:Env
 outer:List Env
 stack:List Env
 ex:List Addr
 fn:Str->Bool
 calm:Bool
 pn:List (Addr × Obj)
 xe:Value->Shared->Prop
def frs (l:List Env):List Addr:=l.filterMap (·.frame)
abbrev Cx.fs (X:Cx):List Addr:=frs X.outer
def Vis (sc:Scope) (x:Str):Prop:=sc.names.lookup x=some .local \/ sc.names.lookup x=some .cell \/ sc.names.lookup x=some .free
def Loc (sc:Scope) (x:Str):Prop:=sc.names.lookup x=some .local \/ sc.names.lookup x=some .cell
def Look (env:Env) (h:Heap) (m:Str->Option Value) (x:Str) (u:Value):Prop :=
 (env.kindOf x=some .local /\ m x=some u) \/ ((env.kindOf x=some .cell \/ env.kindOf x=some .free) /\ ∃ c,env.cells.lookup x=some c /\ h.IsCell c (some u))
structure Cx.Ok (X:Cx):Prop where
 mod:Mod X.K X.mg X.base
 kind:X.env.scope.kind=.function
 glob:X.env.globals=mainGlobals
 blt:X.env.builtins=builtinsNs
 above:X.s₀.heap.objs.size<=X.env.locals
 inj:∀ x y c,X.env.cells.lookup x=some c->X.env.cells.lookup y=some c->x=y
 has:∀ x,(X.env.kindOf x=some .cell \/ X.env.kindOf x=some .free)->∃ c,X.env.cells.lookup x=some c
 cab:∀ x c,X.fn x=true->X.env.cells.lookup x=some c->X.s₀.heap.objs.size<=c
 hd:X.calm=true->X.A.handled=none
 frames:X.A.frames=some X.stack
 stk:X.stack=X.outer \/ (X.stack=X.env :: X.outer /\ X.env.frame=some X.env.locals)
 exf:∀ b ∈ X.ex,b ≠ X.env.locals /\ ∀ x c,X.env.cells.lookup x=some c->c ≠ b
 bs:∀ b o,X.base.get? b=some o->X.s₀.heap.get? b=some o /\ X.H₀ b=none
 bsz:X.base.objs.size<=X.s₀.heap.objs.size
 noex:∀ b o,X.base.get? b=some o->b ∉ X.ex
 exfs:∀ b ∈ X.ex,b ∉ X.fs
 funs:X.s₀.heap.FunFrames X.base X.outer
 frf:∀ b ∈ X.fs,X.H₀ b=none
structure Inv (X:Cx) (pins:List (Addr × Obj)) (σ:List (Option V)) (H:Hp) (s:Shared):Prop where
 ok:X.Ok
 os:s.os=X.s₀.os
 bare:AllBare s.gens
 base:Un X.fs X.ex X.H₀ H X.s₀.heap s.heap
 loc:∃ m,s.heap.Ns X.env.locals m /\ ∀ (i:Nat) (x:Str) (v:V),X.N[i]?=some x->σ[i]?=some (some v)->Vis X.env.scope x->∃ u,RelV v u /\ Look X.env s.heap m x u
 cell:∀ x c,X.env.cells.lookup x=some c->∃ v,s.heap.IsCell c v
 free:H X.env.locals=none
 freeC:∀ x c,X.env.cells.lookup x=some c->H c=none
 pin:∀ p ∈ X.pn ++ pins,s.heap.get? p.1=some p.2 /\ H p.1=none /\ p.1 ≠ X.env.locals /\ p.1 ∉ X.fs /\ ∀ v,p.2.data ≠ .cell v
 hok:HOk X.prog X.w H s.heap
 len:σ.length=X.N.length
section
variable {X:Cx} {pins:List (Addr × Obj)} {σ:List (Option V)} {H H':Hp} {s:Shared} {h':Heap}
theorem Cx.Ok.nofr (ok:X.Ok) {b:Addr} {o:Obj} (e:X.base.get? b=some o):b ∉ X.fs:=λ hb=>by
 have:=(ok.funs.mem hb).1
 rw [e] at this; cases this
theorem Inv.bs (I:Inv X pins σ H s):∀ b o,X.base.get? b=some o->s.heap.get? b=some o /\ H b=none:=λ b o e =>
 ⟨I.base.keep b o (I.ok.bs b o e).1 (I.ok.bs b o e).2 (I.ok.nofr e) (I.ok.noex b o e),I.base.free b o (I.ok.bs b o e).1 (I.ok.bs b o e).2 (I.ok.noex b o e)⟩
theorem Inv.bk (I:Inv X pins σ H s):∀ b o,X.base.get? b=some o->s.heap.get? b=some o:=λ b o e=>(I.bs b o e).1
theorem Inv.mod (I:Inv X pins σ H s):Mod X.K X.mg X.base:=I.ok.mod
theorem Inv.kIn (I:Inv X pins σ H s):X.K.In s.heap:=I.ok.mod.kin.keeps I.bk
theorem Inv.lt (I:Inv X pins σ H s):X.env.locals < s.heap.objs.size:=let ⟨_,hn,_⟩:=I.loc; hn.lt
theorem Inv.sz (I:Inv X pins σ H s):X.s₀.heap.objs.size<=s.heap.objs.size:=Nat.le_trans I.ok.above (Nat.le_of_lt I.lt)
theorem Inv.nofs (I:Inv X pins σ H s) {a:Addr} (h:s.heap.objs.size<=a):a ∉ X.fs:=λ hb=>by
 obtain ⟨_,o,ho,_⟩:=I.ok.funs.mem hb
 exact absurd (Nat.lt_of_lt_of_le (Heap.lt_size ho) (Nat.le_trans I.sz h)) (Nat.lt_irrefl _)
theorem Inv.cne (I:Inv X pins σ H s):∀ x c,X.env.cells.lookup x=some c->c ≠ X.env.locals:=λ x c e z=>by
 obtain ⟨v,o,ho,hd⟩:=I.cell x c e
 obtain ⟨m,⟨o',es,ep,ho',hd',_⟩,_⟩:=I.loc
 rw [z,ho'] at ho; cases ho; rw [hd'] at hd; cases hd
theorem Inv.funs (I:Inv X pins σ H s):s.heap.FunFrames X.base X.outer:=by
 have all:∀ (l:List Env),(∀ b ∈ frs l,b ∈ X.fs)->X.s₀.heap.FunFrames X.base l->s.heap.FunFrames X.base l:=by
  intro l
  induction l with
  | nil=>intro _ _; trivial
  | cons env r ih =>
   intro hs hl
   obtain ⟨hk,⟨L,o,hf,hn,ho,hd⟩,hr⟩:=hl
   have hL:L ∈ X.fs:=hs L (by unfold frs; rw [filterMap_cons,hf]; exact mem_cons_self)
   obtain ⟨sl,e⟩:=I.base.slot L o ho (I.ok.frf L hL) hL λ z=>I.ok.exfs L z hL
   exact ⟨hk,⟨L,_,hf,hn,e,hd⟩,ih (λ b hb=>hs b (by unfold frs; rw [filterMap_cons,hf]; exact mem_cons_of_mem _ hb)) hr⟩
 exact all X.outer (λ _ hb=>hb) I.ok.funs
theorem Inv.stack (I:Inv X pins σ H s):s.heap.FunFrames X.base X.stack:=by
 rcases I.ok.stk with e | ⟨e,hf⟩
 ·rw [e]; exact I.funs
 ·rw [e]
  obtain ⟨m,hn,_⟩:=I.loc
  refine .cons (by rw [I.ok.kind]; decide) hf hn ?_ I.funs
  exact Heap.get?_none_of_le (Nat.le_trans I.ok.bsz I.ok.above)
theorem Inv.stkSub (I:Inv X pins σ H s):∀ b ∈ frs X.stack,b ∈ X.env.locals :: X.fs:=λ b hb=>by
 rcases I.ok.stk with e | ⟨e,hf⟩
 ·rw [e] at hb; exact mem_cons_of_mem _ hb
 ·rw [e] at hb
  unfold frs at hb
  rw [filterMap_cons,hf] at hb
  exact hb
theorem Inv.stkFree (I:Inv X pins σ H s):∀ b ∈ frs X.stack,H b=none:=λ b hb=>by
 rcases List.mem_cons.mp (I.stkSub b hb) with e | hb
 ·rw [e]; exact I.free
 ·obtain ⟨_,o,ho,_⟩:=I.ok.funs.mem hb
  exact I.base.free b o ho (I.ok.frf b hb) λ z=>I.ok.exfs b z hb
theorem Inv.step {g':Array GenState} {t':Nat} {d':Drawn} {ch:List Addr} (I:Inv X pins σ H s)
    (hch:∀ b ∈ ch,(b ∈ X.ex \/ X.s₀.heap.objs.size<=b) /\ b ≠ X.env.locals /\ (∀ x c,X.env.cells.lookup x=some c->c ≠ b) /\ ∀ p ∈ X.pn ++ pins,p.1 ≠ b)
    (keep:∀ b o,b ≠ X.env.locals->b ∉ X.fs->b ∉ ch->s.heap.get? b=some o->H b=none->h'.get? b=some o)
    (slot:∀ b o,b ≠ X.env.locals->b ∈ X.fs->b ∉ ch->s.heap.get? b=some o->H b=none->∃ sl,h'.get? b=some { o with slots:=sl }) (free:∀ b o,b ∉ ch->s.heap.get? b=some o->H b=none->H' b=none)
    (there:∀ b o,b ∉ ch->s.heap.get? b=some o->∃ o',h'.get? b=some o')
    (tups:∀ b xs,H b=some (.tup xs)->H' b=some (.tup xs)) (frzs:∀ b o u,H b=some (.frz o u)->H' b=some (.frz o u)) (tbls:∀ b ps,H b=some (.tbl ps)->∃ more,H' b=some (.tbl (ps ++ more)))
    (ns:∀ m,s.heap.Ns X.env.locals m->h'.Ns X.env.locals m) (hok:HOk X.prog X.w H' h') (hg:AllBare g') :
    Inv X pins σ H' { s with heap:=h',gens:=g',drawn:=d',toks:=t' }:=by
 have neL:∀ b o,X.s₀.heap.get? b=some o->b ≠ X.env.locals:=λ b o e=>Nat.ne_of_lt (Nat.lt_of_lt_of_le (Heap.lt_size e) I.ok.above)
 have neC:∀ b o,X.s₀.heap.get? b=some o->b ∉ X.ex->b ∉ ch:=λ b o e hx hb=>by
  rcases (hch b hb).1 with z | z
  ·exact hx z
  ·exact absurd (Nat.lt_of_lt_of_le (Heap.lt_size e) z) (Nat.lt_irrefl _)
 have cellK:∀ x c,X.env.cells.lookup x=some c->∀ v,s.heap.IsCell c v->h'.IsCell c v:=λ x c e v ⟨o,ho,hd⟩=>by
  have nch:c ∉ ch:=λ z=>(hch c z).2.2.1 x c e rfl
  by_cases hc:c ∈ X.fs
  ·obtain ⟨sl,q⟩:=slot c o (I.cne x c e) hc nch ho (I.freeC x c e)
   exact ⟨_,q,hd⟩
  ·exact ⟨o,keep c o (I.cne x c e) hc nch ho (I.freeC x c e),hd⟩
 refine ⟨I.ok,I.os,hg,⟨λ b o e n hb hx=>?_,λ b o e n hb hx=>?_,λ b o e n hx=>?_,λ b o e hx=>?_,λ b xs e=>tups b xs (I.base.tups b xs e),λ b o xs e=>frzs b o xs (I.base.frzs b o xs e),λ b ps e=>?_⟩,?_,λ x c e=>?_,?_,λ x c e=>?_,λ p hp=>?_,hok,I.len⟩
 ·exact keep b o (neL b o e) hb (neC b o e hx) (I.base.keep b o e n hb hx) (I.base.free b o e n hx)
 ·obtain ⟨sl,e1⟩:=I.base.slot b o e n hb hx
  obtain ⟨sl',e2⟩:=slot b _ (neL b o e) hb (neC b o e hx) e1 (I.base.free b o e n hx)
  exact ⟨sl',e2⟩
 ·obtain ⟨o',e1⟩:=I.base.there b o e hx
  exact free b o' (neC b o e hx) e1 (I.base.free b o e n hx)
 ·obtain ⟨o',e1⟩:=I.base.there b o e hx
  exact there b o' (neC b o e hx) e1
 ·obtain ⟨m1,e1⟩:=I.base.tbls b ps e
  obtain ⟨m2,e2⟩:=tbls b _ e1
  exact ⟨m1 ++ m2,by rw [e2,Array.append_assoc]⟩
 ·obtain ⟨m,hn,hl⟩:=I.loc
  refine ⟨m,ns m hn,λ i x v e1 e2 e3=>?_⟩
  obtain ⟨u,r,l⟩:=hl i x v e1 e2 e3
  refine ⟨u,r,?_⟩
  rcases l with l | ⟨k,c,e,z⟩
  ·exact .inl l
  ·exact .inr ⟨k,c,e,cellK x c e _ z⟩
 ·obtain ⟨v,z⟩:=I.cell x c e
  exact ⟨v,cellK x c e v z⟩
 ·obtain ⟨m,⟨o,_,_,ho,_⟩,_⟩:=I.loc
  exact free _ o (λ z=>(hch _ z).2.1 rfl) ho I.free
 ·obtain ⟨v,o,ho,hd⟩:=I.cell x c e
  exact free c o (λ z=>(hch c z).2.2.1 x c e rfl) ho (I.freeC x c e)
 ·obtain ⟨e,n,ne,nf,d⟩:=I.pin p hp
  have nch:p.1 ∉ ch:=λ z=>(hch p.1 z).2.2.2 p hp rfl
  exact ⟨keep p.1 p.2 ne nf nch e n,free p.1 p.2 nch e n,ne,nf,d⟩
theorem Inv.un {t':Nat} (I:Inv X pins σ H s) (u:Un X.fs [] H H' s.heap h') (hok:HOk X.prog X.w H' h'):Inv X pins σ H' { s with heap:=h',toks:=t' }:=by
 obtain ⟨m,⟨o,es,ep,ho,r⟩,_⟩:=id I.loc
 obtain ⟨sl,hL⟩:=u.any ho I.free (by simp)
 exact I.step (g':=s.gens) (d':=s.drawn) (ch:=[]) (λ _ z=>nomatch z) (λ b o _ hb _ e n=>u.keep b o e n hb (by simp)) (λ b o _ hb _ e n=>u.slot b o e n hb (by simp)) (λ b o _ e n=>u.free b o e n (by simp)) (λ b o _ e=>u.there b o e (by simp)) u.tups u.frzs u.tbls (λ m' hm=>by
  obtain ⟨o',es',ep',ho',r'⟩:=hm
  rw [ho] at ho'; cases ho'
  exact ⟨_,es',ep',hL,r'⟩) hok I.bare
theorem Inv.call {g':Array GenState} {t':Nat} {d':Drawn} {ch:List Addr} (I:Inv X pins σ H s) (u:Un (frs X.stack) ch H H' s.heap h') (hok:HOk X.prog X.w H' h') (hg:AllBare g')
    (hch:∀ b ∈ ch,(b ∈ X.ex \/ X.s₀.heap.objs.size<=b) /\ b ≠ X.env.locals /\ (∀ x c,X.env.cells.lookup x=some c->c ≠ b) /\ ∀ p ∈ X.pn ++ pins,p.1 ≠ b) :
    Inv X pins σ H' { s with heap:=h',gens:=g',drawn:=d',toks:=t' }:=by
 obtain ⟨m,⟨o,es,ep,ho,r⟩,_⟩:=id I.loc
 obtain ⟨sl,hL⟩:=u.any ho I.free λ z=>(hch _ z).2.1 rfl
 exact I.step (ch:=ch) hch (λ b o hL hb hc e n=>u.keep b o e n (λ z=>(List.mem_cons.mp (I.stkSub b z)).elim hL hb) hc) (λ b o _ _ hc e n=>u.any e n hc) (λ b o hc e n=>u.free b o e n hc) (λ b o hc e=>u.there b o e hc) u.tups u.frzs u.tbls (λ m' hm=>by
  obtain ⟨o',es',ep',ho',r'⟩:=hm
  rw [ho] at ho'; cases ho'
  exact ⟨_,es',ep',hL,r'⟩) hok hg
theorem Inv.turned {t':Nat} {it:Addr} (I:Inv X pins σ H s) (k:∀ b o,b ≠ it->s.heap.get? b=some o->h'.get? b=some o) (hn:H it=none) (hL:it ≠ X.env.locals)
    (h1:it ∈ X.ex \/ X.s₀.heap.objs.size<=it) (h2:∀ x c,X.env.cells.lookup x=some c->c ≠ it) (h3:∀ p ∈ X.pn ++ pins,p.1 ≠ it):Inv X pins σ H { s with heap:=h',toks:=t' }:=by
 have nit:∀ b u,H b=some u->b ≠ it:=λ b u e z=>by rw [z,hn] at e; cases e
 refine I.step (g':=s.gens) (d':=s.drawn) (ch:=[it]) (λ b hb=>?_) (λ b o _ _ hc e _=>k b o (λ z=>hc (by simp [z])) e) (λ b o _ _ hc e _=>⟨o.slots,k b o (λ z=>hc (by simp [z])) e⟩) (λ _ _ _ _ n=>n)
  (λ b o hc e=>⟨o,k b o (λ z=>hc (by simp [z])) e⟩) (λ _ _ e=>e) (λ _ _ _ e=>e) (λ b ps e=>⟨#[],by rw [e]; simp⟩) (λ m hm=>?_) (λ b u e=>?_) I.bare
 ·have e:b=it:=by simpa using hb
  subst e
  exact ⟨h1,hL,h2,h3⟩
 ·obtain ⟨o,es,ep,ho,r⟩:=hm
  exact ⟨o,es,ep,k _ o (Ne.symm hL) ho,r⟩
 ·refine (I.hok b u e).stay (λ c v hc q=>k c v ?_ q) (λ _ q=>q) λ _ _ q=>q
  rcases hc with z | z
  ·rw [z]; exact nit b u e
  ·exact nit c _ z
theorem Inv.tok (I:Inv X pins σ H s) (t:Nat):Inv X pins σ H { s with toks:=t }:=I.un (h':=s.heap) (t':=t) Un.refl I.hok
theorem Inv.kept {t':Nat} (I:Inv X pins σ H s) (k:∀ b u,s.heap.get? b=some u->h'.get? b=some u):Inv X pins σ H { s with heap:=h',toks:=t' }:=I.un (Un.kept k) (I.hok.kept k)
theorem Inv.laid {a:Addr} {o:HO} {t':Nat} (I:Inv X pins σ H s) (k:∀ b u,s.heap.get? b=some u->h'.get? b=some u) (hp:s.heap.objs.size<=a) (new:ObjOk X.prog X.w (upd H a o) h' a o) :
    Inv X pins σ (upd H a o) { s with heap:=h',toks:=t' }:=I.un (Un.laid k hp (I.hok.fresh hp)) (I.hok.laid k hp new)
theorem Inv.write {x e:Addr} {o:HO} {t':Nat} (I:Inv X pins σ H s) (mu:Mut (H x)) (he:e=x \/ H e=some (.own x)) (k:∀ b u,b ≠ e->s.heap.get? b=some u->h'.get? b=some u) (heo:∃ u,h'.get? e=some u)
    (new:ObjOk X.prog X.w (upd H x o) h' x o):Inv X pins σ (upd H x o) { s with heap:=h',toks:=t' }:=I.un (Un.write mu he k heo) (I.hok.write mu he k heo new)
theorem Inv.pins_of {pins':List (Addr × Obj)} (I:Inv X pins σ H s) (h:∀ p ∈ pins',s.heap.get? p.1=some p.2 /\ H p.1=none /\ p.1 ≠ X.env.locals /\ p.1 ∉ X.fs /\ ∀ v,p.2.data ≠ .cell v):Inv X pins' σ H s :=
 ⟨I.ok,I.os,I.bare,I.base,I.loc,I.cell,I.free,I.freeC,λ p hp=>(List.mem_append.mp hp).elim (λ z=>I.pin p (mem_append_left _ z)) (h p),I.hok,I.len⟩
theorem sl1 {N:List Str} (hN:N.Nodup) {i j:Nat} {x:Str} (a:N[i]?=some x) (b:N[j]?=some x):i=j:=by
 obtain ⟨h1,e1⟩:=List.getElem?_eq_some_iff.mp a
 obtain ⟨h2,e2⟩:=List.getElem?_eq_some_iff.mp b
 exact (List.getElem_inj hN).mp (e1.trans e2.symm)
theorem wb1 {M:Model} {A:Around} {E:Value->Shared->Prop} {i:Nat} {x:Str} {v:V} {u:Value} {Q:Unit->Shared->Prop} (I:Inv X pins σ H s) (hN:X.N.Nodup) (hi:X.N[i]?=some x) (hx:Loc X.env.scope x) (r:RelV v u)
    (h:∀ s',Inv X pins (σ.set i (some v)) H s'->(∃ a,Heap.SameBut a s.heap s'.heap /\ (a=X.env.locals \/ X.env.cells.lookup x=some a))->Q () s') (hf:X.fn x=true \/ X.env.scope.names.lookup x=some .local:=by first | exact .inl rfl | exact .inr rfl | assumption):wpAny M A (storeName X.env x u) Q E s:=by
 obtain ⟨m,hn,hl⟩:=id I.loc
 have hcls:(X.env.scope.kind == .class || (X.env.scope.kind == .module && X.env.locals != X.env.globals))=false:=by rw [I.ok.kind]; rfl
 have hiσ:i < σ.length:=by rw [I.len]; exact (List.getElem?_eq_some_iff.mp hi).1
 have cne:=I.cne
 have tracked:∀ {a:Addr} {h':Heap},(∃ o,s.heap.get? a=some o /\ H a=none)->Heap.SameBut a s.heap h'->HOk X.prog X.w H h':=λ {a h'} ha hs b ob e=>by
  obtain ⟨_,_,hfree⟩:=ha
  refine (I.hok b ob e).stay (λ c w' hc q=>(hs.2 c ?_).trans q) (λ _ q=>q) λ _ _ q=>q
  rintro rfl
  rcases hc with rfl | hc
  ·rw [hfree] at e; cases e
  ·rw [hfree] at hc; cases hc
 rcases hx with hk | hk
 ·refine wpAny_storeName_local hk hn (λ h' hn' hs=>?_) hcls
  obtain ⟨oL,_,_,hoL,_⟩:=id hn
  refine h _ ⟨I.ok,I.os,I.bare,⟨λ b o e n hb hx=>?_,λ b o e n hb hx=>?_,I.base.free,λ b o e hx=>?_,I.base.tups,I.base.frzs,I.base.tbls⟩,⟨_,hn',λ j y v' e1 e2 e3=>?_⟩,λ y c e=>?_,I.free,I.freeC,λ p hp=>?_,tracked ⟨oL,hoL,I.free⟩ hs,by simpa using I.len⟩ ⟨_,hs,.inl rfl⟩
  ·exact (hs.2 b (Nat.ne_of_lt (Nat.lt_of_lt_of_le (Heap.lt_size e) I.ok.above))).trans (I.base.keep b o e n hb hx)
  ·obtain ⟨sl,e1⟩:=I.base.slot b o e n hb hx
   exact ⟨sl,(hs.2 b (Nat.ne_of_lt (Nat.lt_of_lt_of_le (Heap.lt_size e) I.ok.above))).trans e1⟩
  ·obtain ⟨o',e1⟩:=I.base.there b o e hx
   exact ⟨o',(hs.2 b (Nat.ne_of_lt (Nat.lt_of_lt_of_le (Heap.lt_size e) I.ok.above))).trans e1⟩
  ·by_cases hj:j=i
   ·subst hj
    rw [hi] at e1; cases e1
    rw [List.getElem?_set_self hiσ] at e2
    cases e2
    exact ⟨u,r,.inl ⟨hk,by simp⟩⟩
   ·rw [List.getElem?_set_ne (Ne.symm hj)] at e2
    obtain ⟨u',r',q⟩:=hl j y v' e1 e2 e3
    refine ⟨u',r',?_⟩
    rcases q with ⟨k,e⟩ | ⟨k,c,e,z⟩
    ·refine .inl ⟨k,?_⟩
     have:y ≠ x:=λ e=>hj (sl1 hN e1 (e ▸ hi))
     simp [this,e]
    ·exact .inr ⟨k,c,e,z.sameBut hs (cne y c e)⟩
  ·obtain ⟨w',z⟩:=I.cell y c e
   exact ⟨w',z.sameBut hs (cne y c e)⟩
  ·obtain ⟨e,n,ne,nf,d⟩:=I.pin p hp
   exact ⟨(hs.2 p.1 ne).trans e,n,ne,nf,d⟩
 ·have hfn:X.fn x=true:=by
    rcases hf with z | z
    ·exact z
    ·rw [z] at hk; cases hk
  obtain ⟨c,hc⟩:=I.ok.has x (.inl hk)
  obtain ⟨w',z⟩:=I.cell x c hc
  refine wpAny_storeName_cell I.ok.kind hk hc z (λ h' hc' hs=>?_)
  obtain ⟨oc,hoc,hocd⟩:=id z
  refine h { s with heap:=h' } ⟨I.ok,I.os,I.bare,⟨λ b o e n hb hx=>?_,λ b o e n hb hx=>?_,I.base.free,λ b o e hx=>?_,I.base.tups,I.base.frzs,I.base.tbls⟩,⟨m,hn.sameBut hs (Ne.symm (cne x c hc)),λ j y v' e1 e2 e3=>?_⟩,λ y c' e=>?_,I.free,I.freeC,λ p hp=>?_,tracked ⟨oc,hoc,I.freeC x c hc⟩ hs,by simpa using I.len⟩ ⟨c,hs,.inr hc⟩
  ·exact (hs.2 b (Nat.ne_of_lt (Nat.lt_of_lt_of_le (Heap.lt_size e) (I.ok.cab x c hfn hc)))).trans (I.base.keep b o e n hb hx)
  ·obtain ⟨sl,e1⟩:=I.base.slot b o e n hb hx
   exact ⟨sl,(hs.2 b (Nat.ne_of_lt (Nat.lt_of_lt_of_le (Heap.lt_size e) (I.ok.cab x c hfn hc)))).trans e1⟩
  ·obtain ⟨o',e1⟩:=I.base.there b o e hx
   exact ⟨o',(hs.2 b (Nat.ne_of_lt (Nat.lt_of_lt_of_le (Heap.lt_size e) (I.ok.cab x c hfn hc)))).trans e1⟩
  ·by_cases hj:j=i
   ·subst hj
    rw [hi] at e1; cases e1
    rw [List.getElem?_set_self hiσ] at e2
    cases e2
    exact ⟨u,r,.inr ⟨.inl hk,c,hc,hc'⟩⟩
   ·rw [List.getElem?_set_ne (Ne.symm hj)] at e2
    obtain ⟨u',r',q⟩:=hl j y v' e1 e2 e3
    refine ⟨u',r',?_⟩
    rcases q with q | ⟨k,c',e,z'⟩
    ·exact .inl q
    ·refine .inr ⟨k,c',e,z'.sameBut hs ?_⟩
     rintro rfl
     exact hj (sl1 hN e1 (I.ok.inj _ _ _ e hc ▸ hi))
  ·by_cases hcc:c'=c
   ·subst hcc; exact ⟨_,hc'⟩
   ·obtain ⟨w2,z2⟩:=I.cell y c' e
    exact ⟨w2,z2.sameBut hs hcc⟩
  ·obtain ⟨e,n,ne,nf,d⟩:=I.pin p hp
   refine ⟨(hs.2 p.1 ?_).trans e,n,ne,nf,d⟩
   intro q
   rw [q,hoc] at e
   have q':oc=p.2:=Option.some.inj e
   exact d w' (by rw [<- q']; exact hocd)
theorem tj1 {M:Model} {A:Around} {E:Value->Shared->Prop} {i:Nat} {x:Str} {v:V} {u:Value} {Q:Unit->Shared->Prop} (I:Inv X pins σ H s) (hN:X.N.Nodup) (hi:X.N[i]?=some x) (hx:Loc X.env.scope x) (r:RelV v u)
    (h:∀ s',Inv X pins (σ.set i (some v)) H s'->Q () s') (hf:X.fn x=true \/ X.env.scope.names.lookup x=some .local:=by first | exact .inl rfl | exact .inr rfl | assumption):wpAny M A (storeName X.env x u) Q E s :=
 wb1 I hN hi hx r (λ s' I' _=>h s' I') hf
theorem Inv.call' {s':Shared} {ch:List Addr} (I:Inv X pins σ H s) (ho:s'.os=s.os) (u:Un (frs X.stack) ch H H' s.heap s'.heap) (hok:HOk X.prog X.w H' s'.heap) (hg:AllBare s'.gens)
    (hch:∀ b ∈ ch,(b ∈ X.ex \/ X.s₀.heap.objs.size<=b) /\ b ≠ X.env.locals /\ (∀ x c,X.env.cells.lookup x=some c->c ≠ b) /\ ∀ p ∈ X.pn ++ pins,p.1 ≠ b):Inv X pins σ H' s':=by
 obtain ⟨h',g',d',t',o'⟩:=s'
 have e:o'=s.os:=ho
 subst e
 exact I.call (g':=g') (t':=t') (d':=d') u hok hg hch
end
abbrev XK:=Value->Option Addr->Hp->Prop
abbrev St:=List (Option V)
abbrev VK:=V->Hp->Prop
abbrev TE:=St->Hp->VK->Prop
abbrev TT:=St->Hp->(Bool->Hp->Prop)->Prop
abbrev TA:=St->Hp->(List V->Hp->Prop)->Prop
structure Ends where
 nx:St->Hp->Prop
 rt:VK
 bk:St->Hp->Prop:=λ _ _=>False
 ct:St->Hp->Prop:=λ _ _=>False
abbrev TS:=Ends->St->Hp->Prop
def EP (X:Cx) (pins:List (Addr × Obj)) (σ:St) (Q:VK) (u:Value) (s':Shared):Prop:=∃ v H',Inv X pins σ H' s' /\ RelV v u /\ Q v H'
def TP (X:Cx) (pins:List (Addr × Obj)) (σ:St) (Q:Bool->Hp->Prop) (b:Bool) (s':Shared):Prop:=∃ H',Inv X pins σ H' s' /\ Q b H'
def AP (X:Cx) (pins:List (Addr × Obj)) (σ:St) (Q:List V->Hp->Prop) (us:List Value) (s':Shared):Prop:=∃ vs H',Inv X pins σ H' s' /\ Vals vs us /\ Q vs H'
def SP (X:Cx) (pins:List (Addr × Obj)) (D:Ends) (f:Flow) (s':Shared):Prop :=
 match f with
 | .next=>∃ σ' H',Inv X pins σ' H' s' /\ D.nx σ' H'
 | .brk=>∃ σ' H',Inv X pins σ' H' s' /\ D.bk σ' H'
 | .cont=>∃ σ' H',Inv X pins σ' H' s' /\ D.ct σ' H'
 | .ret u=>∃ v σ' H',Inv X pins σ' H' s' /\ RelV v u /\ D.rt v H'
def PE (X:Cx) (e:Expr) (t:TE):Prop :=
 ∀ (pins:List (Addr × Obj)) (s:Shared) (σ:St) (H:Hp) (Q:VK),Inv X pins σ H s->t σ H Q->wpAny (model X.prog X.w) X.A (eval e X.env) (EP X pins σ Q) X.xe s
def PT (X:Cx) (e:Expr) (t:TT):Prop :=
 ∀ (pins:List (Addr × Obj)) (s:Shared) (σ:St) (H:Hp) (Q:Bool->Hp->Prop),Inv X pins σ H s->t σ H Q->wpAny (model X.prog X.w) X.A (isTrue e X.env (eval e X.env)) (TP X pins σ Q) X.xe s
def PW (X:Cx) (e:Expr) (t:TT):Prop :=
 ∀ (whole:Sem Value) (pins:List (Addr × Obj)) (s:Shared) (σ:St) (H:Hp) (Q:Bool->Hp->Prop),Inv X pins σ H s->t σ H Q->wpAny (model X.prog X.w) X.A (isTrue e X.env whole) (TP X pins σ Q) X.xe s
theorem PW.pt {X:Cx} {e:Expr} {t:TT} (h:PW X e t):PT X e t:=h _
def PA (X:Cx) (es:List Expr) (t:TA):Prop :=
 ∀ (pos:Pos) (pins:List (Addr × Obj)) (s:Shared) (σ:St) (H:Hp) (Q:List V->Hp->Prop),Inv X pins σ H s->t σ H Q->wpAny (model X.prog X.w) X.A (spliced (backTo pos (starEach es X.env))) (AP X pins σ Q) X.xe s
def PS (X:Cx) (st:Stmt) (t:TS):Prop :=
 ∀ (pins:List (Addr × Obj)) (s:Shared) (σ:St) (H:Hp) (D:Ends),Inv X pins σ H s->t D σ H->wpAny (model X.prog X.w) X.A (exec st X.env) (SP X pins D) X.xe s
def PSs (X:Cx) (st:List Stmt) (t:TS):Prop :=
 ∀ (pins:List (Addr × Obj)) (s:Shared) (σ:St) (H:Hp) (D:Ends),Inv X pins σ H s->t D σ H->wpAny (model X.prog X.w) X.A (execs st X.env) (SP X pins D) X.xe s
theorem thn {α:Type} {t:Sem α} {Q Q':α->Shared->Prop} {M:Model} {A:Around} {E:Value->Shared->Prop} {s:Shared} (h:wpAny M A t Q E s) (hQ:∀ a s,Q a s->Q' a s):wpAny M A t Q' E s:=wpAny_mono h hQ λ _ _ x=>x
section
variable {X:Cx}
def tVar (i:Nat):TE:=λ σ H Q=>∃ v,σ[i]?=some (some v) /\ Q v H
def tC (v:V):TE:=λ _ H Q=>Q v H
theorem tv2 {i:Nat} {x:Str} {pos:Pos} (hN:X.N[i]?=some x) (hv:Vis X.env.scope x) (hd:(x == ("__debug__" : Str))=false:=by decide) (hcd:(x == ("__classdict__" : Str))=false:=by decide):PE X (.Name x pos) (tVar i):=by
 intro pins s σ H Q I h
 obtain ⟨v,e,h⟩:=h
 obtain ⟨m,hn,hl⟩:=I.loc
 obtain ⟨u,r,l⟩:=hl i x v hN e hv
 have fin:EP X pins σ Q u s:=⟨v,H,I,r,h⟩
 rcases l with ⟨hk,hm⟩ | ⟨hk,c,hc,hcell⟩
 ·exact wpAny_Name (wpAny_loadName_local I.ok.kind hk hn hm fin) hd
 ·rcases hk with hk | hk
  ·exact wpAny_Name (wpAny_loadName_cell I.ok.kind hk hc hcell fin) hd
  ·exact wpAny_Name (wpAny_loadName_free I.ok.kind hk hc hcell fin hcd) hd
theorem uj4 {i j pos}:PE X (.Constant (.int i) j pos) (tC (.int i)):=λ _ _ _ H _ I h=>wpAny_Constant_int ⟨.int i,H,I.tok _,⟨_,rfl⟩,h⟩
theorem wx4 {b j pos}:PE X (.Constant (.bool b) j pos) (tC (.bl b)):=λ _ _ _ H _ I h=>Constant_bool ⟨.bl b,H,I,rfl,h⟩
theorem wj4 {j pos}:PE X (.Constant .none j pos) (tC .non):=λ _ _ _ H _ I h=>Constant_none ⟨.non,H,I,rfl,h⟩
theorem xj4 {x j pos}:PE X (.Constant (.str x) j pos) (tC (.str x)):=λ _ _ _ H _ I h=>Calls.Constant_str ⟨.str x,H,I.tok _,⟨_,rfl⟩,h⟩
def Gl (X:Cx) (x:Str):Prop:=X.env.kindOf x=some .globalImplicit
theorem vc2 {E:Value->Shared->Prop} {pins:List (Addr × Obj)} {s:Shared} {σ:St} {H:Hp} {x:Str} {u:Value} {pos:Pos} {Q:Value->Shared->Prop} (I:Inv X pins σ H s) (hg:Gl X x) (hm:X.mg x=some u) (h:Q u s)
    (hd:(x == ("__debug__" : Str))=false:=by decide):wpAny (model X.prog X.w) X.A (eval (.Name x pos) X.env) Q E s :=
 Calls.Name_function_global I.ok.kind hg (Calls.loadGlobal_global (by rw [I.ok.glob]; exact I.mod.glob.keeps I.bk) hm h) hd
theorem zr0 {E:Value->Shared->Prop} {pins:List (Addr × Obj)} {s:Shared} {σ:St} {H:Hp} {x:Str} {u:Value} {pos:Pos} {Q:Value->Shared->Prop} (I:Inv X pins σ H s) (hg:Gl X x) (hm:X.mg x=none) (hv:bootBuiltins x=some u) (h:Q u s)
    (hn:x ≠ "__name__" := by decide) (hd:(x == ("__debug__" : Str))=false:=by decide):wpAny (model X.prog X.w) X.A (eval (.Name x pos) X.env) Q E s:=by
 obtain ⟨mb,h1,h2⟩:=I.mod.blt
 exact Calls.Name_function_global I.ok.kind hg (Calls.loadGlobal_builtin (by rw [I.ok.glob]; exact I.mod.glob.keeps I.bk) hm (by rw [I.ok.blt]; exact h1.keeps I.bk) ((h2 x hn).trans hv) h) hd
theorem sf3 {x:Str} {v:V} {u:Value} {pos:Pos} (hg:Gl X x) (hm:X.mg x=some u) (r:RelV v u) (hd:(x == ("__debug__" : Str))=false:=by decide):PE X (.Name x pos) (tC v) :=
 λ _ _ _ H _ I h=>vc2 I hg hm ⟨v,H,I,r,h⟩ hd
theorem vg3 {x:Str} {v:V} {u:Value} {pos:Pos} (hg:Gl X x) (hm:X.mg x=none) (hv:bootBuiltins x=some u) (r:RelV v u) (hn:x ≠ "__name__" := by decide) (hd:(x == ("__debug__" : Str))=false:=by decide):PE X (.Name x pos) (tC v) :=
 λ _ _ _ H _ I h=>zr0 I hg hm hv ⟨v,H,I,r,h⟩ hn hd
variable {a b:Expr} {ta tb:TE} {pos:Pos}
def tB (t:TE):TT:=λ σ H Q=>t σ H λ x H1=>∃ c,x=.bl c /\ Q c H1
theorem vh4 {e:Expr} {t:TE} (h:PE X e t) (he:∀ whole,isTrue e X.env whole=(do let v <- whole; standAt e.pos; holding [v] (truthy v)):=by intro _; rfl):PT X e (tB t):=by
 intro pins s σ H Q I hw
 refine isTrue_plain (thn (h pins s σ H _ I hw) λ v s1 ⟨x,H1,I1,r1,q1⟩=>?_) (he _)
 obtain ⟨d,rfl,q⟩:=q1
 cases r1
 exact wpAny_truthy_bool ⟨H1,I1,q⟩
variable {tA tB':TT} {rest:List Expr}
def tAnd (t u:TT):TT:=λ σ H Q=>t σ H λ c H1=>if c=true then u σ H1 Q else Q false H1
def tOr (t u:TT):TT:=λ σ H Q=>t σ H λ c H1=>if c=true then Q true H1 else u σ H1 Q
def tNot (t:TT):TT:=λ σ H Q=>t σ H λ c H1=>Q (!c) H1
theorem sd3 (ha:PT X a tA):PW X (.BoolOp .And [a] pos) tA:=by
 intro wh pins s σ H Q I h
 refine isTrue_and (thn (ha pins s σ H Q I h) λ c s1 e=>?_)
 cases c with
 | true=>exact isTrue_and_nil e
 | false=>exact e
theorem xh4 (ha:PT X a tA):PW X (.BoolOp .Or [a] pos) tA:=by
 intro wh pins s σ H Q I h
 refine isTrue_or (thn (ha pins s σ H Q I h) λ c s1 e=>?_)
 cases c with
 | false=>exact isTrue_or_nil e
 | true=>exact e
theorem wh4 (ha:PT X a tA) (hb:PW X (.BoolOp .And (b :: rest) pos) tB'):PW X (.BoolOp .And (a :: b :: rest) pos) (tAnd tA tB'):=by
 intro wh pins s σ H Q I h
 refine isTrue_and (thn (ha pins s σ H _ I h) λ c s1 ⟨H1,I1,q1⟩=>?_)
 cases c with
 | true=>exact hb wh pins s1 σ H1 Q I1 q1
 | false=>exact ⟨H1,I1,q1⟩
theorem ww4 (ha:PT X a tA) (hb:PW X (.BoolOp .Or (b :: rest) pos) tB'):PW X (.BoolOp .Or (a :: b :: rest) pos) (tOr tA tB'):=by
 intro wh pins s σ H Q I h
 refine isTrue_or (thn (ha pins s σ H _ I h) λ c s1 ⟨H1,I1,q1⟩=>?_)
 cases c with
 | true=>exact ⟨H1,I1,q1⟩
 | false=>exact hb wh pins s1 σ H1 Q I1 q1
theorem uh4 (ha:PT X a tA):PT X (.UnaryOp .Not a pos) (tNot tA):=by
 intro pins s σ H Q I h
 exact isTrue_not (ha pins s σ H (λ c H1=>Q (!c) H1) I h)
def ur4 (ta tb:TE):TE:=λ σ H Q=>ta σ H λ x H1=>∃ c,x=.bl c /\ if c=true then tb σ H1 Q else Q (.bl false) H1
def tOrV (ta tb:TE):TE:=λ σ H Q=>ta σ H λ x H1=>∃ c,x=.bl c /\ if c=true then Q (.bl true) H1 else tb σ H1 Q
def sq4 (ta:TE):TE:=λ σ H Q=>ta σ H λ x H1=>∃ c,x=.bl c /\ Q (.bl (!c)) H1
theorem yj4 {op} {t:TE} (h:PE X a t):PE X (.BoolOp op [a] pos) t:=λ pins s σ H Q I hw=>BoolOp_one (h pins s σ H Q I hw)
theorem sj4 (ha:PE X a ta) (hb:PE X (.BoolOp .And (b :: rest) pos) tb):PE X (.BoolOp .And (a :: b :: rest) pos) (ur4 ta tb):=by
 intro pins s σ H Q I h
 refine BoolOp_and (thn (ha pins s σ H _ I h) λ v s1 ⟨x,H1,I1,r1,q1⟩=>?_)
 obtain ⟨c,rfl,q1⟩:=q1
 cases r1
 refine wpAny_truthy_bool ?_
 cases c with
 | true=>exact hb pins s1 σ H1 Q I1 q1
 | false=>exact ⟨.bl false,H1,I1,rfl,q1⟩
theorem xx4 (ha:PE X a ta) (hb:PE X (.BoolOp .Or (b :: rest) pos) tb):PE X (.BoolOp .Or (a :: b :: rest) pos) (tOrV ta tb):=by
 intro pins s σ H Q I h
 refine BoolOp_or (thn (ha pins s σ H _ I h) λ v s1 ⟨x,H1,I1,r1,q1⟩=>?_)
 obtain ⟨c,rfl,q1⟩:=q1
 cases r1
 refine wpAny_truthy_bool ?_
 cases c with
 | false=>exact hb pins s1 σ H1 Q I1 q1
 | true=>exact ⟨.bl true,H1,I1,rfl,q1⟩
theorem zj4 (ha:PE X a ta):PE X (.UnaryOp .Not a pos) (sq4 ta):=by
 intro pins s σ H Q I h
 refine UnaryOp_ (thn (ha pins s σ H _ I h) λ v s1 ⟨x,H1,I1,r1,q1⟩=>?_)
 obtain ⟨c,rfl,q1⟩:=q1
 cases r1
 exact not_of (wpAny_truthy_bool ⟨.bl (!c),H1,I1,rfl,q1⟩)
def tIf (t:TT) (ta tb:TE):TE:=λ σ H Q=>t σ H λ c H1=>if c=true then ta σ H1 Q else tb σ H1 Q
theorem wn2 {c:Expr} (hc:PT X c tA) (ha:PE X a ta) (hb:PE X b tb):PE X (.IfExp c a b pos) (tIf tA ta tb):=by
 intro pins s σ H Q I h
 refine wpAny_IfExp (thn (hc pins s σ H _ I h) λ d s1 ⟨H1,I1,q1⟩=>?_)
 cases d with
 | true=>exact ha pins s1 σ H1 Q I1 q1
 | false=>exact hb pins s1 σ H1 Q I1 q1
end
def SqL (K:PySem.W.Frag) (H:Hp) (a:Addr) (xs:List V):Prop :=
 Rd H a (.lst xs) ∨
  ∃ (o:Obj) (its:Array Value) (n:Nat),K.lookup a=some o /\ o.cls=.type "list" /\ o.dict=none /\ o.data=.seq its n /\ its.size<=sizeLine /\ Vals xs its.toList
def SqT (K:PySem.W.Frag) (H:Hp) (a:Addr) (xs:List V):Prop :=
 Rd H a (.tup xs) ∨
  ∃ (o:Obj) (its:Array Value) (n:Nat),K.lookup a=some o /\ o.cls=.type "tuple" /\ o.data=.seq its n /\ its.size<=sizeLine /\ Vals xs its.toList
def absV:Value->Option V
 | .none=>some .non
 | .bool b=>some (.bl b)
 | .int i _=>some (.int i)
 | .str x _=>some (.str x)
 | .bytes b _=>some (.byt b)
 | .float b _=>some (.flt b)
 | .ref a=>some (.ref a)
 | .type n=>some (.ty n)
 | _=>none
theorem RelV.abs {x:V} {u:Value} (r:RelV x u):absV u=some x:=by
 cases x with
 | non=>cases r; rfl
 | bl _=>cases r; rfl
 | int _=>obtain ⟨t,rfl⟩:=r; rfl
 | str _=>obtain ⟨t,rfl⟩:=r; rfl
 | byt _=>obtain ⟨t,rfl⟩:=r; rfl
 | flt _=>obtain ⟨t,rfl⟩:=r; rfl
 | ref _=>cases r; rfl
 | ty _=>cases r; rfl
theorem RelV.inj {x y:V} {u:Value} (r:RelV x u) (q:RelV y u):x=y:=Option.some.inj (r.abs.symm.trans q.abs)
theorem Vals.inj:∀ {xs ys:List V} {us:List Value},Vals xs us->Vals ys us->xs=ys
 | _,_,_,.nil,.nil=>rfl
 | _,_,_,.cons r t,.cons r' t'=>by rw [r.inj r',Vals.inj t t']
section
variable {X:Cx} {pins:List (Addr × Obj)} {σ:St} {H:Hp} {s:Shared} {a:Addr} {xs ys:List V}
theorem SqL.of {K:PySem.W.Frag} (h:H a=some (.lst xs)):SqL K H a xs:=.inl (.inl h)
theorem SqT.of {K:PySem.W.Frag} (h:H a=some (.tup xs)):SqT K H a xs:=.inl (.inl h)
theorem Inv.list (I:Inv X pins σ H s) (h:SqL X.K H a xs):∃ its:List Value,Vals xs its /\ PlainL s.heap a its.toArray /\ xs.length<=sizeLine:=by
 rcases h with h | ⟨o,its,n,hk,hc,hd,hs,hz,r⟩
 ·obtain ⟨z,its,n,r,e⟩:=h.ok I.hok
  exact ⟨its,r,⟨_,n,e,rfl,rfl,rfl⟩,z⟩
 ·refine ⟨its.toList,r,⟨o,n,I.kIn a o hk,hc,hd,by simpa using hs⟩,?_⟩
  have e:=r.length
  simp only [length_toList] at e
  omega
theorem Inv.tuple (I:Inv X pins σ H s) (h:SqT X.K H a xs):∃ its:List Value,Vals xs its /\ IsTup s.heap a its.toArray /\ xs.length<=sizeLine:=by
 rcases h with h | ⟨o,its,n,hk,hc,hs,hz,r⟩
 ·obtain ⟨z,its,r,p⟩:=h.ok I.hok
  exact ⟨its,r,p,z⟩
 ·refine ⟨its.toList,r,⟨o,I.kIn a o hk,hc,n,by simpa using hs⟩,?_⟩
  have e:=r.length
  simp only [length_toList] at e
  omega
theorem Inv.list_inj (I:Inv X pins σ H s) (h:SqL X.K H a xs) (h':SqL X.K H a ys):xs=ys:=by
 obtain ⟨its,r,⟨o,n,e,_,_,d⟩,_⟩:=I.list h
 obtain ⟨its',r',⟨o',n',e',_,_,d'⟩,_⟩:=I.list h'
 rw [e] at e'; cases e'
 rw [d] at d'
 injection d' with d1 _
 have:its=its':=by simpa using congrArg Array.toList d1
 subst this
 exact r.inj r'
theorem Inv.tuple_inj (I:Inv X pins σ H s) (h:SqT X.K H a xs) (h':SqT X.K H a ys):xs=ys:=by
 obtain ⟨its,r,⟨o,e,_,n,d⟩,_⟩:=I.tuple h
 obtain ⟨its',r',⟨o',e',_,n',d'⟩,_⟩:=I.tuple h'
 rw [e] at e'; cases e'
 rw [d] at d'
 injection d' with d1 _
 have:its=its':=by simpa using congrArg Array.toList d1
 subst this
 exact r.inj r'
end
abbrev Cx.wish (X:Cx) (E:Value->Shared->Prop):Cx:={ X with xe:=E }
abbrev Cx.nox (X:Cx):Cx:=X.wish λ _ _=>False
theorem Cx.Ok.wish {X:Cx} (ok:X.Ok) (E:Value->Shared->Prop):(X.wish E).Ok :=
 ⟨ok.mod,ok.kind,ok.glob,ok.blt,ok.above,ok.inj,ok.has,ok.cab,ok.hd,ok.frames,ok.stk,ok.exf,ok.bs,ok.bsz,ok.noex,ok.exfs,ok.funs,ok.frf⟩
theorem Cx.Ok.unwish {X:Cx} {E:Value->Shared->Prop} (ok:(X.wish E).Ok):X.Ok :=
 ⟨ok.mod,ok.kind,ok.glob,ok.blt,ok.above,ok.inj,ok.has,ok.cab,ok.hd,ok.frames,ok.stk,ok.exf,ok.bs,ok.bsz,ok.noex,ok.exfs,ok.funs,ok.frf⟩
section
variable {X:Cx} {pins:List (Addr × Obj)} {σ:St} {H:Hp} {s:Shared} {E:Value->Shared->Prop}
theorem Inv.wish (I:Inv X pins σ H s) (E:Value->Shared->Prop):Inv (X.wish E) pins σ H s:=⟨I.ok.wish E,I.os,I.bare,I.base,I.loc,I.cell,I.free,I.freeC,I.pin,I.hok,I.len⟩
theorem Inv.unwish (I:Inv (X.wish E) pins σ H s):Inv X pins σ H s:=⟨I.ok.unwish,I.os,I.bare,I.base,I.loc,I.cell,I.free,I.freeC,I.pin,I.hok,I.len⟩
theorem SP.unwish {D:Ends} {f:Flow} {s':Shared} (h:SP (X.wish E) pins D f s'):SP X pins D f s':=by
 cases f with
 | next=>obtain ⟨σ',H',I,q⟩:=h; exact ⟨σ',H',I.unwish,q⟩
 | brk=>obtain ⟨σ',H',I,q⟩:=h; exact ⟨σ',H',I.unwish,q⟩
 | cont=>obtain ⟨σ',H',I,q⟩:=h; exact ⟨σ',H',I.unwish,q⟩
 | ret u=>obtain ⟨v,σ',H',I,r,q⟩:=h; exact ⟨v,σ',H',I.unwish,r,q⟩
theorem PSs.nox {st:List Stmt} {t:TS} (h:PSs X.nox st t):PSs X st t:=λ pins s σ H D I hw =>
 wpAny_mono (h pins s σ H D (I.wish _) hw) (λ _ _ q=>q.unwish) λ _ _ z=>False.elim z
end
section
variable {X:Cx} {st:Stmt} {rest:List Stmt} {t u:TS} {e:Expr} {te:TE} {pos:Pos}
def xr4:TS:=λ D σ H=>D.nx σ H
def tSeq (t u:TS):TS:=λ D σ H=>t { D with nx:=u D } σ H
theorem ve3:PSs X [] xr4:=λ _ _ σ H _ I h=>wpAny_execs_nil ⟨σ,H,I,h⟩
theorem vm2 (h1:PS X st t) (h2:PSs X rest u):PSs X (st :: rest) (tSeq t u):=by
 intro pins s σ H D I h
 refine wpAny_execs_cons (thn (h1 pins s σ H { D with nx:=u D } I h) λ f s1 q=>?_)
 cases f with
 | next =>
  obtain ⟨σ',H',I',q⟩:=q
  exact h2 pins s1 σ' H' D I' q
 | ret v=>exact q
 | brk=>exact q
 | cont=>exact q
theorem we3 (h1:PS X st t):PSs X [st] t:=by
 intro pins s σ H D I h
 refine wpAny_execs_cons (thn (h1 pins s σ H D I h) λ f s1 q=>?_)
 cases f with
 | next=>exact wpAny_execs_nil q
 | ret v=>exact q
 | brk=>exact q
 | cont=>exact q
theorem Inv.quiet {pins:List (Addr × Obj)} {σ:St} {H:Hp} {s:Shared} (I:Inv X pins σ H s):interactive X.env=false:=by simp [interactive,I.ok.kind]
def yr4 (te:TE):TS:=λ D σ H=>te σ H λ _ H1=>D.nx σ H1
theorem se3 (he:PE X e te) (hs:swapsWith e none pos.line X.env=pure false:=by rfl):PS X (.Expr e pos) (yr4 te):=by
 intro pins s σ H D I h
 exact wpAny_Expr_any (thn (he pins s σ H _ I h) λ v s1 ⟨x,H1,I1,r1,q1⟩=>⟨σ,H1,I1,q1⟩) I.quiet hs
def tRet (te:TE):TS:=λ D σ H=>te σ H D.rt
theorem th4 (he:PE X e te):PS X (.Return (some e) pos) (tRet te):=by
 intro pins s σ H D I h
 exact wpAny_Return_some (thn (he pins s σ H _ I h) λ v s1 ⟨x,H1,I1,r1,q1⟩=>⟨x,σ,H1,I1,r1,q1⟩)
def tIfS (c:TT) (t u:TS):TS:=λ D σ H=>c σ H λ b H1=>if b=true then t D σ H1 else u D σ H1
theorem vw4 {c:Expr} {a b:List Stmt} {tc:TT} (hc:PT X c tc) (ha:PSs X a t) (hb:PSs X b u):PS X (.If c a b pos) (tIfS tc t u):=by
 intro pins s σ H D I h
 refine wpAny_If (thn (hc pins s σ H _ I h) λ d s1 ⟨H1,I1,q1⟩=>?_)
 cases d with
 | true=>exact ha pins s1 σ H1 D I1 q1
 | false=>exact hb pins s1 σ H1 D I1 q1
def zs3:TS:=λ _ _ _=>False
theorem tm2:PS X st zs3:=λ _ _ _ _ _ _ h=>h.elim
end
abbrev TG:=V->St->Hp->(St->Hp->Prop)->Prop
abbrev TGs:=List V->St->Hp->(St->Hp->Prop)->Prop
def PG (X:Cx) (target:Expr) (t:TG):Prop :=
 ∀ (pins:List (Addr × Obj)) (s:Shared) (σ:St) (H:Hp) (v:V) (u:Value) (Q:St->Hp->Prop),Inv X pins σ H s->RelV v u->t v σ H Q ->
  wpAny (model X.prog X.w) X.A (assign target X.env u) (λ _ s'=>∃ σ' H',Inv X pins σ' H' s' /\ Q σ' H') X.xe s
def PGs (X:Cx) (ts:List Expr) (t:TGs):Prop :=
 ∀ (pins:List (Addr × Obj)) (s:Shared) (σ:St) (H:Hp) (vs:List V) (us:List Value) (Q:St->Hp->Prop),Inv X pins σ H s->Vals vs us->t vs σ H Q ->
  wpAny (model X.prog X.w) X.A (assignInOrder ((assignEach ts X.env).map (·.2)) us) (λ _ s'=>∃ σ' H',Inv X pins σ' H' s' /\ Q σ' H') X.xe s
abbrev TSet:=V->V->V->Hp->(Hp->Prop)->Prop
def PSet (X:Cx) (t:TSet):Prop :=
 ∀ (pins:List (Addr × Obj)) (s:Shared) (σ:St) (H:Hp) (o i v:V) (ov iv u:Value) (Q:Hp->Prop),Inv X pins σ H s->RelV o ov->RelV i iv->RelV v u->t o i v H Q ->
  wpAny (model X.prog X.w) X.A (setItem ov iv u) (λ _ s'=>∃ H',Inv X pins σ H' s' /\ Q H') X.xe s
section
variable {X:Cx} {pos:Pos}
def zj3 (i:Nat):TG:=λ v σ H Q=>Q (σ.set i (some v)) H
theorem uf3 {i:Nat} {x:Str} (hN:X.N.Nodup) (hi:X.N[i]?=some x) (hx:Loc X.env.scope x) (hf:X.fn x=true \/ X.env.scope.names.lookup x=some .local:=by first | exact .inl rfl | exact .inr rfl | assumption):PG X (.Name x pos) (zj3 i):=by
 intro pins s σ H v u Q I r h
 exact wpAny_assign_Name (tj1 I hN hi hx r (λ s' I'=>⟨_,H,I',h⟩) hf)
def gNil:TGs:=λ vs σ H Q=>vs=[] /\ Q σ H
def vz4 (t:TG) (u:TGs):TGs:=λ vs σ H Q=>∃ v r,vs=v :: r /\ t v σ H λ σ' H'=>u r σ' H' Q
theorem vf3:PGs X [] gNil:=by
 intro pins s σ H vs us Q I r h
 obtain ⟨e,h⟩:=h
 subst e
 cases r
 exact assignInOrder_nil ⟨σ,H,I,h⟩
theorem xn2 {e:Expr} {es:List Expr} {t:TG} {u:TGs} (h1:PG X e t) (h2:PGs X es u)
    (hs:(assignEach (e :: es) X.env).map (·.2)=assign e X.env :: (assignEach es X.env).map (·.2):=by rfl):PGs X (e :: es) (vz4 t u):=by
 intro pins s σ H vs us Q I r h
 obtain ⟨v,vr,e1,h⟩:=h
 subst e1
 cases r with
 | cons r rr =>
  rw [hs]
  refine assignInOrder_cons (thn (h1 pins s σ H _ _ _ I r h) λ _ s1 ⟨σ1,H1,I1,q1⟩=>?_)
  exact h2 pins s1 σ1 H1 _ _ Q I1 rr q1
def gTup (K:PySem.W.Frag) (n:Nat) (t:TGs):TG:=λ v σ H Q=>∃ a xs,v=.ref a /\ SqT K H a xs /\ xs.length=n /\ t xs σ H Q
theorem ui4 {es:List Expr} {k:Nat} {t:TGs} {n:Nat} (hc:X.calm=true) (h:PGs X es t)
    (hn:(assignEach es X.env).length=n:=by rfl) (hst:(assignEach es X.env).findIdx? (·.1)=none:=by rfl):PG X (.Tuple es k pos) (gTup X.K n t):=by
 intro pins s σ H v u Q I r hw
 obtain ⟨a,xs,e1,hq,hl,hw⟩:=hw
 subst e1
 cases r
 obtain ⟨its,rv,ht,hz⟩:=I.tuple hq
 refine assign_Tuple_tuple (I.ok.hd hc) ht (by simp [hn,<- hl,rv.length]) hst λ h' hx=>?_
 have I1:Inv X pins σ H { s with heap:=h' }:=I.kept (t':=s.toks) λ b o e=>hx b o (Nat.ne_of_lt (Heap.lt_size e)) e
 exact h pins _ σ H xs _ Q I1 (by simpa using rv) hw
def gSub (to ti:TE) (t:TSet):TG:=λ v σ H Q=>to σ H λ o H1=>ti σ H1 λ i H2=>t o i v H2 λ H3=>Q σ H3
theorem ti4 {o i:Expr} {to ti:TE} {t:TSet} (ho:PE X o to) (hi:PE X i ti) (hs:PSet X t)
    (ha:∀ v,assign (.Subscript o i pos) X.env v=(do
     let ov <- holding [v] (eval o X.env)
     let iv <- holding [v,ov] (eval i X.env)
     standAt pos
     holding [v,ov,iv] (setItem ov iv v)
     release [v,ov,iv] []):=by intro _; rfl):PG X (.Subscript o i pos) (gSub to ti t):=by
 intro pins s σ H v u Q I r h
 rw [ha]
 refine wpAny_bind (wpAny_holding (thn (ho pins s σ H _ I h) λ ov s1 ⟨x,H1,I1,r1,q1⟩=>?_))
 refine wpAny_bind (wpAny_holding (thn (hi pins s1 σ H1 _ I1 q1) λ iv s2 ⟨y,H2,I2,r2,q2⟩=>?_))
 refine wpAny_bind (wpAny_standAt (wpAny_bind (wpAny_holding (thn (hs pins s2 σ H2 x y v ov iv u _ I2 r1 r2 r q2) λ _ s3 ⟨H3,I3,q3⟩=>?_))))
 exact wpAny_release ⟨σ,H3,I3,q3⟩
def tAsg (te:TE) (g:TG):TS:=λ D σ H=>te σ H λ x H1=>g x σ H1 D.nx
theorem xi4 {tg e:Expr} {te:TE} {g:TG} (he:PE X e te) (hg:PG X tg g) (hs:swapsWithSole [tg] e pos.line X.env=pure false:=by rfl) (hw:swappedStores [tg] e X.env=pure none:=by rfl)
    (h1:(assignEach [tg] X.env).map (·.2)=[assign tg X.env]:=by rfl):PS X (.Assign [tg] e pos) (tAsg te g):=by
 intro pins s σ H D I h
 refine wpAny_Assign_stores (thn (he pins s σ H _ I h) λ v s1 ⟨x,H1,I1,r1,q1⟩=>?_) hs hw
 rw [h1]
 exact thn (hg pins s1 σ H1 x v _ I1 r1 q1) λ _ s2 q=>q
theorem sz1 {i:Nat} {x:Str} {e:Expr} {te:TE} {pos':Pos} (hN:X.N.Nodup) (hi:X.N[i]?=some x) (hx:Loc X.env.scope x) (he:PE X e te) (hs:swapsWith e (some (.Name x pos')) pos.line X.env=pure false:=by rfl) (hf:X.fn x=true \/ X.env.scope.names.lookup x=some .local:=by first | exact .inl rfl | exact .inr rfl | assumption) :
    PS X (.Assign [.Name x pos'] e pos) (tAsg te (zj3 i)):=by
 intro pins s σ H D I h
 refine wpAny_Assign_Name (thn (he pins s σ H _ I h) λ v s1 ⟨y,H1,I1,r1,q1⟩=>?_) hs
 exact tj1 I1 hN hi hx r1 (λ s2 I2=>⟨_,H1,I2,q1⟩) hf
end
section
variable {X:Cx} {pos:Pos}
def xs3 (c:TT) (tb:TS):TS:=λ D σ H=>∃ W:Nat->St->Hp->Prop,(∃ m,W m σ H) /\ ∀ m σ H,W m σ H ->
 c σ H λ b H1=>if b=true then ∃ N:St->Hp->Prop,(∀ σ' H',N σ' H'->∃ m',m' < m /\ W m' σ' H') /\ tb { D with nx:=N,ct:=N,bk:=D.nx } σ H1 else D.nx σ H1
theorem um2 {c:Expr} {body:List Stmt} {tc:TT} {tb:TS} (hp:PassesOwn (model X.prog X.w) X.A X.env X.xe) (hc:PT X c tc) (hb:PSs X body tb):PS X (.While c body [] pos) (xs3 tc tb):=by
 intro pins s σ H D I h
 obtain ⟨W,⟨m0,w0⟩,turn⟩:=h
 refine wpAny_While (codeAny_whileLoop (λ n s'=>∃ σ' H',Inv X pins σ' H' s' /\ W n σ' H') ?_ m0 ⟨σ,H,I,w0⟩)
 rintro n s1 ⟨σ1,H1,I1,w1⟩
 refine wpAny_passesOwn hp (thn (hc pins s1 σ1 H1 _ I1 (turn n σ1 H1 w1)) λ b s2 ⟨H2,I2,q2⟩=>?_)
 cases b with
 | true =>
  obtain ⟨N,hN,q2⟩:=q2
  rw [if_pos rfl]
  refine wpAny_passesOwn hp (thn (hb pins s2 σ1 H2 _ I2 q2) λ f s3 q3=>?_)
  cases f with
  | next =>
   obtain ⟨σ3,H3,I3,n3⟩:=q3
   obtain ⟨m',hm,w3⟩:=hN σ3 H3 n3
   exact ⟨m',hm,σ3,H3,I3,w3⟩
  | cont =>
   obtain ⟨σ3,H3,I3,n3⟩:=q3
   obtain ⟨m',hm,w3⟩:=hN σ3 H3 n3
   exact ⟨m',hm,σ3,H3,I3,w3⟩
  | brk=>exact q3
  | ret v=>exact q3
 | false =>
  rw [if_neg Bool.false_ne_true]
  exact wpAny_execs_nil ⟨σ1,H2,I2,q2⟩
end
structure It where
 go:Nat->Hp->Prop
 yld:Nat->Hp->V->Hp->Prop
 stop:Nat->Hp->Prop
def FpOk (X:Cx) (pins:List (Addr × Obj)) (H:Hp) (b:Addr):Prop :=
 H b=none /\ b ≠ X.env.locals /\ b ∉ X.fs /\ (b ∈ X.ex \/ X.s₀.heap.objs.size<=b) /\ (∀ x c,X.env.cells.lookup x=some c->c ≠ b) /\ ∀ p ∈ X.pn ++ pins,p.1 ≠ b
theorem Inv.fpOk {X:Cx} {pins:List (Addr × Obj)} {σ:St} {H H':Hp} {s:Shared} {b:Addr} (I:Inv X pins σ H s) (hb:s.heap.objs.size<=b) (hn:H' b=none):FpOk X pins H' b:=by
 refine ⟨hn,Nat.ne_of_gt (Nat.lt_of_lt_of_le I.lt hb),I.nofs hb,.inr (Nat.le_trans I.sz hb),λ x c e z=>?_,λ p hp z=>?_⟩
 ·obtain ⟨v,q⟩:=I.cell x c e
  exact absurd (Nat.lt_of_lt_of_le q.lt (by rw [z]; exact hb)) (Nat.lt_irrefl _)
 ·exact absurd (Nat.lt_of_lt_of_le (Heap.lt_size (I.pin p hp).1) (by rw [z]; exact hb)) (Nat.lt_irrefl _)
structure Turn (P:Program) (w:World) (K:PySem.W.Frag) (tg:Expr) (J:It) (fp:List Addr) (it:Addr) (tn:Nat->Heap->Prop):Prop where
 mem:it ∈ fp
 obj:∀ i h,tn i h->∀ b ∈ fp,∃ o,h.get? b=some o /\ ∀ v,o.data ≠ .cell v
 keep:∀ i h h',tn i h->(∀ b ∈ fp,∀ o,h.get? b=some o->h'.get? b=some o)->tn i h'
 item:∀ (X:Cx),X.prog=P->X.w=w->X.K=K->X.calm=true->∀ (i:Nat) (pins:List (Addr × Obj)) (s:Shared) (σ:St) (H:Hp) (E:Value->Shared->Prop),Inv X pins σ H s->(∀ b ∈ fp,FpOk X pins H b)->tn i s.heap->J.go i H ->
  wpAny (model P w) X.A (pyNext (.ref it)) (λ r s1=>∃ u,r=some u ∧
   wpAny (model P w) X.A (letOwnedTupleGo tg (.ref it) u) (λ _ s2=>∃ x H',Inv X pins σ H' s2 /\ RelV x u /\ J.yld i H x H' /\ tn (i + 1) s2.heap /\ ∀ b ∈ fp,H' b=none) E s1) E s
 done:∀ (X:Cx),X.prog=P->X.w=w->X.K=K->X.calm=true->∀ (i:Nat) (pins:List (Addr × Obj)) (s:Shared) (σ:St) (H:Hp) (E:Value->Shared->Prop),Inv X pins σ H s->(∀ b ∈ fp,FpOk X pins H b)->tn i s.heap->J.stop i H ->
  wpAny (model P w) X.A (pyNext (.ref it)) (λ r s1=>r=none /\ Inv X pins σ H s1) E s
 self:∀ (A:Around) (i:Nat) (s:Shared) (Q:Value->Shared->Prop) (E:Value->Shared->Prop),tn i s.heap->Q (.ref it) s->wpAny (model P w) A (pyIter (.ref it)) Q E s
abbrev TI:=St->Hp->(It->Hp->Prop)->Prop
def PIE (X:Cx) (pins:List (Addr × Obj)) (σ:St) (tg:Expr) (R:It->Hp->Prop) (itv:Value) (s2:Shared):Prop :=
 ∃ (it:Addr) (fp:List Addr) (tn:Nat->Heap->Prop) (J:It) (H':Hp),itv=.ref it /\ Inv X pins σ H' s2 /\ Turn X.prog X.w X.K tg J fp it tn /\ tn 0 s2.heap /\ (∀ b ∈ fp,FpOk X pins H' b) /\ R J H'
def PI (X:Cx) (tg iter:Expr) (wi:TI):Prop :=
 ∀ (pins:List (Addr × Obj)) (s:Shared) (σ:St) (H:Hp) (R:It->Hp->Prop),Inv X pins σ H s->wi σ H R ->
  wpAny (model X.prog X.w) X.A (eval iter X.env) (λ v s1=>wpAny (model X.prog X.w) X.A (pyIter v) (PIE X pins σ tg R) X.xe s1) X.xe s
theorem wq2 {M:Model} {A:Around} {E:Value->Shared->Prop} {s:Shared} {tg:Expr} {it:Addr} {u:Value} {o:Obj} {n:String} {vs:Array Value} {Q:Unit->Shared->Prop} (ho:s.heap.get? it=some o) (hc:o.cls=.type n) (hd:o.data=.fields vs)
    (hn:["enumerate", "zip", "dict_itemiterator", "dict_reverseitemiterator", "odict_iterator", "itertools.zip_longest", "itertools.pairwise"].contains n=false) (hQ:Q () s):wpAny M A (letOwnedTupleGo tg (.ref it) u) Q E s:=by
 unfold letOwnedTupleGo
 cases tg <;> first
  | exact wpAny_pure hQ
  | (cases u <;> first
      | exact wpAny_pure hQ
      | (refine wpAny_bind (wpAny_load ho ?_)
         rw [hc,hd]
         show wpAny M A (if (["enumerate", "zip", "dict_itemiterator", "dict_reverseitemiterator", "odict_iterator", "itertools.zip_longest", "itertools.pairwise"].contains n && vs[0]? == some (rawInt _))=true then _ else _) Q E s
         rw [if_neg (by intro h; rw [hn,Bool.false_and] at h; cases h)]
         exact wpAny_pure hQ))
def Itl (K:PySem.W.Frag) (a:Addr):It :=
 ⟨λ i H=>∃ xs x,SqL K H a xs /\ xs[i]?=some x,λ i H x H'=>H'=H /\ ∀ xs,SqL K H a xs->xs[i]?=some x,λ i H=>∃ xs,SqL K H a xs /\ xs.length<=i⟩
def Itt (K:PySem.W.Frag) (a:Addr):It :=
 ⟨λ i H=>∃ xs x,SqT K H a xs /\ xs[i]?=some x,λ i H x H'=>H'=H /\ ∀ xs,SqT K H a xs->xs[i]?=some x,λ i H=>∃ xs,SqT K H a xs /\ xs.length<=i⟩
def Itr (lo:Int) (n:Nat):It:=⟨λ i _=>i < n,λ i H x H'=>H'=H /\ x=.int (lo + i),λ i _=>n<=i⟩
theorem xw1 {P:Program} {w:World} {K:PySem.W.Frag} {tg:Expr} (a it:Addr):Turn P w K tg (Itl K a) [it] it (λ i h=>h.IsListIter it a i) where
 mem:=by simp
 obj:=λ i h st b hb=>by
  have e:b=it:=by simpa using hb
  subst e
  obtain ⟨o,e,c,d⟩:=st
  exact ⟨o,e,λ v z=>by rw [d] at z; cases z⟩
 keep:=λ i h h' st k=>st.at λ o e=>k it (by simp) o e
 item:=by
  intro X hP hw hK hc i pins s σ H E I hf st hg
  subst hP hw hK
  obtain ⟨xs,x,hq,hx⟩:=hg
  obtain ⟨its,rv,p,hz⟩:=I.list hq
  obtain ⟨u,hu,ru⟩:=rv.get hx
  obtain ⟨f0,f1,f2,f3,f4,f5⟩:=hf it (by simp)
  refine wpAny_pyNext_list_item st p.isList (x:=u) (by simpa using hu) λ h' st' sb=>?_
  have I1:Inv X pins σ H { s with heap:=h' }:=I.turned (t':=s.toks) (λ b o hb e=>(sb.2 b hb).trans e) f0 f1 f3 f4 f5
  obtain ⟨o,e,c,d⟩:=id st'
  exact ⟨u,rfl,wq2 (s:={ s with heap:=h' }) e c d (by decide) ⟨x,H,I1,ru,⟨rfl,λ ys hy=>by rw [I.list_inj hy hq]; exact hx⟩,st',λ b hb=>(hf b hb).1⟩⟩
 done:=by
  intro X hP hw hK hc i pins s σ H E I hf st hg
  subst hP hw hK
  obtain ⟨xs,hq,hx⟩:=hg
  obtain ⟨its,rv,p,hz⟩:=I.list hq
  obtain ⟨f0,f1,f2,f3,f4,f5⟩:=hf it (by simp)
  have hl:=rv.length
  exact wpAny_pyNext_list_end (I.ok.hd hc) st p.isList (by simp; omega) λ h' eb=>⟨rfl,I.turned (t':=s.toks) (λ b o hb e=>eb b o hb e) f0 f1 f3 f4 f5⟩
 self:=λ _ _ _ _ _ st h=>wpAny_pyIter_listiter st h
theorem uo1 {P:Program} {w:World} {K:PySem.W.Frag} {tg:Expr} (a it:Addr):Turn P w K tg (Itt K a) [it] it (λ i h=>h.IsTupleIter it a i) where
 mem:=by simp
 obj:=λ i h st b hb=>by
  have e:b=it:=by simpa using hb
  subst e
  obtain ⟨o,e,c,d⟩:=st
  exact ⟨o,e,λ v z=>by rw [d] at z; cases z⟩
 keep:=λ i h h' st k=>st.at λ o e=>k it (by simp) o e
 item:=by
  intro X hP hw hK hc i pins s σ H E I hf st hg
  subst hP hw hK
  obtain ⟨xs,x,hq,hx⟩:=hg
  obtain ⟨its,rv,p,hz⟩:=I.tuple hq
  obtain ⟨u,hu,ru⟩:=rv.get hx
  obtain ⟨f0,f1,f2,f3,f4,f5⟩:=hf it (by simp)
  refine wpAny_pyNext_tuple_item st (show s.heap.IsTuple a its.toArray from p) (x:=u) (by simpa using hu) λ h' st' sb=>?_
  have I1:Inv X pins σ H { s with heap:=h' }:=I.turned (t':=s.toks) (λ b o hb e=>(sb.2 b hb).trans e) f0 f1 f3 f4 f5
  obtain ⟨o,e,c,d⟩:=id st'
  exact ⟨u,rfl,wq2 (s:={ s with heap:=h' }) e c d (by decide) ⟨x,H,I1,ru,⟨rfl,λ ys hy=>by rw [I.tuple_inj hy hq]; exact hx⟩,st',λ b hb=>(hf b hb).1⟩⟩
 done:=by
  intro X hP hw hK hc i pins s σ H E I hf st hg
  subst hP hw hK
  obtain ⟨xs,hq,hx⟩:=hg
  obtain ⟨its,rv,p,hz⟩:=I.tuple hq
  obtain ⟨f0,f1,f2,f3,f4,f5⟩:=hf it (by simp)
  have hl:=rv.length
  exact wpAny_pyNext_tuple_end (I.ok.hd hc) st (show s.heap.IsTuple a its.toArray from p) (by simp; omega) λ h' eb=>⟨rfl,I.turned (t':=s.toks) (λ b o hb e=>eb b o hb e) f0 f1 f3 f4 f5⟩
 self:=λ _ _ _ _ _ st h=>wpAny_pyIter_tupleiter st h
theorem to1 {P:Program} {w:World} {K:PySem.W.Frag} {tg:Expr} (it:Addr) (lo:Int) (n:Nat):Turn P w K tg (Itr lo n) [it] it (λ i h=>IsRangeIter h it (lo + (i:Nat) * 1) ((n:Int) - (i:Nat)) 1) where
 mem:=by simp
 obj:=λ i h st b hb=>by
  have e:b=it:=by simpa using hb
  subst e
  exact ⟨_,st,λ v z=>by
   have z':Data.fields _=Data.cell v:=z
   cases z'⟩
 keep:=λ i h h' st k=>k it (by simp) _ st
 item:=by
  intro X hP hw hK hc i pins s σ H E I hf st hg
  subst hP hw hK
  obtain ⟨f0,f1,f2,f3,f4,f5⟩:=hf it (by simp)
  have W:=Walks.range (prog:=X.prog) (w:=X.w) (I.ok.hd hc) it lo 1 n
  refine W.item i s _ _ hg st λ v h' tk hv st' kk=>?_
  obtain ⟨t,rfl⟩:=hv
  have I1:Inv X pins σ H { s with heap:=h',toks:=tk }:=I.turned (λ b o hb e=>kk b o (by simpa using hb) e) f0 f1 f3 f4 f5
  refine ⟨_,rfl,wq2 (s:={ s with heap:=h',toks:=tk }) (n := "range_iterator") st' rfl rfl (by decide) ⟨.int (lo + i),H,I1,⟨t,?_⟩,⟨rfl,rfl⟩,st',λ b hb=>(hf b hb).1⟩⟩
  rw [Int.mul_one]
 done:=by
  intro X hP hw hK hc i pins s σ H E I hf st hg
  subst hP hw hK
  obtain ⟨f0,f1,f2,f3,f4,f5⟩:=hf it (by simp)
  exact wpAny_pyNext_range_end (I.ok.hd hc) st (by have:n<=i:=hg; omega) λ h' eb=>⟨rfl,I.turned (t':=s.toks) (λ b o hb e=>eb b o hb e) f0 f1 f3 f4 f5⟩
 self:=λ _ _ _ _ _ st h=>wpAny_pyIter_rangeiter st h
section
variable {X:Cx} {tg:Expr}
theorem zl1 {pins:List (Addr × Obj)} {σ:St} {H:Hp} {s:Shared} {R:It->Hp->Prop} {E:Value->Shared->Prop} {lo hi:Int} {t u v:Tok} {tk:Nat} (I:Inv X pins σ H s) (h1 : -(2 ^ 62)<=lo) (h2:lo < 2 ^ 62) (h3 : -(2 ^ 62)<=hi) (h4:hi < 2 ^ 62)
    (q:R (Itr lo (hi - lo).toNat) H):wpAny (model X.prog X.w) X.A (pyIter (.ref s.heap.objs.size)) (PIE X pins σ tg R) E { s with heap:=s.heap.push { cls:=.type "range",data:=.fields #[.int lo t,.int hi u,.int 1 v] },toks:=tk }:=by
 refine wpAny_pyIter_range (IsRange.new ..) (small_one h1 h2 h3 h4) ?_
 have I1:Inv X pins σ H { s with heap:=s.heap.push { cls:=.type "range",data:=.fields #[.int lo t,.int hi u,.int 1 v] },toks:=tk }:=I.kept λ b o e=>Heap.get?_push_of_some _ e
 refine ⟨(s.heap.push { cls:=.type "range",data:=.fields #[.int lo t,.int hi u,.int 1 v] }).objs.size,[(s.heap.push { cls:=.type "range",data:=.fields #[.int lo t,.int hi u,.int 1 v] }).objs.size],_,_,H,rfl,
  I1.kept (t':=tk) λ b o e=>Heap.get?_push_of_some _ e,to1 _ lo (hi - lo).toNat,?_,λ b hb=>?_,q⟩
 ·have e1:lo + ((0:Nat):Int) * 1=lo:=by simp
  have e2:(((hi - lo).toNat:Nat):Int) - ((0:Nat):Int)=Builtin.Range.rangeSize lo hi 1:=by rw [rangeSize_one]; split <;> omega
  show IsRangeIter _ _ (lo + ((0:Nat):Int) * 1) ((((hi - lo).toNat:Nat):Int) - ((0:Nat):Int)) 1
  rw [e1,e2]
  exact Heap.get?_push_size _ rfl
 ·have e:b=(s.heap.push { cls:=.type "range",data:=.fields #[.int lo t,.int hi u,.int 1 v] }).objs.size:=by simpa using hb
  subst e
  exact I1.fpOk (Nat.le_refl _) (I1.hok.fresh (Nat.le_refl _))
def zz4 (ta:TA):TI:=λ σ H R=>ta σ H λ vs H1=>∃ j:Int,vs=[.int j] /\ -(2 ^ 62)<=j /\ j < 2 ^ 62 /\ R (Itr 0 j.toNat) H1
def yz4 (ta:TA):TI:=λ σ H R=>ta σ H λ vs H1=>∃ i j:Int,vs=[.int i,.int j] /\ (-(2 ^ 62)<=i /\ i < 2 ^ 62 /\ -(2 ^ 62)<=j /\ j < 2 ^ 62) /\ R (Itr i (j - i).toNat) H1
theorem ta2 {a:Expr} {ta:TA} {p pos:Pos} (hg:Gl X "range") (hm:X.mg "range" = none) (ha:PA X [a] ta) (hs:starEach [a] X.env=[(false,eval a X.env)]:=by rfl):PI X tg (.Call (.Name "range" p) [a] [] pos) (zz4 ta):=by
 intro pins s σ H R I h
 refine Call_ (zr0 I hg hm boot_range (PyProof.Rows.callWith_type1 (thn (ha pos pins s σ H _ I h) λ us s1 ⟨vs,H1,I1,r1,q1⟩=>?_) hs rfl))
 obtain ⟨j,e,q1,q2,q⟩:=q1
 subst e
 cases r1 with
 | cons r rr =>
  cases rr
  obtain ⟨t,rfl⟩:=r
  exact call_range_1 (zl1 I1 (by omega) (by omega) q1 q2 (by simpa using q))
theorem ua2 {a b:Expr} {ta:TA} {p pos:Pos} (hg:Gl X "range") (hm:X.mg "range" = none) (ha:PA X [a,b] ta) (hs:starEach [a,b] X.env=[(false,eval a X.env),(false,eval b X.env)]:=by rfl) (hs2:starEach [b] X.env=[(false,eval b X.env)]:=by rfl) :
    PI X tg (.Call (.Name "range" p) [a,b] [] pos) (yz4 ta):=by
 intro pins s σ H R I h
 refine Call_ (zr0 I hg hm boot_range (PyProof.Rows.callWith_type1 (thn (ha pos pins s σ H _ I h) λ us s1 ⟨vs,H1,I1,r1,q1⟩=>?_) (by rw [hs,hs2]) (by rw [hs2]; rfl)))
 obtain ⟨i,j,e,⟨q1,q2,q3,q4⟩,q⟩:=q1
 subst e
 cases r1 with
 | cons r rr =>
  cases rr with
  | cons r' rr =>
   cases rr
   obtain ⟨t,rfl⟩:=r
   obtain ⟨t',rfl⟩:=r'
   exact call_range_2 (zl1 I1 q1 q2 q3 q4 q)
def tFor (wi:TI) (g:TG) (tb:TS):TS:=λ D σ H=>wi σ H λ J H1=>∃ W:Nat->Nat->St->Hp->Prop,(∃ m,W 0 m σ H1) /\ ∀ i m σ H,W i m σ H ->
 (J.stop i H /\ D.nx σ H) \/ (J.go i H /\ ∃ N:St->Hp->Prop,(∀ σ' H',N σ' H'->∃ m',m' < m /\ W (i + 1) m' σ' H') /\ ∀ x H',J.yld i H x H'->g x σ H' λ σ2 H2=>tb { D with nx:=N,ct:=N,bk:=D.nx } σ2 H2)
def yv0 (fp:List Addr) (h:Heap):List (Addr × Obj):=fp.filterMap λ b=>(h.get? b).map λ o=>(b,o)
theorem zh0 {fp:List Addr} {h:Heap} {b:Addr} {o:Obj} (hb:b ∈ fp) (e:h.get? b=some o):(b,o) ∈ yv0 fp h:=List.mem_filterMap.mpr ⟨b,hb,by rw [e]; rfl⟩
theorem tb2 {fp:List Addr} {h:Heap} {p:Addr × Obj} (hp:p ∈ yv0 fp h):p.1 ∈ fp /\ h.get? p.1=some p.2:=by
 obtain ⟨b,hb,e⟩:=List.mem_filterMap.mp hp
 cases q:h.get? b with
 | none=>rw [q] at e; cases e
 | some o =>
  rw [q] at e
  have e':(b,o)=p:=Option.some.inj e
  subst e'
  exact ⟨hb,q⟩
theorem Inv.pinned {pins:List (Addr × Obj)} {σ:St} {H:Hp} {s:Shared} {fp:List Addr} (I:Inv X pins σ H s) (hf:∀ b ∈ fp,FpOk X pins H b) (ho:∀ b ∈ fp,∃ o,s.heap.get? b=some o /\ ∀ v,o.data ≠ .cell v):Inv X (pins ++ yv0 fp s.heap) σ H s :=
 I.pins_of λ p hp=>(List.mem_append.mp hp).elim (λ z=>I.pin p (mem_append_right _ z)) λ z=>by
  obtain ⟨hb,e⟩:=tb2 z
  obtain ⟨f0,f1,f2,_⟩:=hf p.1 hb
  obtain ⟨o,e',d⟩:=ho p.1 hb
  rw [e] at e'; cases e'
  exact ⟨e,f0,f1,f2,d⟩
theorem Inv.unpinned {pins pl:List (Addr × Obj)} {σ:St} {H:Hp} {s:Shared} (I:Inv X (pins ++ pl) σ H s):Inv X pins σ H s:=I.pins_of λ p hp=>I.pin p (mem_append_right _ (mem_append_left _ hp))
theorem sh4 {iter:Expr} {body:List Stmt} {wi:TI} {g:TG} {tb:TS} {pos:Pos} (hp:PassesOwn (model X.prog X.w) X.A X.env X.xe) (hc:X.calm=true) (hi:PI X tg iter wi) (hg:PG X tg g) (hb:PSs X body tb)
    (hs:∀ x,foldedSetIterable iter X.env x=pure x:=by intro _; rfl):PS X (.For tg iter body [] pos) (tFor wi g tb):=by
 intro pins s σ H D I h
 refine wpAny_For (thn (hi pins s σ H _ I h) λ v s1 h1=>thn h1 λ itv s2 h2=>?_) hs
 obtain ⟨it,fp,tn,J,H2,e,I2,T,st2,f2,W,⟨m0,w0⟩,turn⟩:=h2
 subst e
 have stat:∀ {H':Hp},(∀ b ∈ fp,H' b=none)->∀ b ∈ fp,FpOk X pins H' b:=λ hn b hb=>⟨hn b hb,(f2 b hb).2⟩
 refine codeAny_forLoop_any (λ n s'=>∃ i σ' H',Inv X pins σ' H' s' /\ tn i s'.heap /\ (∀ b ∈ fp,H' b=none) /\ W i n σ' H') ?_ m0 ⟨0,σ,H2,I2,st2,λ b hb=>(f2 b hb).1,w0⟩
 rintro n s3 ⟨i,σ3,H3,I3,st3,fr3,w3⟩
 rcases turn i n σ3 H3 w3 with ⟨stop,qn⟩ | ⟨go,N,hN,step⟩
 ·refine wpAny_passesOwn hp (thn (T.done X rfl rfl rfl hc i pins s3 σ3 H3 X.xe I3 (stat fr3) st3 stop) λ r s4 ⟨hr,I4⟩=>?_)
  subst hr
  exact wpAny_execs_nil ⟨σ3,H3,I4,qn⟩
 ·refine wpAny_passesOwn hp (thn (T.item X rfl rfl rfl hc i pins s3 σ3 H3 X.xe I3 (stat fr3) st3 go) λ r s4 ⟨u,hr,h4⟩=>?_)
  subst hr
  refine wpAny_passesOwn hp (thn h4 λ _ s5 ⟨x,H5,I5,r5,y5,st5,fr5⟩=>?_)
  have I5':=I5.pinned (stat fr5) (T.obj _ _ st5)
  refine wpAny_passesOwn hp (thn (hg _ s5 σ3 H5 x u _ I5' r5 (step x H5 y5)) λ _ s6 ⟨σ6,H6,I6,q6⟩=>?_)
  refine wpAny_passesOwn hp (thn (hb _ s6 σ6 H6 _ I6 q6) λ f s7 q7=>?_)
  have again:∀ {σ7:St} {H7:Hp},Inv X (pins ++ yv0 fp s5.heap) σ7 H7 s7->N σ7 H7->∃ m,m < n /\ ∃ i σ' H',Inv X pins σ' H' s7 /\ tn i s7.heap /\ (∀ b ∈ fp,H' b=none) /\ W i m σ' H':=λ {σ7 H7} I7 n7=>by
   obtain ⟨m',hm,w7⟩:=hN σ7 H7 n7
   refine ⟨m',hm,i + 1,σ7,H7,I7.unpinned,T.keep _ _ _ st5 λ b hb o e=>(I7.pin (b,o) (mem_append_right _ (mem_append_right _ (zh0 hb e)))).1,λ b hb=>?_,w7⟩
   obtain ⟨o,e,d⟩:=T.obj _ _ st5 b hb
   exact (I7.pin (b,o) (mem_append_right _ (mem_append_right _ (zh0 hb e)))).2.1
  cases f with
  | next=>obtain ⟨σ7,H7,I7,n7⟩:=q7; exact again I7 n7
  | cont=>obtain ⟨σ7,H7,I7,n7⟩:=q7; exact again I7 n7
  | brk=>obtain ⟨σ7,H7,I7,q7⟩:=q7; exact ⟨σ7,H7,I7.unpinned,q7⟩
  | ret v=>obtain ⟨x7,σ7,H7,I7,r7,q7⟩:=q7; exact ⟨x7,σ7,H7,I7.unpinned,r7,q7⟩
end
abbrev R2:=V->V->Hp->VK->Prop
def OpR (X:Cx) (f:Value->Value->Sem Value) (r:R2):Prop :=
 ∀ (pins:List (Addr × Obj)) (s:Shared) (σ:St) (H:Hp) (x y:V) (v u:Value) (Q:VK),Inv X pins σ H s->RelV x v->RelV y u->r x y H Q ->
  wpAny (model X.prog X.w) X.A (f v u) (EP X pins σ Q) X.xe s
def UnR (X:Cx) (f:Value->Sem Value) (r:V->Hp->VK->Prop):Prop :=
 ∀ (pins:List (Addr × Obj)) (s:Shared) (σ:St) (H:Hp) (x:V) (v:Value) (Q:VK),Inv X pins σ H s->RelV x v->r x H Q ->
  wpAny (model X.prog X.w) X.A (f v) (EP X pins σ Q) X.xe s
def CallR (X:Cx) (f:Value) (r:List V->Hp->VK->Prop):Prop :=
 ∀ (pins:List (Addr × Obj)) (s:Shared) (σ:St) (H:Hp) (xs:List V) (us:List Value) (Q:VK),Inv X pins σ H s->Vals xs us->r xs H Q ->
  wpAny (model X.prog X.w) X.A (call f us) (EP X pins σ Q) X.xe s
def tOp (r:R2) (ta tb:TE):TE:=λ σ H Q=>ta σ H λ x H1=>tb σ H1 λ y H2=>r x y H2 Q
def tUn (r:V->Hp->VK->Prop) (ta:TE):TE:=λ σ H Q=>ta σ H λ x H1=>r x H1 Q
def rI (C:Int->Int->Prop) (g:Int->Int->V):R2:=λ x y H Q=>∃ i j,x=.int i /\ y=.int j /\ C i j /\ Q (g i j) H
def rI0 (g:Int->Int->V):R2:=λ x y H Q=>∃ i j,x=.int i /\ y=.int j /\ Q (g i j) H
def rU (g:Int->V):V->Hp->VK->Prop:=λ x H Q=>∃ i,x=.int i /\ Q (g i) H
section
variable {X:Cx} {a b c:Expr} {ta tb tc:TE} {pos:Pos}
theorem binT (ha:PE X a ta) (hb:PE X b tb) {pins:List (Addr × Obj)} {s:Shared} {σ:St} {H:Hp} {R:V->V->Hp->Prop} (I:Inv X pins σ H s)
    (h:ta σ H λ x H1=>tb σ H1 λ y H2=>R x y H2) {Q:Value->Shared->Prop} {f:Value->Value->Sem Value}
    (hf:∀ v u s2 x y H2,Inv X pins σ H2 s2->RelV x v->RelV y u->R x y H2->wpAny (model X.prog X.w) X.A (f v u) Q X.xe s2) :
    wpAny (model X.prog X.w) X.A (eval a X.env) (λ v s₁=>wpAny (model X.prog X.w) X.A (eval b X.env) (λ u s₂=>wpAny (model X.prog X.w) X.A (f v u) Q X.xe s₂) X.xe s₁) X.xe s:=by
 refine thn (ha pins s σ H _ I h) λ v s1 ⟨x,H1,I1,r1,q1⟩=>?_
 refine thn (hb pins s1 σ H1 _ I1 q1) λ u s2 ⟨y,H2,I2,r2,q2⟩=>?_
 exact hf v u s2 x y H2 I2 r1 r2 q2
theorem yx4 {op:Operator} {r:R2} (ho:OpR X (binaryOp op) r) (ha:PE X a ta) (hb:PE X b tb):PE X (.BinOp a op b pos) (tOp r ta tb):=by
 intro pins s σ H Q I h
 exact wpAny_BinOp (binT ha hb I h λ v u s2 x y H2 I2 rx ry q=>ho pins s2 σ H2 x y v u Q I2 rx ry q)
theorem sw4 {op:UnaryOp} {r:V->Hp->VK->Prop} (ho:UnR X (unaryOp op) r) (ha:PE X a ta):PE X (.UnaryOp op a pos) (tUn r ta):=by
 intro pins s σ H Q I h
 exact UnaryOp_ (thn (ha pins s σ H _ I h) λ v s1 ⟨x,H1,I1,r1,q1⟩=>ho pins s1 σ H1 x v Q I1 r1 q1)
theorem opI {f:Value->Value->Sem Value} {C:Int->Int->Prop} {g:Int->Int->Int}
    (rule:∀ (i j:Int) (t u:Tok) (s:Shared) (Q:Value->Shared->Prop) (E:Value->Shared->Prop),C i j->Q (.int (g i j) s.toks) { s with toks:=s.toks + 1 }->wpAny (model X.prog X.w) X.A (f (.int i t) (.int j u)) Q E s) :
    OpR X f (rI C λ i j=>.int (g i j)):=by
 intro pins s σ H x y v u Q I rx ry h
 obtain ⟨i,j,rfl,rfl,hc,q⟩:=h
 obtain ⟨t,rfl⟩:=rx
 obtain ⟨t',rfl⟩:=ry
 exact rule i j t t' s _ _ hc ⟨.int (g i j),H,I.tok _,⟨_,rfl⟩,q⟩
theorem opI0 {f:Value->Value->Sem Value} {g:Int->Int->Int}
    (rule:∀ (i j:Int) (t u:Tok) (s:Shared) (Q:Value->Shared->Prop) (E:Value->Shared->Prop),Q (.int (g i j) s.toks) { s with toks:=s.toks + 1 }->wpAny (model X.prog X.w) X.A (f (.int i t) (.int j u)) Q E s) :
    OpR X f (rI0 λ i j=>.int (g i j)):=by
 intro pins s σ H x y v u Q I rx ry h
 obtain ⟨i,j,rfl,rfl,q⟩:=h
 obtain ⟨t,rfl⟩:=rx
 obtain ⟨t',rfl⟩:=ry
 exact rule i j t t' s _ _ ⟨.int (g i j),H,I.tok _,⟨_,rfl⟩,q⟩
theorem opB0 {f:Value->Value->Sem Value} {g:Int->Int->Bool}
    (rule:∀ (i j:Int) (t u:Tok) (s:Shared) (Q:Value->Shared->Prop) (E:Value->Shared->Prop),Q (.bool (g i j)) s->wpAny (model X.prog X.w) X.A (f (.int i t) (.int j u)) Q E s) :
    OpR X f (rI0 λ i j=>.bl (g i j)):=by
 intro pins s σ H x y v u Q I rx ry h
 obtain ⟨i,j,rfl,rfl,q⟩:=h
 obtain ⟨t,rfl⟩:=rx
 obtain ⟨t',rfl⟩:=ry
 exact rule i j t t' s _ _ ⟨.bl (g i j),H,I,rfl,q⟩
def yq4 (i j:Int):Prop:=j ≠ 0 /\ j.natAbs < 1073741824
def CPow (i j:Int):Prop:=0<=j /\ j<=1000000 /\ i.natAbs < 2 ^ 64
def CMul (i j:Int):Prop:=(-(2 ^ 64) < i /\ i < 2 ^ 64) \/ (-(2 ^ 64) < j /\ j < 2 ^ 64)
theorem CMul.ok {i j:Int} (h:CMul i j):IntMulOk i j:=by
 rcases h with ⟨h1,h2⟩ | ⟨h1,h2⟩
 ·exact .of_left (intBits_le_64 h1 h2)
 ·exact .of_right (intBits_le_64 h1 h2)
theorem op_add:OpR X (binaryOp .Add) (rI0 λ i j=>.int (i + j)):=opI0 λ _ _ _ _ _ _ _ q=>add_int q
theorem yk4:OpR X (binaryOp .Sub) (rI0 λ i j=>.int (i - j)):=opI0 λ _ _ _ _ _ _ _ q=>sub_int q
theorem sn2:OpR X (binaryOp .FloorDiv) (rI yq4 λ i j=>.int (i.fdiv j)):=opI λ _ _ _ _ _ _ _ hc q=>floordiv_int hc.1 q (.inl (PyProof.noPylong_small hc.2))
theorem uk4:OpR X (binaryOp .Mod) (rI (λ _ j=>0 < j) λ i j=>.int (i % j)):=opI λ i j _ _ _ _ _ hc q=>by
 have h1:(0:Int) < j:=hc
 exact mod_int' (by omega) (by rw [Int.fmod_eq_emod_of_nonneg i (by omega)]; exact q)
theorem wk4:OpR X (binaryOp .Pow) (rI CPow λ i j=>.int (i ^ j.toNat)):=opI λ _ _ _ _ _ _ _ hc q=>pow_int_small hc.1 hc.2.1 hc.2.2 q
theorem unI {f:Value->Sem Value} {g:Int->Int}
    (rule:∀ (i:Int) (t:Tok) (s:Shared) (Q:Value->Shared->Prop) (E:Value->Shared->Prop),Q (.int (g i) s.toks) { s with toks:=s.toks + 1 }->wpAny (model X.prog X.w) X.A (f (.int i t)) Q E s) :
    UnR X f (rU λ i=>.int (g i)):=by
 intro pins s σ H x v Q I rx h
 obtain ⟨i,rfl,q⟩:=h
 obtain ⟨t,rfl⟩:=rx
 exact rule i t s _ _ ⟨.int (g i),H,I.tok _,⟨_,rfl⟩,q⟩
theorem uo3:UnR X (unaryOp .USub) (rU λ i=>.int (-i)):=unI λ _ _ _ _ _ q=>neg_int q
end
def scal:V->V->Bool
 | .non,.non=>true | .non,.int _=>true | .int _,.non=>true | .non,.bl _=>true | .bl _,.non=>true | .non,.str _=>true | .str _,.non=>true
 | .int _,.int _=>true | .bl _,.bl _=>true | .str _,.str _=>true | .byt _,.byt _=>true
 | .int _,.str _=>true | .str _,.int _=>true | .bl _,.str _=>true | .str _,.bl _=>true
 | _,_=>false
def rEq:R2:=λ x y H Q=>scal x y=true /\ Q (.bl (decide (x=y))) H
def rNe:R2:=λ x y H Q=>scal x y=true /\ Q (.bl (!decide (x=y))) H
theorem wf2 {i j:Int}:decide (V.int i=V.int j)=(i == j):=by
 rw [Bool.eq_iff_iff]
 simp
theorem zx2 {i j:Bool}:decide (V.bl i=V.bl j)=(i == j):=by
 rw [Bool.eq_iff_iff]
 simp
theorem zf2 {i j:Str}:decide (V.str i=V.str j)=(i == j):=by
 rw [Bool.eq_iff_iff]
 simp
theorem vf2 {i j:Array UInt8}:decide (V.byt i=V.byt j)=(i.toList == j.toList):=by
 rw [Bool.eq_iff_iff]
 cases i
 cases j
 simp
section
variable {X:Cx} {a b c:Expr} {ta tb tc:TE} {pos:Pos}
theorem yd0 {pins:List (Addr × Obj)} {σ:St} {H:Hp} {s:Shared} {Q:VK} {k k':Bool} (I:Inv X pins σ H s) (q:Q (.bl k) H) (e:k=k'):EP X pins σ Q (.bool k') s:=by
 subst e
 exact ⟨.bl k,H,I,rfl,q⟩
theorem op_eq:OpR X (compareOp .Eq) rEq:=by
 intro pins s σ H x y v u Q I rx ry h
 obtain ⟨hs,q⟩:=h
 cases x with
 | non =>
  cases rx
  cases y with
  | non=>cases ry; exact PySem.EqNone.eq_none_none (yd0 I q (by simp))
  | bl j=>cases ry; exact PySem.EqNone.eq_none_bool (yd0 I q (by simp))
  | int j=>obtain ⟨t',rfl⟩:=ry; exact PySem.EqNone.eq_none_int (yd0 I q (by simp))
  | str j=>obtain ⟨t',rfl⟩:=ry; exact PySem.EqNone.eq_none_str (yd0 I q (by simp))
  | _=>exact absurd (show false=true from hs) Bool.false_ne_true
 | bl i =>
  cases rx
  cases y with
  | non=>cases ry; exact PySem.EqNone.eq_bool_none (yd0 I q (by simp))
  | bl j=>cases ry; exact eq_bool (yd0 I q zx2)
  | str j=>obtain ⟨t',rfl⟩:=ry; exact PySem.EqMixed.eq_bool_str (yd0 I q (by simp))
  | _=>exact absurd (show false=true from hs) Bool.false_ne_true
 | int i =>
  obtain ⟨t,rfl⟩:=rx
  cases y with
  | non=>cases ry; exact PySem.EqNone.eq_int_none (yd0 I q (by simp))
  | int j=>obtain ⟨t',rfl⟩:=ry; exact eq_int (yd0 I q wf2)
  | str j=>obtain ⟨t',rfl⟩:=ry; exact PySem.EqMixed.eq_int_str (yd0 I q (by simp))
  | _=>exact absurd (show false=true from hs) Bool.false_ne_true
 | str i =>
  obtain ⟨t,rfl⟩:=rx
  cases y with
  | non=>cases ry; exact PySem.EqNone.eq_str_none (yd0 I q (by simp))
  | bl j=>cases ry; exact PySem.EqMixed.eq_str_bool (yd0 I q (by simp))
  | int j=>obtain ⟨t',rfl⟩:=ry; exact PySem.EqMixed.eq_str_int (yd0 I q (by simp))
  | str j=>obtain ⟨t',rfl⟩:=ry; exact eq_str (yd0 I q zf2)
  | _=>exact absurd (show false=true from hs) Bool.false_ne_true
 | byt i =>
  obtain ⟨t,rfl⟩:=rx
  cases y with
  | byt j=>obtain ⟨t',rfl⟩:=ry; exact PySem.W.eq_bytes (yd0 I q vf2)
  | _=>exact absurd (show false=true from hs) Bool.false_ne_true
 | _=>cases y <;> exact absurd (show false=true from hs) Bool.false_ne_true
theorem op_ne:OpR X (compareOp .NotEq) rNe:=by
 intro pins s σ H x y v u Q I rx ry h
 obtain ⟨hs,q⟩:=h
 cases x with
 | non =>
  cases rx
  cases y with
  | non=>cases ry; exact PySem.EqNone.ne_none_none (yd0 I q (by simp))
  | bl j=>cases ry; exact PySem.EqNone.ne_none_bool (yd0 I q (by simp))
  | int j=>obtain ⟨t',rfl⟩:=ry; exact PySem.EqNone.ne_none_int (yd0 I q (by simp))
  | str j=>obtain ⟨t',rfl⟩:=ry; exact PySem.EqNone.ne_none_str (yd0 I q (by simp))
  | _=>exact absurd (show false=true from hs) Bool.false_ne_true
 | bl i =>
  cases rx
  cases y with
  | non=>cases ry; exact PySem.EqNone.ne_bool_none (yd0 I q (by simp))
  | bl j=>cases ry; exact ne_bool (yd0 I q (congrArg not zx2))
  | str j=>obtain ⟨t',rfl⟩:=ry; exact PySem.EqMixed.ne_bool_str (yd0 I q (by simp))
  | _=>exact absurd (show false=true from hs) Bool.false_ne_true
 | int i =>
  obtain ⟨t,rfl⟩:=rx
  cases y with
  | non=>cases ry; exact PySem.EqNone.ne_int_none (yd0 I q (by simp))
  | int j=>obtain ⟨t',rfl⟩:=ry; exact ne_int (yd0 I q (congrArg not wf2))
  | str j=>obtain ⟨t',rfl⟩:=ry; exact PySem.EqMixed.ne_int_str (yd0 I q (by simp))
  | _=>exact absurd (show false=true from hs) Bool.false_ne_true
 | str i =>
  obtain ⟨t,rfl⟩:=rx
  cases y with
  | non=>cases ry; exact PySem.EqNone.ne_str_none (yd0 I q (by simp))
  | bl j=>cases ry; exact PySem.EqMixed.ne_str_bool (yd0 I q (by simp))
  | int j=>obtain ⟨t',rfl⟩:=ry; exact PySem.EqMixed.ne_str_int (yd0 I q (by simp))
  | str j=>obtain ⟨t',rfl⟩:=ry; exact ne_str (yd0 I q (congrArg not zf2))
  | _=>exact absurd (show false=true from hs) Bool.false_ne_true
 | byt i =>
  obtain ⟨t,rfl⟩:=rx
  cases y with
  | byt j=>obtain ⟨t',rfl⟩:=ry; exact PySem.W.ne_bytes (yd0 I q (congrArg not vf2))
  | _=>exact absurd (show false=true from hs) Bool.false_ne_true
 | _=>cases y <;> exact absurd (show false=true from hs) Bool.false_ne_true
theorem ux4:OpR X (compareOp .Lt) (rI0 λ i j=>.bl (decide (i < j))):=opB0 λ _ _ _ _ _ _ _ q=>lt_int q
theorem tx4:OpR X (compareOp .LtE) (rI0 λ i j=>.bl (decide (i<=j))):=opB0 λ _ _ _ _ _ _ _ q=>le_int q
theorem sx4:OpR X (compareOp .Gt) (rI0 λ i j=>.bl (decide (j < i))):=opB0 λ _ _ _ _ _ _ _ q=>gt_int q
theorem xy4:OpR X (compareOp .GtE) (rI0 λ i j=>.bl (decide (j<=i))):=opB0 λ _ _ _ _ _ _ _ q=>ge_int q
theorem ub2:OpR X (compareOp .In) (λ x y H Q=>∃ i j,x=.str i /\ y=.str j /\ Q (.bl (!(Builtin.Str.occurrences j i 0 j.length 1).isEmpty)) H):=by
 intro pins s σ H x y v u Q I rx ry h
 obtain ⟨i,j,rfl,rfl,q⟩:=h
 obtain ⟨t,rfl⟩:=rx
 obtain ⟨t',rfl⟩:=ry
 exact in_str (yd0 I q rfl)
theorem tk4:OpR X (compareOp .Is) (λ x y H Q=>y=.non /\ Q (.bl (decide (x=.non))) H):=by
 intro pins s σ H x y v u Q I rx ry h
 obtain ⟨rfl,q⟩:=h
 cases ry
 refine is_none_gen (yd0 I q ?_)
 cases x <;> first
  | (cases rx; rfl)
  | (obtain ⟨t,rfl⟩:=rx; rfl)
theorem xh3:OpR X (compareOp .IsNot) (λ x y H Q=>y=.non /\ Q (.bl (!decide (x=.non))) H):=by
 intro pins s σ H x y v u Q I rx ry h
 obtain ⟨rfl,q⟩:=h
 cases ry
 refine isnot_none_gen (yd0 I q ?_)
 cases x <;> first
  | (cases rx; rfl)
  | (obtain ⟨t,rfl⟩:=rx; rfl)
theorem OpR.or {f:Value->Value->Sem Value} {r r':R2} (h:OpR X f r) (h':OpR X f r'):OpR X f (λ x y H Q=>r x y H Q \/ r' x y H Q):=by
 intro pins s σ H x y v u Q I rx ry q
 rcases q with q | q
 ·exact h pins s σ H x y v u Q I rx ry q
 ·exact h' pins s σ H x y v u Q I rx ry q
theorem sv2 (b:Expr) {op:CmpOp} (h:op ≠ .In:=by decide) (h2:op ≠ .NotIn:=by decide):behindInMarks op b=false:=by
 have e1:(op == CmpOp.In)=false:=by cases op <;> first | rfl | exact absurd rfl h
 have e2:(op == CmpOp.NotIn)=false:=by cases op <;> first | rfl | exact absurd rfl h2
 cases b <;> simp [behindInMarks,e1,e2]
theorem zg3 {op:CmpOp} {r:R2} (ho:OpR X (compareOp op) r) (ha:PE X a ta) (hb:PE X b tb) (hm:behindInMarks op b=false):PE X (.Compare a [op] [b] pos) (tOp r ta tb):=by
 intro pins s σ H Q I h
 exact wpAny_Compare1 (binT ha hb I h λ v u s2 x y H2 I2 rx ry q=>ho pins s2 σ H2 x y v u Q I2 rx ry q) hm
def ys3 (t:TE):TT:=λ σ H Q=>t σ H λ x H'=>∃ k,x=.bl k /\ Q k H'
theorem ze3 {op:CmpOp} {r:R2} (ho:OpR X (compareOp op) r) (ha:PE X a ta) (hb:PE X b tb) (hm:behindInMarks op b=false):PT X (.Compare a [op] [b] pos) (ys3 (tOp r ta tb)):=by
 intro pins s σ H Q I h
 refine wpAny_isTrue_Compare1 (thn (ha pins s σ H _ I h) λ v s1 ⟨x,H1,I1,r1,q1⟩=>thn (hb pins s1 σ H1 _ I1 q1) λ u s2 ⟨y,H2,I2,r2,q2⟩ =>
  thn (ho pins s2 σ H2 x y v u _ I2 r1 r2 q2) λ c s3 ⟨z,H3,I3,r3,k,e,q3⟩=>?_) hm
 subst e
 cases r3
 exact wpAny_truthy_bool ⟨H3,I3,q3⟩
theorem xd1:(sizeLine:Nat) < 2 ^ 63:=by rw [sizeLine_eq]; decide
theorem zu1:OpR X (binaryOp .Add) (λ x y H Q=>∃ i j,x=.str i /\ y=.str j /\ i.length + j.length<=sizeLine /\ Q (.str (i ++ j)) H):=by
 intro pins s σ H x y v u Q I rx ry h
 obtain ⟨i,j,rfl,rfl,hz,q⟩:=h
 obtain ⟨t,rfl⟩:=rx
 obtain ⟨t',rfl⟩:=ry
 exact add_str (λ t' tk=>⟨.str (i ++ j),H,I.tok _,⟨_,rfl⟩,q⟩) hz
theorem ts0 {x:V} {us:List Value} (r:Vals [x] us):∃ u,us=[u] /\ RelV x u:=by
 cases r with
 | cons r1 r2=>cases r2; exact ⟨_,rfl,r1⟩
theorem tv1 {x y:V} {us:List Value} (r:Vals [x,y] us):∃ u w',us=[u,w'] /\ RelV x u /\ RelV y w':=by
 cases r with
 | cons r1 r2 =>
  cases r2 with
  | cons r3 r4=>cases r4; exact ⟨_,_,rfl,r1,r3⟩
theorem wr2:CallR X (.builtin "abs") (λ xs H Q=>∃ i,xs=[.int i] /\ Q (.int (if i < 0 then -i else i)) H):=by
 intro pins s σ H xs us Q I r h
 obtain ⟨i,rfl,q⟩:=h
 obtain ⟨u,rfl,t,rfl⟩:=ts0 r
 exact call_abs_int λ u tk=>⟨.int (if i < 0 then -i else i),H,I.tok _,⟨_,rfl⟩,q⟩
theorem wg2 (hc:X.calm=true):CallR X (.builtin "min") (λ xs H Q=>∃ i j,xs=[.int i,.int j] /\ Q (.int (if j < i then j else i)) H):=by
 intro pins s σ H xs us Q I r h
 obtain ⟨i,j,rfl,q⟩:=h
 obtain ⟨u,w',rfl,⟨t,rfl⟩,⟨t',rfl⟩⟩:=tv1 r
 refine min_two_ints (I.ok.hd hc) λ h' tk k=>⟨_,H,I.kept k,?_,q⟩
 by_cases hj:j < i
 ·rw [if_pos hj,if_pos hj]; exact ⟨_,rfl⟩
 ·rw [if_neg hj,if_neg hj]; exact ⟨_,rfl⟩
theorem call_int1:CallR X (.type "int") (λ xs H Q=>(∃ i,xs=[.int i] /\ Q (.int i) H) \/ ∃ k,xs=[.bl k] /\ Q (.int (if k then 1 else 0)) H):=by
 intro pins s σ H xs us Q I r h
 rcases h with ⟨i,rfl,q⟩ | ⟨k,rfl,q⟩
 ·obtain ⟨u,rfl,t,rfl⟩:=ts0 r
  exact call_int_int ⟨.int i,H,I,⟨_,rfl⟩,q⟩
 ·obtain ⟨u,rfl,r1⟩:=ts0 r
  cases r1
  exact call_int_bool ⟨.int (if k then 1 else 0),H,I.tok _,⟨_,rfl⟩,q⟩
end
section
variable {prog:Program} {w:World} {A:Around} {E:Value->Shared->Prop} {s:Shared} {K:PySem.W.Frag} {x dx C f:Addr} {mA:Str->Option Value} {name:Str} {v:Value}
end
theorem RelO.some_of {v:V} {o:Option Value} (r:RelO (some v) o):∃ u,o=some u /\ RelV v u:=by
 cases o with
 | none=>exact (show False from r).elim
 | some u=>exact ⟨u,rfl,r⟩
section
variable {P:Program} {w:World} {H H':Hp} {h h':Heap} {a C dx:Addr} {fs fs':List (Str × V)}
end
structure Cls (K:PySem.W.Frag) (C:Addr):Prop where
 pg:PySem.W.plainGet K C Str.empty=true
 hd:PySem.W.hasDictIn K C=true
 po:PySem.W.plainOver K C=true
 sa:findIn K (.ref C) "__setattr__" = some (some (.builtin "object.__setattr__"))
section
variable {X:Cx} {pins:List (Addr × Obj)} {σ:St} {H:Hp} {s:Shared} {a C dx:Addr} {fs:List (Str × V)} {f:Str} {v:V} {A:Around} {E:Value->Shared->Prop}
end
section
variable {X:Cx} {o e value:Expr} {f:Str} {pos pos' tpos:Pos} {ta tv:TE}
end
section
variable {X:Cx} {pins:List (Addr × Obj)} {σ:St} {H:Hp} {s:Shared} {A:Around} {E:Value->Shared->Prop} {Q:Value->Shared->Prop} {c:Value} {b:Bool}
inductive TyOf (K:PySem.W.Frag) (H:Hp):V->Value->Prop where
 | non:TyOf K H .non (.type "NoneType")
 | bl (x:Bool):TyOf K H (.bl x) (.type "bool")
 | int (i:Int):TyOf K H (.int i) (.type "int")
 | str (x:Str):TyOf K H (.str x) (.type "str")
 | flt (x:UInt64):TyOf K H (.flt x) (.type "float")
 | lst {a:Addr} {xs:List V} (e:H a=some (.lst xs)):TyOf K H (.ref a) (.type "list")
 | frz {a:Addr} {o:Obj} {xs:List V} (e:H a=some (.frz o (.lst xs))):TyOf K H (.ref a) (.type "list")
 | tup {a:Addr} {xs:List V} (e:H a=some (.tup xs)):TyOf K H (.ref a) (.type "tuple")
 | dK {a:Addr} {kvs:List (Key × V)} (e:H a=some (.dK kvs)):TyOf K H (.ref a) (.type "dict")
 | dT {a:Addr} {kvs:List (List Key × V)} (e:H a=some (.dT kvs)):TyOf K H (.ref a) (.type "dict")
 | ins {a C dx:Addr} {fs:List (Str × V)} (e:H a=some (.ins C dx fs)) (cl:Cls K C) (ha:findIn K (.ref C) "__class__" = some (some (.builtin "object.__class__")))
     (hn:PySem.W.specialIn K (.builtin "object.__class__") "__get__" = some (some (.builtin "getset_descriptor.__get__"))) (htk:PySem.W.takesIn K (.builtin "object.__class__")=some true)
     (hm:PySem.W.mroIn K C (.type "object")=some true):TyOf K H (.ref a) (.ref C)
end
structure Room (k:Nat) (A:Around):Prop where
 hd:A.handled=none
 dp:A.depth + 3 * k + 5 < recursionLimit
 un:A.units + 16 * k + 200 < cLine
theorem Room.mono {j k:Nat} {A:Around} (r:Room k A) (h:j<=k):Room j A:=⟨r.hd,by have:=r.dp; omega,by have:=r.un; omega⟩
theorem Room.deeper {k:Nat} {A:Around} (r:Room (k + 1) A) (env:Env):Room k (A.deeper env) :=
 ⟨r.hd,by have:=r.dp; show A.depth + 1 + 3 * k + 5 < _; omega,by have:=r.un; show A.units + 3 + 16 * k + 200 < _; omega⟩
theorem Room.depth {k:Nat} {A:Around} (r:Room k A):A.depth < recursionLimit:=by have:=r.dp; omega
def tNil:TA:=λ _ H Q=>Q [] H
def wr4 (ta:TE) (tr:TA):TA:=λ σ H Q=>ta σ H λ x H1=>tr σ H1 λ xs H2=>Q (x :: xs) H2
section
variable {X:Cx} {e:Expr} {es:List Expr} {te:TE} {t:TA} {pos:Pos}
theorem xk4:PA X [] tNil:=λ _ _ _ _ H Q I h=>Calls.spliced_nil ⟨[],H,I,.nil,h⟩
theorem sg3 (ha:PE X e te) (hr:PA X es t) (hs:starEach (e :: es) X.env=(false,eval e X.env) :: starEach es X.env:=by rfl):PA X (e :: es) (wr4 te t):=by
 intro pos pins s σ H Q I h
 rw [hs]
 show wpAny _ _ (spliced ((false,eval e X.env) :: backTo pos (starEach es X.env))) _ _ s
 refine Calls.spliced_cons (thn (ha pins s σ H _ I h) λ u s1 ⟨x,H1,I1,r1,q1⟩=>?_)
 exact thn (hr pos pins s1 σ H1 _ I1 q1) λ us s2 ⟨xs,H2,I2,r2,q2⟩=>⟨x :: xs,H2,I2,.cons r1 r2,q2⟩
def tTup (t:TA):TE:=λ σ H Q=>t σ H λ xs H1=>xs.length<=sizeLine /\ ∀ p,H1 p=none->Q (.ref p) (upd H1 p (.tup xs))
def tLst (t:TA):TE:=λ σ H Q=>t σ H λ xs H1=>xs.length<=sizeLine /\ ∀ p,H1 p=none->Q (.ref p) (upd H1 p (.lst xs))
theorem si4 {x1} (h:PA X es t):PE X (.Tuple es x1 pos) (tTup t):=by
 intro pins s σ H Q I hq
 refine wpAny_Tuple_spliced (thn (h pos pins s σ H _ I hq) λ us s1 ⟨xs,H1,I1,r,z,q⟩=>⟨by rw [<- r.length]; exact z,?_⟩)
 have hf:H1 s1.heap.objs.size=none:=I1.hok.fresh (Nat.le_refl _)
 refine ⟨.ref s1.heap.objs.size,upd H1 s1.heap.objs.size (.tup xs),I1.laid (t':=s1.toks) (λ b u e=>Heap.get?_push_of_some _ e) (Nat.le_refl _) ?_,rfl,q _ hf⟩
 exact ⟨z,us,r,⟨_,Heap.get?_push_size _ rfl,rfl,_,rfl⟩⟩
theorem vj4 (h:PA X es t):PE X (.List es pos) (tLst t):=by
 intro pins s σ H Q I hq
 refine wpAny_List_spliced (thn (h pos pins s σ H _ I hq) λ us s1 ⟨xs,H1,I1,r,z,q⟩=>⟨by rw [<- r.length]; exact z,?_⟩)
 have hf:H1 s1.heap.objs.size=none:=I1.hok.fresh (Nat.le_refl _)
 refine ⟨.ref s1.heap.objs.size,upd H1 s1.heap.objs.size (.lst xs),I1.laid (t':=s1.toks) (λ b u e=>Heap.get?_push_of_some _ e) (Nat.le_refl _) ?_,rfl,q _ hf⟩
 exact ⟨z,us,0,r,Heap.get?_push_size _ rfl⟩
end
abbrev Sp:=List V->Hp->VK->XK->Prop
abbrev CXT:=List Env->Hp->Shared->XK->Value->Shared->Prop
structure Env0 (P:Program) (w:World) (K:PySem.W.Frag) (mg:Str->Option Value) (base:Heap) (A:Around) (outer:List Env) (s:Shared) (H:Hp):Prop where
 frames:A.frames=some outer
 mod:Mod K mg base
 bs:∀ b o,base.get? b=some o->s.heap.get? b=some o /\ H b=none
 bsz:base.objs.size<=s.heap.objs.size
 funs:s.heap.FunFrames base outer
 frf:∀ b ∈ frs outer,H b=none
 hok:HOk P w H s.heap
 bare:AllBare s.gens
def CE (outer:List Env) (P:Program) (w:World) (H:Hp) (s:Shared) (Q:VK) (u:Value) (s':Shared):Prop :=
 ∃ v H',s'.os=s.os /\ AllBare s'.gens /\ Un (frs outer) [] H H' s.heap s'.heap /\ HOk P w H' s'.heap /\ RelV v u /\ Q v H'
def CR (CX:CXT) (outer:List Env) (P:Program) (w:World) (H:Hp) (s:Shared) (Q:VK) (E:XK) (r:Result) (s':Shared):Prop :=
 match r with
 | .ok (.ret u)=>CE outer P w H s Q u s'
 | .ok _=>False
 | .error e=>CX outer H s E e s'
structure FnOk (P:Program) (w:World) (K:PySem.W.Frag) (mg:Str->Option Value) (base:Heap) (CX:CXT) (k:Nat) (f:Addr) (fd:FuncData) (ps:List Str) (sp:Sp):Prop where
 len:∀ vs H Q E,sp vs H Q E->vs.length=ps.length
 run:∀ (A:Around) (outer:List Env) (s:Shared) (H:Hp) (args:Args) (us:List Value) (vs:List V) (Q:VK) (E:XK),Room k A->Env0 P w K mg base A outer s H->BindsTo s fd args (ps.zip us)->Vals vs us->sp vs H Q E ->
  codeAny (model P w) A (.call (.ref f) args) (CR CX outer P w H s Q E) s
theorem FnOk.mono {P:Program} {w:World} {K:PySem.W.Frag} {mg:Str->Option Value} {base:Heap} {CX:CXT} {j k:Nat} {f:Addr} {fd:FuncData} {ps:List Str} {sp:Sp} (F:FnOk P w K mg base CX j f fd ps sp) (h:j<=k) :
    FnOk P w K mg base CX k f fd ps sp:=⟨F.len,λ A outer s H args us vs Q E hr=>F.run A outer s H args us vs Q E (hr.mono h)⟩
section
variable {X:Cx} {pins:List (Addr × Obj)} {σ:St} {H:Hp} {s s':Shared}
theorem Inv.env0 (I:Inv X pins σ H s):Env0 X.prog X.w X.K X.mg X.base X.A X.stack s H :=
 ⟨I.ok.frames,I.ok.mod,I.bs,Nat.le_trans I.ok.bsz I.sz,I.stack,I.stkFree,I.hok,I.bare⟩
theorem Inv.after {Q:VK} {u:Value} (I:Inv X pins σ H s) (h:CE X.stack X.prog X.w H s Q u s'):EP X pins σ Q u s':=by
 obtain ⟨v,H',os,bare,un,hok,r,q⟩:=h
 obtain ⟨hh,g,d,t,os'⟩:=s'
 obtain rfl:os'=s.os:=os
 exact ⟨v,H',I.call (h':=hh) (g':=g) (d':=d) (t':=t) (ch:=[]) un hok bare (λ b z=>absurd z (by simp)),r,q⟩
end
def vr4 (sp:Sp) (dvs:List V) (E:XK) (t:TA):TE:=λ σ H Q=>t σ H λ vs H1=>sp (vs ++ dvs) H1 Q E
def Binds (K:PySem.W.Frag) (fd:FuncData) (ps:List Str) (ds:List Value):Prop :=
 ∀ (s:Shared) (us:List Value),K.In s.heap->(us ++ ds).length=ps.length->BindsTo s fd ⟨us,[]⟩ (ps.zip (us ++ ds))
theorem Binds.all {K:PySem.W.Frag} {fd:FuncData} {ps:List Str} (h:∀ us:List Value,us.length=ps.length->bindArgs fd ⟨us,[]⟩=pure (ps.zip us)):Binds K fd ps []:=λ s us _ hl=>by
 rw [append_nil] at hl ⊢
 exact .of_eq (h us hl)
def yi2 (CX:CXT) (X:Cx) (E:XK):Prop:=∀ (pins:List (Addr × Obj)) (σ:St) (H:Hp) (s:Shared) (e:Value) (s':Shared),Inv X pins σ H s->CX X.stack H s E e s'->X.xe e s'
section
variable {X:Cx} {CX:CXT} {k:Nat} {f C:Addr} {fd:FuncData} {ps:List Str} {sp:Sp} {dvs:List V} {ds:List Value} {E:XK} {x m:Str} {p pos apos:Pos} {e o:Expr} {es:List Expr} {ta:TE} {t:TA}
theorem uw3 {pins:List (Addr × Obj)} {σ:St} {H:Hp} {s:Shared} {Q:VK} {us:List Value} {vs:List V} (F:FnOk X.prog X.w X.K X.mg X.base CX k f fd ps sp) (hr:Room k X.A) (hb:Binds X.K fd ps ds) (hd:Vals dvs ds) (hx:yi2 CX X E)
    (I:Inv X pins σ H s) (r:Vals vs us) (h:sp (vs ++ dvs) H Q E):wpAny (model X.prog X.w) X.A (call (.ref f) us) (EP X pins σ Q) X.xe s:=by
 have r2:Vals (vs ++ dvs) (us ++ ds):=r.append hd
 have hl:(us ++ ds).length=ps.length:=by rw [<- r2.length]; exact F.len _ _ _ _ h
 refine wpAny_call (codeAny_mono (F.run X.A X.stack s H ⟨us,[]⟩ (us ++ ds) (vs ++ dvs) Q E hr I.env0 (hb s us I.kIn hl) r2 h) λ r s' hq=>?_)
 cases r with
 | error e=>exact hx pins σ H s e s' I hq
 | ok fl =>
  cases fl with
  | ret u=>exact I.after hq
  | next=>exact False.elim hq
  | brk=>exact False.elim hq
  | cont=>exact False.elim hq
theorem wg3 (F:FnOk X.prog X.w X.K X.mg X.base CX k f fd ps sp) (hr:Room k X.A) (hg:Gl X x) (hm:X.mg x=some (.ref f)) (hk:keepIn X.K (.ref f)=true) (hb:Binds X.K fd ps ds) (hd:Vals dvs ds) (hx:yi2 CX X E)
    (ha:PA X (e :: es) t) (hdb:(x == ("__debug__" : Str))=false:=by decide) (he:starEach (e :: es) X.env=(false,eval e X.env) :: starEach es X.env:=by rfl) (hpl:(backTo pos (starEach es X.env)).any (·.1)=false:=by rfl) :
    PE X (.Call (.Name x p) (e :: es) [] pos) (vr4 sp dvs E t):=by
 intro pins s σ H Q I h
 refine wpAny_Call_Name_kw (vc2 I hg hm ?_ hdb)
 refine PySem.W.callWith_K (h₀:=X.base) I.ok.mod.kin hk (thn (ha pos pins s σ H _ I h) λ us s1 ⟨vs,H1,I1,r,q⟩=>⟨I1.kIn,?_⟩) he hpl
 exact uw3 F hr hb hd hx I1 r q
end
section
variable {X:Cx} {CX:CXT} {k:Nat} {f C:Addr} {fd:FuncData} {ps ks:List Str} {sp:Sp} {E:XK} {x m:Str} {p pos apos kpos:Pos} {e o:Expr} {es:List Expr} {kws:List Keyword} {te ta:TE} {t tk:TA} {nm:Option Str}
variable {g:List Value->List Value->List Value} {gV:List V->List V->List V}
end
structure FnScope (N P:List Str) (sc:Scope):Prop where
 kind:sc.kind=.function
 co:sc.isCoroutine=false
 gen:sc.isGenerator=false
 nd:N.Nodup
 pre:N.take P.length=P
 par:∀ x ∈ P,sc.names.lookup x=some .local \/ sc.names.lookup x=some .cell
 nofree:∀ y ∈ sc.names,y.2 ≠ .free
theorem xf1 {kindOf:Str->Option NameKind} {x:Str}:∀ {binds:List (Str × Value)} {m:Str->Option Value},(∀ v,(x,v) ∉ binds)->bindL kindOf binds m x=m x
 | [],_,_=>rfl
 | (n,v) :: r,m,h=>by
  unfold bindL
  rw [xf1 λ w hw=>h w (mem_cons_of_mem _ hw)]
  split
  ·have:x ≠ n:=by rintro rfl; exact h v mem_cons_self
   simp [this]
  ·rfl
theorem zf1 {kindOf:Str->Option NameKind} {x:Str}:∀ {binds:List (Str × Value)} {m:Str->Option Value},(∀ v,(x,v) ∉ binds)->bindC kindOf binds m x=m x
 | [],_,_=>rfl
 | (n,v) :: r,m,h=>by
  unfold bindC
  rw [zf1 λ w hw=>h w (mem_cons_of_mem _ hw)]
  split
  ·rfl
  ·have:x ≠ n:=by rintro rfl; exact h v mem_cons_self
   simp [this]
theorem yf1 {kindOf:Str->Option NameKind} {x:Str} {v:Value}:∀ {P:List Str} {vs:List Value} {i:Nat} {m:Str->Option Value},P.Nodup->P[i]?=some x->vs[i]?=some v->kindOf x=some .local ->
    bindL kindOf (P.zip vs) m x=some v
 | [],_,_,_,_,h,_,_=>by simp at h
 | _ :: _,[],_,_,_,_,h,_=>by simp at h
 | p :: P,w :: vs,0,m,nd,h1,h2,hk=>by
  simp at h1 h2; subst h1; subst h2
  show bindL kindOf ((p,w) :: P.zip vs) m p=_
  unfold bindL
  rw [xf1 λ v hv=>(List.nodup_cons.mp nd).1 (List.of_mem_zip hv).1,if_pos hk]
  simp
 | p :: P,w :: vs,i + 1,m,nd,h1,h2,hk=>by
  show bindL kindOf ((p,w) :: P.zip vs) m x=_
  unfold bindL
  exact yf1 (i:=i) (List.nodup_cons.mp nd).2 (by simpa using h1) (by simpa using h2) hk
theorem wf1 {kindOf:Str->Option NameKind} {x:Str} {v:Value}:∀ {P:List Str} {vs:List Value} {i:Nat} {m:Str->Option Value},P.Nodup->P[i]?=some x->vs[i]?=some v->kindOf x ≠ some .local ->
    bindC kindOf (P.zip vs) m x=some v
 | [],_,_,_,_,h,_,_=>by simp at h
 | _ :: _,[],_,_,_,_,h,_=>by simp at h
 | p :: P,w :: vs,0,m,nd,h1,h2,hk=>by
  simp at h1 h2; subst h1; subst h2
  show bindC kindOf ((p,w) :: P.zip vs) m p=_
  unfold bindC
  rw [zf1 λ v hv=>(List.nodup_cons.mp nd).1 (List.of_mem_zip hv).1,if_neg hk]
  simp
 | p :: P,w :: vs,i + 1,m,nd,h1,h2,hk=>by
  show bindC kindOf ((p,w) :: P.zip vs) m x=_
  unfold bindC
  exact wf1 (i:=i) (List.nodup_cons.mp nd).2 (by simpa using h1) (by simpa using h2) hk
def start (N:List Str) (vs:List V):St:=vs.map some ++ List.replicate (N.length - vs.length) none
def cxOf (CX:CXT) (P:Program) (w:World) (K:PySem.W.Frag) (mg:Str->Option Value) (base:Heap) (N:List Str) (qual:Str) (scope:Scope) (f:Addr) (cd:Value) (A:Around) (outer:List Env) (s:Shared) (H:Hp) (E:XK):Cx where
 prog:=P
 w:=w
 K:=K
 mg:=mg
 base:=base
 A:=A.deeper (envOfC qual scope s.heap.objs.size f cd)
 N:=N
 s₀:=s
 H₀:=H
 env:=envOfC qual scope s.heap.objs.size f cd
 outer:=outer
 stack:=envOfC qual scope s.heap.objs.size f cd :: outer
 ex:=[]
 calm:=true
 fn:=λ _=>true
 pn:=[]
 xe:=λ e s'=>wpAny (model P w) (A.deeper (envOfC qual scope s.heap.objs.size f cd)) (leaving (envOfC qual scope s.heap.objs.size f cd) e) (λ _ s''=>CX outer H s E e s'') (λ e' s''=>CX outer H s E e' s'') s'
theorem za1 {sc:Scope} {n:Nat} {x:Str} (h:sc.names.lookup x=some .cell):∃ c,(cellsFrom n sc.names []).lookup x=some c:=by
 have q:=cellsFrom_some sc.names n [] (.inl h)
 exact Option.isSome_iff_exists.mp q
theorem zd2 {CX:CXT} {P:Program} {w:World} {K:PySem.W.Frag} {mg:Str->Option Value} {base:Heap} {N ps:List Str} {qual:Str} {scope:Scope} {f:Addr} {cd:Value} {A:Around} {outer:List Env} {s s1:Shared} {H:Hp} {E:XK} {us:List Value} {vs:List V}
    (S:FnScope N ps scope) (hd:A.handled=none) (e0:Env0 P w K mg base A outer s H) (hl:vs.length=ps.length) (r:Vals vs us)
    (x:InCallC s s.heap.objs.size (bindL (envOfC qual scope s.heap.objs.size f cd).kindOf (ps.zip us) λ _=>none) (cellsFrom (s.heap.objs.size + 1) scope.names []) (bindC (envOfC qual scope s.heap.objs.size f cd).kindOf (ps.zip us) λ _=>none) s1) :
    Inv (cxOf CX P w K mg base N qual scope f cd A outer s H E) [] (start N vs) H s1:=by
 have hpl:ps.length<=N.length:=by have:=congrArg List.length S.pre; rw [length_take] at this; omega
 obtain ⟨h1,tk,rfl,hk⟩:=x.done
 have noA:∀ b:Addr,b ∉ (cxOf CX P w K mg base N qual scope f cd A outer s H E).ex:=λ b z=>absurd (show b ∈ ([]:List Addr) from z) (by simp)
 refine ⟨⟨e0.mod,S.kind,rfl,rfl,Nat.le_refl _,λ y z c h1 h2=>?_,λ y hy=>?_,λ y c _ h=>?_,λ _=>hd,Around.frames_deeper e0.frames,.inr ⟨rfl,rfl⟩,λ b z=>absurd z (noA b),e0.bs,e0.bsz,λ b _ _=>noA b,λ b z=>absurd z (noA b),e0.funs,e0.frf⟩,
  rfl,e0.bare,Un.kept hk,⟨_,x.toInCall.ns,λ i y v h1 h2 h3=>?_⟩,λ y c h=>⟨_,x.cell y c h⟩,e0.hok.fresh (Nat.le_refl _),λ y c h=>?_,λ p hp=>absurd (show p ∈ ([]:List (Addr × Obj)) from hp) (by simp),e0.hok.kept hk,?_⟩
 ·exact name_of_addr x.apart (PySem.mem_of_lookup h1) (PySem.mem_of_lookup h2)
 ·have hy:scope.names.lookup y=some .cell \/ scope.names.lookup y=some .free:=hy
  rcases hy with hy | hy
  ·exact za1 hy
  ·exact absurd rfl (S.nofree _ (PySem.mem_of_lookup hy))
 ·exact Nat.le_of_lt (x.above y c (PySem.mem_of_lookup h))
 ·have hi:i < vs.length:=by
    unfold start at h2
    by_cases hi:i < vs.length
    ·exact hi
    ·rw [getElem?_append_right (by simpa using hi)] at h2
     rw [List.getElem?_replicate] at h2
     split at h2 <;> cases h2
  have ha:vs[i]?=some v:=by
   unfold start at h2
   rw [getElem?_append_left (by simpa using hi),getElem?_map] at h2
   cases e:vs[i]? with
   | none=>rw [e] at h2; cases h2
   | some a=>rw [e] at h2; cases h2; rfl
  obtain ⟨u,hu,rv⟩:=r.get ha
  have hp:ps[i]?=some y:=by
   rw [<- S.pre,getElem?_take_of_lt (by omega)]; exact h1
  have ndP:ps.Nodup:=by rw [<- S.pre]; exact S.nd.sublist (take_sublist _ _)
  refine ⟨u,rv,?_⟩
  rcases S.par y (mem_of_getElem? hp) with k | k
  ·exact .inl ⟨k,yf1 ndP hp hu k⟩
  ·obtain ⟨c,e⟩:=za1 (n:=s.heap.objs.size + 1) k
   refine .inr ⟨.inl k,c,e,?_⟩
   have q:=x.cell y c e
   rw [wf1 ndP hp hu (by show scope.names.lookup y ≠ _; rw [k]; decide)] at q
   exact q
 ·exact e0.hok.fresh (Nat.le_of_lt (x.above y c (PySem.mem_of_lookup h)))
 ·unfold start
  show _=N.length
  rw [length_append,length_map,List.length_replicate]
  omega
theorem uz4 {CX:CXT} {P:Program} {w:World} {K:PySem.W.Frag} {mg:Str->Option Value} {base:Heap} {k:Nat} {f:Addr} {name qual:Str} {params:Arguments} {body:List Stmt} {scope:Scope} {dV kV doc pm cdv ct oc:Value} {an od:Option Addr}
    {osl:Array (Option Value)} {N ps:List Str} {sp:Sp} (lk:K.lookup f=some ⟨oc,od,.func (fnOf name qual params body scope dV kV doc pm an cdv ct),osl⟩) (hcd:codeIn K cdv qual=true) (S:FnScope N ps scope)
    (len:∀ vs H Q E,sp vs H Q E->vs.length=ps.length)
    (hbody:∀ (A:Around) (outer:List Env) (s:Shared) (H:Hp) (vs:List V) (Q:VK) (E:XK),Room k (A.deeper (envOfC qual scope s.heap.objs.size f cdv))->sp vs H Q E ->
     ∃ t,PSs (cxOf CX P w K mg base N qual scope f cdv A outer s H E) body t /\ t { nx:=λ _ H'=>Q .non H',rt:=Q } (start N vs) H) :
    FnOk P w K mg base CX (k + 1) f (fnOf name qual params body scope dV kV doc pm an cdv ct) ps sp:=by
 refine ⟨len,λ A outer s H args us vs Q E hr e0 hb r hsp=>?_⟩
 have hl:=len _ _ _ _ hsp
 have KX:K.In s.heap:=e0.mod.kin.keeps λ b o e=>(e0.bs b o e).1
 have lim:s.heap.NoLimit:=e0.mod.nolimit.keeps λ b o e=>(e0.bs b o e).1
 have hkind:∀ y ∈ ps.zip us,scope.names.lookup y.1=some .local \/ (scope.names.lookup y.1=some .cell /\ ((cellsFrom (s.heap.objs.size + 1) scope.names []).lookup y.1).isSome=true):=λ ⟨n,v⟩ hy=>by
  rcases S.par n (List.of_mem_zip hy).1 with q | q
  ·exact .inl q
  ·exact .inr ⟨q,cellsFrom_some _ _ _ (.inl q)⟩
 refine codeAny_call_function hr.depth (KX _ _ lk) rfl S.co S.gen rfl (PySem.W.codeRec_of KX hcd) (hb _ _ _ _ ?_)
 refine wpAny_newFunctionEnv_cells S.kind hkind λ env he s1 x=>?_
 subst he
 refine ⟨lim.keeps x.toInCall.keep,codeAny_func ?_⟩
 obtain ⟨t,ht,hq⟩:=hbody A outer s H vs Q E (hr.deeper _) hsp
 have I:Inv (cxOf CX P w K mg base N qual scope f cdv A outer s H E) [] (start N vs) H s1:=zd2 S hr.hd e0 hl r x
 refine wpAny_mono (ht [] s1 (start N vs) H _ I hq) (λ fl s' hs=>?_) λ e s' hs=>hs
 have fin:∀ {σ':St} {H':Hp} {v:V} {u:Value},Inv (cxOf CX P w K mg base N qual scope f cdv A outer s H E) [] σ' H' s'->RelV v u->Q v H'->CE outer P w H s Q u s' :=
  λ {σ' H' v u} J rv q=>⟨v,H',J.os,J.bare,J.base,J.hok,rv,q⟩
 cases fl with
 | ret u =>
  obtain ⟨v,σ',H',J,rv,q⟩:=hs
  exact fin J rv q
 | next =>
  obtain ⟨σ',H',J,q⟩:=hs
  exact fin (v:=V.non) (u:=Value.none) J rfl q
 | brk =>
  obtain ⟨_,_,_,q⟩:=hs
  exact False.elim q
 | cont =>
  obtain ⟨_,_,_,q⟩:=hs
  exact False.elim q
section
variable {X:Cx} {x:Str} {p pos:Pos} {e:Expr} {es:List Expr} {t:TA} {id T:String} {r:List V->Hp->VK->Prop}
def tCB (r:List V->Hp->VK->Prop) (t:TA):TE:=λ σ H Q=>t σ H λ vs H1=>r vs H1 Q
theorem un2 (hc:CallR X (.builtin id) r) (hg:Gl X x) (hm:X.mg x=none) (hv:bootBuiltins x=some (.builtin id)) (ha:PA X (e :: es) t) (hn:x ≠ "__name__" := by decide) (hdb:(x == ("__debug__" : Str))=false:=by decide)
    (he:starEach (e :: es) X.env=(false,eval e X.env) :: starEach es X.env:=by rfl) (hpl:(backTo pos (starEach es X.env)).any (·.1)=false:=by rfl):PE X (.Call (.Name x p) (e :: es) [] pos) (tCB r t):=by
 intro pins s σ H Q I h
 refine wpAny_Call_Name_kw (zr0 I hg hm hv ?_ hn hdb)
 exact PyProof.Rows.callWith_builtin1 (thn (ha pos pins s σ H _ I h) λ us s1 ⟨vs,H1,I1,r1,q1⟩=>hc pins s1 σ H1 vs us Q I1 r1 q1) he hpl
theorem xb2 (hc:CallR X (.type T) r) (hg:Gl X x) (hm:X.mg x=none) (hv:bootBuiltins x=some (.type T)) (ha:PA X (e :: es) t) (hn:x ≠ "__name__" := by decide) (hdb:(x == ("__debug__" : Str))=false:=by decide)
    (he:starEach (e :: es) X.env=(false,eval e X.env) :: starEach es X.env:=by rfl) (hpl:(backTo pos (starEach es X.env)).any (·.1)=false:=by rfl):PE X (.Call (.Name x p) (e :: es) [] pos) (tCB r t):=by
 intro pins s σ H Q I h
 refine wpAny_Call_Name_kw (zr0 I hg hm hv ?_ hn hdb)
 exact PyProof.Rows.callWith_type1 (thn (ha pos pins s σ H _ I h) λ us s1 ⟨vs,H1,I1,r1,q1⟩=>hc pins s1 σ H1 vs us Q I1 r1 q1) he hpl
end
end L2
namespace HT
open PySem PyProof.Rows
section
open PySem.SeqAt
open PySem.AutoSeq1 (wpAny_loadPart')
open PySem.MeetsSeq PySem.MeetsSeq2 PySem.MeetsSeq3
end
section
variable {prog:Program} {w:World} {A:Around} {E:Value->Shared->Prop} {s:Shared}
theorem cat_tup {t b:Addr} {vs ws:List Value} {Q:Value->Shared->Prop} (ht:IsTup s.heap t vs.toArray) (hb:IsTup s.heap b ws.toArray) (hv:vs ≠ [])
    (h1:ws=[]->Q (.ref t) s) (h2:ws ≠ []->Q (.ref s.heap.objs.size) { s with heap:=s.heap.push { cls:=.type "tuple",data:=.seq (vs ++ ws).toArray } })
    (hsz:vs.length + ws.length<=sizeLine):wpAny (model prog w) A (binaryOp .Add (.ref t) (.ref b)) Q E s:=by
 obtain ⟨⟨cls,dd,data,sl⟩,ho,hc,n,hd⟩:=id ht
 obtain ⟨⟨cls2,dd2,data2,sl2⟩,ho2,hc2,n2,hd2⟩:=id hb
 simp only at hc hd hc2 hd2
 subst hc hd hc2 hd2
 have e:vs.toArray ++ ws.toArray=(vs ++ ws).toArray:=by simp
 by_cases hw:ws=[]
 ·exact concat_meets ⟨_,ho,rfl⟩ ⟨_,ho2,rfl⟩ noFill_tuple_add seq_tuple_add slot_tuple_add entry_tuple_add (args_tuple_add_2 _ _)
    (tuple_addW1 t b vs.toArray ws.toArray n n2 dd dd2 sl sl2 (by simpa using hv) (by simp [hw])) ⟨ho,ho2,h1 hw⟩
 ·refine concat_meets ⟨_,ho,rfl⟩ ⟨_,ho2,rfl⟩ noFill_tuple_add seq_tuple_add slot_tuple_add entry_tuple_add (args_tuple_add_2 _ _)
    (tuple_addW2 t b vs.toArray ws.toArray n n2 dd dd2 sl sl2 (by simpa using hv) (by simpa using hw) (by rw [size_toArray,size_toArray]; exact hsz)) ⟨ho,ho2,?_⟩
  rw [e]
  exact h2 hw
def sIx (n d:Nat):Option Int->Nat
 | none=>d
 | some v=>if v < 0 then (v + (n:Int)).toNat else min v.toNat n
theorem zw3 (n d:Nat) (hd:d<=n) (o:Option Int):sIx n d o<=n:=by
 cases o with
 | none=>exact hd
 | some v =>
  show (if v < 0 then (v + (n:Int)).toNat else min v.toNat n)<=n
  by_cases hv:v < 0
  ·rw [if_pos hv]; omega
  ·rw [if_neg hv]; exact Nat.min_le_right _ _
theorem xg2 (v:Int) (n d:Nat):(if v < 0 then max (v + (n:Int)) 0 else min v (n:Int))=((sIx n d (some v):Nat):Int):=by
 show (if v < 0 then max (v + (n:Int)) 0 else min v (n:Int))=(((if v < 0 then (v + (n:Int)).toNat else min v.toNat n):Nat):Int)
 by_cases hv:v < 0
 ·simp only [if_pos hv]; omega
 ·simp only [if_neg hv]; omega
theorem zv1 (lo hi:Option Int) (n:Nat):Builtin.Slice.sliceAdjust lo hi 1 (n:Int)=(((sIx n 0 lo:Nat):Int),((sIx n n hi:Nat):Int)):=by
 have h1:¬ ((1:Int) < 0):=by omega
 unfold Builtin.Slice.sliceAdjust
 simp only [h1,if_false]
 refine Prod.ext ?_ ?_
 ·cases lo with
  | none=>rfl
  | some v=>exact xg2 v n 0
 ·cases hi with
  | none=>rfl
  | some v=>exact xg2 v n n
theorem xu1 (i j:Nat):Builtin.Slice.slicePlaces (i:Int) (j:Int) 1=j - i:=by
 unfold Builtin.Slice.slicePlaces
 have h1:(1:Int) > 0:=by omega
 simp only [h1,if_true,Int.ediv_one]
 split <;> omega
theorem zu0 {v:Value} {o:Option Int} {Q:Option Int->Shared->Prop} (p:IsPart v o) (h:Q o s):wpAny (model prog w) A (Builtin.Slice.slicePartIndex v) Q E s:=by
 cases p with
 | none=>exact slicePart_none h
 | int i t=>exact slicePart_int h
theorem sliceApplied_gen {sl:Addr} {vl vu:Value} {lo hi:Option Int} {n:Nat} {Q:Int × Int × Nat->Shared->Prop} (hs:s.heap.IsSliceOf sl vl vu .none) (pl:IsPart vl lo) (pu:IsPart vu hi)
    (h:Q (((sIx n 0 lo:Nat):Int),1,sIx n n hi - sIx n 0 lo) s):wpAny (model prog w) A (Builtin.Slice.sliceApplied (.ref sl) (pure (n:Int))) Q E s:=by
 obtain ⟨os,hos,hcs,hds⟩:=id hs
 unfold Builtin.Slice.sliceApplied Builtin.Slice.sliceFields
 refine wpAny_bind (wpAny_bind (wpAny_field hos hds (x:=vl) rfl (wpAny_bind (wpAny_field hos hds (x:=vu) rfl (wpAny_bind (wpAny_field hos hds (x:=.none) rfl (wpAny_pure ?_)))))))
 refine wpAny_bind (slicePart_none ?_)
 show wpAny _ _ (if ((1:Int) == 0)=true then _ else _) _ _ s
 rw [if_neg (by decide)]
 refine wpAny_bind (zu0 pl (wpAny_bind (zu0 pu (wpAny_bind (wpAny_pure ?_)))))
 show wpAny _ _ (match Builtin.Slice.sliceAdjust lo hi 1 (n:Int) with | (lo,hi)=>pure (lo,(1:Int),Builtin.Slice.slicePlaces lo hi 1)) _ _ s
 rw [zv1 lo hi n]
 show wpAny _ _ (pure (((sIx n 0 lo:Nat):Int),(1:Int),Builtin.Slice.slicePlaces ((sIx n 0 lo:Nat):Int) ((sIx n n hi:Nat):Int) 1)) _ _ s
 rw [xu1]
 exact wpAny_pure h
theorem sm2 (xs:Array Value) (i k:Nat):((List.range k).filterMap λ (m:Nat)=>xs[((i:Int) + (m:Int) * 1).toNat]?).toArray=((xs.toList.drop i).take k).toArray:=by
 have e:(λ (m:Nat)=>xs[((i:Int) + (m:Int) * 1).toNat]?)=λ m=>xs[i + m]?:=by
  funext m
  have:((i:Int) + (m:Int) * 1).toNat=i + m:=by omega
  rw [this]
 rw [e]
 have:=pick_run xs i k
 rw [List.filterMap_map] at this
 have e2:((λ x=>xs[x]?) ∘ λ x=>i + x)=λ m=>xs[i + m]?:=rfl
 rw [e2] at this
 rw [this]
theorem getItem_tuple_cut {t sl:Addr} {items:Array Value} {vl vu:Value} {lo hi:Option Int} {Q:Value->Shared->Prop} (ht:IsTup s.heap t items) (hs:s.heap.IsSliceOf sl vl vu .none) (pl:IsPart vl lo) (pu:IsPart vu hi)
    (hw:¬ (sIx items.size 0 lo=0 /\ sIx items.size items.size hi=items.size))
    (h:Q (.ref s.heap.objs.size) { s with heap:=s.heap.push { cls:=.type "tuple",data:=.seq ((items.toList.drop (sIx items.size 0 lo)).take (sIx items.size items.size hi - sIx items.size 0 lo)).toArray } })
    (hsz:items.size<=sizeLine):wpAny (model prog w) A (getItem (.ref t) (.ref sl)) Q E s:=by
 have htake:sizeOk (.seq ((items.toList.drop (sIx items.size 0 lo)).take (sIx items.size items.size hi - sIx items.size 0 lo)).toArray):=by
  show ((items.toList.drop (sIx items.size 0 lo)).take (sIx items.size items.size hi - sIx items.size 0 lo)).toArray.size<=sizeLine
  rw [size_toArray,length_take,length_drop,length_toList]
  omega
 have hj:sIx items.size items.size hi<=items.size:=zw3 _ _ (Nat.le_refl _) hi
 obtain ⟨os,hos,hcs,hds⟩:=id hs
 have hTs:s.TypeIs (.ref sl) "slice" := ⟨os,hos,hcs⟩
 unfold getItem
 try with_reducible refine wpAny_holding ?_
 first | refine wpAny_bind (wpAny_pure ?_) | skip
 refine wpAny_bind (wpAny_sequenceKey ht.typeIs (by decide) ?_)
 refine wpAny_bind (wpAny_callSpecial?_slot (name:=Str.ofString "__getitem__") ht.typeIs PyProof.Rows.slot_tuple_getitem
  (wpAny_call_entry PyProof.Rows.slot_tuple_getitem ht.typeIs entry_tuple_getitem ?_ (args_tuple_getitem _ _)))
 show wpAny _ _ (Builtin.Tuple.tupleItemsOf (.ref t) >>= _) _ _ s
 refine wpAny_bind (tupleItemsOf_ ht ?_)
 refine wpAny_bind (wpAny_typeOf hTs ?_)
 rw [if_pos (by decide)]
 refine wpAny_bind (sliceApplied_gen hs pl pu ?_)
 have hno:¬ ((((sIx items.size 0 lo:Nat):Int) == 0 && (1:Int) == 1 && (sIx items.size items.size hi - sIx items.size 0 lo) == items.size)=true):=by
  intro q
  rw [Bool.and_eq_true,Bool.and_eq_true] at q
  have q1:((sIx items.size 0 lo:Nat):Int)=0:=eq_of_beq q.1.1
  have q2:sIx items.size items.size hi - sIx items.size 0 lo=items.size:=eq_of_beq q.2
  exact hw ⟨by omega,by omega⟩
 show wpAny _ _ (if (((sIx items.size 0 lo:Nat):Int) == 0 && (1:Int) == 1 && (sIx items.size items.size hi - sIx items.size 0 lo) == items.size)=true then _ else _) _ _ s
 rw [if_neg hno,sm2]
 first
  | exact wpAny_bind (m:=Builtin.Tuple.tupleExact _) (wpAny_newObj_type (wpAny_pure ⟨_,rfl,wpAny_pure h⟩) htake)
  | exact wpAny_bind (m:=Builtin.Tuple.tupleExact _) (wpAny_newObj_type (wpAny_bind (wpAny_pure (wpAny_pure ⟨_,rfl,wpAny_pure h⟩))) htake)
  | exact wpAny_bind (wpAny_bind (m:=Builtin.Tuple.tupleExact _) (wpAny_newObj_type (wpAny_pure (wpAny_pure ⟨_,rfl,wpAny_pure h⟩)) htake))
  | exact wpAny_bind (wpAny_bind (m:=Builtin.Tuple.tupleExact _) (wpAny_newObj_type (wpAny_pure ⟨_,rfl,wpAny_pure h⟩) htake))
end
end HT
namespace L2
open PySem PySem.Spec PyProof.Rows
abbrev TO:=St->Hp->(Option Int->Hp->Prop)->Prop
def PO (X:Cx) (e:Option Expr) (t:TO):Prop :=
 ∀ (pins:List (Addr × Obj)) (s:Shared) (σ:St) (H:Hp) (Q:Option Int->Hp->Prop),Inv X pins σ H s->t σ H Q ->
  wpAny (model X.prog X.w) X.A (evalPart e X.env) (λ u s'=>∃ o H',Inv X pins σ H' s' /\ IsPart u o /\ Q o H') X.xe s
def va3:TO:=λ _ H Q=>Q none H
def tq4 (t:TE):TO:=λ σ H Q=>t σ H λ x H1=>∃ i,x=.int i /\ Q (some i) H1
theorem wv0 {ns:List Int}:∀ {us:List Value},Vals (ns.map V.int) us->IntsAre us ns:=by
 induction ns with
 | nil=>intro us r; rw [map_nil] at r; cases r; exact .nil
 | cons n ns ih =>
  intro us r
  rw [map_cons] at r
  cases r with
  | cons r1 r2 =>
   obtain ⟨t,e⟩:=r1
   subst e
   exact .cons n t (ih r2)
section
variable {X:Cx} {e:Expr} {te:TE} {lo hi:Option Expr} {tl th:TO} {pos p2:Pos}
theorem zf3:PO X none va3:=by
 intro pins s σ H Q I h
 rw [evalPart_none]
 exact wpAny_pure ⟨none,H,I,.none,h⟩
theorem yf3 (h:PE X e te):PO X (some e) (tq4 te):=by
 intro pins s σ H Q I hw
 rw [evalPart_some]
 refine thn (h pins s σ H _ I hw) λ u s1 ⟨x,H1,I1,r1,q1⟩=>?_
 obtain ⟨i,rfl,q⟩:=q1
 obtain ⟨t,rfl⟩:=r1
 exact ⟨some i,H1,I1,.int i t,q⟩
def SlR (X:Cx) (r:V->Option Int->Option Int->Hp->VK->Prop):Prop :=
 ∀ (pins:List (Addr × Obj)) (s:Shared) (σ:St) (H:Hp) (x:V) (v vl vu:Value) (lo hi:Option Int) (sl:Addr) (Q:VK),Inv X pins σ H s->RelV x v->s.heap.IsSliceOf sl vl vu .none->IsPart vl lo->IsPart vu hi->r x lo hi H Q ->
  ∃ T id,typeLookup (.type T) "__getitem__" = pure (some (.builtin id)) /\ s.TypeIs v T /\ wpAny (model X.prog X.w) X.A (getItem v (.ref sl)) (EP X pins σ Q) X.xe s
theorem SlR.or {r r':V->Option Int->Option Int->Hp->VK->Prop} (h:SlR X r) (h':SlR X r'):SlR X (λ x lo hi H Q=>r x lo hi H Q \/ r' x lo hi H Q):=by
 intro pins s σ H x v vl vu lo hi sl Q I rx hs pl pu q
 rcases q with q | q
 ·exact h pins s σ H x v vl vu lo hi sl Q I rx hs pl pu q
 ·exact h' pins s σ H x v vl vu lo hi sl Q I rx hs pl pu q
def tSl (r:V->Option Int->Option Int->Hp->VK->Prop) (te:TE) (tl th:TO):TE:=λ σ H Q=>te σ H λ x H1=>tl σ H1 λ l H2=>th σ H2 λ u H3=>r x l u H3 Q
theorem zn2 {r:V->Option Int->Option Int->Hp->VK->Prop} (hr:SlR X r) (he:PE X e te) (hl:PO X lo tl) (hu:PO X hi th):PE X (.Subscript e (.Slice lo hi none p2) pos) (tSl r te tl th):=by
 intro pins s σ H Q I h
 refine Subscript_ (thn (he pins s σ H _ I h) λ v s1 ⟨x,H1,I1,r1,q1⟩=>?_)
 refine wpAny_Slice (thn (hl pins s1 σ H1 _ I1 q1) λ vl s2 ⟨l,H2,I2,pl,q2⟩=>thn (hu pins s2 σ H2 _ I2 q2) λ vu s3 ⟨u,H3,I3,pu,q3⟩=>?_)
 rw [evalPart_none]
 refine wpAny_pure ?_
 have I4:Inv X pins σ H3 { s3 with heap:=s3.heap.push { cls:=.type "slice",data:=.fields #[vl,vu,.none] } }:=I3.kept (t':=s3.toks) λ b ob q=>Heap.get?_push_of_some _ q
 obtain ⟨T,id,hT,ht,hg⟩:=hr pins { s3 with heap:=s3.heap.push { cls:=.type "slice",data:=.fields #[vl,vu,.none] } } σ H3 x v vl vu l u s3.heap.objs.size Q I4 r1 (Heap.IsSliceOf.new ..) pl pu q3
 show wpAny (model X.prog X.w) X.A (subscriptTail e (.Slice lo hi none p2) v (.ref s3.heap.objs.size)) (EP X pins σ Q) X.xe { s3 with heap:=s3.heap.push { cls:=.type "slice",data:=.fields #[vl,vu,.none] } }
 exact tail_any (ops:=[.ref s3.heap.objs.size,v]) ht hT hg (by with_unfolding_all rfl)
def cutV (xs:List V) (lo hi:Option Int):List V:=(xs.drop (HT.sIx xs.length 0 lo)).take (HT.sIx xs.length xs.length hi - HT.sIx xs.length 0 lo)
theorem xs0 (xs:List V) (lo hi:Option Int):(cutV xs lo hi).length<=xs.length:=by
 unfold cutV
 rw [length_take,length_drop]
 omega
def rSlT (K:PySem.W.Frag):V->Option Int->Option Int->Hp->VK->Prop:=λ x lo hi H Q=>∃ a xs,x=.ref a /\ SqT K H a xs ∧
 ¬ (HT.sIx xs.length 0 lo=0 /\ HT.sIx xs.length xs.length hi=xs.length) /\ ∀ p,H p=none->Q (.ref p) (upd H p (.tup (cutV xs lo hi)))
theorem xt3:SlR X (rSlT X.K):=by
 intro pins s σ H x v vl vu lo hi sl Q I rx hs pl pu h
 obtain ⟨a,xs,rfl,hx,hw,q⟩:=h
 cases rx
 obtain ⟨its,r,ht,hz⟩:=I.tuple hx
 have hlen:its.toArray.size=xs.length:=by rw [size_toArray]; exact r.length.symm
 refine ⟨"tuple",_,PyProof.Rows.slot_tuple_getitem.lookup,ht.typeIs,?_⟩
 refine HT.getItem_tuple_cut ht hs pl pu (by rw [hlen]; exact hw) ?_ (by rw [hlen]; exact hz)
 rw [hlen]
 refine ⟨.ref s.heap.objs.size,_,I.laid (t':=s.toks) (o:=.tup (cutV xs lo hi)) (λ b ob q=>Heap.get?_push_of_some _ q) (Nat.le_refl _) ?_,rfl,q _ (I.hok.fresh (Nat.le_refl _))⟩
 exact ⟨Nat.le_trans (xs0 xs lo hi) hz,_,(r.drop (HT.sIx xs.length 0 lo)).take (HT.sIx xs.length xs.length hi - HT.sIx xs.length 0 lo),IsTup.new _ _⟩
def sv4 (K:PySem.W.Frag):R2:=λ x y H Q=>∃ a b xs ys,x=.ref a /\ y=.ref b /\ SqT K H a xs /\ SqT K H b ys /\ xs ≠ [] /\ xs.length + ys.length<=sizeLine ∧
 (ys=[]->Q (.ref a) H) /\ (ys ≠ []->∀ p,H p=none->Q (.ref p) (upd H p (.tup (xs ++ ys))))
theorem Vals.nil_iff {xs:List V} {us:List Value} (r:Vals xs us):us=[] ↔ xs=[]:=by
 cases r with
 | nil=>simp
 | cons _ _=>simp
theorem yh3:OpR X (binaryOp .Add) (sv4 X.K):=by
 intro pins s σ H x y v u Q I rx ry h
 obtain ⟨a,b,xs,ys,rfl,rfl,ha,hb,hx,hz,q1,q2⟩:=h
 cases rx
 cases ry
 obtain ⟨its,r1,p1,_⟩:=I.tuple ha
 obtain ⟨its2,r2,p2,_⟩:=I.tuple hb
 refine HT.cat_tup p1 p2 (λ z=>hx (r1.nil_iff.mp z)) (λ z=>⟨.ref a,H,I,rfl,q1 (r2.nil_iff.mp z)⟩) (λ z=>?_) (by rw [<- r1.length,<- r2.length]; exact hz)
 refine ⟨.ref s.heap.objs.size,_,I.laid (t':=s.toks) (o:=.tup (xs ++ ys)) (λ b ob q=>Heap.get?_push_of_some _ q) (Nat.le_refl _) ?_,rfl,q2 (λ w=>z (r2.nil_iff.mpr w)) _ (I.hok.fresh (Nat.le_refl _))⟩
 exact ⟨by rw [length_append]; exact hz,_,r1.append r2,IsTup.new _ _⟩
end
def ixN (n:Nat) (i:Int):Option Nat:=if 0<=i then (if i < n then some i.toNat else none) else if -(n:Int)<=i then some (i + n).toNat else none
def atI {α:Type} (xs:List α) (i:Int):Option α:=(ixN xs.length i).bind λ j=>xs[j]?
theorem xd2 {n:Nat} {i:Int} {j:Nat} (h:ixN n i=some j):seqIndex? i n=some j /\ j < n /\ -(n:Int)<=i /\ i < n:=by
 unfold ixN at h
 by_cases h0:0<=i
 ·rw [if_pos h0] at h
  by_cases h1:i < n
  ·rw [if_pos h1] at h
   have e:i.toNat=j:=Option.some.inj h
   exact ⟨by rw [seqIndex_of h0 h1,e],by omega,by omega,h1⟩
  ·rw [if_neg h1] at h; cases h
 ·rw [if_neg h0] at h
  by_cases h1 : -(n:Int)<=i
  ·rw [if_pos h1] at h
   have e:(i + n).toNat=j:=Option.some.inj h
   exact ⟨by rw [seqIndex_neg (by omega) h1,e],by omega,h1,by omega⟩
  ·rw [if_neg h1] at h; cases h
theorem uh2 {α:Type} {xs:List α} {i:Int} {v:α} (h:atI xs i=some v):∃ j,seqIndex? i xs.length=some j /\ xs[j]?=some v /\ j < xs.length /\ -(xs.length:Int)<=i /\ i < xs.length:=by
 unfold atI at h
 cases e:ixN xs.length i with
 | none=>rw [e] at h; cases h
 | some j =>
  rw [e] at h
  obtain ⟨h1,h2,h3,h4⟩:=xd2 e
  exact ⟨j,h1,h,h2,h3,h4⟩
def xi2 (b:Expr):Prop:=∀ o i,subscripted b false o i=operate [o,i] (getItem o i)
def IxR (X:Cx) (r:R2):Prop :=
 ∀ (value slice:Expr) (pins:List (Addr × Obj)) (s:Shared) (σ:St) (H:Hp) (x y:V) (v u:Value) (Q:VK),Inv X pins σ H s->RelV x v->RelV y u->r x y H Q ->
  subscripted slice false v u=operate [v,u] (getItem v u)->wpAny (model X.prog X.w) X.A (subscriptTail value slice v u) (EP X pins σ Q) X.xe s
def MtR (X:Cx) (id:String) (r:V->List V->Hp->VK->Prop):Prop :=
 ∀ (pins:List (Addr × Obj)) (s:Shared) (σ:St) (H:Hp) (x:V) (xs:List V) (v:Value) (us:List Value) (Q:VK),Inv X pins σ H s->RelV x v->Vals xs us->r x xs H Q ->
  wpAny (model X.prog X.w) X.A (call (.builtin id) (v :: us)) (EP X pins σ Q) X.xe s
section
variable {X:Cx} {a b:Expr} {ta tb:TE} {pos:Pos}
theorem IxR.or {r r':R2} (h:IxR X r) (h':IxR X r'):IxR X (λ x y H Q=>r x y H Q \/ r' x y H Q):=by
 intro value slice pins s σ H x y v u Q I rx ry q hs
 rcases q with q | q
 ·exact h value slice pins s σ H x y v u Q I rx ry q hs
 ·exact h' value slice pins s σ H x y v u Q I rx ry q hs
theorem zx4 {r:R2} (hr:IxR X r) (ha:PE X a ta) (hb:PE X b tb) (hs:xi2 b):PE X (.Subscript a b pos) (tOp r ta tb):=by
 intro pins s σ H Q I h
 exact Subscript_ (binT ha hb I h λ v u s2 x y H2 I2 rx ry q=>hr a b pins s2 σ H2 x y v u Q I2 rx ry q (hs _ _))
def rIxL (K:PySem.W.Frag):R2:=λ x y H Q=>∃ p xs i v,x=.ref p /\ y=.int i /\ SqL K H p xs /\ atI xs i=some v /\ Q v H
def rIxT (K:PySem.W.Frag):R2:=λ x y H Q=>∃ p xs i v,x=.ref p /\ y=.int i /\ SqT K H p xs /\ atI xs i=some v /\ Q v H
theorem ix_list:IxR X (rIxL X.K):=by
 intro value slice pins s σ H x y v u Q I rx ry h hs
 obtain ⟨p,xs,i,z,rfl,rfl,hq,he,q⟩:=h
 cases rx
 obtain ⟨t,rfl⟩:=ry
 obtain ⟨its,r,pl,hz⟩:=I.list hq
 obtain ⟨j,h1,h2,h3,h4,h5⟩:=uh2 he
 obtain ⟨w,ew,rw'⟩:=r.get h2
 have hl:=r.length
 have hn:=xd1
 have fin:EP X pins σ Q w s:=⟨z,H,I,rw',q⟩
 by_cases h0:0<=i
 ·have hj:i.toNat=j:=by
    rw [seqIndex_of h0 h5] at h1
    exact Option.some.inj h1
  exact item_listR pl.isList h0 (by omega) (by rw [hj]; simpa using ew) fin hs
 ·have hj:(i + (its.toArray.size:Int)).toNat=j:=by
    rw [seqIndex_neg (by omega) h4] at h1
    rw [size_toArray,<- hl]
    exact Option.some.inj h1
  exact subscriptTail_builtinR (x:=w) pl.isList.typeIs slot_list_getitem.lookup
   (wpAny_getItem_list_neg (Q:=λ r s'=>r=w /\ EP X pins σ Q r s') pl.isList (by omega) (by rw [size_toArray] <;> omega) (by omega) (by rw [hj]; simpa using ew) ⟨rfl,fin⟩) hs
theorem sc2:IxR X (rIxT X.K):=by
 intro value slice pins s σ H x y v u Q I rx ry h hs
 obtain ⟨p,xs,i,z,rfl,rfl,hq,he,q⟩:=h
 cases rx
 obtain ⟨t,rfl⟩:=ry
 obtain ⟨its,r,pl,hz⟩:=I.tuple hq
 obtain ⟨j,h1,h2,h3,h4,h5⟩:=uh2 he
 obtain ⟨w,ew,rw'⟩:=r.get h2
 have hl:=r.length
 have hn:=xd1
 have fin:EP X pins σ Q w s:=⟨z,H,I,rw',q⟩
 exact subscriptTail_builtinR (x:=w) pl.typeIs slot_tuple_getitem.lookup
  (getItem_tuple (j:=j) (Q:=λ r s'=>r=w /\ EP X pins σ Q r s') pl (by omega) (by omega) (by rw [size_toArray,<- hl]; exact h1) (by simpa using ew) ⟨rfl,fin⟩) hs
theorem vu1 (its:List Value) (n j:Nat) (u:Value):Obj.mapSeq (·.setIfInBounds j u) { cls:=.type "list",data:=.seq its.toArray n }={ cls:=.type "list",data:=.seq (its.set j u).toArray n }:=by
 simp [Obj.mapSeq]
theorem Inv.lst {pins:List (Addr × Obj)} {σ:St} {H:Hp} {s:Shared} {p:Addr} {xs:List V} (I:Inv X pins σ H s) (h:H p=some (.lst xs)) :
    ∃ (its:List Value) (n:Nat),Vals xs its /\ s.heap.get? p=some { cls:=.type "list",data:=.seq its.toArray n } /\ xs.length<=sizeLine:=by
 obtain ⟨z,its,n,r,e⟩:=I.hok p _ h
 exact ⟨its,n,r,e,z⟩
theorem Inv.lstUpd {pins:List (Addr × Obj)} {σ:St} {H:Hp} {s:Shared} {p:Addr} {xs ys:List V} {its its':List Value} {n n':Nat} {f:Obj->Obj} (I:Inv X pins σ H s) (h:H p=some (.lst xs))
    (ho:s.heap.get? p=some { cls:=.type "list",data:=.seq its.toArray n }) (hf:f { cls:=.type "list",data:=.seq its.toArray n }={ cls:=.type "list",data:=.seq its'.toArray n' }) (r:Vals ys its') (hz:ys.length<=sizeLine) (t:Nat) :
    Inv X pins σ (upd H p (.lst ys)) { s with heap:=s.heap.update p f,toks:=t }:=by
 have e:(s.heap.update p f).get? p=some { cls:=.type "list",data:=.seq its'.toArray n' }:=by
  rw [Heap.get?_update_self f ho (by rw [hf] <;> rfl),hf]
 refine I.write (x:=p) (e:=p) (by rw [h]; trivial) (.inl rfl) (λ b u hb q=>(Heap.get?_update_other _ _ (Ne.symm hb)).trans q) ⟨_,e⟩ ?_
 exact ⟨hz,its',n',r,e⟩
def uv4:V->V->V->Hp->(Hp->Prop)->Prop:=λ o i v H Q=>∃ p xs k j,o=.ref p /\ i=.int k /\ H p=some (.lst xs) /\ ixN xs.length k=some j /\ Q (upd H p (.lst (xs.set j v)))
theorem wx0:PSet X uv4:=by
 intro pins s σ H o i v ov iv u Q I ro ri rv h
 obtain ⟨p,xs,k,j,rfl,rfl,hp,hj,q⟩:=h
 cases ro
 obtain ⟨t,rfl⟩:=ri
 obtain ⟨its,n,r,ho,hz⟩:=I.lst hp
 obtain ⟨h1,h2,h3,h4⟩:=xd2 hj
 have hl:=r.length
 have hn:=xd1
 have I':Inv X pins σ (upd H p (.lst (xs.set j v))) { s with heap:=s.heap.update p (Obj.mapSeq (·.setIfInBounds j u)) } :=
  I.lstUpd hp ho (vu1 its n j u) (r.set rv j) (by rw [List.length_set]; exact hz) s.toks
 by_cases h0:0<=k
 ·have hk:k.toNat=j:=by
    rw [seqIndex_of h0 h4] at h1
    exact Option.some.inj h1
  exact PySem.W.ki_setAt ho h0 (by omega) (by rw [size_toArray,<- hl]; exact h4) (by rw [hk]; exact ⟨_,I',q⟩)
 ·have hk:(k + (its.toArray.size:Int)).toNat=j:=by
    rw [seqIndex_neg (by omega) h3] at h1
    rw [size_toArray,<- hl]
    exact Option.some.inj h1
  exact PySem.W.ki_setBack ho (by omega) (by rw [size_toArray,<- hl]; exact h3) (by omega) (by rw [hk]; exact ⟨_,I',q⟩)
theorem tb1 (lo hi:Option Int) (n:Nat):(sliceBounds lo hi none n).1=((HT.sIx n 0 lo:Nat):Int) /\ (sliceBounds lo hi none n).2.1=((HT.sIx n n hi:Nat):Int) /\ (sliceBounds lo hi none n).2.2=1:=by
 refine ⟨?_,?_,rfl⟩
 ·cases lo with
  | none=>simp [sliceBounds,HT.sIx]
  | some i =>
   simp only [sliceBounds,HT.sIx,Option.getD_none,show (1:Int) > 0 by decide,if_true]
   by_cases h:i < 0
   ·simp only [h,if_true] <;> omega
   ·simp only [h,if_false] <;> omega
 ·cases hi with
  | none=>simp [sliceBounds,HT.sIx]
  | some i =>
   simp only [sliceBounds,HT.sIx,Option.getD_none,show (1:Int) > 0 by decide,if_true]
   by_cases h:i < 0
   ·simp only [h,if_true] <;> omega
   ·simp only [h,if_false] <;> omega
theorem yx0 (its:List Value) (lo hi:Option Int):slicePick its.toArray lo hi none=((its.drop (HT.sIx its.length 0 lo)).take (HT.sIx its.length its.length hi - HT.sIx its.length 0 lo)).toArray:=by
 obtain ⟨h1,h2,h3⟩:=tb1 lo hi its.toArray.size
 unfold slicePick
 rw [h1,h2,h3]
 simp only [sliceRange_one,pick_run,size_toArray] <;> rfl
def rSlL (K:PySem.W.Frag):V->Option Int->Option Int->Hp->VK->Prop:=λ x lo hi H Q=>∃ a xs,x=.ref a /\ SqL K H a xs /\ ∀ p,H p=none->Q (.ref p) (upd H p (.lst (cutV xs lo hi)))
theorem xc3:SlR X (rSlL X.K):=by
 intro pins s σ H x v vl vu lo hi sl Q I rx hs pl pu h
 obtain ⟨a,xs,rfl,hx,q⟩:=h
 cases rx
 obtain ⟨its,r,ht,hz⟩:=I.list hx
 have hlen:=r.length
 refine ⟨"list",_,slot_list_getitem.lookup,ht.isList.typeIs,?_⟩
 refine wpAny_getItem_list_slice ht.isList hs pl pu .none (by simp) ?_ (by rw [size_toArray] <;> omega)
 rw [yx0,<- hlen]
 refine ⟨.ref s.heap.objs.size,_,I.laid (t':=s.toks) (o:=.lst (cutV xs lo hi)) (λ b ob q=>Heap.get?_push_of_some _ q) (Nat.le_refl _) ?_,rfl,q _ (I.hok.fresh (Nat.le_refl _))⟩
 exact ⟨Nat.le_trans (xs0 xs lo hi) hz,_,0,(r.drop (HT.sIx xs.length 0 lo)).take (HT.sIx xs.length xs.length hi - HT.sIx xs.length 0 lo),Heap.get?_push_size _ rfl⟩
def uz0:V->Bool
 | .non=>true
 | .bl _=>true
 | .int _=>true
 | .str _=>true
 | _=>false
def eqV:V->V->Bool
 | .non,.non=>true
 | .bl a,.bl b=>a == b
 | .bl a,.int b=>(if a then 1 else 0) == b
 | .int a,.bl b=>a == (if b then 1 else 0)
 | .int a,.int b=>a == b
 | .str a,.str b=>a == b
 | _,_=>false
theorem xo4 {A:Around} {s:Shared} {y x:V} {u v:Value} (ry:RelV y u) (rx:RelV x v) (fy:uz0 y=true) (fx:uz0 x=true):SeqAt.EqAt A s u v (eqV y x):=by
 cases y with
 | non =>
  cases ry
  cases x with
  | non=>cases rx; exact SeqAt.EqAt.same _
  | bl b=>cases rx; exact SeqAt.EqAt.none_bool b
  | int b=>obtain ⟨t,rfl⟩:=rx; exact SeqAt.EqAt.none_int b t
  | str b=>obtain ⟨t,rfl⟩:=rx; exact SeqAt.EqAt.none_str b t
  | _=>exact absurd (show false=true from fx) Bool.false_ne_true
 | bl a =>
  cases ry
  cases x with
  | non=>cases rx; exact SeqAt.EqAt.bool_none a
  | bl b=>cases rx; exact SeqAt.EqAt.bool_bool a b
  | int b=>obtain ⟨t,rfl⟩:=rx; exact SeqAt.EqAt.bool_int a b t
  | str b=>obtain ⟨t,rfl⟩:=rx; exact SeqAt.EqAt.bool_str a b t
  | _=>exact absurd (show false=true from fx) Bool.false_ne_true
 | int a =>
  obtain ⟨t',rfl⟩:=ry
  cases x with
  | non=>cases rx; exact SeqAt.EqAt.int_none a t'
  | bl b=>cases rx; exact SeqAt.EqAt.int_bool a t' b
  | int b=>obtain ⟨t,rfl⟩:=rx; exact SeqAt.EqAt.int_int a t' b t
  | str b=>obtain ⟨t,rfl⟩:=rx; exact SeqAt.EqAt.int_str a t' b t
  | _=>exact absurd (show false=true from fx) Bool.false_ne_true
 | str a =>
  obtain ⟨t',rfl⟩:=ry
  cases x with
  | non=>cases rx; exact SeqAt.EqAt.str_none a t'
  | bl b=>cases rx; exact SeqAt.EqAt.str_bool a t' b
  | int b=>obtain ⟨t,rfl⟩:=rx; exact SeqAt.EqAt.str_int a t' b t
  | str b=>obtain ⟨t,rfl⟩:=rx; exact SeqAt.EqAt.str_str a t' b t
  | _=>exact absurd (show false=true from fx) Bool.false_ne_true
 | _=>exact absurd (show false=true from fy) Bool.false_ne_true
def eqU (x:V) (u:Value):Bool:=match u with
 | .none=>eqV .non x
 | .bool b=>eqV (.bl b) x
 | .int i _=>eqV (.int i) x
 | .str z _=>eqV (.str z) x
 | _=>false
theorem yx2 {x y:V} {u:Value} (r:RelV y u) (f:uz0 y=true):eqU x u=eqV y x:=by
 cases y with
 | non=>cases r; rfl
 | bl b=>cases r; rfl
 | int i=>obtain ⟨t,rfl⟩:=r; rfl
 | str z=>obtain ⟨t,rfl⟩:=r; rfl
 | _=>exact absurd (show false=true from f) Bool.false_ne_true
theorem us0 {x:V}:∀ {xs:List V} {us:List Value},Vals xs us->xs.all uz0=true->us.any (eqU x)=xs.any λ y=>eqV y x
 | _,_,.nil,_=>rfl
 | y :: xs,u :: us,.cons r t,f=>by
  rw [List.all_cons,Bool.and_eq_true] at f
  rw [any_cons,any_cons,yx2 r f.1,us0 t f.2]
theorem vm0 {A:Around} {s:Shared} {x:V} {v:Value} (rx:RelV x v) (fx:uz0 x=true):∀ {xs:List V} {us:List Value},Vals xs us->xs.all uz0=true->∀ u ∈ us,SeqAt.EqAt A s u v (eqU x u)
 | _,_,.nil,_=>λ u hu=>by cases hu
 | y :: xs,u :: us,.cons r t,f=>λ u' hu=>by
  rw [List.all_cons,Bool.and_eq_true] at f
  rcases List.mem_cons.mp hu with rfl | hu
  ·rw [yx2 r f.1]; exact xo4 r rx f.1 fx
  ·exact vm0 rx fx t f.2 u' hu
def inV (x:V) (xs:List V):Bool:=xs.any λ y=>eqV y x
def rIn (K:PySem.W.Frag) (neg:Bool):R2:=λ x y H Q=>∃ p xs,y=.ref p /\ (SqL K H p xs \/ SqT K H p xs) /\ uz0 x=true /\ xs.all uz0=true /\ Q (.bl (if neg then !inV x xs else inV x xs)) H
theorem op_in_seq:OpR X (compareOp .In) (rIn X.K false):=by
 intro pins s σ H x y v u Q I rx ry h
 obtain ⟨p,xs,rfl,hq,fx,fs,q⟩:=h
 cases ry
 rcases hq with hq | hq
 ·obtain ⟨its,r,pl,hz⟩:=I.list hq
  refine SeqAt.in_listAt (eqU x) pl.isList (λ w hw=>vm0 rx fx r fs w (by simpa using hw)) ⟨.bl _,H,I,rfl,?_⟩
  rw [show its.toArray.any (eqU x)=its.any (eqU x) by simp,us0 r fs]
  exact q
 ·obtain ⟨its,r,pl,hz⟩:=I.tuple hq
  refine SeqAt.in_tupleAt (eqU x) pl (λ w hw=>vm0 rx fx r fs w (by simpa using hw)) ⟨.bl _,H,I,rfl,?_⟩
  rw [show its.toArray.any (eqU x)=its.any (eqU x) by simp,us0 r fs]
  exact q
theorem op_notIn_seq:OpR X (compareOp .NotIn) (rIn X.K true):=by
 intro pins s σ H x y v u Q I rx ry h
 obtain ⟨p,xs,rfl,hq,fx,fs,q⟩:=h
 cases ry
 rcases hq with hq | hq
 ·obtain ⟨its,r,pl,hz⟩:=I.list hq
  refine SeqAt.notIn_listAt (eqU x) pl.isList (λ w hw=>vm0 rx fx r fs w (by simpa using hw)) ⟨.bl _,H,I,rfl,?_⟩
  rw [show its.toArray.any (eqU x)=its.any (eqU x) by simp,us0 r fs]
  exact q
 ·obtain ⟨its,r,pl,hz⟩:=I.tuple hq
  refine SeqAt.notIn_tupleAt (eqU x) pl (λ w hw=>vm0 rx fx r fs w (by simpa using hw)) ⟨.bl _,H,I,rfl,?_⟩
  rw [show its.toArray.any (eqU x)=its.any (eqU x) by simp,us0 r fs]
  exact q
theorem uc1:OpR X (compareOp .NotIn) (λ x y H Q=>∃ i j,x=.str i /\ y=.str j /\ Q (.bl (!(!(Builtin.Str.occurrences j i 0 j.length 1).isEmpty))) H):=by
 intro pins s σ H x y v u Q I rx ry h
 obtain ⟨i,j,rfl,rfl,q⟩:=h
 obtain ⟨t,rfl⟩:=rx
 obtain ⟨t',rfl⟩:=ry
 exact notIn_str ⟨.bl _,H,I,rfl,q⟩
theorem call_len_seq:CallR X (.builtin "len") (λ xs H Q=>∃ p ys,xs=[.ref p] /\ (SqL X.K H p ys \/ SqT X.K H p ys) /\ Q (.int ys.length) H):=by
 intro pins s σ H xs us Q I r h
 obtain ⟨p,ys,rfl,hq,q⟩:=h
 obtain ⟨u,rfl,rx⟩:=ts0 r
 cases rx
 have hn:=xd1
 rcases hq with hq | hq
 ·obtain ⟨its,r',pl,hz⟩:=I.list hq
  have hlen:=r'.length
  exact Calls.call_len_list pl.isList (by simp only [size_toArray] <;> omega) ⟨.int ys.length,H,I.tok _,⟨s.toks + 1,by rw [size_toArray,hlen]⟩,q⟩
 ·obtain ⟨its,r',pl,hz⟩:=I.tuple hq
  have hlen:=r'.length
  exact len_tuple pl (by simp only [size_toArray] <;> omega) ⟨.int ys.length,H,I.tok _,⟨s.toks + 1,by rw [size_toArray,hlen]⟩,q⟩
theorem te1:CallR X (.builtin "len") (λ xs H Q=>∃ z,xs=[.str z] /\ z.length<=sizeLine /\ Q (.int z.length) H):=by
 intro pins s σ H xs us Q I r h
 obtain ⟨z,rfl,hz,q⟩:=h
 obtain ⟨u,rfl,t,rfl⟩:=ts0 r
 have hn:=xd1
 exact len_str (by omega) ⟨.int z.length,H,I.tok _,⟨_,rfl⟩,q⟩
theorem CallR.or {f:Value} {r r':List V->Hp->VK->Prop} (h:CallR X f r) (h':CallR X f r'):CallR X f (λ xs H Q=>r xs H Q \/ r' xs H Q):=by
 intro pins s σ H xs us Q I rs q
 rcases q with q | q
 ·exact h pins s σ H xs us Q I rs q
 ·exact h' pins s σ H xs us Q I rs q
theorem wa1:CallR X (.type "tuple") (λ xs H Q=>∃ p ys,xs=[.ref p] /\ ((SqL X.K H p ys /\ ∀ l,H l=none->Q (.ref l) (upd H l (.tup ys))) \/ (SqT X.K H p ys /\ Q (.ref p) H))):=by
 intro pins s σ H xs us Q I r h
 obtain ⟨p,ys,rfl,h⟩:=h
 obtain ⟨u,rfl,rx⟩:=ts0 r
 cases rx
 rcases h with ⟨hq,q⟩ | ⟨hq,q⟩
 ·obtain ⟨its,r',pl,hz⟩:=I.list hq
  have hlen:=r'.length
  refine call_tuple_list pl.isList (λ h' kp=>?_) (by simp only [size_toArray] <;> omega)
  have I1:Inv X pins σ H { s with heap:=h' }:=I.kept (t':=s.toks) kp
  have I2:Inv X pins σ (upd H h'.objs.size (.tup ys)) { s with heap:=h'.push { cls:=.type "tuple",data:=.seq its.toArray } } :=
   I1.laid (t':=s.toks) (λ b o e=>Heap.get?_push_of_some _ e) (Nat.le_refl _) (show ObjOk X.prog X.w _ _ _ (.tup ys) from ⟨hz,its,r',IsTup.new _ _⟩)
  exact ⟨.ref h'.objs.size,_,I2,rfl,q _ (I1.hok.fresh (Nat.le_refl _))⟩
 ·obtain ⟨its,r',pl,hz⟩:=I.tuple hq
  exact call_tuple_same pl ⟨.ref p,H,I,rfl,q⟩
def tyV (K:PySem.W.Frag) (T:String) (x:V) (H:Hp):Prop:=match x with
 | .str _=>T = "str"
 | .int _=>T = "int"
 | .ref p=>(T = "list" /\ ∃ xs,SqL K H p xs) \/ (T = "tuple" /\ ∃ o,K.lookup p=some o /\ o.cls=.type "tuple" /\ o.dict=none) ∨
     (T = "dict" /\ ((∃ kvs,H p=some (.dK kvs)) \/ ∃ kvs,H p=some (.dT kvs))) \/ (T = "set" /\ ∃ S n,H p=some (.set S n))
 | _=>False
theorem to3 {pins:List (Addr × Obj)} {σ:St} {H:Hp} {s:Shared} {T:String} {x:V} {v:Value} (I:Inv X pins σ H s) (r:RelV x v) (ty:tyV X.K T x H) :
    s.TypeIs v T /\ ∀ a,v=.ref a->∃ ob,s.heap.get? a=some ob /\ ob.dict=none:=by
 cases x with
 | str z =>
  obtain ⟨t,rfl⟩:=r
  cases (show T = "str" from ty)
  exact ⟨typeIs_str s z t,λ _ e=>nomatch e⟩
 | int i =>
  obtain ⟨t,rfl⟩:=r
  cases (show T = "int" from ty)
  exact ⟨typeIs_int s i t,λ _ e=>nomatch e⟩
 | ref p =>
  cases r
  rcases ty with ⟨rfl,xs,hq⟩ | ⟨rfl,o,hk,hc,hd⟩ | ⟨rfl,hk⟩ | ⟨rfl,S,n,hk⟩
  ·obtain ⟨its,_,pl,_⟩:=I.list hq
   refine ⟨pl.isList.typeIs,λ a e=>?_⟩
   cases e
   obtain ⟨o,n,e,c,hd,_⟩:=pl
   exact ⟨o,e,hd⟩
  ·refine ⟨⟨o,I.kIn p o hk,hc⟩,λ a e=>?_⟩
   cases e
   exact ⟨o,I.kIn _ o hk,hd⟩
  ·have z:∃ o,s.heap.get? p=some o /\ o.ExactDict:=by
     rcases hk with ⟨kvs,hk⟩ | ⟨kvs,hk⟩
     ·obtain ⟨_,_,_,_,o,_,_,e,ex,_⟩:=I.hok p _ hk
      exact ⟨o,e,ex⟩
     ·obtain ⟨_,_,_,_,o,_,_,e,ex,_⟩:=I.hok p _ hk
      exact ⟨o,e,ex⟩
   obtain ⟨o,e,ex⟩:=z
   refine ⟨⟨o,e,ex.1⟩,λ a e2=>?_⟩
   cases e2
   exact ⟨o,e,ex.2.1⟩
  ·obtain ⟨o,_,_,_,e,ex,_⟩:=I.hok p _ hk
   refine ⟨⟨o,e,ex.1⟩,λ a e2=>?_⟩
   cases e2
   exact ⟨o,e,ex.2.1⟩
 | _=>exact False.elim ty
def tBM (K:PySem.W.Frag) (T:String) (r:V->List V->Hp->VK->Prop) (to:TE) (t:TA):TE:=λ σ H Q=>to σ H λ x H1=>tyV K T x H1 /\ t σ H1 λ xs H2=>r x xs H2 Q
variable {o e:Expr} {es:List Expr} {to:TE} {t:TA} {name:Str} {apos cpos:Pos} {T id:String} {r:V->List V->Hp->VK->Prop}
theorem tj4 (pa:PlainAttrs T) (slot:Slot T name id) (hty:typeOf (.builtin id)=pure (.type "method_descriptor")) (hm:MtR X id r) (ho:PE X o to) (ha:PA X (e :: es) t)
    (hbase:attributeBase o name X.env (eval o X.env)=eval o X.env:=by rfl)
    (hfew:((backTo cpos (starEach (e :: es) X.env)).all (λ x=>!x.1) && (backToKw cpos (keywordEach [] X.env)).all (λ x=>x.1.isSome)
     && decide ((e :: es).length + ([]:List Keyword).length + (if ([]:List Keyword).isEmpty then 0 else 1) < 30))=true:=by rfl)
    (hline:(apos.endLine == cpos.line)=true:=by rfl) (hs:starEach (e :: es) X.env=(false,eval e X.env) :: starEach es X.env:=by rfl) (hplain:(backTo cpos (starEach es X.env)).any (·.1)=false:=by rfl) :
    PE X (.Call (.Attribute o name apos) (e :: es) [] cpos) (tBM X.K T r to t):=by
 intro pins s σ H Q I h
 refine wpAny_Call_method_late hbase hfew hline rfl (thn (ho pins s σ H _ I h) λ v s1 ⟨x,H1,I1,r1,ty,q1⟩=>?_)
 obtain ⟨h1,h2⟩:=to3 I1 r1 ty
 refine ⟨T,id,pa,slot,hty,h1,h2,?_⟩
 have hA:=ha cpos pins s1 σ H1 _ I1 q1
 rw [hs] at hA ⊢
 refine Calls.callWith_builtin (by show (false || (backTo cpos (starEach es X.env)).any (·.1))=false; rw [hplain] <;> rfl) (Calls.evalArgs_plain ?_)
 exact thn hA λ us s2 ⟨vs,H2,I2,r2,q2⟩=>hm pins s2 σ H2 x vs v us Q I2 r1 r2 q2
end
def MtM (X:Cx) (id:String) (r:V->List V->Hp->VK->Prop):Prop :=
 ∀ (pins:List (Addr × Obj)) (s:Shared) (σ:St) (H:Hp) (x:V) (xs:List V) (v:Value) (us:List Value) (Q:VK),Inv X pins σ H s->RelV x v->Vals xs us->r x xs H Q ->
  wpAny (model X.prog X.w) X.A (call (.builtin id) (v :: us)) (EP X pins σ Q) X.xe s
theorem Vals.one:∀ {x:V} {us:List Value},Vals [x] us->∃ u,us=[u] /\ RelV x u
 | _,_,.cons r .nil=>⟨_,rfl,r⟩
theorem Vals.rep {xs:List V} {us:List Value} (h:Vals xs us):∀ k:Nat,Vals (List.replicate k xs).flatten (List.replicate k us).flatten
 | 0=>.nil
 | k + 1=>by
  rw [replicate_succ,replicate_succ,flatten_cons,flatten_cons]
  exact Vals.append h (Vals.rep h k)
theorem sr0 (its:List Value):∀ (k:Nat) (acc:List Value),
    List.foldl (λ x1 x2=>x1 ++ x2) acc.toArray (List.replicate k its.toArray)=(acc ++ (List.replicate k its).flatten).toArray
 | 0,acc=>by simp
 | k + 1,acc=>by
  have e:acc.toArray ++ its.toArray=(acc ++ its).toArray:=by simp
  have e2:(acc ++ its) ++ (List.replicate k its).flatten=acc ++ (List.replicate (k + 1) its).flatten:=by
   rw [replicate_succ,flatten_cons,append_assoc]
  rw [<- e2,<- sr0 its k (acc ++ its),<- e,replicate_succ,List.foldl_cons]
section
variable {X:Cx} {pins:List (Addr × Obj)} {σ:St} {H:Hp} {s:Shared} {l b:Addr} {xs ys zs:List V}
theorem Inv.lset {its its':List Value} {n:Nat} {f:Array Value->Array Value} {t':Nat} (I:Inv X pins σ H s) (hH:H l=some (.lst xs))
    (e:s.heap.get? l=some { cls:=.type "list",data:=.seq its.toArray n }) (hf:f its.toArray=its'.toArray) (hv:Vals ys its') (hz:ys.length<=sizeLine) :
    Inv X pins σ (upd H l (.lst ys)) { s with heap:=s.heap.update l (Obj.mapSeq f),toks:=t' }:=by
 have q:=PySem.IsL.update e f
 rw [hf] at q
 refine I.write (x:=l) (e:=l) (by rw [hH]; exact trivial) (.inl rfl) (λ b' u hb hu=>(Heap.get?_update_other s.heap (Obj.mapSeq f) (Ne.symm hb)).trans hu) ⟨_,q⟩ ?_
 exact ⟨hz,its',_,hv,q⟩
theorem Inv.lnew {its:List Value} {t':Nat} (I:Inv X pins σ H s) (hv:Vals ys its) (hz:ys.length<=sizeLine) :
    Inv X pins σ (upd H s.heap.objs.size (.lst ys)) { s with heap:=s.heap.push { cls:=.type "list",data:=.seq its.toArray },toks:=t' } :=
 I.laid (λ _ _ q=>Heap.get?_push_of_some _ q) (Nat.le_refl _) ⟨hz,its,0,hv,Heap.get?_push_size _ rfl⟩
theorem Inv.fresh (I:Inv X pins σ H s):H s.heap.objs.size=none:=I.hok.fresh (Nat.le_refl _)
theorem Inv.lstM (I:Inv X pins σ H s) (hH:H l=some (.lst xs)):xs.length<=sizeLine /\ ∃ (its:List Value) (n:Nat),Vals xs its /\ xs.length=its.length /\ s.heap.get? l=some { cls:=.type "list",data:=.seq its.toArray n }:=by
 obtain ⟨z,its,n,r,e⟩:=I.hok l _ hH
 exact ⟨z,its,n,r,r.length,e⟩
theorem tl1 {n:Nat} (h:n<=sizeLine):Builtin.List.listTooLong n=false:=by
 unfold Builtin.List.listTooLong
 exact decide_eq_false (by omega)
end
section
variable {X:Cx}
def yd3:V->List V->Hp->VK->Prop:=λ x vs H Q=>∃ l xs y,x=.ref l /\ vs=[y] /\ H l=some (.lst xs) /\ xs.length < sizeLine /\ Q .non (upd H l (.lst (xs ++ [y])))
theorem xr0:MtM X "list.append" yd3:=by
 intro pins s σ H x vs v us Q I rx rv h
 obtain ⟨l,xs,y,rfl,rfl,hH,hz,q⟩:=h
 cases rx
 obtain ⟨u,rfl,ru⟩:=rv.one
 obtain ⟨z,its,n,r,hl,e⟩:=I.lstM hH
 refine call_meets F.slot_list_append ⟨_,e,rfl⟩ F.entry_list_append (F.args_list_append_2 _ _) (PySem.list_append l its.toArray n u (by rw [size_toArray]; omega)) ⟨e,?_⟩
 refine ⟨.non,_,I.lset (its':=its ++ [u]) hH e (by simp) (r.append (.cons ru .nil)) ?_,rfl,q⟩
 rw [length_append,List.length_singleton]
 omega
def xd3:V->List V->Hp->VK->Prop:=λ x vs H Q=>∃ l b xs zs,x=.ref l /\ vs=[.ref b] /\ H l=some (.lst xs) /\ H b=some (.lst zs) /\ xs.length + zs.length<=sizeLine /\ Q .non (upd H l (.lst (xs ++ zs)))
theorem xc2:MtM X "list.extend" xd3:=by
 intro pins s σ H x vs v us Q I rx rv h
 obtain ⟨l,b,xs,zs,rfl,rfl,hH,hB,hz,q⟩:=h
 cases rx
 obtain ⟨u,rfl,ru⟩:=rv.one
 cases ru
 obtain ⟨z,its,n,r,hl,e⟩:=I.lstM hH
 obtain ⟨z2,its2,n2,r2,hl2,e2⟩:=I.lstM hB
 have hsz:its.toArray.size + its2.toArray.size<=sizeLine:=by rw [size_toArray,size_toArray]; omega
 have hlong:¬ (!its.toArray.isEmpty && Builtin.List.listTooLong (its.toArray.size + its2.toArray.size))=true:=by
  rw [tl1 hsz,Bool.and_false]
  exact Bool.false_ne_true
 refine call_meets F.slot_list_extend ⟨_,e,rfl⟩ F.entry_list_extend (F.args_list_extend_2 _ _)
  (AutoSeq1.list_extend_list_list_0 l its.toArray n b its2.toArray n2 hlong (by rw [size_toArray]; omega) (by omega)) ⟨e,e2,?_⟩
 refine ⟨.non,_,I.lset (its':=its ++ its2) hH e (by simp) (r.append r2) ?_,rfl,q⟩
 rw [length_append]
 omega
def rCat:R2:=λ x y H Q=>∃ l b xs zs,x=.ref l /\ y=.ref b /\ H l=some (.lst xs) /\ H b=some (.lst zs) /\ xs.length + zs.length<=sizeLine /\ ∀ p,H p=none->Q (.ref p) (upd H p (.lst (xs ++ zs)))
theorem op_cat:OpR X (binaryOp .Add) rCat:=by
 intro pins s σ H x y v u Q I rx ry h
 obtain ⟨l,b,xs,zs,rfl,rfl,hH,hB,hz,q⟩:=h
 cases rx
 cases ry
 obtain ⟨z,its,n,r,hl,e⟩:=I.lstM hH
 obtain ⟨z2,its2,n2,r2,hl2,e2⟩:=I.lstM hB
 refine PySem.P.add_list e e2 ?_ (by rw [size_toArray,size_toArray]; omega)
 have ea:its.toArray ++ its2.toArray=(its ++ its2).toArray:=by simp
 rw [ea]
 exact ⟨.ref _,_,I.lnew (t':=s.toks) (r.append r2) (by rw [length_append]; omega),rfl,q _ I.fresh⟩
def rRep:R2:=λ x y H Q=>∃ l k xs,x=.ref l /\ y=.int k /\ H l=some (.lst xs) /\ -(2 ^ 63)<=k /\ k < 2 ^ 63 /\ xs.length * k.toNat<=sizeLine ∧
 ∀ p,H p=none->Q (.ref p) (upd H p (.lst (List.replicate k.toNat xs).flatten))
theorem sh1 {α:Type} (xs:List α) (k:Nat):(List.replicate k xs).flatten.length=k * xs.length:=by
 induction k with
 | zero=>simp
 | succ k ih=>rw [replicate_succ,flatten_cons,length_append,ih,Nat.succ_mul,Nat.add_comm]
theorem zk4:OpR X (binaryOp .Mult) rRep:=by
 intro pins s σ H x y v u Q I rx ry h
 obtain ⟨l,k,xs,rfl,rfl,hH,h1,h2,hz,q⟩:=h
 cases rx
 obtain ⟨t,rfl⟩:=ry
 obtain ⟨z,its,n,r,hl,e⟩:=I.lstM hH
 have hlen:its.toArray.size * k.toNat<=sizeLine:=by rw [size_toArray,<- hl]; exact hz
 have hcap:¬ its.toArray.size * k.toNat > (2 ^ 63 - 1) / 8:=by
  have:(sizeLine:Nat)<=(2 ^ 63 - 1) / 8:=by decide
  omega
 have hfit:¬ (!Builtin.List.listFitsIndex k)=true:=by
  rw [fitsIndex_both h1 h2]
  exact Bool.false_ne_true
 have hlong:¬ Builtin.List.listTooLong (its.toArray.size * k.toNat)=true:=by
  rw [tl1 hlen]
  exact Bool.false_ne_true
 have hnew:List.foldl (λ x1 x2=>x1 ++ x2) #[] (List.replicate (if its.toArray.isEmpty=true then 0 else k.toNat) its.toArray)=(List.replicate k.toNat its).flatten.toArray:=by
  have f0:∀ m:Nat,List.foldl (λ x1 x2=>x1 ++ x2) #[] (List.replicate m its.toArray)=(List.replicate m its).flatten.toArray:=λ m=>by
   have:=sr0 its m []
   rw [nil_append] at this
   exact this
  rw [f0]
  cases its with
  | nil=>simp
  | cons a r'=>rw [if_neg (by simp)]
 refine wpAny_binaryOp_repeat_ref (T := "list") (U := "int") (by decide) ⟨_,e,rfl⟩ (λ s'=>typeIs_int s' k t) noFill_list_mul F.fills_int_mul F.slot_int_rmul repeat_list F.slot_int_index.lookup
  (call_meets F.slot_int_rmul (typeIs_int s k t) F.entry_int_rmul (F.args_int_rmul_2 _ _) (int___rmul___int_list k t l its.toArray n)
   ⟨e,rfl,⟨_,e,rfl⟩,call_meets F.slot_list_mul ⟨_,e,rfl⟩ F.entry_list_mul (F.args_list_mul_2 _ _) (AutoListH.list___mul___list_int_3 l its.toArray n k t hfit hcap hlong) ⟨e,?_⟩⟩)
 rw [hnew]
 exact ⟨.ref _,_,I.lnew (t':=s.toks) (r.rep k.toNat) (by rw [sh1,Nat.mul_comm]; exact hz),rfl,q _ I.fresh⟩
end
section
variable {prog:Program} {w:World} {A:Around} {E:Value->Shared->Prop} {s:Shared}
end
section
variable {X:Cx}
end
end L2
namespace Att
open PySem PySem.W PySem.Calls PyProof.Rows
theorem wr0 {P:Params} {h:Heap}:∀ (ns:List Int) (vs:List Value),WellAll P h vs (ns.map WData.int)->IntsAre vs ns:=by
 intro ns
 induction ns with
 | nil =>
  intro vs w
  rw [map_nil] at w
  cases w
  exact .nil
 | cons n ns ih =>
  intro vs w
  rw [map_cons] at w
  cases w with
  | cons a b =>
   cases a
   exact .cons _ _ (ih _ b)
theorem zy1 {l:OpenLaw} {n:Nat} (hn:l.most=some n) {P:Params} {h:Heap} {args:List WData} {vals:List Value}
    (hpre:l.row.toRowW.claim.pre args=true) (hwl:WellAll P h vals args) :
    ∃ a vs ns,vals=[Value.ref a] /\ args=[WData.list (ns.map WData.int)] /\ h.get? a=some { cls:=.type "list",data:=.seq vs.toArray } /\ IntsAre vs ns /\ ns.length<=n:=by
 have hsh:WShape.hasAll [] args [.list .int]=true:=(pre_splitW hpre).1
 have hc:l.pre.holds [] { args:=args }=true:=(pre_splitW hpre).2
 obtain ⟨d,r,rfl,h1,h2⟩:=hasAllW_cons hsh
 obtain rfl:=hasAllW_nil h2
 obtain ⟨xs,rfl,h3⟩:=hasW_list h1
 obtain ⟨ns,rfl⟩:=items_int h3
 have hlen:ns.length<=n:=by
  unfold OpenLaw.pre at hc
  have h4:(WTm.not (.lt (.lit (.int (n:Int))) (.len (.arg 0)))).holds [] { args:=[.list (ns.map .int)] }=true:=by
   have h4:=(holds_andW hc).1
   rw [hn] at h4
   exact h4
  have h5:=condW_of h4 (w_not (w_lt w_lit (w_len_list (w_arg rfl))))
  rw [length_map] at h5
  refine Nat.le_of_not_lt λ q=>?_
  have q':(n:Int) < ((ns.length:Nat):Int):=by omega
  first
   | (rw [decide_eq_true q'] at h5; exact absurd h5 (by decide))
   | (simp at h5; omega)
 cases hwl with
 | cons w1 w2 =>
  cases w2
  cases w1 with
  | list ho hall=>exact ⟨_,_,ns,rfl,rfl,ho,wr0 ns _ hall,hlen⟩
theorem xa2 (l:OpenLaw) (args:List WData):l.row.toRowW.claim.post args (.bool true) args=true :=
 postW_of (r:=l.row.toRowW) (X:=(true == true))
  (show WShape.has [] (.bool true) .bool=true by first | rfl | decide | simp [WShape.has,WShape.arms,WShape.armsAll])
  (show (WTm.eq .res (.lit (.bool true))).value [] { args:=args,res:=some (.bool true),after:=args }=some (.bool (true == true)) from w_eq_bool (w_res rfl) w_lit) rfl
theorem attach_call {l:OpenLaw} {n:Nat} {q:Program} {loose:List Str} {XP:(Str->Option Value)->Heap->Prop} {YP:World->Heap->Prop} {d:DefRec}
    (hn:l.most=some n) (hdf:d.params.defaults=[])
    (call:∀ (w:World) (s₀ s₁:Shared) (mg mb:Str->Option Value) (fa:Addr) (o:Obj) (pm cd doc:Value) (a:Addr) (vs:List Value) (ns:List Int),
     Ground q loose [] XP w s₀ mg mb s₁.heap->YP w s₁.heap ->
     s₁.heap.get? fa=some o->o.data=.func (docDef d.name d.params d.body d.scope pm cd doc)->s₁.heap.CodeRec cd d.name->mg d.name=some (.ref fa) ->
     s₁.heap.get? a=some { cls:=.type "list",data:=.seq vs.toArray }->IntsAre vs ns->ns.length<=n->s₁.gens = #[] ->
     codeAny (model l.prog w) callerA (.call (.ref fa) ⟨[.ref a],[]⟩) (λ r s'=>r=.ok (.ret (.bool true)) /\ OldK s₁.heap s'.heap /\ s'.os=s₁.os /\ AllBare s'.gens) s₁) :
    WalkO q loose XP YP l.row.toRowW d [] (λ f vs=>PySem.call f vs):=by
 intro w s₀ s₁ mg mb G Y fa o pm cd doc dV kV ho hd hcd hD hmg hg args vals as hpre hlay hrd hwl hlo
 obtain rfl:dV=.none:=Dflts.none hD hdf
 obtain rfl:kV=.none:=Dflts.noKw hD
 obtain ⟨a,vs,ns,rfl,rfl,hobj,hints,hlen⟩:=zy1 hn hpre hwl
 refine enter_call (codeAny_mono (call w s₀ s₁ mg mb fa o pm cd doc a vs ns G Y ho (fd_plain hd) hcd hmg hobj hints hlen hg) λ r s' hq=>?_)
 obtain ⟨rfl,h2,h3,h4⟩:=hq
 exact ⟨.inl ⟨.bool true,.bool true,[],rfl,λ _=>rfl,.bool true,xa2 l _,λ _=>⟨List.Pairwise.nil,λ _ hm=>(nomatch hm)⟩⟩,h2,h3,h4⟩
section
variable {prog:Program} {w:World} {A:Around} {E:Value->Shared->Prop} {s:Shared} {K:Frag}
def ledger (h:Heap) (L d:Addr):List (Addr × Obj):=(List.range h.objs.size).filterMap λ a=>if a=L \/ a=d then none else (h.get? a).map λ o=>(a,o)
end
end Att
namespace L2
open PySem PySem.Spec PyProof.Rows
theorem xb1:∀ {vs:List Value} {ns:List Int},IntsAre vs ns->Vals (ns.map V.int) vs
 | _,_,.nil=>.nil
 | _,_,.cons n t h=>.cons ⟨t,rfl⟩ (xb1 h)
def Only (H:Hp):Prop:=∀ b,H b=none \/ ∃ o xs,H b=some (.frz o (.lst xs))
theorem yp2 {P:Program} {w:World} {K:PySem.W.Frag} {mg mb:Str->Option Value} {CX:CXT} {k:Nat} {fa a:Addr} {fd:FuncData} {x:Str} {sp:Sp} {s₁:Shared} {vs:List Value} {ns:List Int}
    (KX:K.In s₁.heap) (hns:s₁.heap.Ns mainGlobals mg) (hb:s₁.heap.Ns builtinsNs mb) (hbb:∀ x:Str,x ≠ "__name__" -> mb x=bootBuiltins x) (hlim:s₁.heap.NoLimit) (hg:s₁.gens = #[])
    (ha:s₁.heap.get? a=some { cls:=.type "list",data:=.seq vs.toArray }) (hi:IntsAre vs ns) (hl:ns.length<=sizeLine) (hr:Room k callerA)
    (F:∀ base:Heap,K.In base->base.Ns mainGlobals mg->FnOk P w K mg base CX k fa fd [x] sp) (hbind:∀ (s:Shared) (u:Value),BindsTo s fd ⟨[u],[]⟩ [(x,u)])
    (hsp:∀ H:Hp,Only H->SqL K H a (ns.map V.int)->sp [.ref a] H (λ v _=>v=.bl true) λ _ _ _=>False)
    (hCX:∀ H e s',CX [] H s₁ (λ _ _ _=>False) e s'->False) :
    codeAny (model P w) callerA (.call (.ref fa) ⟨[.ref a],[]⟩) (λ r s'=>r=.ok (.ret (.bool true)) /\ OldK s₁.heap s'.heap /\ s'.os=s₁.os /\ AllBare s'.gens) s₁:=by
 have rv:=xb1 hi
 have lenV:=hi.length
 have core:∀ H:Hp,Only H->SqL K H a (ns.map V.int)->HOk P w H s₁.heap->(∀ b,H b ≠ none->b=a)->(H a ≠ none->K.lookup a=none) ->
     codeAny (model P w) callerA (.call (.ref fa) ⟨[.ref a],[]⟩) (λ r s'=>r=.ok (.ret (.bool true)) /\ OldK s₁.heap s'.heap /\ s'.os=s₁.os /\ AllBare s'.gens) s₁:=by
  intro H hO hS hok hA hK
  have base_of:∀ {b:Addr} {o:Obj},s₁.heap.get? b=some o->H b=none->(hidT s₁.heap H).get? b=some o:=λ e n=>zq2 e n
  have noA:∀ {b:Addr} {o:Obj} {es:Array DictEntry} {ep:Nat},s₁.heap.get? b=some o->o.data=.dict es ep->H b=none:=λ {b o es ep} e d=>by
   cases q:H b with
   | none=>rfl
   | some u =>
    have e':b=a:=hA b (by rw [q]; simp)
    subst e'
    rw [ha] at e; cases e
    have d':Data.seq vs.toArray _=Data.dict es ep:=d
    cases d'
  have nsK:∀ {b:Addr} {m:Str->Option Value},s₁.heap.Ns b m->(hidT s₁.heap H).Ns b m:=λ {b m} ⟨o,es,ep,e,d,r⟩=>⟨o,es,ep,base_of e (noA e d),d,r⟩
  have hKb:K.In (hidT s₁.heap H):=λ b o e=>base_of (KX b o e) (by
   cases q:H b with
   | none=>rfl
   | some u =>
    have e':b=a:=hA b (by rw [q]; simp)
    subst e'
    rw [hK (by rw [q]; simp)] at e; cases e)
  have hM:Mod K mg (hidT s₁.heap H):=⟨hKb,nsK hns,⟨mb,nsK hb,hbb⟩,let ⟨mc,h1,h2⟩:=hlim; ⟨mc,nsK h1,h2⟩⟩
  have e0:Env0 P w K mg (hidT s₁.heap H) callerA [] s₁ H:=⟨rfl,hM,λ b o e=>vh3 e,Nat.le_of_eq (ud2 _ _),trivial,λ b hb=>absurd (show b ∈ ([]:List Addr) from hb) (by simp),hok,.of_eq hg⟩
  refine codeAny_mono ((F _ hKb (nsK hns)).run callerA [] s₁ H ⟨[.ref a],[]⟩ [.ref a] [.ref a] _ _ hr e0 (hbind s₁ (.ref a)) (.cons rfl .nil) (hsp H hO hS)) λ r s' h=>?_
  cases r with
  | error e=>exact (hCX H e s' h).elim
  | ok fl =>
   cases fl with
   | next=>exact False.elim h
   | brk=>exact False.elim h
   | cont=>exact False.elim h
   | ret u =>
    obtain ⟨v,H',os,bare,un,hok',r',q⟩:=h
    have q':v=.bl true:=q
    subst q'
    obtain rfl:u=Value.bool true:=r'
    refine ⟨rfl,OldK.of_keep λ b o e=>?_,os,bare⟩
    cases q:H b with
    | none=>exact un.keep b o e q (by intro z; exact absurd (show b ∈ ([]:List Addr) from z) (by simp)) (by simp)
    | some u =>
     rcases hO b with z | ⟨ob,xs,z⟩
     ·rw [q] at z; cases z
     ·have z2:=un.frzs b ob _ z
      obtain ⟨e1,_⟩:=hok b _ z
      obtain ⟨e2,_⟩:=hok' b _ z2
      rw [e] at e1; cases e1
      exact e2
 cases hk:K.lookup a with
 | some o =>
  have e:=KX a o hk
  rw [ha] at e
  cases e
  refine core (λ _=>none) (λ _=>.inl rfl) (.inr ⟨_,vs.toArray,_,hk,rfl,rfl,rfl,by rw [size_toArray,lenV]; exact hl,by simpa using rv⟩) (λ b u z=>by have z':(none:Option HO)=some u:=z; cases z') (λ b z=>absurd rfl z) λ z=>absurd rfl z
 | none =>
  refine core (λ b=>if b=a then some (.frz { cls:=.type "list",data:=.seq vs.toArray } (.lst (ns.map V.int))) else none) (λ b=>?_) (.inl (.inr ⟨{ cls:=.type "list",data:=.seq vs.toArray },if_pos rfl⟩)) (λ b u z=>?_) (λ b z=>?_) λ _=>hk
  ·by_cases hb:b=a
   ·exact .inr ⟨_,_,if_pos hb⟩
   ·exact .inl (if_neg hb)
  ·by_cases hb:b=a
   ·have z':=(if_pos hb).symm.trans z
    cases z'
    subst hb
    exact ⟨ha,by rw [length_map]; exact hl,vs,_,rv,ha⟩
   ·have z':=(if_neg hb).symm.trans z
    cases z'
  ·by_cases hb:b=a
   ·exact hb
   ·exact absurd (if_neg hb) z
abbrev KOf {K:PySem.W.Frag} {h:Heap} (_:K.In h):PySem.W.Frag:=K
theorem walk_of {l:PySem.W.OpenLaw} {n k:Nat} {q:Program} {loose:List Str} {XP:(Str->Option Value)->Heap->Prop} {YP:World->Heap->Prop} {d:DefRec} {K:Params->PySem.W.Frag} {CX:World->CXT} {sp:World->Sp} {x:Str}
    (hn:l.most=some n) (hn2:n<=sizeLine) (hdf:d.params.defaults=[]) (hr:Room k callerA)
    (hY:∀ (w:World) (h:Heap),YP w h->(K w.params).In h)
    (F:∀ (w:World) (mg:Str->Option Value) (fa:Addr) (h:Heap),(K w.params).In h->h.Ns mainGlobals mg->mg d.name=some (.ref fa) ->
     ∃ fd:FuncData,(∀ (s:Shared) (u:Value),BindsTo s fd ⟨[u],[]⟩ [(x,u)]) ∧
      ∀ base:Heap,(K w.params).In base->base.Ns mainGlobals mg->FnOk l.prog w (K w.params) mg base (CX w) k fa fd [x] (sp w))
    (hsp:∀ (w:World) (H:Hp) (a:Addr) (ns:List Int),ns.length<=n->Only H->SqL (K w.params) H a (ns.map V.int)->sp w [.ref a] H (λ v _=>v=.bl true) λ _ _ _=>False)
    (hCX:∀ (w:World) (H:Hp) (s:Shared) (e:Value) (s':Shared),CX w [] H s (λ _ _ _=>False) e s'->False) :
    PySem.W.WalkO q loose XP YP l.row.toRowW d [] (λ f vs=>PySem.call f vs):=by
 refine Att.attach_call hn hdf λ w s₀ s₁ mg mb fa o pm cd doc a vs ns G Y ho hd hcd hmg hobj hints hlen hg=>?_
 have KX:=hY w _ Y
 obtain ⟨fd,hb,hF⟩:=F w mg fa _ KX G.T.g hmg
 exact yp2 KX G.T.g G.T.b G.T.builtins G.T.nolimit hg hobj hints (Nat.le_trans hlen hn2) hr hF hb (λ H hO hS=>hsp w H a ns hlen hO hS) λ H e s'=>hCX w H s₁ e s'
abbrev CX0:CXT:=λ _ _ _ _ _ _=>False
abbrev E0:XK:=λ _ _ _=>False
theorem vx4 {X:Cx}:yi2 CX0 X E0:=λ _ _ _ _ _ _ _ h=>h.elim
structure Fun (K:PySem.W.Frag) (x qual:Str) (st:Stmt) (f:Addr) (fd:FuncData):Prop where
 ex:∃ (oc:Value) (od:Option Addr) (kV doc pm:Value) (an:Option Addr) (cdv ct:Value) (osl:Array (Option Value)),
  fd=fnOf x qual (yk0 st) (zb0 st) (za0 st) .none kV doc pm an cdv ct /\ K.lookup f=some ⟨oc,od,.func fd,osl⟩ /\ codeIn K cdv qual=true
 kp:keepIn K (.ref f)=true
section
variable {P:Program} {w:World} {K:PySem.W.Frag} {mg:Str->Option Value} {base:Heap}
theorem Fun.ok {x qual:Str} {st:Stmt} {f:Addr} {fd:FuncData} {N ps:List Str} {k:Nat} {sp:Sp} (F:Fun K x qual st f fd) (S:FnScope N ps (za0 st)) (len:∀ vs H Q E,sp vs H Q E->vs.length=ps.length)
    (hbody:∀ (cdv:Value) (A:Around) (outer:List Env) (s:Shared) (H:Hp) (vs:List V) (Q:VK) (E:XK),Room k (A.deeper (envOfC qual (za0 st) s.heap.objs.size f cdv))->sp vs H Q E ->
     ∃ t,PSs (cxOf CX0 P w K mg base N qual (za0 st) f cdv A outer s H E).nox (zb0 st) t /\ t { nx:=λ _ H'=>Q .non H',rt:=Q } (start N vs) H):FnOk P w K mg base CX0 (k + 1) f fd ps sp:=by
 obtain ⟨oc,od,kV,doc,pm,an,cdv,ct,osl,rfl,lk,hcd⟩:=F.ex
 refine uz4 lk hcd S len λ A outer s H vs Q E hr hsp=>?_
 obtain ⟨t,h,q⟩:=hbody cdv A outer s H vs Q E hr hsp
 exact ⟨t,h.nox,q⟩
theorem Fun.binds {x qual:Str} {st:Stmt} {f:Addr} {fd:FuncData} {ps:List Str} (F:Fun K x qual st f fd)
    (h:∀ (kV doc pm:Value) (an:Option Addr) (cdv ct:Value) (us:List Value),us.length=ps.length->bindArgs (fnOf x qual (yk0 st) (zb0 st) (za0 st) .none kV doc pm an cdv ct) ⟨us,[]⟩=pure (ps.zip us)):Binds K fd ps []:=by
 obtain ⟨oc,od,kV,doc,pm,an,cdv,ct,osl,rfl,lk,hcd⟩:=F.ex
 exact .all (h kV doc pm an cdv ct)
theorem uw2 {x qual:Str} {st:Stmt} {f:Addr} {oc:Value} {od an:Option Addr} {osl:Array (Option Value)} {kV doc pm cdv ct:Value} (l:K.lookup f=some ⟨oc,od,.func (fnOf x qual (yk0 st) (zb0 st) (za0 st) .none kV doc pm an cdv ct),osl⟩)
    (c:codeIn K cdv qual=true) (k:keepIn K (.ref f)=true):Fun K x qual st f (fnOf x qual (yk0 st) (zb0 st) (za0 st) .none kV doc pm an cdv ct):=⟨⟨oc,od,kV,doc,pm,an,cdv,ct,osl,rfl,l,c⟩,k⟩
end
section
variable {X:Cx}
theorem pv (i:Nat) {x:Str} {pos:Pos} (hN:X.N[i]?=some x:=by rfl) (hv:Vis X.env.scope x:=by first | exact Or.inl rfl | exact Or.inr (Or.inl rfl) | exact Or.inr (Or.inr rfl)) (hd:(x == ("__debug__" : Str))=false:=by decide)
    (hcd:(x == ("__classdict__" : Str))=false:=by decide):PE X (.Name x pos) (tVar i):=tv2 hN hv hd hcd
end
def Same (H H':Hp):Prop:=∀ b o,H b=some o->H' b=some o
section
variable {κ:Type} [DecidableEq κ]
def valV (kvs:List (κ × V)) (k:κ):Option V:=(kvs.find? λ kv=>decide (kv.1=k)).map (·.2)
def putK (kvs:List (κ × V)) (k:κ) (v:V):List (κ × V) :=
 if (kvs.any λ kv=>decide (kv.1=k))=true then kvs.map (λ kv=>if kv.1=k then (kv.1,v) else kv) else kvs ++ [(k,v)]
theorem so0 {p:κ × V} {r:List (κ × V)} {k:κ} (e:p.1=k):valV (p :: r) k=some p.2:=by simp [valV,find?_cons,e]
theorem xp0 {p:κ × V} {r:List (κ × V)} {k:κ} (e:¬ p.1=k):valV (p :: r) k=valV r k:=by simp [valV,find?_cons,e]
theorem ww0 (k:κ):∀ kvs:List (κ × V),(kvs.any λ kv=>decide (kv.1=k))=(valV kvs k).isSome
 | []=>rfl
 | p :: r=>by
  rw [any_cons]
  by_cases e:p.1=k
  ·simp only [so0 e,decide_eq_true e,Bool.true_or,Option.isSome_some]
  ·rw [xp0 e,decide_eq_false e,Bool.false_or]; exact ww0 k r
theorem yr0 (kvs:List (κ × V)) (k:κ) (v:V):(putK kvs k v).length<=kvs.length + 1:=by
 unfold putK
 split
 ·rw [length_map]; omega
 ·rw [length_append,length_cons,length_nil]; omega
theorem RelO.isSome_eq {o:Option V} {u:Option Value} (r:RelO o u):o.isSome=u.isSome:=by
 cases o with
 | none=>cases u with
  | none=>rfl
  | some _=>exact (show False from r).elim
 | some _=>cases u with
  | none=>exact (show False from r).elim
  | some _=>rfl
theorem RelO.getD {o:Option V} {u:Option Value} {d:V} {d':Value} (r:RelO o u) (rd:RelV d d'):RelV (o.getD d) (u.getD d'):=by
 cases o with
 | none=>cases u with
  | none=>exact rd
  | some _=>exact (show False from r).elim
 | some _=>cases u with
  | none=>exact (show False from r).elim
  | some _=>exact r
theorem KV.val {kvs:List (κ × V)} {vs:List (κ × Value)} (r:KV kvs vs) (k:κ):RelO (valV kvs k) (valueAt vs k):=by
 unfold KV at r
 induction r with
 | nil=>exact True.intro
 | @cons p q ps qs h t ih =>
  obtain ⟨h1,h2⟩:=h
  by_cases e:p.1=k
  ·have e':q.1=k:=h1.symm.trans e
   have b:valueAt (q :: qs) k=some q.2:=by simp [valueAt,find?_cons,e']
   rw [so0 e,b]; exact h2
  ·have e':¬ q.1=k:=λ z=>e (h1.trans z)
   have b:valueAt (q :: qs) k=valueAt qs k:=by simp [valueAt,find?_cons,e']
   rw [xp0 e,b]; exact ih
theorem KV.any {kvs:List (κ × V)} {vs:List (κ × Value)} (r:KV kvs vs) (k:κ):(kvs.any λ kv=>decide (kv.1=k))=vs.any λ kv=>decide (kv.1=k):=by
 unfold KV at r
 induction r with
 | nil=>rfl
 | cons h t ih=>rw [any_cons,any_cons,ih,h.1]
theorem KV.repl {kvs:List (κ × V)} {vs:List (κ × Value)} (r:KV kvs vs) (k:κ) {y:V} {u:Value} (ry:RelV y u) :
    KV (kvs.map λ kv=>if kv.1=k then (kv.1,y) else kv) (vs.map λ kv=>if kv.1=k then (kv.1,u) else kv):=by
 unfold KV at r ⊢
 induction r with
 | nil=>exact .nil
 | @cons p q ps qs h t ih =>
  rw [map_cons,map_cons]
  refine .cons ?_ ih
  obtain ⟨h1,h2⟩:=h
  by_cases e:p.1=k
  ·rw [if_pos e,if_pos (h1.symm.trans e)]; exact ⟨h1,ry⟩
  ·rw [if_neg e,if_neg (λ z=>e (h1.trans z))]; exact ⟨h1,h2⟩
theorem KV.put {kvs:List (κ × V)} {vs:List (κ × Value)} (r:KV kvs vs) (k:κ) {y:V} {u:Value} (ry:RelV y u):KV (putK kvs k y) (stored vs k u):=by
 unfold putK stored
 rw [r.any k]
 by_cases e:(vs.any λ kv=>decide (kv.1=k))=true
 ·rw [if_pos e,if_pos e]; exact r.repl k ry
 ·rw [if_neg e,if_neg e]; exact Paired.snoc r ⟨rfl,ry⟩
theorem KV.length {kvs:List (κ × V)} {vs:List (κ × Value)} (r:KV kvs vs):kvs.length=vs.length:=Paired.length r
end
theorem su1 {P:Program} {w:World} {k:Key} {u:Value} (r:RelV (kV k) u):(te0 P w).is k u=true:=by
 cases k with
 | inl i=>obtain ⟨t,e⟩:=(show ∃ t,u=Value.int i t from r); subst e; exact uh1 P w i t
 | inr x=>obtain ⟨t,e⟩:=(show ∃ t,u=Value.str x t from r); subst e; exact vh1 P w x t
theorem zd1 {P:Program} {w:World}:∀ {ks:List Key} {us:List Value},Vals (ks.map kV) us->ItemsAre (te0 P w) ks us
 | [],_,r=>by rw [map_nil] at r; cases r; exact .nil
 | k :: ks,_,r=>by
  rw [map_cons] at r
  cases r with
  | cons h t=>exact .cons (su1 h) (zd1 t)
abbrev KT (H:Hp):List (List Key × V)->List (List Key × Addr × Value)->Prop:=Paired λ p q=>p.1=q.1 /\ H q.2.1=some (.tup (p.1.map kV)) /\ RelV p.2 q.2.2
theorem KT.val {H:Hp} {kvs:List (List Key × V)} {xs:List (List Key × Addr × Value)} (r:KT H kvs xs) (k:List Key):RelO (valV kvs k) ((atKey xs k).map (·.2)):=by
 induction r with
 | nil=>exact True.intro
 | @cons p q ps qs h t ih =>
  obtain ⟨h1,_,h2⟩:=h
  by_cases e:p.1=k
  ·have e':q.1=k:=h1.symm.trans e
   have b:atKey (q :: qs) k=some q.2:=by simp [atKey,find?_cons,e']
   rw [so0 e,b]; exact h2
  ·have e':¬ q.1=k:=λ z=>e (h1.trans z)
   have b:atKey (q :: qs) k=atKey qs k:=by simp [atKey,find?_cons,e']
   rw [xp0 e,b]; exact ih
theorem KT.repl {H:Hp} {kvs:List (List Key × V)} {xs:List (List Key × Addr × Value)} (r:KT H kvs xs) (k:List Key) {y:V} {u:Value} (ry:RelV y u) :
    KT H (kvs.map λ kv=>if kv.1=k then (kv.1,y) else kv) (xs.map (putAt k u)):=by
 induction r with
 | nil=>exact .nil
 | @cons p q ps qs h t ih =>
  rw [map_cons,map_cons]
  refine .cons ?_ ih
  obtain ⟨h1,h2,h3⟩:=h
  unfold putAt
  by_cases e:p.1=k
  ·rw [if_pos e,if_pos (h1.symm.trans e)]; exact ⟨h1,h2,ry⟩
  ·rw [if_neg e,if_neg (λ z=>e (h1.trans z))]; exact ⟨h1,h2,h3⟩
theorem KT.put {H:Hp} {kvs:List (List Key × V)} {xs:List (List Key × Addr × Value)} (r:KT H kvs xs) (k:List Key) {b:Addr} {y:V} {u:Value} (hb:H b=some (.tup (k.map kV))) (ry:RelV y u) :
    KT H (putK kvs k y) (storedH xs k b u):=by
 have e:(kvs.any λ kv=>decide (kv.1=k))=(atKey xs k).isSome:=by
  rw [ww0,(r.val k).isSome_eq,Option.isSome_map]
 unfold putK storedH
 rw [e]
 by_cases q:(atKey xs k).isSome=true
 ·rw [if_pos q,if_pos q]; exact r.repl k ry
 ·rw [if_neg q,if_neg q]; exact Paired.snoc r ⟨rfl,hb,ry⟩
theorem KT.keeps {H H':Hp} {kvs:List (List Key × V)} {xs:List (List Key × Addr × Value)} (r:KT H kvs xs) (ht:∀ b ys,H b=some (.tup ys)->H' b=some (.tup ys)):KT H' kvs xs :=
 Paired.mapP r λ _ _ z=>⟨z.1,ht _ _ z.2.1,z.2.2⟩
section
variable {prog:Program} {w:World} {K:Type} [DecidableEq K] {knd:HeapKind prog w K} {A:Around} {E:Value->Shared->Prop} {s:Shared}
def DHe (knd:HeapKind prog w K) (h:Heap) (d:Addr) (xs:List (K × Addr × Value)) (ep:Nat):Prop :=
 ∃ o es,h.get? d=some o /\ o.ExactDict /\ o.data=.dict es ep /\ es.toList=xs.map (entryOfKey knd) /\ (∀ x ∈ xs,knd.is h x.1 x.2.1) /\ (xs.map (·.1)).Nodup
theorem DHe.of {h:Heap} {d:Addr} {xs:List (K × Addr × Value)} {ep:Nat} (x:DHe knd h d xs ep):h.DictOfH knd d xs:=by
 obtain ⟨o,es,a⟩:=x; exact ⟨o,es,ep,a⟩
theorem DHe.new {d a:Addr} {xs:List (K × Addr × Value)} {k:K} {v:Value} {o:Obj} {es:Array DictEntry} {ep:Nat} {hs:Int} (ho:s.heap.get? d=some o) (hc:o.ExactDict) (hd:o.data=.dict es ep) (he:es.toList=xs.map (entryOfKey knd))
    (his:∀ x ∈ xs,knd.is s.heap x.1 x.2.1) (hn:(xs.map (·.1)).Nodup) (hkey:knd.is s.heap k a) (hno:∀ (j:Nat) (p:Addr × Value),xs[j]? ≠ some (k,p)) (eh:entryOfKey knd (k,a,v)=⟨hs,.ref a,v⟩) :
    DHe knd (s.heap.update d (Obj.mapDictKeys (·.push ⟨hs,.ref a,v⟩))) d (storedH xs k a v) (ep + 1):=by
 have hnot:k ∉ xs.map (·.1):=not_mem_keys_of_get hno
 rw [storedH_new (atKey_none_of_get hno)]
 refine ⟨_,_,Heap.get?_update_self _ ho (Obj.isFreed_of_dict (Obj.data_mapDictKeys hd _)),hc.mapDictKeys _,Obj.data_mapDictKeys hd _,by simp [he,eh],λ c mc=>?_,?_⟩
 ·rcases List.mem_append.mp mc with mc | mc; · exact knd.keeps (his c mc) ho hd (Heap.SameBut.update ..)
  rw [mem_singleton] at mc; subst mc; exact knd.keeps hkey ho hd (Heap.SameBut.update ..)
 ·rw [map_append,List.nodup_append]; refine ⟨hn,by simp,λ c mc c' mc'=>?_⟩
  have e':c'=k:=by simpa using mc'
  subst e'; exact λ e=>hnot (e ▸ mc)
theorem wt3 {d a:Addr} {xs:List (K × Addr × Value)} {k:K} {v:Value} {ep:Nat} {Q:Unit->Shared->Prop} (hu:knd.room A.in1) (hkey:knd.is s.heap k a) (hm:DHe knd s.heap d xs ep) (hsz:xs.length<=sizeLine)
    (hQ:∀ h' ep',ep'=(if (atKey xs k).isSome then ep else ep + 1)->DHe knd h' d (storedH xs k a v) ep'->Heap.SameBut d s.heap h'->Q () { s with heap:=h',toks:=s.toks + knd.draws k }) :
    wpAny (model prog w) A (setItem (.ref d) (.ref a) v) Q E s:=by
 have ty:=hm.of.typeIs
 obtain ⟨o,es,ho,hc,hd,he,his,hn⟩:=hm
 unfold setItem; try with_reducible refine wpAny_holding ?_
 refine wpAny_bind (wpAny_sequenceKey ty (by decide) (wpAny_bind (wpAny_callSpecial?_slot (name:=Str.ofString "__setitem__") ty slot_dict_setitem (wpAny_call_entry slot_dict_setitem ty entry_dict_setitem ?_ (args_dict_setitem _ _ _)))))
 refine (show wpAny _ _ (Builtin.Dict.notOrdered "__setitem__" ⟨[.ref d,.ref a,v],[]⟩ >>= _) _ _ s from wpAny_bind (wpAny_notOrdered_dict ty ?_))
 refine (show wpAny _ _ (dictSet d (.ref a) v >>= _) _ _ s from wpAny_bind ?_)
 unfold dictSet; try with_reducible refine wpAny_holding ?_
 refine wpAny_bind (knd.pyHash hu hkey ?_); unfold dictSetHashed; try with_reducible refine wpAny_holding ?_
 refine wpAny_bind (wpAny_dictFind_heap (s:={ s with toks:=s.toks + knd.draws k }) hu hkey ho hd he his hn (λ hno=>?_) λ j p hj=>?_)
 ·refine wpAny_bind (wpAny_rule (wpAny_updateDictKeys (hz:=by have e:=size_of_entries he; omega) (s:={ s with toks:=s.toks + knd.draws k }) ho hd (wpAny_pure ⟨.none,rfl,wpAny_pure (hQ _ (ep + 1) (by rw [atKey_none_of_get hno]; rfl) (DHe.new ho hc hd he his hn hkey hno rfl) (Heap.SameBut.update ..))⟩)))
 ·have ak:=atKey_of_get hn hj
  refine wpAny_bind (wpAny_rule (wpAny_bind (wpAny_updateDict (s:={ s with toks:=s.toks + knd.draws k }) ho hd (wpAny_point (wpAny_pure ⟨.none,rfl,wpAny_pure (hQ _ ep (by rw [ak]; rfl) ⟨_,_,Heap.get?_update_self _ ho (Obj.isFreed_of_dict (Obj.data_mapDict hd _)),hc.mapDict _,Obj.data_mapDict hd _,?_,?_,?_⟩ (Heap.SameBut.update ..))⟩)))))
  ·rw [storedH_old ak]; have z:=modify_map_putAt (entryOfKey knd) (λ e:DictEntry=>{ e with val:=v }) k v (λ _ _=>rfl) hn hj
   rw [<- he] at z; obtain ⟨l⟩:=es; simpa using z
  ·rw [storedH_old ak]; intro c mc; obtain ⟨y,my,rfl⟩:=List.mem_map.mp mc; unfold putAt; split <;> exact knd.keeps (his y my) ho hd (Heap.SameBut.update ..)
  ·rw [storedH_old ak,keys_map_putAt]; exact hn
end
theorem yi3 {κ:Type} [DecidableEq κ] (kvs:List (κ × V)) (k:κ) (v:V):(putK kvs k v).length=if (valV kvs k).isSome then kvs.length else kvs.length + 1:=by
 unfold putK; rw [ww0]; split <;> simp
section
variable {P:Program} {w:World} {H:Hp} {h:Heap} {a:Addr}
theorem wg4 {u:HO} (ok:HOk P w H h) (e:Rd H a u):ObjOk P w H h a u:=e.ok ok
theorem yv1 {kvs:List (Key × V)} (ok:HOk P w H h) (e:Rd H a (.dK kvs)):kvs.length<=sizeLine /\ (a == sysModules)=false /\ ∃ vs,KV kvs vs /\ h.DictOf (te0 P w) a vs :=
 show ObjOk P w H h a (.dK kvs) from wg4 ok e
theorem sz4 {kvs:List (Key × V)} (ok:HOk P w H h) (e:H a=some (.dK kvs)):kvs.length<=sizeLine /\ (a == sysModules)=false /\ ∃ vs,KV kvs vs /\ h.DictOf (te0 P w) a vs:=yv1 ok (.inl e)
theorem zv0 {ks:List Key} (ok:HOk P w H h) (e:H a=some (.tup (ks.map kV))):(tupleKind (te0 P w)).is h ks a:=by
 obtain ⟨_,its,r,o,h1,h2,n,h3⟩:=(show ObjOk P w H h a (.tup (ks.map kV)) from ok a _ e)
 exact ⟨o,its.toArray,n,h1,h2,h3,by simpa using zd1 r⟩
theorem zo4 {kvs:List (List Key × V)} (ok:HOk P w H h) (e:Rd H a (.dT kvs)):kvs.length<=sizeLine /\ (a == sysModules)=false ∧
    ∃ xs,KT H kvs xs /\ DHe (tupleKind (te0 P w)) h a xs kvs.length:=by
 obtain ⟨z,y,xs,r,o,es,ep,h1,h2,h3,h4,h5,h6⟩:=(show ObjOk P w H h a (.dT kvs) from wg4 ok e)
 subst h6
 refine ⟨z,y,xs,r,o,es,h1,h2,h3,h4,λ x hx=>?_,h5⟩
 have all:∀ {l:List (List Key × V)} {m:List (List Key × Addr × Value)},KT H l m->∀ x ∈ m,(tupleKind (te0 P w)).is h x.1 x.2.1:=by
  intro l m q
  induction q with
  | nil=>intro x hx; exact nomatch hx
  | @cons p q ps qs hq t ih =>
   intro x hx
   rcases List.mem_cons.mp hx with e | hx
   ·subst e
    exact zv0 ok (by rw [<- hq.1]; exact hq.2.1)
   ·exact ih x hx
 exact all r x hx
theorem xf2 {kvs:List (List Key × V)} (ok:HOk P w H h) (e:Rd H a (.dT kvs)):kvs.length<=sizeLine /\ (a == sysModules)=false /\ ∃ xs,KT H kvs xs /\ h.DictOfH (tupleKind (te0 P w)) a xs:=by
 obtain ⟨z,y,xs,r,d⟩:=zo4 ok e; exact ⟨z,y,xs,r,d.of⟩
end
def DGet (H:Hp) (a:Addr) (y:V) (r:Option V):Prop :=
 (∃ kvs k,Rd H a (.dK kvs) /\ y=kV k /\ r=valV kvs k) \/ ∃ kvs k b,Rd H a (.dT kvs) /\ y=.ref b /\ H b=some (.tup (k.map kV)) /\ r=valV kvs k
def DPut (H:Hp) (a:Addr) (y v:V) (H':Hp):Prop :=
 (∃ kvs k,H a=some (.dK kvs) /\ y=kV k /\ kvs.length < sizeLine /\ H'=upd H a (.dK (putK kvs k v))) ∨
 ∃ kvs k b,H a=some (.dT kvs) /\ y=.ref b /\ H b=some (.tup (k.map kV)) /\ kvs.length < sizeLine /\ H'=upd H a (.dT (putK kvs k v))
theorem DGet.t {H:Hp} {a b:Addr} {kvs:List (List Key × V)} {k:List Key} (e:H a=some (.dT kvs)) (eb:H b=some (.tup (k.map kV))):DGet H a (.ref b) (valV kvs k):=.inr ⟨kvs,k,b,.inl e,rfl,eb,rfl⟩
theorem DPut.t {H:Hp} {a b:Addr} {kvs:List (List Key × V)} {k:List Key} {v:V} (e:H a=some (.dT kvs)) (eb:H b=some (.tup (k.map kV))) (hl:kvs.length < sizeLine) :
    DPut H a (.ref b) v (upd H a (.dT (putK kvs k v))):=.inr ⟨kvs,k,b,e,rfl,eb,hl,rfl⟩
section
variable {X:Cx} {pins:List (Addr × Obj)} {σ:St} {H:Hp} {s:Shared} {a:Addr} {y v:V} {u r:Value} {o:Option V} {A:Around} {E:Value->Shared->Prop}
theorem Inv.big (I:Inv X pins σ H s):sysModules < s.heap.objs.size:=by
 have h:mainGlobals < s.heap.objs.size:=(I.mod.glob.keeps I.bk).lt
 exact Nat.lt_trans (by decide) h
theorem sf2 {Q:Value->Shared->Prop} (hu:A.units + 1 < cLine) (I:Inv X pins σ H s) (g:DGet H a y (some v)) (ry:RelV y u) (h:∀ w' s',Inv X pins σ H s'->RelV v w'->Q w' s') :
    wpAny (model X.prog X.w) A (getItem (.ref a) u) Q E s:=by
 rcases g with ⟨kvs,k,e,ey,l⟩ | ⟨kvs,k,b,e,ey,eb,l⟩
 ·subst ey
  obtain ⟨z,hd,vs,rel,dd⟩:=yv1 I.hok e
  obtain ⟨w',hw,rw'⟩:=RelO.some_of (v:=v) (o:=valueAt vs k) (by rw [l]; exact rel.val k)
  exact wpAny_getItem_of (su1 ry) dd.mapOf hw (h w' _ (I.tok _) rw')
 ·subst ey
  cases (show u=Value.ref b from ry)
  obtain ⟨z,hd,xs,rel,dd⟩:=xf2 I.hok e
  obtain ⟨w',hw,rw'⟩:=RelO.some_of (v:=v) (o:=(atKey xs k).map (·.2)) (by rw [l]; exact rel.val k)
  obtain ⟨p,hp,hp2⟩:=Option.map_eq_some_iff.mp hw
  refine wpAny_getItem_heap (tupleKind_room_in1 hu) (zv0 I.hok eb) dd hp ?_
  rw [hp2]
  exact h w' _ (I.tok _) rw'
theorem d_in {Q:Value->Shared->Prop} (hu:A.units + 1 < cLine) (I:Inv X pins σ H s) (g:DGet H a y o) (ry:RelV y u) (h:∀ s',Inv X pins σ H s'->Q (.bool o.isSome) s') :
    wpAny (model X.prog X.w) A (compareOp .In u (.ref a)) Q E s:=by
 rcases g with ⟨kvs,k,e,ey,l⟩ | ⟨kvs,k,b,e,ey,eb,l⟩
 ·subst ey
  obtain ⟨z,hd,vs,rel,dd⟩:=yv1 I.hok e
  refine wpAny_in_of (su1 ry) hd dd.mapOf ?_
  rw [<- (rel.val k).isSome_eq,<- l]
  exact h _ (I.tok _)
 ·subst ey
  cases (show u=Value.ref b from ry)
  obtain ⟨z,hd,xs,rel,dd⟩:=xf2 I.hok e
  refine wpAny_in_heap (tupleKind_room_in1 hu) (zv0 I.hok eb) hd dd ?_
  have q:=(rel.val k).isSome_eq
  rw [Option.isSome_map] at q
  rw [<- q,<- l]
  exact h _ (I.tok _)
theorem xk3 {Q:Value->Shared->Prop} (hu:A.units + 1 < cLine) (I:Inv X pins σ H s) (g:DGet H a y o) (ry:RelV y u) (h:∀ s',Inv X pins σ H s'->Q (.bool (!o.isSome)) s') :
    wpAny (model X.prog X.w) A (compareOp .NotIn u (.ref a)) Q E s:=by
 rcases g with ⟨kvs,k,e,ey,l⟩ | ⟨kvs,k,b,e,ey,eb,l⟩
 ·subst ey
  obtain ⟨z,hd,vs,rel,dd⟩:=yv1 I.hok e
  refine wpAny_notIn_of (su1 ry) hd dd.mapOf ?_
  rw [<- (rel.val k).isSome_eq,<- l]
  exact h _ (I.tok _)
 ·subst ey
  cases (show u=Value.ref b from ry)
  obtain ⟨z,hd,xs,rel,dd⟩:=xf2 I.hok e
  refine wpAny_notIn_heap (tupleKind_room_in1 hu) (zv0 I.hok eb) hd dd ?_
  have q:=(rel.val k).isSome_eq
  rw [Option.isSome_map] at q
  rw [<- q,<- l]
  exact h _ (I.tok _)
theorem uf2 {h':Heap} {t':Nat} {ob:HO} (I:Inv X pins σ H s) (mu:Mut (H a)) (hs:Heap.SameBut a s.heap h') (he:∃ q,h'.get? a=some q) (new:ObjOk X.prog X.w (upd H a ob) h' a ob) :
    Inv X pins σ (upd H a ob) { s with heap:=h',toks:=t' } :=
 I.write (x:=a) (e:=a) mu (.inl rfl) (λ b q hb z=>(hs.2 b hb).trans z) he new
theorem uo4 {P:Program} {w:World} {H':Hp} {h':Heap} {kvs:List (Key × V)} {vs:List (Key × Value)} (z:kvs.length<=sizeLine) (hd:(a == sysModules)=false) (rel:KV kvs vs) (dd:h'.DictOf (te0 P w) a vs) :
    ObjOk P w H' h' a (.dK kvs):=⟨z,hd,vs,rel,dd⟩
theorem tf2 {H':Hp} {Q:Unit->Shared->Prop} (hu:A.units + 1 < cLine) (I:Inv X pins σ H s) (g:DPut H a y v H') (ry:RelV y u) (rv:RelV v r) (h:∀ s',Inv X pins σ H' s'->Q () s') :
    wpAny (model X.prog X.w) A (setItem (.ref a) u r) Q E s:=by
 rcases g with ⟨kvs,k,e,ey,l,eH⟩ | ⟨kvs,k,b,e,ey,eb,l,eH⟩
 ·subst ey eH
  obtain ⟨z,hd,vs,rel,dd⟩:=sz4 I.hok e
  have hz:vs.length<=sizeLine:=by rw [<- rel.length]; exact z
  have hl:(putK kvs k v).length<=sizeLine:=by have:=yr0 kvs k v; omega
  refine wpAny_setItem_pairs (hsz:=hz) (su1 ry) dd λ h' dd' hs=>h _ ?_
  have he:∃ q,h'.get? a=some q:=let ⟨q,_,_,hq,_⟩:=dd'; ⟨q,hq⟩
  exact uf2 I (by rw [e]; exact True.intro) hs he (uo4 hl hd (rel.put k rv) dd')
 ·subst ey eH
  cases (show u=Value.ref b from ry)
  obtain ⟨z,hd,xs,rel,dd⟩:=zo4 I.hok (.inl e)
  have hz:xs.length<=sizeLine:=by rw [<- Paired.length rel]; exact z
  have hl:(putK kvs k v).length<=sizeLine:=by have:=yr0 kvs k v; omega
  refine wt3 (tupleKind_room_in1 hu) (zv0 I.hok eb) dd hz λ h' ep' e1 dd' hs=>h _ ?_
  obtain ⟨q,es,hq,h2,h3,h4,_,h5⟩:=dd'
  have e2:ep'=(putK kvs k v).length:=by rw [e1,yi3,(rel.val k).isSome_eq,Option.isSome_map]
  refine uf2 I (by rw [e]; exact True.intro) hs ⟨q,hq⟩ ⟨hl,hd,_,(rel.put k eb rv).keeps λ c ys ec=>?_,q,es,ep',hq,h2,h3,h4,h5,e2⟩
  rw [tc0 (sb2 ec e (λ z=>nomatch z))]
  exact ec
end
section
variable {X:Cx} {pins:List (Addr × Obj)} {σ:St} {H:Hp} {s:Shared} {a:Addr} {kvs:List (Key × V)} {k:Key} {u:Value} {A:Around} {E:Value->Shared->Prop}
end
def NoSl (i:Expr):Prop:=∀ ov iv,subscripted i false ov iv=operate [ov,iv] (getItem ov iv)
theorem ua3 {prog:Program} {w:World} {A:Around} {E:Value->Shared->Prop} {s:Shared} {env:Env} {value slice:Expr} {pos:Pos} {T id:String} {Q:Value->Shared->Prop}
    (hl:typeLookup (.type T) "__getitem__" = pure (some (.builtin id))) (hs:NoSl slice)
    (h:wpAny (model prog w) A (eval value env) (λ o s₁=>wpAny (model prog w) A (eval slice env) (λ i s₂=>s₂.TypeIs o T /\ wpAny (model prog w) A (getItem o i) Q E s₂) E s₁) E s) :
    wpAny (model prog w) A (eval (.Subscript value slice pos) env) Q E s:=by
 refine Subscript_ (wpAny_mono h (λ o s₁ h₁=>wpAny_mono h₁ (λ i s₂ h₂=>?_) λ _ _ x=>x) λ _ _ x=>x)
 obtain ⟨hT,h₂⟩:=h₂
 unfold subscriptTail
 refine wpAny_bind ?_
 rw [getitemInPython_of_ne hT.not_modules]
 refine wpAny_bind (wpAny_specialOf hT hl ?_)
 have fin:wpAny (model prog w) A (subscripted slice false o i) (λ r s₃=>wpAny (model prog w) A (letTemporaryGo value o r >>= λ _=>pure r) Q E s₃) E s₂:=by
  rw [hs o i]
  exact wpAny_operating (wpAny_mono h₂ (λ r s₃ h₃=>wpAny_bind (wpAny_letTemporaryGo (wpAny_pure h₃))) λ _ _ x=>x)
 first
  | exact wpAny_pure (wpAny_bind fin)
  | exact wpAny_bind (wpAny_pure (wpAny_bind fin))
  | exact wpAny_bind fin
theorem vi1 {X:Cx} {pins:List (Addr × Obj)} {σ:St} {H:Hp} {s:Shared} {a:Addr} {y:V} {o:Option V} (I:Inv X pins σ H s) (g:DGet H a y o):s.TypeIs (.ref a) "dict" := by
 rcases g with ⟨kvs,k,e,_,_⟩ | ⟨kvs,k,b,e,_,_,_⟩
 ·obtain ⟨_,_,vs,_,dd⟩:=yv1 I.hok e
  exact dd.typeIs
 ·obtain ⟨_,_,xs,_,dd⟩:=xf2 I.hok e
  exact dd.typeIs
def zr4 (td ty:TE):TE:=λ σ H Q=>td σ H λ x H1=>ty σ H1 λ y H2=>∃ a v,x=.ref a /\ DGet H2 a y (some v) /\ Q v H2
def vs4 (td ty tv:TE):TS:=λ D σ H=>tv σ H λ v H1=>td σ H1 λ x H2=>ty σ H2 λ y H3=>∃ a H4,x=.ref a /\ DPut H3 a y v H4 /\ D.nx σ H4
section
variable {X:Cx} {o i e value:Expr} {pos pos' tpos:Pos} {td ty tv:TE}
theorem xg3 (hu:X.A.units + 1 < cLine) (ho:PE X o td) (hi:PE X i ty) (hs:NoSl i):PE X (.Subscript o i pos) (zr4 td ty):=by
 intro pins s σ H Q I h
 refine ua3 PySem.F.slot_dict_getitem.lookup hs (thn (ho pins s σ H _ I h) λ u s1 ⟨x,H1,I1,rx,q1⟩=>thn (hi pins s1 σ H1 _ I1 q1) λ iv s2 ⟨y,H2,I2,ry,a,v,ex,g,q2⟩=>?_)
 subst ex
 obtain rfl:u=Value.ref a:=rx
 exact ⟨vi1 I2 g,sf2 hu I2 g ry λ w' s3 I3 rw'=>⟨v,H2,I3,rw',q2⟩⟩
theorem xf3 (hu:X.A.units + 1 < cLine) (ho:PE X o td) (hi:PE X i ty) (hv:PE X value tv) (hs:swapsWith value (some (.Subscript o i pos')) pos.line X.env=pure false) :
    PS X (.Assign [.Subscript o i pos'] value pos) (vs4 td ty tv):=by
 intro pins s σ H D I h
 refine wpAny_Assign_Subscript (thn (hv pins s σ H _ I h) λ r s1 ⟨v,H1,I1,rv,q1⟩=>thn (ho pins s1 σ H1 _ I1 q1) λ u s2 ⟨x,H2,I2,rx,q2⟩=>thn (hi pins s2 σ H2 _ I2 q2) λ iv s3 ⟨y,H3,I3,ry,a,H4,ex,g,q3⟩=>?_) hs
 subst ex
 obtain rfl:u=Value.ref a:=rx
 exact tf2 hu I3 g ry rv λ s4 I4=>⟨σ,H4,I4,q3⟩
end
theorem uq2 {P:Program} {w:World} {H:Hp} (h:Heap) (hb:sysModules < h.objs.size):ObjOk P w H (h.push { cls:=.type "dict",data:=.dict #[] }) h.objs.size (.dT []) :=
 ⟨Nat.zero_le _,beq_eq_false_iff_ne.mpr (Ne.symm (Nat.ne_of_lt hb)),[],.nil,_,#[],0,Heap.get?_push_size _ rfl,⟨rfl,rfl,rfl⟩,rfl,rfl,List.nodup_nil,rfl⟩
def ws3:TE:=λ _ H Q=>∀ p,H p=none->Q (.ref p) (upd H p (.dT []))
section
variable {X:Cx} {pos:Pos}
theorem vn2:PE X (.Dict [] [] pos) ws3:=λ pins s σ H Q I h =>
 wpAny_Dict_empty ⟨.ref s.heap.objs.size,_,I.laid (a:=s.heap.objs.size) (o:=.dT []) (t':=s.toks) (λ _ _ q=>Heap.get?_push_of_some _ q) (Nat.le_refl _) (uq2 s.heap I.big),rfl,h _ (I.hok.fresh (Nat.le_refl _))⟩
end
structure M1 (X:Cx) (o:Expr) (m:Str) (apos:Pos) (e:Expr) (cpos:Pos):Prop where
 base:attributeBase o m X.env (eval o X.env)=eval o X.env
 few:((backTo cpos (starEach [e] X.env)).all (λ x=>!x.1) && (backToKw cpos (keywordEach [] X.env)).all (λ x=>x.1.isSome)
  && decide (([e]:List Expr).length + ([]:List Keyword).length + (if ([]:List Keyword).isEmpty then 0 else 1) < 30))=true
 line:(apos.endLine == cpos.line)=true
 trees:backTo cpos (starEach [e] X.env)=[(false,eval e X.env)]
structure M2 (X:Cx) (o:Expr) (m:Str) (apos:Pos) (e f:Expr) (cpos:Pos):Prop where
 base:attributeBase o m X.env (eval o X.env)=eval o X.env
 few:((backTo cpos (starEach [e,f] X.env)).all (λ x=>!x.1) && (backToKw cpos (keywordEach [] X.env)).all (λ x=>x.1.isSome)
  && decide (([e,f]:List Expr).length + ([]:List Keyword).length + (if ([]:List Keyword).isEmpty then 0 else 1) < 30))=true
 line:(apos.endLine == cpos.line)=true
 trees:backTo cpos (starEach [e,f] X.env)=[(false,eval e X.env),(false,eval f X.env)]
section
variable {X:Cx} {pins:List (Addr × Obj)} {σ:St} {H:Hp} {s:Shared} {a:Addr} {y d:V} {u r:Value} {o:Option V} {A:Around} {E:Value->Shared->Prop}
theorem to4 {Q:Value->Shared->Prop} (hu:A.units + 1 < cLine) (I:Inv X pins σ H s) (g:DGet H a y o) (ry:RelV y u) (rd:RelV d r) (h:∀ w' s',Inv X pins σ H s'->RelV (o.getD d) w'->Q w' s') :
    wpAny (model X.prog X.w) A (call (.builtin "dict.get") [.ref a,u,r]) Q E s:=by
 rcases g with ⟨kvs,k,e,ey,l⟩ | ⟨kvs,k,b,e,ey,eb,l⟩
 ·subst ey
  obtain ⟨z,hd,vs,rel,dd⟩:=yv1 I.hok e
  refine call_meetsIn slot_dict_get dd.typeIs entry_dict_get (PySem.F.args_dict_get_3 _ _ _) (meets_dict_get_default (te0 X.prog X.w) a (su1 ry) hd r) ⟨_,dd.mapOf,h _ _ (I.tok _) ?_⟩
  rw [l]
  exact (rel.val k).getD rd
 ·subst ey
  cases (show u=Value.ref b from ry)
  obtain ⟨z,hd,xs,rel,dd⟩:=xf2 I.hok e
  refine call_meetsIn slot_dict_get dd.typeIs entry_dict_get (PySem.F.args_dict_get_3 _ _ _) (meetsH_dict_get_default (tupleKind (te0 X.prog X.w)) a b hd r) ⟨tupleKind_room_in1 hu,k,xs,zv0 I.hok eb,dd,h _ _ (I.tok _) ?_⟩
  rw [l]
  exact (rel.val k).getD rd
end
section
variable {X:Cx} {o e f:Expr} {apos cpos:Pos} {td ty tx:TE}
end
section
variable {X:Cx} {pins:List (Addr × Obj)} {σ:St} {H:Hp} {s:Shared} {a:Addr} {kvs:List (Key × V)} {A:Around} {E:Value->Shared->Prop}
end
section
variable {X:Cx} {pins:List (Addr × Obj)} {σ:St} {H:Hp} {s:Shared} {a:Addr} {y:V} {u:Value} {A:Around} {E:Value->Shared->Prop}
end
end L2
namespace Pv
open PySem
inductive D where
 | non | bl (b:Bool) | int (i:Int) | str (x:Str) | tup (l:List D) | fls (l:List D) | ref (a:Addr) | ty (n:String) | exc (c:Str)
 | ktp (l:List D)
inductive MO where
 | lst (xs:List D)
 | ins (c:Str) (fs:List (Str × D))
 | dct (kvs:List ((Int × Int × Int) × D))
 | dcl (kvs:List (List Int × D))
abbrev Mu:=Addr->Option MO
def updM (μ:Mu) (a:Addr) (o:MO):Mu:=λ b=>if b=a then some o else μ b
theorem ta0 {μ:Mu} {a:Addr} {o:MO}:updM μ a o a=some o:=by unfold updM; rw [if_pos rfl]
theorem ub0 {μ:Mu} {a b:Addr} {o:MO} (h:b ≠ a):updM μ a o b=μ b:=by unfold updM; rw [if_neg h]
theorem vh0 {μ:Mu} {a:Addr} {o u:MO}:updM (updM μ a o) a u=updM μ a u:=by
 funext b; unfold updM; by_cases h:b=a <;> simp [h]
def Ext (μ μ':Mu):Prop:=∀ a o,μ a=some o->μ' a=some o
theorem Ext.refl (μ:Mu):Ext μ μ:=λ _ _ h=>h
theorem Ext.trans {a b c:Mu} (h:Ext a b) (k:Ext b c):Ext a c:=λ x o q=>k x o (h x o q)
theorem Ext.new {μ:Mu} {p:Addr} {o:MO} (h:μ p=none):Ext μ (updM μ p o):=λ a u q=>by
 rw [ub0]; exact q
 intro e; subst e; rw [h] at q; cases q
theorem Ext.free {μ μ':Mu} {p:Addr} (e:Ext μ μ') (h:μ' p=none):μ p=none:=by
 cases q:μ p with
 | none=>rfl
 | some o=>rw [e p o q] at h; cases h
def ExtB (p:Addr) (μ μ':Mu):Prop:=∀ a o,a ≠ p->μ a=some o->μ' a=some o
theorem ExtB.trans {p:Addr} {a b c:Mu} (h:ExtB p a b) (k:ExtB p b c):ExtB p a c:=λ x o n q=>k x o n (h x o n q)
theorem Ext.b {μ μ':Mu} (p:Addr) (e:Ext μ μ'):ExtB p μ μ':=λ a o _ q=>e a o q
theorem ExtB.upd {μ:Mu} {p:Addr} {o:MO}:ExtB p μ (updM μ p o):=λ a u n q=>by rw [ub0 n]; exact q
theorem td0 {μ:Mu} {p q:Addr} {o:MO} (h:μ p=some o) (k:μ q=none):p ≠ q:=by
 intro e; subst e; rw [h] at k; cases k
abbrev St3:=List (Option D)
def getI:St3->Nat->Option D
 | [],_=>none
 | o :: _,0=>o
 | _ :: r,i + 1=>getI r i
theorem wi1:∀ (ρ:St3) (i:Nat),getI ρ i=(ρ[i]?).getD none
 | [],i=>by simp [getI]
 | o :: _,0=>by simp [getI]
 | _ :: r,i + 1=>by simp [getI,wi1 r i]
abbrev VK3:=D->Mu->Prop
abbrev TE3:=St3->Mu->VK3->Prop
abbrev TT3:=St3->Mu->(Bool->Mu->Prop)->Prop
abbrev TA3:=St3->Mu->(List D->Mu->Prop)->Prop
structure Ends3 where
 nx:St3->Mu->Prop
 rt:VK3
 bk:St3->Mu->Prop:=λ _ _=>False
 ct:St3->Mu->Prop:=λ _ _=>False
abbrev TS3:=Ends3->St3->Mu->Prop
abbrev R3:=D->D->Mu->VK3->Prop
abbrev Sp3:=List D->Mu->VK3->Prop
abbrev C3:=List D->Mu->VK3->Prop
abbrev TG3:=D->St3->Mu->(St3->Mu->Prop)->Prop
abbrev TGs3:=List D->St3->Mu->(St3->Mu->Prop)->Prop
abbrev TI3:=St3->Mu->(List D->(Mu->Prop)->Mu->Prop)->Prop
def v3 (i:Nat):TE3:=λ ρ μ Q=>match getI ρ i with
 | some d=>Q d μ
 | none=>False
def c3 (d:D):TE3:=λ _ μ Q=>Q d μ
def o3 (r:R3) (ta tb:TE3):TE3:=λ ρ μ Q=>ta ρ μ λ x μ1=>tb ρ μ1 λ y μ2=>r x y μ2 Q
def un3 (r:D->Mu->VK3->Prop) (ta:TE3):TE3:=λ ρ μ Q=>ta ρ μ λ x μ1=>r x μ1 Q
def b3 (t:TE3):TT3:=λ ρ μ Q=>t ρ μ λ d μ1=>match d with
 | .bl c=>Q c μ1
 | _=>False
def and3 (t u:TT3):TT3:=λ ρ μ Q=>t ρ μ λ c μ1=>if c=true then u ρ μ1 Q else Q false μ1
def or3 (t u:TT3):TT3:=λ ρ μ Q=>t ρ μ λ c μ1=>if c=true then Q true μ1 else u ρ μ1 Q
def not3 (t:TT3):TT3:=λ ρ μ Q=>t ρ μ λ c μ1=>Q (!c) μ1
def andV3 (t u:TE3):TE3:=λ ρ μ Q=>t ρ μ λ d μ1=>match d with
 | .bl c=>if c=true then u ρ μ1 Q else Q (.bl false) μ1
 | _=>False
def orV3 (t u:TE3):TE3:=λ ρ μ Q=>t ρ μ λ d μ1=>match d with
 | .bl c=>if c=true then Q (.bl true) μ1 else u ρ μ1 Q
 | _=>False
def notV3 (t:TE3):TE3:=λ ρ μ Q=>t ρ μ λ d μ1=>match d with
 | .bl c=>Q (.bl (!c)) μ1
 | _=>False
def if3 (c:TT3) (t u:TE3):TE3:=λ ρ μ Q=>c ρ μ λ b μ1=>if b=true then t ρ μ1 Q else u ρ μ1 Q
def nil3:TA3:=λ _ μ Q=>Q [] μ
def cons3 (t:TE3) (u:TA3):TA3:=λ ρ μ Q=>t ρ μ λ d μ1=>u ρ μ1 λ ds μ2=>Q (d :: ds) μ2
def tup3 (t:TA3):TE3:=λ ρ μ Q=>t ρ μ λ ds μ1=>ds.length<=sizeLine /\ Q (.tup ds) μ1
def lst3 (t:TA3):TE3:=λ ρ μ Q=>t ρ μ λ ds μ1=>ds.length<=sizeLine /\ ∀ p,μ1 p=none->Q (.ref p) (updM μ1 p (.lst ds))
def call3 (sp:Sp3) (t:TA3):TE3:=λ ρ μ Q=>t ρ μ λ ds μ1=>sp ds μ1 Q
def mt3 (r:D->List D->Mu->VK3->Prop) (to:TE3) (t:TA3):TE3:=λ ρ μ Q=>to ρ μ λ x μ1=>match x with
 | .ref p=>match μ1 p with
  | some (.lst _)=>t ρ μ1 λ ds μ2=>r (.ref p) ds μ2 Q
  | _=>False
 | _=>False
abbrev TO3:=St3->Mu->(Option Int->Mu->Prop)->Prop
def np3:TO3:=λ _ μ Q=>Q none μ
def pt3 (t:TE3):TO3:=λ ρ μ Q=>t ρ μ λ d μ1=>match d with
 | .int i=>Q (some i) μ1
 | _=>False
def sl3 (r:D->Option Int->Option Int->Mu->VK3->Prop) (te:TE3) (tl th:TO3):TE3:=λ ρ μ Q=>te ρ μ λ x μ1=>tl ρ μ1 λ l μ2=>th ρ μ2 λ u μ3=>r x l u μ3 Q
def sIx3 (n d:Nat):Option Int->Nat
 | none=>d
 | some v=>if v < 0 then (v + (n:Int)).toNat else min v.toNat n
def cut3 {α:Type} (xs:List α) (lo hi:Option Int):List α:=(xs.drop (sIx3 xs.length 0 lo)).take (sIx3 xs.length xs.length hi - sIx3 xs.length 0 lo)
def slR:D->Option Int->Option Int->Mu->VK3->Prop:=λ x lo hi μ Q=>match x with
 | .tup l=>Q (.tup (cut3 l lo hi)) μ
 | .str z=>z.length<=sizeLine /\ Q (.str ⟨(cut3 z.cps.toList lo hi).toArray⟩) μ
 | .ref p=>match μ p with
  | some (.lst l)=>∀ r,μ r=none->Q (.ref r) (updM μ r (.lst (cut3 l lo hi)))
  | _=>False
 | .fls l=>∀ r,μ r=none->Q (.ref r) (updM μ r (.lst (cut3 l lo hi)))
 | _=>False
def next3:TS3:=λ D ρ μ=>D.nx ρ μ
def never3:TS3:=λ _ _ _=>False
def brk3:TS3:=λ D ρ μ=>D.bk ρ μ
def cnt3:TS3:=λ D ρ μ=>D.ct ρ μ
def seq3 (t u:TS3):TS3:=λ D ρ μ=>t { D with nx:=u D } ρ μ
def drop3 (t:TE3):TS3:=λ D ρ μ=>t ρ μ λ _ μ1=>D.nx ρ μ1
def ret3 (t:TE3):TS3:=λ D ρ μ=>t ρ μ D.rt
def retN3:TS3:=λ D _ μ=>D.rt .non μ
def ifs3 (c:TT3) (t u:TS3):TS3:=λ D ρ μ=>c ρ μ λ b μ1=>if b=true then t D ρ μ1 else u D ρ μ1
def gn3 (i:Nat):TG3:=λ d ρ μ Q=>Q (ρ.set i (some d)) μ
def gnil3:TGs3:=λ ds ρ μ Q=>match ds with
 | []=>Q ρ μ
 | _=>False
def gcons3 (t:TG3) (u:TGs3):TGs3:=λ ds ρ μ Q=>match ds with
 | d :: r=>t d ρ μ λ ρ1 μ1=>u r ρ1 μ1 Q
 | []=>False
def gtup3 (n:Nat) (t:TGs3):TG3:=λ d ρ μ Q=>match d with
 | .tup l=>l.length=n /\ t l ρ μ Q
 | _=>False
def set3 (i:Nat) (t:TE3):TS3:=λ D ρ μ=>t ρ μ λ d μ1=>D.nx (ρ.set i (some d)) μ1
def asg3 (t:TE3) (g:TG3):TS3:=λ D ρ μ=>t ρ μ λ d μ1=>g d ρ μ1 D.nx
def par3 (i j:Nat) (t:TA3):TS3:=λ D ρ μ=>t ρ μ λ ds μ1=>match ds with
 | [v,w]=>D.nx ((ρ.set i (some v)).set j (some w)) μ1
 | _=>False
def ixN (n:Nat) (i:Int):Option Nat:=if 0<=i then (if i < n then some i.toNat else none) else if -(n:Int)<=i then some (i + n).toNat else none
def atI {α:Type} (xs:List α) (i:Int):Option α:=(ixN xs.length i).bind λ j=>xs[j]?
def sub3 (to ti:TE3):TG3:=λ d ρ μ Q=>to ρ μ λ o μ1=>ti ρ μ1 λ i μ2=>match o,i with
 | .ref p,.int k=>match μ2 p with
  | some (.lst xs)=>match ixN xs.length k with
   | some j=>Q ρ (updM μ2 p (.lst (xs.set j d)))
   | none=>False
  | _=>False
 | _,_=>False
def ye2 (S:Mu->Prop) (g:TG3) (tb:TS3) (D':Ends3):List D->St3->Mu->Prop
 | [],ρ,μ=>S μ /\ D'.nx ρ μ
 | x :: r,ρ,μ=>S μ /\ ∃ N:St3->Mu->Prop,(∀ ρ' μ',N ρ' μ'->ye2 S g tb D' r ρ' μ') /\ g x ρ μ λ ρ1 μ1=>tb { D' with nx:=N,ct:=N,bk:=D'.nx } ρ1 μ1
def for3 (ti:TI3) (g:TG3) (tb:TS3):TS3:=λ D' ρ μ=>ti ρ μ λ l S μ1=>ye2 S g tb D' l ρ μ1
theorem wf0 {S:Mu->Prop} {g:TG3} {tb:TS3} {D':Ends3} (W:List D->St3->Mu->Prop) {l:List D} {ρ:St3} {μ:Mu} (h0:W l ρ μ) (hS:∀ l ρ μ,W l ρ μ->S μ) (hn:∀ ρ μ,W [] ρ μ->D'.nx ρ μ)
    (hs:∀ x r ρ μ,W (x :: r) ρ μ->g x ρ μ λ ρ1 μ1=>tb { D' with nx:=W r,ct:=W r,bk:=D'.nx } ρ1 μ1):ye2 S g tb D' l ρ μ:=by
 induction l generalizing ρ μ with
 | nil=>exact ⟨hS _ _ _ h0,hn _ _ h0⟩
 | cons x r ih=>exact ⟨hS _ _ _ h0,W r,λ ρ' μ' q=>ih q,hs x r ρ μ h0⟩
def is3 (t:TE3):TI3:=λ ρ μ R=>t ρ μ λ d μ1=>match d with
 | .tup l=>R l (λ _=>True) μ1
 | .fls l=>R l (λ _=>True) μ1
 | .str z=>R (z.cps.toList.map λ c=>D.str ⟨#[c]⟩) (λ _=>True) μ1
 | .ref p=>match μ1 p with
  | some (.lst l)=>R l (λ μ=>μ p=some (.lst l)) μ1
  | _=>False
 | _=>False
def rngD (lo:Int) (n:Nat):List D:=(List.range n).map λ i=>.int (lo + (i:Nat))
def ir3 (t:TA3):TI3:=λ ρ μ R=>t ρ μ λ ds μ1=>match ds with
 | [.int j]=>(-(2 ^ 62)<=j /\ j < 2 ^ 62) /\ R (rngD 0 j.toNat) (λ _=>True) μ1
 | _=>False
def ir23 (t:TA3):TI3:=λ ρ μ R=>t ρ μ λ ds μ1=>match ds with
 | [.int i,.int j]=>(-(2 ^ 62)<=i /\ i < 2 ^ 62 /\ -(2 ^ 62)<=j /\ j < 2 ^ 62) /\ R (rngD i (j - i).toNat) (λ _=>True) μ1
 | _=>False
def wk3 (S:Mu->Prop) (p:Addr) (g:TG3) (tc:TT3) (te:TE3) (Q:VK3) (l:List D) (ρ0:St3) (μ0:Mu):Prop :=
 ∃ W:List D->List D->St3->Mu->Prop,W l [] ρ0 μ0 /\ (∀ l ys ρ μ,W l ys ρ μ->S μ /\ μ p=some (.lst ys)) /\ (∀ ys ρ μ,W [] ys ρ μ->Q (.ref p) μ) ∧
  ∀ x r ys ρ μ,W (x :: r) ys ρ μ->ys.length < sizeLine /\ g x ρ μ λ ρ1 μ1=>tc ρ1 μ1 λ b μ2 =>
   if b=true then te ρ1 μ2 λ d μ3=>μ3 p=some (.lst ys) /\ W r (ys ++ [d]) ρ1 (updM μ3 p (.lst (ys ++ [d]))) else W r ys ρ1 μ2
def comp3 (js:List (Option Nat)) (ti:TI3) (g:TG3) (tc:TT3) (te:TE3):TE3:=λ ρ μ Q=>ti ρ μ λ l S μ1=>∀ p,μ1 p=none->wk3 S p g tc te Q l (js.map λ j=>j.bind (getI ρ)) (updM μ1 p (.lst []))
def tt3:TT3:=λ _ μ Q=>Q true μ
theorem vk0 {S:Mu->Prop} {p:Addr} {te:TE3} {Q:VK3} {l:List D} {o:Option D} {rest:St3} {μ:Mu} (f:D->D) (hp:μ p=none) (hl:l.length<=sizeLine) (hS:∀ μ',Ext μ μ'->S μ')
    (hx:∀ x ∈ l,∀ μ' R,Ext μ μ'->(∀ μ2,Ext μ' μ2->R (f x) μ2)->te (some x :: rest) μ' R) (hQ:∀ μ',Ext μ μ'->μ' p=some (.lst (l.map f))->Q (.ref p) μ') :
    wk3 S p (gn3 0) tt3 te Q l (o :: rest) (updM μ p (.lst [])):=by
 refine ⟨λ r ys ρ μ'=>Ext μ μ' /\ μ' p=some (.lst ys) /\ (∃ o',ρ=o' :: rest) /\ ∃ a,a ++ r=l /\ ys=a.map f,?_,?_,?_,?_⟩
 ·exact ⟨Ext.new hp,ta0,⟨o,rfl⟩,[],rfl,rfl⟩
 ·rintro r ys ρ μ' ⟨h1,h2,_⟩
  exact ⟨hS _ h1,h2⟩
 ·rintro ys ρ μ' ⟨h1,h2,_,a,e,rfl⟩
  rw [append_nil] at e
  subst e
  exact hQ _ h1 h2
 ·rintro x r ys ρ μ' ⟨h1,h2,⟨o',rfl⟩,a,e,rfl⟩
  refine ⟨by rw [length_map]; rw [<- e,length_append,length_cons] at hl; omega,?_⟩
  show te (some x :: rest) μ' _
  refine hx x (by rw [<- e]; simp) μ' _ h1 λ μ2 h3=>⟨h3 _ _ h2,λ b u hb=>?_,ta0,⟨_,rfl⟩,a ++ [x],by simp [<- e],by simp⟩
  rw [ub0 (td0 hb hp)]
  exact h3 _ _ (h1 _ _ hb)
def CPow (i j:Int):Prop:=0<=j /\ j<=1000000 /\ i.natAbs < 2 ^ 64
def Big:Nat:=2 ^ 1000
def CMul (i j:Int):Prop:=((-(2 ^ 64) < i /\ i < 2 ^ 64) \/ (-(2 ^ 64) < j /\ j < 2 ^ 64)) \/ (i.natAbs < Big /\ j.natAbs < Big)
def int2 (C:Int->Int->Prop) (g:Int->Int->D):R3:=λ x y μ Q=>match x,y with
 | .int i,.int j=>C i j /\ Q (g i j) μ
 | _,_=>False
def int20 (g:Int->Int->D):R3:=λ x y μ Q=>match x,y with
 | .int i,.int j=>Q (g i j) μ
 | _,_=>False
def subR:R3:=int20 λ i j=>.int (i - j)
def mulR:R3:=λ x y μ Q=>match x,y with
 | .int i,.int j=>CMul i j /\ Q (.int (i * j)) μ
 | .tup l,.int k=>((-(2 ^ 62)<=k /\ k < 2 ^ 62) /\ l.length * k.toNat<=1000000) /\ Q (.tup (List.replicate k.toNat l).flatten) μ
 | .ref p,.int k=>match μ p with
  | some (.lst l)=>((-(2 ^ 62)<=k /\ k < 2 ^ 62) /\ l.length * k.toNat<=1000000) /\ ∀ r,μ r=none->Q (.ref r) (updM μ r (.lst (List.replicate k.toNat l).flatten))
  | _=>False
 | _,_=>False
def modR:R3:=int2 (λ _ j=>0 < j) λ i j=>.int (i % j)
def fdivR:R3:=int2 (λ _ j=>0 < j /\ j < 2 ^ 120) λ i j=>.int (i / j)
def powR:R3:=int2 CPow λ i j=>.int (i ^ j.toNat)
def ltR:R3:=int20 λ i j=>.bl (decide (i < j))
def leR:R3:=int20 λ i j=>.bl (decide (i<=j))
def gtR:R3:=int20 λ i j=>.bl (decide (j < i))
def geR:R3:=int20 λ i j=>.bl (decide (j<=i))
def negR:D->Mu->VK3->Prop:=λ x μ Q=>match x with
 | .int i=>Q (.int (-i)) μ
 | _=>False
def addR:R3:=λ x y μ Q=>match x,y with
 | .int i,.int j=>Q (.int (i + j)) μ
 | .str i,.str j=>i.length + j.length<=sizeLine /\ Q (.str (i ++ j)) μ
 | .ref p,.ref q=>match μ p,μ q with
  | some (.lst xs),some (.lst ys)=>xs.length + ys.length<=sizeLine /\ ∀ r,μ r=none->Q (.ref r) (updM μ r (.lst (xs ++ ys)))
  | _,_=>False
 | .tup l,.tup m=>l.length + m.length<=sizeLine /\ Q (.tup (l ++ m)) μ
 | _,_=>False
def eqS:D->D->Option Bool
 | .int i,.int j=>some (decide (i=j))
 | .bl i,.bl j=>some (decide (i=j))
 | .str i,.str j=>some (decide (i=j))
 | .non,.non=>some true
 | .non,.int _=>some false
 | .int _,.non=>some false
 | .non,.str _=>some false
 | .str _,.non=>some false
 | .int _,.str _=>some false
 | .str _,.int _=>some false
 | _,_=>none
mutual
def dat:D->Option PyData
 | .non=>some .none
 | .bl b=>some (.bool b)
 | .int i=>some (.int i)
 | .str x=>if PyData.strOk x=true then some (.str x) else none
 | .tup l=>match dats l with
  | some ps=>some (.tuple ps)
  | none=>none
 | .ktp l=>match dats l with
  | some ps=>some (.tuple ps)
  | none=>none
 | _=>none
def dats:List D->Option (List PyData)
 | []=>some []
 | d :: r=>match dat d with
  | some p=>match dats r with
   | some ps=>some (p :: ps)
   | none=>none
  | none=>none
end
def datM (μ:Mu):D->Option PyData
 | .ref p=>match μ p with
  | some (.lst l)=>match dats l with
   | some ps=>some (.list ps)
   | none=>none
  | _=>none
 | d=>dat d
def eqR:R3:=λ x y μ Q=>match eqS x y with
 | some c=>Q (.bl c) μ
 | none=>match datM μ x,datM μ y with
  | some p,some q=>(p.depth<=64 /\ q.depth<=64) /\ Q (.bl (PyData.eqv p q)) μ
  | _,_=>False
def neR:R3:=λ x y μ Q=>match eqS x y with
 | some c=>Q (.bl (!c)) μ
 | none=>match datM μ x,datM μ y with
  | some p,some q=>(p.depth<=64 /\ q.depth<=64) /\ Q (.bl (!PyData.eqv p q)) μ
  | _,_=>False
theorem eqR_ii (i j:Int) (μ:Mu) (Q:VK3):eqR (.int i) (.int j) μ Q=Q (.bl (decide (i=j))) μ:=rfl
theorem eqR_ss (i j:Str) (μ:Mu) (Q:VK3):eqR (.str i) (.str j) μ Q=Q (.bl (decide (i=j))) μ:=rfl
theorem eqR_bb (i j:Bool) (μ:Mu) (Q:VK3):eqR (.bl i) (.bl j) μ Q=Q (.bl (decide (i=j))) μ:=rfl
theorem eqR_is (i:Int) (j:Str) (μ:Mu) (Q:VK3):eqR (.int i) (.str j) μ Q=Q (.bl false) μ:=rfl
theorem neR_ii (i j:Int) (μ:Mu) (Q:VK3):neR (.int i) (.int j) μ Q=Q (.bl (!decide (i=j))) μ:=rfl
theorem neR_ss (i j:Str) (μ:Mu) (Q:VK3):neR (.str i) (.str j) μ Q=Q (.bl (!decide (i=j))) μ:=rfl
theorem neR_bb (i j:Bool) (μ:Mu) (Q:VK3):neR (.bl i) (.bl j) μ Q=Q (.bl (!decide (i=j))) μ:=rfl
theorem ue2 {x y:D} {μ:Mu} {Q:VK3} {p q:PyData} (e:eqS x y=none) (h1:datM μ x=some p) (h2:datM μ y=some q) (d1:p.depth<=64) (d2:q.depth<=64):eqR x y μ Q=Q (.bl (PyData.eqv p q)) μ:=by
 unfold eqR; rw [e]; simp only [h1,h2,d1,d2,true_and,and_self]
theorem wy0 {x y:D} {μ:Mu} {Q:VK3} {p q:PyData} (e:eqS x y=none) (h1:datM μ x=some p) (h2:datM μ y=some q) (d1:p.depth<=64) (d2:q.depth<=64):neR x y μ Q=Q (.bl (!PyData.eqv p q)) μ:=by
 unfold neR; rw [e]; simp only [h1,h2,d1,d2,true_and,and_self]
def strs?:List D->Option (List Str)
 | []=>some []
 | .str x :: r=>match strs? r with
  | some l=>some (x :: l)
  | none=>none
 | _ :: _=>none
def inD (neg:Bool):R3:=λ x y μ Q=>match datM μ x,datM μ y with
 | some d,some (.list xs)=>(d.depth<=64 /\ (PyData.list xs).depth<=64) /\ Q (.bl (if neg then !(xs.any λ e=>PyData.eqv e d) else xs.any λ e=>PyData.eqv e d)) μ
 | some d,some (.tuple xs)=>(d.depth<=64 /\ (PyData.tuple xs).depth<=64) /\ Q (.bl (if neg then !(xs.any λ e=>PyData.eqv e d) else xs.any λ e=>PyData.eqv e d)) μ
 | _,_=>False
def inR (neg:Bool):R3:=λ x y μ Q=>match x,y with
 | .str z,.tup l=>match strs? l with
  | some zs=>Q (.bl (if neg then !zs.contains z else zs.contains z)) μ
  | none=>inD neg (.str z) (.tup l) μ Q
 | .str z,.ktp l=>match strs? l with
  | some zs=>Q (.bl (if neg then !zs.contains z else zs.contains z)) μ
  | none=>inD neg (.str z) (.ktp l) μ Q
 | .str z,.str y=>Q (.bl (if neg then !(!(Builtin.Str.occurrences y z 0 y.length 1).isEmpty) else !(Builtin.Str.occurrences y z 0 y.length 1).isEmpty)) μ
 | x,y=>inD neg x y μ Q
def ixR:R3:=λ x y μ Q=>match x,y with
 | .tup l,.int i=>match atI l i with
  | some d=>Q d μ
  | none=>False
 | .ktp l,.int i=>match atI l i with
  | some d=>Q d μ
  | none=>False
 | .fls l,.int i=>match atI l i with
  | some d=>Q d μ
  | none=>False
 | .ref p,.int i=>match μ p with
  | some (.lst l)=>match atI l i with
   | some d=>Q d μ
   | none=>False
  | _=>False
 | _,_=>False
def lenR:C3:=λ ds μ Q=>match ds with
 | [.tup l]=>Q (.int l.length) μ
 | [.fls l]=>Q (.int l.length) μ
 | [.str z]=>z.length<=sizeLine /\ Q (.int z.length) μ
 | [.ref p]=>match μ p with
  | some (.lst l)=>Q (.int l.length) μ
  | _=>False
 | _=>False
def absR:C3:=λ ds μ Q=>match ds with
 | [.int i]=>Q (.int (if i < 0 then -i else i)) μ
 | _=>False
def intR:C3:=λ ds μ Q=>match ds with
 | [.int i]=>Q (.int i) μ
 | [.bl b]=>Q (.int (if b then 1 else 0)) μ
 | [.str z]=>match PySem.intText? z with
  | some n=>z.length<=640 /\ Q (.int n) μ
  | none=>False
 | _=>False
def strR:C3:=λ ds μ Q=>match ds with
 | [.int i]=>i.natAbs.log2 < 1920 /\ Q (.str (toString i)) μ
 | _=>False
def smt3 (r:Str->List D->Mu->VK3->Prop) (to:TE3) (t:TA3):TE3:=λ ρ μ Q=>to ρ μ λ x μ1=>match x with
 | .str z=>t ρ μ1 λ ds μ2=>r z ds μ2 Q
 | _=>False
def joinR:Str->List D->Mu->VK3->Prop:=λ z ds μ Q=>match ds with
 | [.ref p]=>match μ p with
  | some (.lst l)=>match strs? l with
   | some ys=>(z.length<=16 /\ (ys.map (·.length)).sum + ys.length<=1048576) /\ Q (.str (Str.join z ys)) μ
   | none=>False
  | _=>False
 | _=>False
def splitR:Str->List D->Mu->VK3->Prop:=λ z ds μ Q=>match ds with
 | [.str y]=>((y.length == 0)=false /\ z.length<=1000000) /\ ∀ r,μ r=none->Q (.ref r) (updM μ r (.lst ((Txt.split z y).map D.str)))
 | _=>False
def startsR:Str->List D->Mu->VK3->Prop:=λ z ds μ Q=>match ds with
 | [.str y]=>Q (.bl (Txt.startswith z y)) μ
 | _=>False
def pop3 (to:TE3):TE3:=λ ρ μ Q=>to ρ μ λ x μ1=>match x with
 | .ref p=>match μ1 p with
  | some (.lst l)=>match l.reverse with
   | d :: r=>Q d (updM μ1 p (.lst r.reverse))
   | []=>False
  | _=>False
 | _=>False
def lrev3 (to:TE3):TE3:=λ ρ μ Q=>cons3 to nil3 ρ μ λ ds μ1=>match ds with
 | [.ref p]=>match μ1 p with
  | some (.lst l)=>∀ r,μ1 r=none->Q (.ref r) (updM μ1 r (.lst l.reverse))
  | _=>False
 | _=>False
def tupR:C3:=λ ds μ Q=>match ds with
 | [.tup l]=>Q (.tup l) μ
 | [.ref p]=>match μ p with
  | some (.lst l)=>Q (.tup l) μ
  | _=>False
 | _=>False
def ints?:List D->Option (List Int)
 | []=>some []
 | .int x :: r=>match ints? r with
  | some l=>some (x :: l)
  | none=>none
 | _ :: _=>none
def sumR:C3:=λ ds μ Q=>match ds with
 | [.ref p]=>match μ p with
  | some (.lst l)=>match ints? l with
   | some ns=>Q (.int ns.sum) μ
   | none=>False
  | _=>False
 | _=>False
def bls?:List D->Option (List Bool)
 | []=>some []
 | .bl x :: r=>match bls? r with
  | some l=>some (x :: l)
  | none=>none
 | _ :: _=>none
def ltP (a b c d:Int):Bool:=if a=c then decide (b < d) else decide (a < c)
def minR:C3:=λ ds μ Q=>match ds with
 | [.tup [.int a,.int b],.tup [.int c,.int d]]=>Q (if ltP c d a b then .tup [.int c,.int d] else .tup [.int a,.int b]) μ
 | _=>False
def allR:C3:=λ ds μ Q=>match ds with
 | [.ref p]=>match μ p with
  | some (.lst l)=>match bls? l with
   | some bs=>Q (.bl (bs.all id)) μ
   | none=>False
  | _=>False
 | _=>False
def tyN (μ:Mu):D->Option String
 | .int _=>some "int"
 | .bl _=>some "bool"
 | .str _=>some "str"
 | .tup _=>some "tuple"
 | .non=>some "NoneType"
 | .ref p=>match μ p with
  | some (.lst _)=>some "list"
  | _=>none
 | _=>none
def isIn (t T:String):Option Bool :=
 if t=T then some true
 else if t = "bool" /\ T = "int" then some true
 else if (t = "int" \/ t = "str" \/ t = "tuple" \/ t = "bool" \/ t = "NoneType" \/ t = "list") /\ (T = "int" \/ T = "str" \/ T = "tuple" \/ T = "bool" \/ T = "list") then some false
 else none
def isiR:C3:=λ ds μ Q=>match ds with
 | [d,.ty T]=>match tyN μ d with
  | some t=>match isIn t T with
   | some b=>Q (.bl b) μ
   | none=>False
  | none=>False
 | _=>False
def appR:D->List D->Mu->VK3->Prop:=λ x ds μ Q=>match x,ds with
 | .ref p,[d]=>match μ p with
  | some (.lst l)=>l.length < sizeLine /\ Q .non (updM μ p (.lst (l ++ [d])))
  | _=>False
 | _,_=>False
def extR:D->List D->Mu->VK3->Prop:=λ x ds μ Q=>match x,ds with
 | .ref p,[.ref q]=>match μ p,μ q with
  | some (.lst l),some (.lst m)=>l.length + m.length<=sizeLine /\ Q .non (updM μ p (.lst (l ++ m)))
  | _,_=>False
 | _,_=>False
theorem atI0 {α:Type} {a:α} {r:List α}:atI (a :: r) 0=some a:=by
 unfold atI ixN; rw [if_pos (by decide),if_pos (by simp only [length_cons]; omega)]; rfl
theorem atI1 {α:Type} {a b:α} {r:List α}:atI (a :: b :: r) 1=some b:=by
 unfold atI ixN; rw [if_pos (by decide),if_pos (by simp only [length_cons]; omega)]; rfl
theorem atI2 {α:Type} {a b c:α} {r:List α}:atI (a :: b :: c :: r) 2=some c:=by
 unfold atI ixN; rw [if_pos (by decide),if_pos (by simp only [length_cons]; omega)]; rfl
theorem ixN0 {n:Nat}:ixN (n + 1) 0=some 0:=by
 unfold ixN; rw [if_pos (by decide),if_pos (by omega)]; rfl
theorem ixN1 {n:Nat}:ixN (n + 1 + 1) 1=some 1:=by
 unfold ixN; rw [if_pos (by decide),if_pos (by omega)]; rfl
theorem ixN2 {n:Nat}:ixN (n + 1 + 1 + 1) 2=some 2:=by
 unfold ixN; rw [if_pos (by decide),if_pos (by omega)]; rfl
theorem sx2 {α:Type} {l:List α} {i:Int} (h0:0<=i) (h1:i < l.length):∃ d,d ∈ l /\ atI l i=some d:=by
 have hn:i.toNat < l.length:=by omega
 refine ⟨l[i.toNat],getElem_mem hn,?_⟩
 unfold atI ixN
 rw [if_pos h0,if_pos h1]
 exact getElem?_eq_getElem hn
def start3 (N:List Str) (ds:List D):St3:=ds.map some ++ List.replicate (N.length - ds.length) none
def zu2 (c:TT3) (tb:TS3):TS3:=λ D ρ μ=>∃ W:Nat->St3->Mu->Prop,(∃ m,W m ρ μ) /\ ∀ m ρ μ,W m ρ μ ->
 c ρ μ λ b μ1=>if b=true then ∃ N:St3->Mu->Prop,(∀ ρ' μ',N ρ' μ'->∃ m',m' < m /\ W m' ρ' μ') /\ tb { D with nx:=N,ct:=N,bk:=D.nx } ρ μ1 else D.nx ρ μ1
end Pv
namespace Pv
open PySem L2
abbrev Fg:=PySem.W.Frag
structure Kp (H H':Hp):Prop where
 tup:∀ b xs,H b=some (.tup xs)->H' b=some (.tup xs)
 frz:∀ b o u,H b=some (.frz o u)->H' b=some (.frz o u)
theorem Kp.refl (H:Hp):Kp H H:=⟨λ _ _ h=>h,λ _ _ _ h=>h⟩
theorem Kp.trans {a b c:Hp} (h:Kp a b) (k:Kp b c):Kp a c:=⟨λ x xs q=>k.tup x xs (h.tup x xs q),λ x o u q=>k.frz x o u (h.frz x o u q)⟩
theorem Kp.new {H:Hp} {p:Addr} {o:HO} (h:H p=none):Kp H (upd H p o) :=
 ⟨λ b xs q=>by rw [tc0 (sf0 q h)]; exact q,λ b o u q=>by rw [tc0 (sf0 q h)]; exact q⟩
theorem Kp.wr {H:Hp} {p:Addr} {o:HO} {xs:List V} (h:H p=some (.lst xs)):Kp H (upd H p o) :=
 ⟨λ b ys q=>by rw [tc0 (sb2 q h (by intro z; cases z))]; exact q,λ b o u q=>by rw [tc0 (sb2 q h (by intro z; cases z))]; exact q⟩
def SqF (K:Fg) (H:Hp) (a:Addr) (xs:List V):Prop :=
 (∃ o,H a=some (.frz o (.lst xs))) \/ ∃ (o:Obj) (its:Array Value) (n:Nat),K.lookup a=some o /\ o.cls=.type "list" /\ o.dict=none /\ o.data=.seq its n /\ its.size<=sizeLine /\ Vals xs its.toList
theorem SqF.l {K:Fg} {H:Hp} {a:Addr} {xs:List V} (h:SqF K H a xs):SqL K H a xs:=by
 rcases h with ⟨o,h⟩ | h
 ·exact .inl (.inr ⟨o,h⟩)
 ·exact .inr h
theorem SqF.mono {K:Fg} {H H':Hp} {a:Addr} {xs:List V} (k:Kp H H') (h:SqF K H a xs):SqF K H' a xs:=by
 rcases h with ⟨o,h⟩ | h
 ·exact .inl ⟨o,k.frz _ _ _ h⟩
 ·exact .inr h
theorem SqT.mono {K:Fg} {H H':Hp} {a:Addr} {xs:List V} (k:Kp H H') (h:SqT K H a xs):SqT K H' a xs:=by
 rcases h with h | h
 ·rcases h with h | ⟨o,h⟩
  ·exact .inl (.inl (k.tup _ _ h))
  ·exact .inl (.inr ⟨o,k.frz _ _ _ h⟩)
 ·exact .inr h
mutual
inductive RelD (K:Fg) (H:Hp):D->V->Prop where
 | non:RelD K H .non .non
 | bl (b:Bool):RelD K H (.bl b) (.bl b)
 | int (i:Int):RelD K H (.int i) (.int i)
 | str (x:Str):RelD K H (.str x) (.str x)
 | ref (a:Addr):RelD K H (.ref a) (.ref a)
 | ty (n:String):RelD K H (.ty n) (.ty n)
 | tup {a:Addr} {l:List D} {vs:List V}:H a=some (.tup vs)->RelDs K H l vs->RelD K H (.tup l) (.ref a)
 | ktp {a:Addr} {l:List D} {vs:List V}:SqT K H a vs->RelDs K H l vs->RelD K H (.ktp l) (.ref a)
 | fls {a:Addr} {l:List D} {vs:List V}:SqF K H a vs->RelDs K H l vs->RelD K H (.fls l) (.ref a)
 | exc {a C:Addr} {c:Str} {ob:Obj} {u:HO}:H a=some (.frz ob u)->ob.cls=.ref C->nsIn K mainGlobals c=some (some (.ref C))->RelD K H (.exc c) (.ref a)
inductive RelDs (K:Fg) (H:Hp):List D->List V->Prop where
 | nil:RelDs K H [] []
 | cons {d:D} {v:V} {l:List D} {vs:List V}:RelD K H d v->RelDs K H l vs->RelDs K H (d :: l) (v :: vs)
end
mutual
theorem RelD.mono {K:Fg} {H H':Hp} (k:Kp H H'):∀ {d:D} {v:V},RelD K H d v->RelD K H' d v
 | _,_,.non=>.non
 | _,_,.bl b=>.bl b
 | _,_,.int b=>.int b
 | _,_,.str b=>.str b
 | _,_,.ref b=>.ref b
 | _,_,.ty b=>.ty b
 | _,_,.tup h r=>.tup (k.tup _ _ h) (RelDs.mono k r)
 | _,_,.ktp h r=>.ktp (SqT.mono k h) (RelDs.mono k r)
 | _,_,.fls h r=>.fls (SqF.mono k h) (RelDs.mono k r)
 | _,_,.exc h r1 r2=>.exc (k.frz _ _ _ h) r1 r2
theorem RelDs.mono {K:Fg} {H H':Hp} (k:Kp H H'):∀ {d:List D} {v:List V},RelDs K H d v->RelDs K H' d v
 | _,_,.nil=>.nil
 | _,_,.cons h r=>.cons (RelD.mono k h) (RelDs.mono k r)
end
theorem RelDs.length {K:Fg} {H:Hp}:∀ {l:List D} {vs:List V},RelDs K H l vs->l.length=vs.length
 | _,_,.nil=>rfl
 | _,_,.cons _ r=>congrArg (· + 1) r.length
theorem RelDs.get {K:Fg} {H:Hp}:∀ {l:List D} {vs:List V} {i:Nat} {d:D},RelDs K H l vs->l[i]?=some d->∃ v,vs[i]?=some v /\ RelD K H d v
 | _,_,_,_,.nil,e=>by simp at e
 | _,_,0,_,.cons h _,e=>by simp at e; subst e; exact ⟨_,rfl,h⟩
 | _,_,i + 1,d,.cons _ r,e=>by
  obtain ⟨v,h1,h2⟩:=RelDs.get (i:=i) (d:=d) r (by simpa using e)
  exact ⟨v,by simpa using h1,h2⟩
theorem RelDs.append {K:Fg} {H:Hp}:∀ {l m:List D} {vs us:List V},RelDs K H l vs->RelDs K H m us->RelDs K H (l ++ m) (vs ++ us)
 | _,_,_,_,.nil,q=>q
 | _,_,_,_,.cons h r,q=>.cons h (RelDs.append r q)
theorem RelDs.set {K:Fg} {H:Hp} {d:D} {v:V} (hd:RelD K H d v):∀ {l:List D} {vs:List V} (i:Nat),RelDs K H l vs->RelDs K H (l.set i d) (vs.set i v)
 | _,_,_,.nil=>.nil
 | _,_,0,.cons _ r=>.cons hd r
 | _,_,i + 1,.cons h r=>.cons h (RelDs.set hd i r)
theorem RelDs.take {K:Fg} {H:Hp}:∀ {l:List D} {vs:List V} (n:Nat),RelDs K H l vs->RelDs K H (l.take n) (vs.take n)
 | _,_,0,r=>by simp only [take_zero]; exact .nil
 | _,_,n + 1,.nil=>by simp only [List.take_nil]; exact .nil
 | _,_,n + 1,.cons h r=>by simp only [List.take_succ_cons]; exact .cons h (RelDs.take n r)
theorem RelDs.drop {K:Fg} {H:Hp}:∀ {l:List D} {vs:List V} (n:Nat),RelDs K H l vs->RelDs K H (l.drop n) (vs.drop n)
 | _,_,0,r=>by simp only [List.drop_zero]; exact r
 | _,_,n + 1,.nil=>by simp only [List.drop_nil]; exact .nil
 | _,_,n + 1,.cons h r=>by simp only [List.drop_succ_cons]; exact RelDs.drop n r
theorem RelDs.rep {K:Fg} {H:Hp} {l:List D} {vs:List V} (r:RelDs K H l vs):∀ k:Nat,RelDs K H (List.replicate k l).flatten (List.replicate k vs).flatten
 | 0=>.nil
 | k + 1=>by rw [replicate_succ,replicate_succ,flatten_cons,flatten_cons]; exact r.append (RelDs.rep r k)
inductive RelFs (K:Fg) (H:Hp):List (Str × D)->List (Str × V)->Prop where
 | nil:RelFs K H [] []
 | cons {f:Str} {d:D} {v:V} {l:List (Str × D)} {vs:List (Str × V)}:RelD K H d v->RelFs K H l vs->RelFs K H ((f,d) :: l) ((f,v) :: vs)
theorem RelFs.mono {K:Fg} {H H':Hp} (k:Kp H H') {l:List (Str × D)} {vs:List (Str × V)} (r:RelFs K H l vs):RelFs K H' l vs:=by
 induction r with
 | nil=>exact .nil
 | cons h _ ih=>exact .cons (h.mono k) ih
def kT (t:Int × Int × Int):List Key:=[.inl t.1,.inl t.2.1,.inl t.2.2]
inductive RelKs (K:Fg) (H:Hp):List ((Int × Int × Int) × D)->List (List Key × V)->Prop where
 | nil:RelKs K H [] []
 | cons {t:Int × Int × Int} {d:D} {v:V} {l:List ((Int × Int × Int) × D)} {vs:List (List Key × V)}:RelD K H d v->RelKs K H l vs->RelKs K H ((t,d) :: l) ((kT t,v) :: vs)
theorem RelKs.mono {K:Fg} {H H':Hp} (k:Kp H H') {l:List ((Int × Int × Int) × D)} {vs:List (List Key × V)} (r:RelKs K H l vs):RelKs K H' l vs:=by
 induction r with
 | nil=>exact .nil
 | cons h _ ih=>exact .cons (h.mono k) ih
def kL (k:List Int):List Key:=k.map Sum.inl
inductive RelKl (K:Fg) (H:Hp):List (List Int × D)->List (List Key × V)->Prop where
 | nil:RelKl K H [] []
 | cons {t:List Int} {d:D} {v:V} {l:List (List Int × D)} {vs:List (List Key × V)}:RelD K H d v->RelKl K H l vs->RelKl K H ((t,d) :: l) ((kL t,v) :: vs)
theorem RelKl.mono {K:Fg} {H H':Hp} (k:Kp H H') {l:List (List Int × D)} {vs:List (List Key × V)} (r:RelKl K H l vs):RelKl K H' l vs:=by
 induction r with
 | nil=>exact .nil
 | cons h _ ih=>exact .cons (h.mono k) ih
structure RelM (K:Fg) (μ:Mu) (H:Hp):Prop where
 lst:∀ p xs,μ p=some (.lst xs)->∃ vs,H p=some (.lst vs) /\ RelDs K H xs vs
 ins:∀ p c fs,μ p=some (.ins c fs)->∃ C dx vs,nsIn K mainGlobals c=some (some (.ref C)) /\ H p=some (.ins C dx vs) /\ H dx=some (.own p) /\ RelFs K H fs vs
 dct:∀ p kvs,μ p=some (.dct kvs)->∃ vs,H p=some (.dT vs) /\ RelKs K H kvs vs
 dcl:∀ p kvs,μ p=some (.dcl kvs)->∃ vs,H p=some (.dT vs) /\ RelKl K H kvs vs
instance {K:Fg} {μ:Mu} {H:Hp}:CoeFun (RelM K μ H) (λ _=>∀ p xs,μ p=some (.lst xs)->∃ vs,H p=some (.lst vs) /\ RelDs K H xs vs):=⟨RelM.lst⟩
theorem RelM.free {K:Fg} {μ:Mu} {H:Hp} (m:RelM K μ H) {p:Addr} (h:H p=none):μ p=none:=by
 cases e:μ p with
 | none=>rfl
 | some o =>
  cases o with
  | lst xs =>
   obtain ⟨vs,q,_⟩:=m.lst p xs e
   rw [h] at q; cases q
  | ins c fs =>
   obtain ⟨C,dx,vs,_,q,_⟩:=m.ins p c fs e
   rw [h] at q; cases q
  | dct kvs =>
   obtain ⟨vs,q,_⟩:=m.dct p kvs e
   rw [h] at q; cases q
  | dcl kvs =>
   obtain ⟨vs,q,_⟩:=m.dcl p kvs e
   rw [h] at q; cases q
theorem RelM.newT {K:Fg} {μ:Mu} {H:Hp} {p:Addr} {o:HO} (h:H p=none) (m:RelM K μ H):RelM K μ (upd H p o):=by
 have ne:∀ {q:Addr} {u:HO},H q=some u->q ≠ p:=λ {q u} e z=>by subst z; rw [h] at e; cases e
 refine ⟨λ q xs e=>?_,λ q c fs e=>?_,λ q kvs e=>?_,λ q kvs e=>?_⟩
 ·obtain ⟨vs,q1,r⟩:=m.lst q xs e
  exact ⟨vs,by rw [tc0 (ne q1)]; exact q1,r.mono (Kp.new h)⟩
 ·obtain ⟨C,dx,vs,n,q1,q2,r⟩:=m.ins q c fs e
  exact ⟨C,dx,vs,n,by rw [tc0 (ne q1)]; exact q1,by rw [tc0 (ne q2)]; exact q2,r.mono (Kp.new h)⟩
 ·obtain ⟨vs,q1,r⟩:=m.dct q kvs e
  exact ⟨vs,by rw [tc0 (ne q1)]; exact q1,r.mono (Kp.new h)⟩
 ·obtain ⟨vs,q1,r⟩:=m.dcl q kvs e
  exact ⟨vs,by rw [tc0 (ne q1)]; exact q1,r.mono (Kp.new h)⟩
theorem RelM.newL {K:Fg} {μ:Mu} {H:Hp} {p:Addr} {xs:List D} {vs:List V} (h:H p=none) (r:RelDs K H xs vs) (m:RelM K μ H):RelM K (updM μ p (.lst xs)) (upd H p (.lst vs)):=by
 have m':=m.newT (o:=.lst vs) h
 refine ⟨λ q ys e=>?_,λ q c fs e=>?_,λ q kvs e=>?_,λ q kvs e=>?_⟩
 ·by_cases z:q=p
  ·subst z
   rw [ta0] at e; cases e
   exact ⟨vs,yf0,r.mono (Kp.new h)⟩
  ·rw [ub0 z] at e
   exact m'.lst q ys e
 ·by_cases z:q=p
  ·subst z
   rw [ta0] at e; cases e
  ·rw [ub0 z] at e
   exact m'.ins q c fs e
 ·by_cases z:q=p
  ·subst z
   rw [ta0] at e; cases e
  ·rw [ub0 z] at e
   exact m'.dct q kvs e
 ·by_cases z:q=p
  ·subst z
   rw [ta0] at e; cases e
  ·rw [ub0 z] at e
   exact m'.dcl q kvs e
theorem RelM.wr {K:Fg} {μ:Mu} {H:Hp} {p:Addr} {xs:List D} {vs ws:List V} (h:H p=some (.lst ws)) (r:RelDs K H xs vs) (m:RelM K μ H):RelM K (updM μ p (.lst xs)) (upd H p (.lst vs)):=by
 refine ⟨λ q ys e=>?_,λ q c fs e=>?_,λ q kvs e=>?_,λ q kvs e=>?_⟩
 ·by_cases z:q=p
  ·subst z
   rw [ta0] at e; cases e
   exact ⟨vs,yf0,r.mono (Kp.wr h)⟩
  ·rw [ub0 z] at e
   rw [tc0 z]
   obtain ⟨us,q1,r1⟩:=m.lst q ys e
   exact ⟨us,q1,r1.mono (Kp.wr h)⟩
 ·by_cases z:q=p
  ·subst z
   rw [ta0] at e; cases e
  ·rw [ub0 z] at e
   obtain ⟨C,dx,us,n,q1,q2,r1⟩:=m.ins q c fs e
   refine ⟨C,dx,us,n,by rw [tc0 z]; exact q1,?_,r1.mono (Kp.wr h)⟩
   rw [tc0]
   ·exact q2
   ·intro y; subst y; rw [h] at q2; cases q2
 ·by_cases z:q=p
  ·subst z
   rw [ta0] at e; cases e
  ·rw [ub0 z] at e
   rw [tc0 z]
   obtain ⟨us,q1,r1⟩:=m.dct q kvs e
   exact ⟨us,q1,r1.mono (Kp.wr h)⟩
 ·by_cases z:q=p
  ·subst z
   rw [ta0] at e; cases e
  ·rw [ub0 z] at e
   rw [tc0 z]
   obtain ⟨us,q1,r1⟩:=m.dcl q kvs e
   exact ⟨us,q1,r1.mono (Kp.wr h)⟩
structure RSt (K:Fg) (H:Hp) (ρ:St3) (σ:St):Prop where
 len:ρ.length=σ.length
 at':∀ i d,getI ρ i=some d->∃ v,σ[i]?=some (some v) /\ RelD K H d v
theorem RSt.mono {K:Fg} {H H':Hp} {ρ:St3} {σ:St} (k:Kp H H') (s:RSt K H ρ σ):RSt K H' ρ σ:=⟨s.len,λ i d e=>let ⟨v,h,r⟩:=s.at' i d e; ⟨v,h,r.mono k⟩⟩
theorem yn1:∀ (ρ:St3) (i j:Nat) (d:Option D),getI (ρ.set i d) j=if i=j /\ i < ρ.length then d else getI ρ j
 | [],i,j,d=>by simp [getI]
 | o :: r,0,0,d=>by simp [getI]
 | o :: r,0,j + 1,d=>by simp [getI]
 | o :: r,i + 1,0,d=>by simp [getI]
 | o :: r,i + 1,j + 1,d=>by simp only [set_cons_succ,getI,yn1 r i j d,length_cons]; simp
theorem RSt.set {K:Fg} {H:Hp} {ρ:St3} {σ:St} {d:D} {v:V} (i:Nat) (r:RelD K H d v) (s:RSt K H ρ σ):RSt K H (ρ.set i (some d)) (σ.set i (some v)):=by
 refine ⟨by simp [s.len],λ j e h=>?_⟩
 rw [yn1] at h
 split at h
 ·next c =>
  obtain ⟨rfl,c2⟩:=c
  cases h
  exact ⟨v,by rw [List.getElem?_set_self (by rw [<- s.len]; exact c2)],r⟩
 ·next c =>
  obtain ⟨u,q,r'⟩:=s.at' j e h
  have hj:j < σ.length:=(List.getElem?_eq_some_iff.mp q).1
  by_cases z:i=j
  ·subst z; exact absurd ⟨rfl,by rw [s.len]; exact hj⟩ c
  ·exact ⟨u,by rw [List.getElem?_set_ne z]; exact q,r'⟩
theorem RSt.start {K:Fg} {H:Hp} {ds:List D} {vs:List V} (N:List Str) (r:RelDs K H ds vs):RSt K H (start3 N ds) (L2.start N vs):=by
 have hl:=r.length
 refine ⟨by simp [start3,L2.start,hl],λ i d e=>?_⟩
 rw [wi1] at e
 unfold start3 at e
 unfold L2.start
 by_cases c:i < ds.length
 ·rw [getElem?_append_left (by simpa using c),getElem?_map] at e
  cases q:ds[i]? with
  | none=>rw [q] at e; cases e
  | some d' =>
   rw [q] at e
   have e':d'=d:=by simpa using e
   subst e'
   obtain ⟨v,h1,h2⟩:=r.get q
   exact ⟨v,by rw [getElem?_append_left (by rw [length_map]; omega),getElem?_map,h1]; rfl,h2⟩
 ·rw [getElem?_append_right (by simpa using c),List.getElem?_replicate] at e
  split at e <;> simp at e
abbrev Ks (K:Fg) (H:Hp) (Q3:VK3) (Q:VK):Prop:=∀ d μ' v H',Q3 d μ'->Kp H H'->RelD K H' d v->RelM K μ' H'->Q v H'
theorem Ks.after {K:Fg} {H H1:Hp} {Q3:VK3} {Q:VK} (k:Ks K H Q3 Q) (e:Kp H H1):Ks K H1 Q3 Q:=λ d μ v H' q e'=>k d μ v H' q (e.trans e')
def RdE (K:Fg) (tv:TE) (t:TE3):Prop:=∀ σ H Q ρ μ Q3,RSt K H ρ σ->RelM K μ H->t ρ μ Q3->Ks K H Q3 Q->tv σ H Q
def RE (X:Cx) (e:Expr) (t:TE3):Prop:=∃ tv,PE X e tv /\ RdE X.K tv t
def RdT (K:Fg) (tv:TT) (t:TT3):Prop:=∀ σ H Q ρ μ Q3,RSt K H ρ σ->RelM K μ H->t ρ μ Q3->(∀ b μ' H',Q3 b μ'->Kp H H'->RelM K μ' H'->Q b H')->tv σ H Q
def RT (X:Cx) (e:Expr) (t:TT3):Prop:=∃ tv,PT X e tv /\ RdT X.K tv t
def RW (X:Cx) (e:Expr) (t:TT3):Prop:=∃ tv,PW X e tv /\ RdT X.K tv t
def RdA (K:Fg) (tv:TA) (t:TA3):Prop:=∀ σ H Q ρ μ Q3,RSt K H ρ σ->RelM K μ H->t ρ μ Q3->(∀ ds μ' vs H',Q3 ds μ'->Kp H H'->RelDs K H' ds vs->RelM K μ' H'->Q vs H')->tv σ H Q
def RA (X:Cx) (es:List Expr) (t:TA3):Prop:=∃ tv,PA X es tv /\ RdA X.K tv t
structure KsD (K:Fg) (H:Hp) (D3:Ends3) (D:Ends):Prop where
 nx:∀ ρ μ σ H',D3.nx ρ μ->Kp H H'->RSt K H' ρ σ->RelM K μ H'->D.nx σ H'
 bk:∀ ρ μ σ H',D3.bk ρ μ->Kp H H'->RSt K H' ρ σ->RelM K μ H'->D.bk σ H'
 ct:∀ ρ μ σ H',D3.ct ρ μ->Kp H H'->RSt K H' ρ σ->RelM K μ H'->D.ct σ H'
 rt:Ks K H D3.rt D.rt
theorem KsD.after {K:Fg} {H H1:Hp} {D3:Ends3} {D:Ends} (k:KsD K H D3 D) (e:Kp H H1):KsD K H1 D3 D :=
 ⟨λ ρ μ σ H' q e'=>k.nx ρ μ σ H' q (e.trans e'),λ ρ μ σ H' q e'=>k.bk ρ μ σ H' q (e.trans e'),λ ρ μ σ H' q e'=>k.ct ρ μ σ H' q (e.trans e'),k.rt.after e⟩
def RdS (K:Fg) (tv:TS) (t:TS3):Prop:=∀ σ H D ρ μ D3,RSt K H ρ σ->RelM K μ H->t D3 ρ μ->KsD K H D3 D->tv D σ H
def RS (X:Cx) (st:Stmt) (t:TS3):Prop:=∃ tv,PS X st tv /\ RdS X.K tv t
def RSs (X:Cx) (st:List Stmt) (t:TS3):Prop:=∃ tv,PSs X st tv /\ RdS X.K tv t
def RdG (K:Fg) (tv:TG) (t:TG3):Prop:=∀ v d σ H Q ρ μ Q3,RSt K H ρ σ->RelM K μ H->RelD K H d v->t d ρ μ Q3->(∀ ρ' μ' σ' H',Q3 ρ' μ'->Kp H H'->RSt K H' ρ' σ'->RelM K μ' H'->Q σ' H')->tv v σ H Q
def RG (X:Cx) (e:Expr) (t:TG3):Prop:=∃ tv,PG X e tv /\ RdG X.K tv t
def RdGs (K:Fg) (tv:TGs) (t:TGs3):Prop:=∀ vs ds σ H Q ρ μ Q3,RSt K H ρ σ->RelM K μ H->RelDs K H ds vs->t ds ρ μ Q3->(∀ ρ' μ' σ' H',Q3 ρ' μ'->Kp H H'->RSt K H' ρ' σ'->RelM K μ' H'->Q σ' H')->tv vs σ H Q
def RGs (X:Cx) (es:List Expr) (t:TGs3):Prop:=∃ tv,PGs X es tv /\ RdGs X.K tv t
def RdO (K:Fg) (r:R2) (r3:R3):Prop:=∀ x y v u H Q μ Q3,RelM K μ H->RelD K H x v->RelD K H y u->r3 x y μ Q3->Ks K H Q3 Q->r v u H Q
def RO (X:Cx) (f:Value->Value->Sem Value) (r3:R3):Prop:=∃ r,OpR X f r /\ RdO X.K r r3
def RdU (K:Fg) (r:V->Hp->VK->Prop) (r3:D->Mu->VK3->Prop):Prop:=∀ x v H Q μ Q3,RelM K μ H->RelD K H x v->r3 x μ Q3->Ks K H Q3 Q->r v H Q
def RU (X:Cx) (f:Value->Sem Value) (r3:D->Mu->VK3->Prop):Prop:=∃ r,UnR X f r /\ RdU X.K r r3
def RdC (K:Fg) (r:List V->Hp->VK->Prop) (r3:C3):Prop:=∀ xs vs H Q μ Q3,RelM K μ H->RelDs K H xs vs->r3 xs μ Q3->Ks K H Q3 Q->r vs H Q
def RC (X:Cx) (f:Value) (r3:C3):Prop:=∃ r,CallR X f r /\ RdC X.K r r3
def RX (X:Cx) (r3:R3):Prop:=∃ r,IxR X r /\ RdO X.K r r3
section
variable {X:Cx} {a b c e:Expr} {ta tb tc te:TE3} {pos:Pos}
theorem ya0 (i:Nat) {x:Str} (hN:X.N[i]?=some x:=by rfl) (hv:Vis X.env.scope x:=by first | exact Or.inl rfl | exact Or.inr (Or.inl rfl) | exact Or.inr (Or.inr rfl)) (hd:(x == ("__debug__" : Str))=false:=by decide)
    (hcd:(x == ("__classdict__" : Str))=false:=by decide):RE X (.Name x pos) (v3 i):=by
 refine ⟨_,tv2 hN hv hd hcd,λ σ H Q ρ μ Q3 s m h k=>?_⟩
 unfold v3 at h
 cases q:getI ρ i with
 | none=>rw [q] at h; exact h.elim
 | some d =>
  rw [q] at h
  obtain ⟨v,e,r⟩:=s.at' i d q
  exact ⟨v,e,k d μ v H h (Kp.refl H) r m⟩
theorem RdE.cst {K:Fg} {d:D} {v:V} (r:∀ H,RelD K H d v):RdE K (tC v) (c3 d):=λ σ H Q ρ μ Q3 s m h k=>k d μ v H h (Kp.refl H) (r H) m
theorem wa0 {i:Int} {j}:RE X (.Constant (.int i) j pos) (c3 (.int i)):=⟨_,uj4,RdE.cst λ _=>.int i⟩
theorem yh1 {i:Bool} {j}:RE X (.Constant (.bool i) j pos) (c3 (.bl i)):=⟨_,wx4,RdE.cst λ _=>.bl i⟩
theorem xv0 {j}:RE X (.Constant .none j pos) (c3 .non):=⟨_,wj4,RdE.cst λ _=>.non⟩
theorem ug0 {x:Str} {j}:RE X (.Constant (.str x) j pos) (c3 (.str x)):=⟨_,xj4,RdE.cst λ _=>.str x⟩
def Gd (K:Fg) (mg:Str->Option Value) (x:Str) (d:D):Prop:=∃ u v,mg x=some u /\ RelV v u /\ ∀ H,RelD K H d v
theorem re_g {x:Str} {d:D} (g:Gd X.K X.mg x d) (hg:Gl X x:=by rfl) (hd:(x == ("__debug__" : Str))=false:=by decide):RE X (.Name x pos) (c3 d):=by
 obtain ⟨u,v,hm,r,rd⟩:=g
 exact ⟨_,sf3 hg hm r hd,RdE.cst rd⟩
theorem xt0 {x:Str} {T:String} (hm:X.mg x=none) (hv:bootBuiltins x=some (.type T)) (hg:Gl X x:=by rfl) (hn:x ≠ "__name__" := by decide) (hd:(x == ("__debug__" : Str))=false:=by decide):RE X (.Name x pos) (c3 (.ty T)) :=
 ⟨_,vg3 hg hm hv (show RelV (.ty T) (.type T) from rfl) hn hd,RdE.cst λ _=>.ty T⟩
theorem vb0 {op:Operator} {r3:R3} (ho:RO X (binaryOp op) r3) (ha:RE X a ta) (hb:RE X b tb):RE X (.BinOp a op b pos) (o3 r3 ta tb):=by
 obtain ⟨r,po,ro⟩:=ho
 obtain ⟨va,pa,ra⟩:=ha
 obtain ⟨vb,pb,rb⟩:=hb
 exact ⟨_,yx4 po pa pb,λ σ H Q ρ μ Q3 s m h k=>ra σ H _ ρ μ _ s m h λ x μ1 v H1 h1 k1 r1 m1=>rb σ H1 _ ρ μ1 _ (s.mono k1) m1 h1 λ y μ2 u H2 h2 k2 r2 m2 =>
  ro x y v u H2 Q μ2 Q3 m2 (r1.mono k2) r2 h2 (k.after (k1.trans k2))⟩
theorem wz1 {op:UnaryOp} {r3:D->Mu->VK3->Prop} (ho:RU X (unaryOp op) r3) (ha:RE X a ta):RE X (.UnaryOp op a pos) (un3 r3 ta):=by
 obtain ⟨r,po,ro⟩:=ho
 obtain ⟨va,pa,ra⟩:=ha
 exact ⟨_,sw4 po pa,λ σ H Q ρ μ Q3 s m h k=>ra σ H _ ρ μ _ s m h λ x μ1 v H1 h1 k1 r1 m1=>ro x v H1 Q μ1 Q3 m1 r1 h1 (k.after k1)⟩
theorem RdE.op {K:Fg} {r:R2} {r3:R3} {va vb:TE} (ra:RdE K va ta) (rb:RdE K vb tb) (ro:RdO K r r3):RdE K (tOp r va vb) (o3 r3 ta tb):=λ σ H Q ρ μ Q3 s m h k =>
 ra σ H _ ρ μ _ s m h λ x μ1 v H1 h1 k1 r1 m1=>rb σ H1 _ ρ μ1 _ (s.mono k1) m1 h1 λ y μ2 u H2 h2 k2 r2 m2=>ro x y v u H2 Q μ2 Q3 m2 (r1.mono k2) r2 h2 (k.after (k1.trans k2))
theorem RdT.test {K:Fg} {va:TE} (ra:RdE K va ta):RdT K (ys3 va) (b3 ta):=λ σ H Q ρ μ Q3 s m h k=>by
 refine ra σ H _ ρ μ _ s m h λ d μ1 v H1 h1 k1 r1 m1=>?_
 cases r1 with
 | bl c=>exact ⟨c,rfl,k c μ1 H1 h1 k1 m1⟩
 | _=>exact False.elim h1
theorem zm0 {op:CmpOp} {r3:R3} (ho:RO X (compareOp op) r3) (ha:RE X a ta) (hb:RE X b tb) (hm:behindInMarks op b=false:=by first | exact sv2 _ | with_unfolding_all rfl):RE X (.Compare a [op] [b] pos) (o3 r3 ta tb):=by
 obtain ⟨r,po,ro⟩:=ho
 obtain ⟨va,pa,ra⟩:=ha
 obtain ⟨vb,pb,rb⟩:=hb
 exact ⟨_,zg3 po pa pb hm,ra.op rb ro⟩
theorem sb0 {op:CmpOp} {r3:R3} (ho:RO X (compareOp op) r3) (ha:RE X a ta) (hb:RE X b tb) (hm:behindInMarks op b=false:=by first | exact sv2 _ | with_unfolding_all rfl):RT X (.Compare a [op] [b] pos) (b3 (o3 r3 ta tb)):=by
 obtain ⟨r,po,ro⟩:=ho
 obtain ⟨va,pa,ra⟩:=ha
 obtain ⟨vb,pb,rb⟩:=hb
 exact ⟨_,ze3 po pa pb hm,RdT.test (ra.op rb ro)⟩
theorem tk0 (ha:RE X a ta) (he:∀ whole,isTrue a X.env whole=(do let v <- whole; standAt a.pos; holding [v] (truthy v)):=by intro _; rfl):RT X a (b3 ta):=by
 obtain ⟨va,pa,ra⟩:=ha
 exact ⟨_,vh4 pa he,RdT.test ra⟩
variable {tA tB':TT3} {rest:List Expr}
theorem RW.pt (h:RW X a tA):RT X a tA:=let ⟨t,p,r⟩:=h; ⟨t,p.pt,r⟩
theorem sl0 (h:RW X a tA):RT X a tA:=h.pt
theorem uj0 (h:RT X a tA):RW X (.BoolOp .And [a] pos) tA:=let ⟨t,p,r⟩:=h; ⟨t,sd3 p,r⟩
theorem vu0 (h:RT X a tA):RW X (.BoolOp .Or [a] pos) tA:=let ⟨t,p,r⟩:=h; ⟨t,xh4 p,r⟩
theorem xm0 (ha:RT X a tA) (hb:RW X (.BoolOp .And (b :: rest) pos) tB'):RW X (.BoolOp .And (a :: b :: rest) pos) (and3 tA tB'):=by
 obtain ⟨va,pa,ra⟩:=ha
 obtain ⟨vb,pb,rb⟩:=hb
 refine ⟨_,wh4 pa pb,λ σ H Q ρ μ Q3 s m h k=>ra σ H _ ρ μ _ s m h λ c μ1 H1 h1 k1 m1=>?_⟩
 cases c with
 | true=>exact rb σ H1 Q ρ μ1 Q3 (s.mono k1) m1 h1 λ b μ' H' q e=>k b μ' H' q (k1.trans e)
 | false=>exact k _ _ _ h1 k1 m1
theorem yc1 (ha:RT X a tA) (hb:RW X (.BoolOp .Or (b :: rest) pos) tB'):RW X (.BoolOp .Or (a :: b :: rest) pos) (or3 tA tB'):=by
 obtain ⟨va,pa,ra⟩:=ha
 obtain ⟨vb,pb,rb⟩:=hb
 refine ⟨_,ww4 pa pb,λ σ H Q ρ μ Q3 s m h k=>ra σ H _ ρ μ _ s m h λ c μ1 H1 h1 k1 m1=>?_⟩
 cases c with
 | true=>exact k _ _ _ h1 k1 m1
 | false=>exact rb σ H1 Q ρ μ1 Q3 (s.mono k1) m1 h1 λ b μ' H' q e=>k b μ' H' q (k1.trans e)
theorem sk0 (ha:RT X a tA):RT X (.UnaryOp .Not a pos) (not3 tA):=by
 obtain ⟨va,pa,ra⟩:=ha
 exact ⟨_,uh4 pa,λ σ H Q ρ μ Q3 s m h k=>ra σ H _ ρ μ _ s m h λ c μ1 H1 h1 k1 m1=>k _ _ _ h1 k1 m1⟩
theorem zc1 {op} (h:RE X a ta):RE X (.BoolOp op [a] pos) ta:=let ⟨t,p,r⟩:=h; ⟨t,yj4 p,r⟩
theorem yl1 (ha:RE X a ta) (hb:RE X (.BoolOp .And (b :: rest) pos) tb):RE X (.BoolOp .And (a :: b :: rest) pos) (andV3 ta tb):=by
 obtain ⟨va,pa,ra⟩:=ha
 obtain ⟨vb,pb,rb⟩:=hb
 refine ⟨_,sj4 pa pb,λ σ H Q ρ μ Q3 s m h k=>ra σ H _ ρ μ _ s m h λ d μ1 v H1 h1 k1 r1 m1=>?_⟩
 cases r1 with
 | bl c =>
  refine ⟨c,rfl,?_⟩
  cases c with
  | true=>exact rb σ H1 Q ρ μ1 Q3 (s.mono k1) m1 h1 (k.after k1)
  | false=>exact k _ _ _ _ h1 k1 (.bl _) m1
 | _=>exact False.elim h1
theorem xu4 (ha:RE X a ta) (hb:RE X (.BoolOp .Or (b :: rest) pos) tb):RE X (.BoolOp .Or (a :: b :: rest) pos) (orV3 ta tb):=by
 obtain ⟨va,pa,ra⟩:=ha
 obtain ⟨vb,pb,rb⟩:=hb
 refine ⟨_,xx4 pa pb,λ σ H Q ρ μ Q3 s m h k=>ra σ H _ ρ μ _ s m h λ d μ1 v H1 h1 k1 r1 m1=>?_⟩
 cases r1 with
 | bl c =>
  refine ⟨c,rfl,?_⟩
  cases c with
  | true=>exact k _ _ _ _ h1 k1 (.bl _) m1
  | false=>exact rb σ H1 Q ρ μ1 Q3 (s.mono k1) m1 h1 (k.after k1)
 | _=>exact False.elim h1
theorem zb4 (ha:RE X a ta):RE X (.UnaryOp .Not a pos) (notV3 ta):=by
 obtain ⟨va,pa,ra⟩:=ha
 refine ⟨_,zj4 pa,λ σ H Q ρ μ Q3 s m h k=>ra σ H _ ρ μ _ s m h λ d μ1 v H1 h1 k1 r1 m1=>?_⟩
 cases r1 with
 | bl c=>exact ⟨c,rfl,k _ _ _ _ h1 k1 (.bl _) m1⟩
 | _=>exact False.elim h1
theorem wb4 (hc:RT X c tA) (ha:RE X a ta) (hb:RE X b tb):RE X (.IfExp c a b pos) (if3 tA ta tb):=by
 obtain ⟨vc,pc,rc⟩:=hc
 obtain ⟨va,pa,ra⟩:=ha
 obtain ⟨vb,pb,rb⟩:=hb
 refine ⟨_,wn2 pc pa pb,λ σ H Q ρ μ Q3 s m h k=>rc σ H _ ρ μ _ s m h λ c μ1 H1 h1 k1 m1=>?_⟩
 cases c with
 | true=>exact ra σ H1 Q ρ μ1 Q3 (s.mono k1) m1 h1 (k.after k1)
 | false=>exact rb σ H1 Q ρ μ1 Q3 (s.mono k1) m1 h1 (k.after k1)
variable {es:List Expr} {t:TA3}
theorem va0:RA X [] nil3:=⟨_,xk4,λ σ H Q ρ μ Q3 s m h k=>k [] μ [] H h (Kp.refl H) .nil m⟩
theorem xa0 (ha:RE X e te) (hr:RA X es t) (hs:starEach (e :: es) X.env=(false,eval e X.env) :: starEach es X.env:=by rfl):RA X (e :: es) (cons3 te t):=by
 obtain ⟨va,pa,ra⟩:=ha
 obtain ⟨vb,pb,rb⟩:=hr
 exact ⟨_,sg3 pa pb hs,λ σ H Q ρ μ Q3 s m h k=>ra σ H _ ρ μ _ s m h λ d μ1 v H1 h1 k1 r1 m1=>rb σ H1 _ ρ μ1 _ (s.mono k1) m1 h1 λ ds μ2 vs H2 h2 k2 r2 m2 =>
  k _ _ _ _ h2 (k1.trans k2) (.cons (r1.mono k2) r2) m2⟩
theorem zd0 {x1} (h:RA X es t):RE X (.Tuple es x1 pos) (tup3 t):=by
 obtain ⟨va,pa,ra⟩:=h
 refine ⟨_,si4 pa,λ σ H Q ρ μ Q3 s m h k=>ra σ H _ ρ μ _ s m h λ ds μ1 vs H1 h1 k1 r1 m1=>⟨by rw [<- r1.length]; exact h1.1,λ p hp=>?_⟩⟩
 exact k _ _ _ _ h1.2 (k1.trans (Kp.new hp)) (.tup yf0 (r1.mono (Kp.new hp))) (m1.newT hp)
theorem vj0 (h:RA X es t):RE X (.List es pos) (lst3 t):=by
 obtain ⟨va,pa,ra⟩:=h
 refine ⟨_,vj4 pa,λ σ H Q ρ μ Q3 s m h k=>ra σ H _ ρ μ _ s m h λ ds μ1 vs H1 h1 k1 r1 m1=>⟨by rw [<- r1.length]; exact h1.1,λ p hp=>?_⟩⟩
 exact k _ _ _ _ (h1.2 p (m1.free hp)) (k1.trans (Kp.new hp)) (.ref p) (m1.newL hp r1)
variable {st:Stmt} {sts:List Stmt} {t3 u3:TS3}
theorem zc0:RSs X [] next3:=⟨_,ve3,λ σ H D ρ μ D3 s m h k=>k.nx ρ μ σ H h (Kp.refl H) s m⟩
theorem sa0 (h:RS X st t3):RSs X [st] t3:=let ⟨t,p,r⟩:=h; ⟨t,we3 p,r⟩
theorem ua0 (h1:RS X st t3) (h2:RSs X sts u3):RSs X (st :: sts) (seq3 t3 u3):=by
 obtain ⟨va,pa,ra⟩:=h1
 obtain ⟨vb,pb,rb⟩:=h2
 refine ⟨_,vm2 pa pb,λ σ H D ρ μ D3 s m h k=>ra σ H _ ρ μ _ s m h ⟨λ ρ1 μ1 σ1 H1 h1 k1 s1 m1=>rb σ1 H1 D ρ1 μ1 D3 s1 m1 h1 (k.after k1),k.bk,k.ct,k.rt⟩⟩
theorem zg0:RS X st never3:=⟨_,tm2,λ σ H D ρ μ D3 s m h k=>h⟩
theorem ue0 (he:RE X e te) (hs:swapsWith e none pos.line X.env=pure false:=by rfl):RS X (.Expr e pos) (drop3 te):=by
 obtain ⟨va,pa,ra⟩:=he
 exact ⟨_,se3 pa hs,λ σ H D ρ μ D3 s m h k=>ra σ H _ ρ μ _ s m h λ d μ1 v H1 h1 k1 r1 m1=>k.nx ρ μ1 σ H1 h1 k1 (s.mono k1) m1⟩
theorem wb0 (he:RE X e te):RS X (.Return (some e) pos) (ret3 te):=by
 obtain ⟨va,pa,ra⟩:=he
 exact ⟨_,th4 pa,λ σ H D ρ μ D3 s m h k=>ra σ H _ ρ μ _ s m h k.rt⟩
theorem ud0 {as bs:List Stmt} (hc:RT X c tA) (ha:RSs X as t3) (hb:RSs X bs u3):RS X (.If c as bs pos) (ifs3 tA t3 u3):=by
 obtain ⟨vc,pc,rc⟩:=hc
 obtain ⟨va,pa,ra⟩:=ha
 obtain ⟨vb,pb,rb⟩:=hb
 refine ⟨_,vw4 pc pa pb,λ σ H D ρ μ D3 s m h k=>rc σ H _ ρ μ _ s m h λ c μ1 H1 h1 k1 m1=>?_⟩
 cases c with
 | true=>exact ra σ H1 D ρ μ1 D3 (s.mono k1) m1 h1 (k.after k1)
 | false=>exact rb σ H1 D ρ μ1 D3 (s.mono k1) m1 h1 (k.after k1)
theorem wc0 {i:Nat} {x:Str} (hN:X.N.Nodup) (hi:X.N[i]?=some x:=by rfl) (hx:Loc X.env.scope x:=by first | exact Or.inl rfl | exact Or.inr rfl) (hf:X.fn x=true \/ X.env.scope.names.lookup x=some .local:=by first | exact .inl rfl | exact .inr rfl) :
    RG X (.Name x pos) (gn3 i):=⟨_,uf3 hN hi hx hf,λ v d σ H Q ρ μ Q3 s m r h k=>k _ _ _ _ h (Kp.refl H) (s.set i r) m⟩
theorem tn0:RGs X [] gnil3:=⟨_,vf3,λ vs ds σ H Q ρ μ Q3 s m r h k=>by
 cases r with
 | nil=>exact ⟨rfl,k _ _ _ _ h (Kp.refl H) s m⟩
 | cons _ _=>exact False.elim h⟩
theorem ye0 {g:TG3} {gs:TGs3} (h1:RG X e g) (h2:RGs X es gs) (hs:(assignEach (e :: es) X.env).map (·.2)=assign e X.env :: (assignEach es X.env).map (·.2):=by rfl):RGs X (e :: es) (gcons3 g gs):=by
 obtain ⟨va,pa,ra⟩:=h1
 obtain ⟨vb,pb,rb⟩:=h2
 refine ⟨_,xn2 pa pb hs,λ vs ds σ H Q ρ μ Q3 s m r h k=>?_⟩
 cases r with
 | nil=>exact False.elim h
 | cons r1 r2=>exact ⟨_,_,rfl,ra _ _ σ H _ ρ μ _ s m r1 h λ ρ1 μ1 σ1 H1 h1 k1 s1 m1=>rb _ _ σ1 H1 Q ρ1 μ1 Q3 s1 m1 (r2.mono k1) h1 λ ρ' μ' σ' H' q e=>k ρ' μ' σ' H' q (k1.trans e)⟩
theorem tu0 {kk:Nat} {gs:TGs3} {n:Nat} (hc:X.calm=true) (h:RGs X es gs) (hn:(assignEach es X.env).length=n:=by rfl) (hst:(assignEach es X.env).findIdx? (·.1)=none:=by rfl):RG X (.Tuple es kk pos) (gtup3 n gs):=by
 obtain ⟨va,pa,ra⟩:=h
 refine ⟨_,ui4 hc pa hn hst,λ v d σ H Q ρ μ Q3 s m r h k=>?_⟩
 cases r with
 | tup hq rs =>
  obtain ⟨hl,h⟩:=h
  exact ⟨_,_,rfl,(SqT.of hq),by rw [<- rs.length]; exact hl,ra _ _ σ H Q ρ μ Q3 s m rs h k⟩
 | _=>exact False.elim h
theorem xc0 {i:Nat} {x:Str} {pos':Pos} (hN:X.N.Nodup) (he:RE X e te) (hi:X.N[i]?=some x:=by rfl) (hx:Loc X.env.scope x:=by first | exact Or.inl rfl | exact Or.inr rfl) (hs:swapsWith e (some (.Name x pos')) pos.line X.env=pure false:=by rfl)
    (hf:X.fn x=true \/ X.env.scope.names.lookup x=some .local:=by first | exact .inl rfl | exact .inr rfl):RS X (.Assign [.Name x pos'] e pos) (set3 i te):=by
 obtain ⟨va,pa,ra⟩:=he
 exact ⟨_,sz1 hN hi hx pa hs hf,λ σ H D ρ μ D3 s m h k=>ra σ H _ ρ μ _ s m h λ d μ1 v H1 h1 k1 r1 m1=>k.nx _ _ _ _ h1 k1 ((s.mono k1).set i r1) m1⟩
theorem uu0 {tg:Expr} {g:TG3} (he:RE X e te) (hg:RG X tg g) (hs:swapsWithSole [tg] e pos.line X.env=pure false:=by rfl) (hw:swappedStores [tg] e X.env=pure none:=by rfl)
    (h1:(assignEach [tg] X.env).map (·.2)=[assign tg X.env]:=by rfl):RS X (.Assign [tg] e pos) (asg3 te g):=by
 obtain ⟨va,pa,ra⟩:=he
 obtain ⟨vg,pg,rg⟩:=hg
 exact ⟨_,xi4 pa pg hs hw h1,λ σ H D ρ μ D3 s m h k=>ra σ H _ ρ μ _ s m h λ d μ1 v H1 h1 k1 r1 m1=>rg v d σ H1 _ ρ μ1 _ (s.mono k1) m1 r1 h1 λ ρ' μ' σ' H' q e=>k.nx ρ' μ' σ' H' q (k1.trans e)⟩
theorem xn4 (n:Nat) (i:Int):L2.ixN n i=ixN n i:=rfl
theorem sy1 {o i:Expr} {to ti:TE3} (ho:RE X o to) (hi:RE X i ti)
    (ha:∀ v,assign (.Subscript o i pos) X.env v=(do
     let ov <- holding [v] (eval o X.env)
     let iv <- holding [v,ov] (eval i X.env)
     standAt pos
     holding [v,ov,iv] (setItem ov iv v)
     release [v,ov,iv] []):=by intro _; rfl):RG X (.Subscript o i pos) (sub3 to ti):=by
 obtain ⟨va,pa,ra⟩:=ho
 obtain ⟨vb,pb,rb⟩:=hi
 refine ⟨_,ti4 pa pb wx0 ha,λ v d σ H Q ρ μ Q3 s m r h k=>ra σ H _ ρ μ _ s m h λ o' μ1 ov H1 h1 k1 r1 m1=>rb σ H1 _ ρ μ1 _ (s.mono k1) m1 h1 λ i' μ2 iv H2 h2 k2 r2 m2=>?_⟩
 cases r1 with
 | ref p =>
  cases r2 with
  | int kk =>
   dsimp only at h2
   cases e:μ2 p with
   | none=>rw [e] at h2; exact h2.elim
   | some oo =>
    cases oo with
    | ins _ _=>rw [e] at h2; exact h2.elim
    | dct _=>rw [e] at h2; exact h2.elim
    | dcl _=>rw [e] at h2; exact h2.elim
    | lst xs =>
     rw [e] at h2
     dsimp only at h2
     cases e2:ixN xs.length kk with
     | none=>rw [e2] at h2; exact h2.elim
     | some j =>
      rw [e2] at h2
      obtain ⟨vs,hv,rv⟩:=m2 p xs e
      have kk':=k1.trans k2
      refine ⟨p,vs,kk,j,rfl,rfl,hv,by rw [<- rv.length]; exact e2,k _ _ _ _ h2 (kk'.trans (Kp.wr hv)) (s.mono (kk'.trans (Kp.wr hv))) (m2.wr hv (rv.set (r.mono kk') j))⟩
  | _=>exact False.elim h2
 | _=>cases r2 <;> exact False.elim h2
end
end Pv
namespace Pv
open PySem PySem.Spec PyProof.Rows L2
def ItOk (K:Fg) (J:It) (l:List D) (S:Mu->Prop) (H0:Hp):Prop:=∀ i H μ,Kp H0 H->RelM K μ H->S μ ->
 (∀ d,l[i]?=some d->J.go i H /\ ∀ x H2,J.yld i H x H2->Kp H H2 /\ RelM K μ H2 /\ RelD K H2 d x) /\ (l.length<=i->J.stop i H)
def RdI (K:Fg) (wi:TI) (ti:TI3):Prop:=∀ σ H R ρ μ R3,RSt K H ρ σ->RelM K μ H->ti ρ μ R3->(∀ l S μ' J H',R3 l S μ'->Kp H H'->RelM K μ' H'->ItOk K J l S H'->R J H')->wi σ H R
def RI (X:Cx) (tg iter:Expr) (ti:TI3):Prop:=∃ wi,PI X tg iter wi /\ RdI X.K wi ti
section
variable {X:Cx} {tg iter a b c e:Expr} {ta tb te:TE3} {pos:Pos}
def Its (z:Str):It:=⟨λ i _=>i < z.cps.size,λ i H x H'=>H'=H /\ ∃ c,z.cps[i]?=some c /\ x=.str ⟨#[c]⟩,λ i _=>z.cps.size<=i⟩
theorem vj1 {P:Program} {w:World} {K:Fg} {tg:Expr} (T:String) (x:Str) (t:Tok) (it:Addr)
    (hT:["enumerate", "zip", "dict_itemiterator", "dict_reverseitemiterator", "odict_iterator", "itertools.zip_longest", "itertools.pairwise"].contains T=false)
    (W:∀ A:Around,A.handled=none->Walks P w A it [it] [it] x.cps.size (SignAt x) (λ i h=>h.IsStrIter it T x t i))
    (sf:∀ (A:Around) (i:Nat) (s:Shared) (Q:Value->Shared->Prop) (E:Value->Shared->Prop),s.heap.IsStrIter it T x t i->Q (.ref it) s->wpAny (model P w) A (pyIter (.ref it)) Q E s) :
    Turn P w K tg (Its x) [it] it (λ i h=>h.IsStrIter it T x t i /\ i<=x.cps.size) where
 mem:=by simp
 obj:=λ i h st b hb=>by
  have e:b=it:=by simpa using hb
  subst e
  obtain ⟨⟨o,e,c,d⟩,_⟩:=st
  exact ⟨o,e,λ v z=>by rw [d] at z; cases z⟩
 keep:=λ i h h' st k=>by
  obtain ⟨⟨o,e,c,d⟩,l⟩:=st
  exact ⟨⟨o,k it (by simp) o e,c,d⟩,l⟩
 item:=by
  intro X hP hw hK hc i pins s σ H E I hf st hg
  subst hP hw hK
  obtain ⟨f0,f1,f2,f3,f4,f5⟩:=hf it (by simp)
  refine (W X.A (I.ok.hd hc)).item i s _ E hg st.1 λ v h' tk hP hst' hk=>?_
  obtain ⟨c,u,ec,rfl⟩:=hP
  have I1:Inv X pins σ H { s with heap:=h',toks:=tk }:=I.turned (t':=tk) (λ b o hb e=>hk b o (by simpa using hb) e) f0 f1 f3 f4 f5
  obtain ⟨o,e,c1,d⟩:=id hst'
  exact ⟨_,rfl,wq2 (s:={ s with heap:=h',toks:=tk }) e c1 d hT ⟨.str ⟨#[c]⟩,H,I1,⟨u,rfl⟩,⟨rfl,c,ec,rfl⟩,⟨hst',hg⟩,λ b hb=>(hf b hb).1⟩⟩
 done:=by
  intro X hP hw hK hc i pins s σ H E I hf st hg
  subst hP hw hK
  have hg':x.cps.size<=i:=hg
  obtain ⟨f0,f1,f2,f3,f4,f5⟩:=hf it (by simp)
  have e1:i=x.cps.size:=Nat.le_antisymm st.2 hg'
  subst e1
  exact (W X.A (I.ok.hd hc)).done s _ E st.1 λ h' tk hk=>⟨rfl,I.turned (t':=tk) (λ b o hb e=>hk b o (by simpa using hb) e) f0 f1 f3 f4 f5⟩
 self:=λ A i s Q E st h=>sf A i s Q E st.1 h
def iSeq (K:Fg) (tl:TE):TI:=λ σ H R=>tl σ H λ x H1=>(∃ z,x=.str z /\ R (Its z) H1) \/ ∃ a,x=.ref a /\ (((∃ xs,SqL K H1 a xs) /\ R (Itl K a) H1) \/ ((∃ xs,SqT K H1 a xs) /\ R (Itt K a) H1))
theorem vi4 {l:Expr} {tl:TE} (hl:PE X l tl):PI X tg l (iSeq X.K tl):=by
 intro pins s σ H R I h
 refine thn (hl pins s σ H _ I h) λ v s1 ⟨x,H1,I1,r1,q1⟩=>?_
 have fp:∀ b ∈ [s1.heap.objs.size],FpOk X pins H1 b:=λ b hb=>by
  have e:b=s1.heap.objs.size:=by simpa using hb
  subst e
  exact I1.fpOk (Nat.le_refl _) (I1.hok.fresh (Nat.le_refl _))
 rcases q1 with ⟨z,e,q⟩ | ⟨a,e,q⟩
 ·subst e
  obtain ⟨t,rfl⟩:=r1
  cases ha:z.cps.all (· < 128)
  ·refine wpAny_pyIter_wide ha ?_
   exact ⟨s1.heap.objs.size,[s1.heap.objs.size],_,_,H1,rfl,I1.kept (t':=s1.toks) λ b o e=>Heap.get?_push_of_some _ e,vj1 "str_iterator" z t _ (by decide) (λ A hA=>Walks.strWide hA _ z t) (λ _ _ _ _ _ st h=>wpAny_pyIter_striter_wide st h),⟨⟨_,Heap.get?_push_size _ rfl,rfl,rfl⟩,Nat.zero_le _⟩,fp,q⟩
  ·refine wpAny_pyIter_ascii ha ?_
   exact ⟨s1.heap.objs.size,[s1.heap.objs.size],_,_,H1,rfl,I1.kept (t':=s1.toks) λ b o e=>Heap.get?_push_of_some _ e,vj1 "str_ascii_iterator" z t _ (by decide) (λ A hA=>Walks.strAscii hA _ z t) (λ _ _ _ _ _ st h=>wpAny_pyIter_striter_ascii st h),⟨⟨_,Heap.get?_push_size _ rfl,rfl,rfl⟩,Nat.zero_le _⟩,fp,q⟩
 subst e
 cases r1
 rcases q with ⟨⟨xs,hq⟩,q⟩ | ⟨⟨xs,hq⟩,q⟩
 ·obtain ⟨its,rv,p,hz⟩:=I1.list hq
  refine wpAny_pyIter_list p.isList ?_
  exact ⟨s1.heap.objs.size,[s1.heap.objs.size],_,_,H1,rfl,I1.kept (t':=s1.toks) λ b o e=>Heap.get?_push_of_some _ e,xw1 a _,⟨_,Heap.get?_push_size _ rfl,rfl,rfl⟩,fp,q⟩
 ·obtain ⟨its,rv,p,hz⟩:=I1.tuple hq
  refine wpAny_pyIter_tuple (show s1.heap.IsTuple a its.toArray from p) ?_
  exact ⟨s1.heap.objs.size,[s1.heap.objs.size],_,_,H1,rfl,I1.kept (t':=s1.toks) λ b o e=>Heap.get?_push_of_some _ e,uo1 a _,⟨_,Heap.get?_push_size _ rfl,rfl,rfl⟩,fp,q⟩
theorem wp2 {K:Fg} {H0:Hp} {a:Addr} {l:List D} {vs:List V} (h:SqT K H0 a vs) (r:RelDs K H0 l vs):ItOk K (Itt K a) l (λ _=>True) H0:=λ i H μ k m _=>by
 refine ⟨λ d e=>?_,λ hl=>⟨vs,SqT.mono k h,by rw [<- r.length]; exact hl⟩⟩
 obtain ⟨v,e1,r1⟩:=r.get e
 refine ⟨⟨vs,v,SqT.mono k h,e1⟩,λ x H2 y=>?_⟩
 obtain ⟨rfl,y⟩:=y
 have e2:=y vs (SqT.mono k h)
 rw [e1] at e2; cases e2
 exact ⟨Kp.refl _,m,r1.mono k⟩
theorem tp2 {K:Fg} {H0:Hp} {a:Addr} {l:List D} {vs:List V} (h:SqF K H0 a vs) (r:RelDs K H0 l vs):ItOk K (Itl K a) l (λ _=>True) H0:=λ i H μ k m _=>by
 refine ⟨λ d e=>?_,λ hl=>⟨vs,(SqF.mono k h).l,by rw [<- r.length]; exact hl⟩⟩
 obtain ⟨v,e1,r1⟩:=r.get e
 refine ⟨⟨vs,v,(SqF.mono k h).l,e1⟩,λ x H2 y=>?_⟩
 obtain ⟨rfl,y⟩:=y
 have e2:=y vs (SqF.mono k h).l
 rw [e1] at e2; cases e2
 exact ⟨Kp.refl _,m,r1.mono k⟩
theorem up2 {K:Fg} {H0:Hp} {a:Addr} {l:List D}:ItOk K (Itl K a) l (λ μ=>μ a=some (.lst l)) H0:=λ i H μ k m s=>by
 obtain ⟨vs,h,r⟩:=m a l s
 refine ⟨λ d e=>?_,λ hl=>⟨vs,SqL.of h,by rw [<- r.length]; exact hl⟩⟩
 obtain ⟨v,e1,r1⟩:=r.get e
 refine ⟨⟨vs,v,SqL.of h,e1⟩,λ x H2 y=>?_⟩
 obtain ⟨rfl,y⟩:=y
 have e2:=y vs (SqL.of h)
 rw [e1] at e2; cases e2
 exact ⟨Kp.refl _,m,r1⟩
theorem vp2 {K:Fg} {H0:Hp} (z:Str):ItOk K (Its z) (z.cps.toList.map λ c=>D.str ⟨#[c]⟩) (λ _=>True) H0:=λ i H μ k m _=>by
 refine ⟨λ d e=>?_,λ hl=>by show z.cps.size<=i; simpa using hl⟩
 rw [getElem?_map,getElem?_toList] at e
 cases ec:z.cps[i]? with
 | none=>rw [ec] at e; cases e
 | some c =>
  rw [ec] at e
  cases e
  refine ⟨?_,λ x H2 y=>?_⟩
  ·show i < z.cps.size
   rcases Nat.lt_or_ge i z.cps.size with h | h
   ·exact h
   ·rw [getElem?_eq_none h] at ec; cases ec
  ·obtain ⟨rfl,c',ec',rfl⟩:=y
   rw [ec] at ec'; cases ec'
   exact ⟨Kp.refl _,m,.str _⟩
theorem th0 (ha:RE X a ta):RI X tg a (is3 ta):=by
 obtain ⟨va,pa,ra⟩:=ha
 refine ⟨_,vi4 pa,λ σ H R ρ μ R3 s m h k=>ra σ H _ ρ μ _ s m h λ d μ1 v H1 h1 k1 r1 m1=>?_⟩
 cases r1 with
 | str z=>exact .inl ⟨z,rfl,k _ _ _ _ _ h1 k1 m1 (vp2 z)⟩
 | tup hq rs=>exact .inr ⟨_,rfl,.inr ⟨⟨_,(SqT.of hq)⟩,k _ _ _ _ _ h1 k1 m1 (wp2 (SqT.of hq) rs)⟩⟩
 | fls hq rs=>exact .inr ⟨_,rfl,.inl ⟨⟨_,hq.l⟩,k _ _ _ _ _ h1 k1 m1 (tp2 hq rs)⟩⟩
 | ref p =>
  dsimp only at h1
  cases e:μ1 p with
  | none=>rw [e] at h1; exact h1.elim
  | some oo =>
   cases oo with
   | ins _ _=>rw [e] at h1; exact h1.elim
   | dct _=>rw [e] at h1; exact h1.elim
   | dcl _=>rw [e] at h1; exact h1.elim
   | lst xs =>
    rw [e] at h1
    obtain ⟨vs,hv,rv⟩:=m1 p xs e
    exact .inr ⟨_,rfl,.inl ⟨⟨_,SqL.of hv⟩,k _ _ _ _ _ h1 k1 m1 up2⟩⟩
 | _=>exact False.elim h1
theorem yl2 (lo:Int) (n i:Nat):(rngD lo n)[i]?=if i < n then some (.int (lo + i)) else none:=by
 unfold rngD
 rw [getElem?_map]
 by_cases h:i < n
 ·rw [List.getElem?_range h,if_pos h]; rfl
 ·rw [List.getElem?_eq_none (by simpa using h),if_neg h]; rfl
theorem wp0 (lo:Int) (n:Nat):(rngD lo n).length=n:=by simp [rngD]
theorem wm1 {K:Fg} {H0:Hp} (lo:Int) (n:Nat):ItOk K (Itr lo n) (rngD lo n) (λ _=>True) H0:=λ i H μ k m _=>by
 refine ⟨λ d e=>?_,λ hl=>by rw [wp0] at hl; exact hl⟩
 rw [yl2] at e
 split at e
 ·next h =>
  cases e
  refine ⟨h,λ x H2 y=>?_⟩
  obtain ⟨rfl,rfl⟩:=y
  exact ⟨Kp.refl _,m,.int _⟩
 ·cases e
theorem sh0 {p:Pos} (hm:X.mg "range" = none) (ha:RE X a ta) (hg:Gl X "range" := by rfl) (hs:starEach [a] X.env=[(false,eval a X.env)]:=by rfl):RI X tg (.Call (.Name "range" p) [a] [] pos) (ir3 (cons3 ta nil3)):=by
 obtain ⟨va,pa,ra⟩:=xa0 ha va0 hs
 refine ⟨_,ta2 hg hm pa hs,λ σ H R ρ μ R3 s m h k=>ra σ H _ ρ μ _ s m h λ ds μ1 vs H1 h1 k1 r1 m1=>?_⟩
 cases r1 with
 | nil=>exact False.elim h1
 | cons r1 r2 =>
  cases r2 with
  | cons _ _=>cases r1 <;> exact False.elim h1
  | nil =>
   cases r1 with
   | int j=>exact ⟨j,rfl,h1.1.1,h1.1.2,k _ _ _ _ _ h1.2 k1 m1 (wm1 _ _)⟩
   | _=>exact False.elim h1
theorem ty1 {p:Pos} (hm:X.mg "range" = none) (ha:RE X a ta) (hb:RE X b tb) (hg:Gl X "range" := by rfl) (hs:starEach [a,b] X.env=[(false,eval a X.env),(false,eval b X.env)]:=by rfl) (hs2:starEach [b] X.env=[(false,eval b X.env)]:=by rfl) :
    RI X tg (.Call (.Name "range" p) [a,b] [] pos) (ir23 (cons3 ta (cons3 tb nil3))):=by
 obtain ⟨va,pa,ra⟩:=xa0 ha (xa0 hb va0 hs2) (by rw [hs,hs2])
 refine ⟨_,ua2 hg hm pa hs hs2,λ σ H R ρ μ R3 s m h k=>ra σ H _ ρ μ _ s m h λ ds μ1 vs H1 h1 k1 r1 m1=>?_⟩
 split at h1
 ·next i j =>
  cases r1 with
  | cons r1 r2 =>
   cases r2 with
   | cons r2 r3 =>
    cases r3
    cases r1
    cases r2
    exact ⟨i,j,rfl,h1.1,k _ _ _ _ _ h1.2 k1 m1 (wm1 _ _)⟩
 ·exact h1.elim
theorem zi0 {body:List Stmt} {ti:TI3} {g:TG3} {tb:TS3} (hp:PassesOwn (model X.prog X.w) X.A X.env X.xe) (hc:X.calm=true) (hi:RI X tg iter ti) (hg:RG X tg g) (hb:RSs X body tb)
    (hs:∀ x,foldedSetIterable iter X.env x=pure x:=by intro _; rfl):RS X (.For tg iter body [] pos) (for3 ti g tb):=by
 obtain ⟨wi,pi,ri⟩:=hi
 obtain ⟨vg,pg,rg⟩:=hg
 obtain ⟨vb,pb,rb⟩:=hb
 refine ⟨_,sh4 hp hc pi pg pb hs,λ σ H D ρ μ D3 s m h k=>ri σ H _ ρ μ _ s m h λ l S μ1 J H1 h1 k1 m1 ok=>?_⟩
 refine ⟨λ i n σ2 H2=>n=l.length - i /\ i<=l.length /\ ∃ ρ2 μ2,RSt X.K H2 ρ2 σ2 /\ RelM X.K μ2 H2 /\ Kp H1 H2 /\ ye2 S g tb D3 (l.drop i) ρ2 μ2,⟨l.length,rfl,Nat.zero_le _,ρ,μ1,s.mono k1,m1,Kp.refl _,h1⟩,?_⟩
 rintro i n σ2 H2 ⟨rfl,hi,ρ2,μ2,s2,m2,k2,h2⟩
 by_cases hlt:i < l.length
 ·rw [List.drop_eq_getElem_cons hlt] at h2
  obtain ⟨hS,N,hN,h2⟩:=h2
  obtain ⟨ok1,_⟩:=ok i H2 μ2 k2 m2 hS
  obtain ⟨go,yl⟩:=ok1 l[i] (getElem?_eq_getElem hlt)
  refine .inr ⟨go,λ σ3 H3=>∃ ρ3 μ3,N ρ3 μ3 /\ RSt X.K H3 ρ3 σ3 /\ RelM X.K μ3 H3 /\ Kp H1 H3,λ σ3 H3 ⟨ρ3,μ3,hn,s3,m3,k3⟩=>⟨l.length - (i + 1),by omega,rfl,hlt,ρ3,μ3,s3,m3,k3,hN _ _ hn⟩,λ x H3 y=>?_⟩
  obtain ⟨k3,m3,r3⟩:=yl x H3 y
  refine rg x l[i] σ2 H3 _ ρ2 μ2 _ (s2.mono k3) m3 r3 h2 λ ρ4 μ4 σ4 H4 h4 k4 s4 m4=>?_
  have k14:Kp H1 H4:=k2.trans (k3.trans k4)
  exact rb σ4 H4 _ ρ4 μ4 _ s4 m4 h4 ⟨λ ρ5 μ5 σ5 H5 h5 k5 s5 m5=>⟨ρ5,μ5,h5,s5,m5,k14.trans k5⟩,λ ρ5 μ5 σ5 H5 h5 k5 s5 m5=>k.nx _ _ _ _ h5 (k1.trans (k14.trans k5)) s5 m5,
   λ ρ5 μ5 σ5 H5 h5 k5 s5 m5=>⟨ρ5,μ5,h5,s5,m5,k14.trans k5⟩,λ d μ5 v H5 h5 k5 r5 m5=>k.rt _ _ _ _ h5 (k1.trans (k14.trans k5)) r5 m5⟩
 ·have e:i=l.length:=by omega
  subst e
  rw [List.drop_length] at h2
  obtain ⟨hS,h2⟩:=h2
  exact .inl ⟨(ok _ H2 μ2 k2 m2 hS).2 (Nat.le_refl _),k.nx _ _ _ _ h2 (k1.trans k2) s2 m2⟩
theorem sk2 {body:List Stmt} {tc:TT3} {tb:TS3} (hp:PassesOwn (model X.prog X.w) X.A X.env X.xe) (hc:RT X c tc) (hb:RSs X body tb):RS X (.While c body [] pos) (zu2 tc tb):=by
 obtain ⟨vc,pc,rc⟩:=hc
 obtain ⟨vb,pb,rb⟩:=hb
 refine ⟨_,um2 hp pc pb,λ σ H D ρ μ D3 s m h k=>?_⟩
 obtain ⟨W,⟨n0,w0⟩,turn⟩:=h
 refine ⟨λ n σ2 H2=>∃ ρ2 μ2,W n ρ2 μ2 /\ RSt X.K H2 ρ2 σ2 /\ RelM X.K μ2 H2 /\ Kp H H2,⟨n0,ρ,μ,w0,s,m,Kp.refl _⟩,?_⟩
 rintro n σ2 H2 ⟨ρ2,μ2,w2,s2,m2,k2⟩
 refine rc σ2 H2 _ ρ2 μ2 _ s2 m2 (turn n ρ2 μ2 w2) λ b μ3 H3 h3 k3 m3=>?_
 cases b with
 | true =>
  obtain ⟨N,hN,h3⟩:=h3
  have k23:=k2.trans k3
  refine ⟨λ σ4 H4=>∃ ρ4 μ4,N ρ4 μ4 /\ RSt X.K H4 ρ4 σ4 /\ RelM X.K μ4 H4 /\ Kp H H4,λ σ4 H4 ⟨ρ4,μ4,hn,s4,m4,k4⟩=>?_,?_⟩
  ·obtain ⟨n',hl,w4⟩:=hN _ _ hn
   exact ⟨n',hl,ρ4,μ4,w4,s4,m4,k4⟩
  ·exact rb σ2 H3 _ ρ2 μ3 _ (s2.mono k3) m3 h3 ⟨λ ρ5 μ5 σ5 H5 h5 k5 s5 m5=>⟨ρ5,μ5,h5,s5,m5,k23.trans k5⟩,λ ρ5 μ5 σ5 H5 h5 k5 s5 m5=>k.nx _ _ _ _ h5 (k23.trans k5) s5 m5,
     λ ρ5 μ5 σ5 H5 h5 k5 s5 m5=>⟨ρ5,μ5,h5,s5,m5,k23.trans k5⟩,λ d μ5 v H5 h5 k5 r5 m5=>k.rt _ _ _ _ h5 (k23.trans k5) r5 m5⟩
 | false=>exact k.nx _ _ _ _ h3 (k2.trans k3) (s2.mono k3) m3
def lift (K:Fg) (sp:Sp3):Sp:=λ vs H Q _=>∃ ds μ Q3,RelDs K H ds vs /\ RelM K μ H /\ sp ds μ Q3 /\ Ks K H Q3 Q
def Cal (P:Program) (w:World) (K:Fg) (mg:Str->Option Value) (base:Heap) (k:Nat) (x:Str) (ps:List Str) (sp:Sp3):Prop :=
 ∃ f fd,FnOk P w K mg base CX0 k f fd ps (lift K sp) /\ mg x=some (.ref f) /\ keepIn K (.ref f)=true /\ Binds K fd ps []
theorem Cal.mono {P:Program} {w:World} {K:Fg} {mg:Str->Option Value} {base:Heap} {j k:Nat} {x:Str} {ps:List Str} {sp:Sp3} (c:Cal P w K mg base j x ps sp) (h:j<=k):Cal P w K mg base k x ps sp:=by
 obtain ⟨f,fd,F,r⟩:=c
 exact ⟨f,fd,F.mono h,r⟩
variable {es:List Expr} {t:TA3} {x:Str} {p:Pos}
theorem xb0 {k:Nat} {ps:List Str} {sp:Sp3} (c:Cal X.prog X.w X.K X.mg X.base k x ps sp) (hr:Room k X.A) (ha:RA X (e :: es) t) (hg:Gl X x:=by rfl) (hdb:(x == ("__debug__" : Str))=false:=by decide)
    (he:starEach (e :: es) X.env=(false,eval e X.env) :: starEach es X.env:=by rfl) (hpl:(backTo pos (starEach es X.env)).any (·.1)=false:=by rfl):RE X (.Call (.Name x p) (e :: es) [] pos) (call3 sp t):=by
 obtain ⟨f,fd,F,hm,hk,hb⟩:=c
 obtain ⟨va,pa,ra⟩:=ha
 refine ⟨_,wg3 F hr hg hm hk hb .nil vx4 pa hdb he hpl,λ σ H Q ρ μ Q3 s m h k=>ra σ H _ ρ μ _ s m h λ ds μ1 vs H1 h1 k1 r1 m1=>?_⟩
 rw [append_nil]
 exact ⟨ds,μ1,Q3,r1,m1,h1,k.after k1⟩
theorem yc0 {r:C3} {id:String} (hc:RC X (.builtin id) r) (hm:X.mg x=none) (hv:bootBuiltins x=some (.builtin id)) (ha:RA X (e :: es) t) (hg:Gl X x:=by rfl) (hn:x ≠ "__name__" := by decide) (hdb:(x == ("__debug__" : Str))=false:=by decide)
    (he:starEach (e :: es) X.env=(false,eval e X.env) :: starEach es X.env:=by rfl) (hpl:(backTo pos (starEach es X.env)).any (·.1)=false:=by rfl):RE X (.Call (.Name x p) (e :: es) [] pos) (call3 r t):=by
 obtain ⟨r',pc,rc⟩:=hc
 obtain ⟨va,pa,ra⟩:=ha
 exact ⟨_,un2 pc hg hm hv pa hn hdb he hpl,λ σ H Q ρ μ Q3 s m h k=>ra σ H _ ρ μ _ s m h λ ds μ1 vs H1 h1 k1 r1 m1=>rc ds vs H1 Q μ1 Q3 m1 r1 h1 (k.after k1)⟩
theorem xi0 {r:C3} {T:String} (hc:RC X (.type T) r) (hm:X.mg x=none) (hv:bootBuiltins x=some (.type T)) (ha:RA X (e :: es) t) (hg:Gl X x:=by rfl) (hn:x ≠ "__name__" := by decide) (hdb:(x == ("__debug__" : Str))=false:=by decide)
    (he:starEach (e :: es) X.env=(false,eval e X.env) :: starEach es X.env:=by rfl) (hpl:(backTo pos (starEach es X.env)).any (·.1)=false:=by rfl):RE X (.Call (.Name x p) (e :: es) [] pos) (call3 r t):=by
 obtain ⟨r',pc,rc⟩:=hc
 obtain ⟨va,pa,ra⟩:=ha
 exact ⟨_,xb2 pc hg hm hv pa hn hdb he hpl,λ σ H Q ρ μ Q3 s m h k=>ra σ H _ ρ μ _ s m h λ ds μ1 vs H1 h1 k1 r1 m1=>rc ds vs H1 Q μ1 Q3 m1 r1 h1 (k.after k1)⟩
theorem yb0 {r3:R3} (hx:RX X r3) (ha:RE X a ta) (hb:RE X b tb) (hs:xi2 b:=by intro _ _; rfl):RE X (.Subscript a b pos) (o3 r3 ta tb):=by
 obtain ⟨r,po,ro⟩:=hx
 obtain ⟨va,pa,ra⟩:=ha
 obtain ⟨vb,pb,rb⟩:=hb
 exact ⟨_,zx4 po pa pb hs,ra.op rb ro⟩
end
section
variable {P:Program} {w:World} {K:Fg} {mg:Str->Option Value} {base:Heap}
theorem we2 {x:Str} {st:Stmt} {f:Addr} {fd:FuncData} {N ps:List Str} {k:Nat} {sp:Sp3} {t:TS3} (F:Fun K x x st f fd) (S:FnScope N ps (za0 st))
    (len:∀ ds μ Q,sp ds μ Q->ds.length=ps.length)
    (body:∀ (cdv:Value) (A:Around) (outer:List Env) (s:Shared) (H:Hp) (E:XK),Room k (A.deeper (envOfC x (za0 st) s.heap.objs.size f cdv))->RSs (cxOf CX0 P w K mg base N x (za0 st) f cdv A outer s H E).nox (zb0 st) t)
    (rd:∀ ds μ Q,sp ds μ Q->t { nx:=λ _ μ'=>Q .non μ',rt:=Q } (start3 N ds) μ):FnOk P w K mg base CX0 (k + 1) f fd ps (lift K sp):=by
 refine F.ok S (λ vs H Q E h=>?_) (λ cdv A outer s H vs Q E hr h=>?_)
 ·obtain ⟨ds,μ,Q3,r,m,q,ks⟩:=h
  rw [<- r.length]; exact len _ _ _ q
 ·obtain ⟨ds,μ,Q3,r,m,q,ks⟩:=h
  obtain ⟨tv,p,rt⟩:=body cdv A outer s H E hr
  exact ⟨tv,p,rt _ H _ _ μ _ (RSt.start N r) m (rd ds μ Q3 q) ⟨λ ρ μ' σ H' h' k' s' m'=>ks _ _ _ _ h' k' .non m',λ ρ μ' σ H' h'=>False.elim h',λ ρ μ' σ H' h'=>False.elim h',ks⟩⟩
theorem vc0 {x:Str} {st:Stmt} {f:Addr} {fd:FuncData} {N ps:List Str} {k:Nat} {sp:Sp3} {t:TS3} (F:Fun K x x st f fd) (hm:mg x=some (.ref f)) (hb:Binds K fd ps []) (S:FnScope N ps (za0 st))
    (len:∀ ds μ Q,sp ds μ Q->ds.length=ps.length)
    (body:∀ (cdv:Value) (A:Around) (outer:List Env) (s:Shared) (H:Hp) (E:XK),Room k (A.deeper (envOfC x (za0 st) s.heap.objs.size f cdv))->RSs (cxOf CX0 P w K mg base N x (za0 st) f cdv A outer s H E).nox (zb0 st) t)
    (rd:∀ ds μ Q,sp ds μ Q->t { nx:=λ _ μ'=>Q .non μ',rt:=Q } (start3 N ds) μ):Cal P w K mg base (k + 1) x ps sp :=
 ⟨f,fd,we2 F S len body rd,hm,F.kp,hb⟩
theorem wj0 {x:Str} {st:Stmt} {f:Addr} {fd:FuncData} {ps:List Str} {sp:Sp3} (F:Fun K x x st f fd) (hm:mg x=some (.ref f)) (hb:Binds K fd ps []) (no:∀ ds μ Q,¬ sp ds μ Q):Cal P w K mg base 0 x ps sp:=by
 have no':∀ vs H Q E,¬ lift K sp vs H Q E:=λ vs H Q E ⟨ds,μ,Q3,_,_,q,_⟩=>no _ _ _ q
 exact ⟨f,fd,⟨λ vs H Q E h=>absurd h (no' vs H Q E),λ A outer s H args us vs Q E _ _ _ _ h=>absurd h (no' vs H Q E)⟩,hm,F.kp,hb⟩
end
section
variable {X:Cx}
theorem RdO.i0 {K:Fg} {g3:Int->Int->D} {g:Int->Int->V} (hg:∀ i j H,RelD K H (g3 i j) (g i j)):RdO K (rI0 g) (int20 g3):=λ x y v u H Q μ Q3 m rx ry h k=>by
 cases rx with
 | int i =>
  cases ry with
  | int j=>exact ⟨i,j,rfl,rfl,k _ _ _ _ h (Kp.refl _) (hg i j H) m⟩
  | _=>exact False.elim h
 | _=>cases ry <;> exact False.elim h
theorem RdO.i2 {K:Fg} {C:Int->Int->Prop} {g3:Int->Int->D} {g:Int->Int->V} (hg:∀ i j H,RelD K H (g3 i j) (g i j)):RdO K (rI C g) (int2 C g3):=λ x y v u H Q μ Q3 m rx ry h k=>by
 cases rx with
 | int i =>
  cases ry with
  | int j=>exact ⟨i,j,rfl,rfl,h.1,k _ _ _ _ h.2 (Kp.refl _) (hg i j H) m⟩
  | _=>exact False.elim h
 | _=>cases ry <;> exact False.elim h
theorem uq0:RO X (binaryOp .Sub) subR:=⟨_,yk4,RdO.i0 λ _ _ _=>.int _⟩
theorem uo0:RO X (binaryOp .Mod) modR:=⟨_,uk4,RdO.i2 λ _ _ _=>.int _⟩
theorem tl2:RO X (binaryOp .Pow) powR:=⟨_,wk4,RdO.i2 λ _ _ _=>.int _⟩
theorem log2_lt {n k:Nat} (hk:0 < k) (h:n < 2 ^ k):n.log2 < k:=by
 rcases Nat.eq_zero_or_pos n with h0 | hp
 ·rw [h0]; simpa using hk
 ·exact (Nat.log2_lt (Nat.ne_of_gt hp)).mpr h
theorem xo2:OpR X (binaryOp .FloorDiv) (rI (λ _ j=>0 < j /\ j < 2 ^ 120) λ i j=>.int (i / j)):=opI λ i j _ _ _ _ _ hc q=>by
 have h1:(0:Int) < j:=hc.1
 have h2:j < 2 ^ 120:=hc.2
 refine floordiv_int (by omega) (by rw [Int.fdiv_eq_ediv_of_nonneg i (by omega)]; exact q) (.inl (PyProof.noPylong_of_log2 ?_))
 have h3:j.natAbs < 2 ^ 120:=by omega
 exact Nat.lt_trans (log2_lt (by decide) h3) (by decide)
theorem wl1:RO X (binaryOp .FloorDiv) fdivR:=⟨_,xo2,RdO.i2 λ _ _ _=>.int _⟩
theorem CMul.mulok {i j:Int} (h:CMul i j):IntMulOk i j:=by
 rcases h with h | ⟨h1,h2⟩
 ·exact L2.CMul.ok h
 ·unfold IntMulOk
  intro e
  rw [Bool.and_eq_true] at e
  have e2:=e.2
  unfold Builtin.Int.intTooBig at e2
  have hb:∀ x:Int,x.natAbs < Big->Builtin.Int.intBits x<=1000:=λ x hx=>by
   unfold Builtin.Int.intBits
   split
   ·exact Nat.zero_le _
   ·exact log2_lt (by decide) hx
  have b1:=hb i h1
  have b2:=hb j h2
  have e3:=of_decide_eq_true e2
  have e4:(2000:Nat) < bitsLine:=by decide
  omega
theorem op_mulB:OpR X (binaryOp .Mult) (rI CMul λ i j=>.int (i * j)):=opI λ _ _ _ _ _ _ _ hc q=>mul_int q hc.mulok
theorem uz1:RU X (unaryOp .USub) negR:=⟨_,uo3,λ x v H Q μ Q3 m r h k=>by
 cases r with
 | int i=>exact ⟨i,rfl,k _ _ _ _ h (Kp.refl _) (.int _) m⟩
 | _=>exact False.elim h⟩
theorem q_lt:RO X (compareOp .Lt) ltR:=⟨_,ux4,RdO.i0 λ _ _ _=>.bl _⟩
theorem q_le:RO X (compareOp .LtE) leR:=⟨_,tx4,RdO.i0 λ _ _ _=>.bl _⟩
theorem q_gt:RO X (compareOp .Gt) gtR:=⟨_,sx4,RdO.i0 λ _ _ _=>.bl _⟩
theorem q_ge:RO X (compareOp .GtE) geR:=⟨_,xy4,RdO.i0 λ _ _ _=>.bl _⟩
def xw4 (K:Fg):R2:=λ x y H Q=>∃ a b xs ys,x=.ref a /\ y=.ref b /\ SqT K H a xs /\ SqT K H b ys /\ xs.length + ys.length<=sizeLine ∧
 (xs=[]->Q (.ref b) H) /\ (ys=[]->Q (.ref a) H) /\ (∀ p,H p=none->Q (.ref p) (upd H p (.tup (xs ++ ys))))
theorem zh3:OpR X (binaryOp .Add) (xw4 X.K):=by
 intro pins s σ H x y v u Q I rx ry h
 obtain ⟨a,b,xs,ys,rfl,rfl,ha,hb,hz,q1,q2,q3⟩:=h
 by_cases hx:xs=[]
 ·cases rx
  cases ry
  obtain ⟨its,r,ht,_⟩:=I.tuple ha
  obtain ⟨its2,r2,ht2,_⟩:=I.tuple hb
  have hi:its=[]:=by subst hx; cases r; rfl
  obtain ⟨⟨cls,dd,data,sl⟩,ho,hc,n,hd⟩:=id ht
  obtain ⟨⟨cls2,dd2,data2,sl2⟩,ho2,hc2,n2,hd2⟩:=id ht2
  simp only at hc hd hc2 hd2
  subst hc hd hc2 hd2
  exact concat_meets ⟨_,ho,rfl⟩ ⟨_,ho2,rfl⟩ noFill_tuple_add seq_tuple_add slot_tuple_add entry_tuple_add (args_tuple_add_2 _ _)
   (tuple_addW0 a b its.toArray its2.toArray n n2 dd dd2 sl sl2 (by simp [hi])) ⟨ho,ho2,⟨.ref b,H,I,rfl,q1 hx⟩⟩
 ·exact yh3 pins s σ H _ _ v u Q I rx ry ⟨a,b,xs,ys,rfl,rfl,ha,hb,hx,hz,q2,λ _=>q3⟩
theorem uf0:RO X (binaryOp .Add) addR:=by
 refine ⟨_,(op_add.or zu1).or (op_cat.or zh3),λ x y v u H Q μ Q3 m rx ry h k=>?_⟩
 cases rx with
 | int i =>
  cases ry with
  | int j=>exact .inl (.inl ⟨i,j,rfl,rfl,k _ _ _ _ h (Kp.refl _) (.int _) m⟩)
  | _=>exact False.elim h
 | str i =>
  cases ry with
  | str j=>exact .inl (.inr ⟨i,j,rfl,rfl,h.1,k _ _ _ _ h.2 (Kp.refl _) (.str _) m⟩)
  | _=>exact False.elim h
 | ref p =>
  cases ry with
  | ref q =>
   dsimp only [addR] at h
   cases e:μ p with
   | none=>rw [e] at h; exact h.elim
   | some oo =>
    cases oo with
    | ins _ _=>rw [e] at h; exact h.elim
    | dct _=>rw [e] at h; exact h.elim
    | dcl _=>rw [e] at h; exact h.elim
    | lst xs =>
     cases e2:μ q with
     | none=>rw [e,e2] at h; exact h.elim
     | some o2 =>
      cases o2 with
      | ins _ _=>rw [e,e2] at h; exact h.elim
      | dct _=>rw [e,e2] at h; exact h.elim
      | dcl _=>rw [e,e2] at h; exact h.elim
      | lst ys =>
       rw [e,e2] at h
       obtain ⟨vs,hv,rv⟩:=m p xs e
       obtain ⟨us,hu,ru⟩:=m q ys e2
       refine .inr (.inl ⟨p,q,vs,us,rfl,rfl,hv,hu,by rw [<- rv.length,<- ru.length]; exact h.1,λ t ht=>?_⟩)
       exact k _ _ _ _ (h.2 t (m.free ht)) (Kp.new ht) (.ref t) (m.newL ht (rv.append ru))
  | _=>exact False.elim h
 | tup hq rs =>
  cases ry with
  | tup hq2 rs2 =>
   rename_i a l vs b l2 us
   refine .inr (.inr ⟨a,b,vs,us,rfl,rfl,(SqT.of hq),(SqT.of hq2),by rw [<- rs.length,<- rs2.length]; exact h.1,λ e=>?_,λ e=>?_,λ t ht=>?_⟩)
   ·subst e; cases rs
    exact k _ _ _ _ h.2 (Kp.refl _) (.tup hq2 rs2) m
   ·subst e; cases rs2
    have h2:=h.2
    rw [append_nil] at h2
    exact k _ _ _ _ h2 (Kp.refl _) (.tup hq rs) m
   ·exact k _ _ _ _ h.2 (Kp.new ht) (.tup yf0 ((rs.append rs2).mono (Kp.new ht))) (m.newT ht)
  | _=>exact False.elim h
 | _=>cases ry <;> exact False.elim h
theorem RelDs.atI {K:Fg} {H:Hp} {l:List D} {vs:List V} {i:Int} {d:D} (r:RelDs K H l vs) (e:Pv.atI l i=some d):∃ v,L2.atI vs i=some v /\ RelD K H d v:=by
 unfold Pv.atI at e
 unfold L2.atI
 rw [xn4,<- r.length]
 cases q:ixN l.length i with
 | none=>rw [q] at e; cases e
 | some j =>
  rw [q] at e
  exact r.get e
theorem q_ix:RX X ixR:=by
 refine ⟨_,ix_list.or sc2,λ x y v u H Q μ Q3 m rx ry h k=>?_⟩
 cases ry with
 | int i =>
  cases rx with
  | tup hq rs =>
   rename_i a l vs
   dsimp only [ixR] at h
   cases e:Pv.atI l i with
   | none=>rw [e] at h; exact h.elim
   | some d =>
    rw [e] at h
    obtain ⟨w,e1,r1⟩:=rs.atI e
    exact .inr ⟨a,vs,i,w,rfl,rfl,(SqT.of hq),e1,k _ _ _ _ h (Kp.refl _) r1 m⟩
  | ktp hq rs =>
   rename_i a l vs
   dsimp only [ixR] at h
   cases e:Pv.atI l i with
   | none=>rw [e] at h; exact h.elim
   | some d =>
    rw [e] at h
    obtain ⟨w,e1,r1⟩:=rs.atI e
    exact .inr ⟨a,vs,i,w,rfl,rfl,hq,e1,k _ _ _ _ h (Kp.refl _) r1 m⟩
  | fls hq rs =>
   rename_i a l vs
   dsimp only [ixR] at h
   cases e:Pv.atI l i with
   | none=>rw [e] at h; exact h.elim
   | some d =>
    rw [e] at h
    obtain ⟨w,e1,r1⟩:=rs.atI e
    exact .inl ⟨a,vs,i,w,rfl,rfl,hq.l,e1,k _ _ _ _ h (Kp.refl _) r1 m⟩
  | ref p =>
   dsimp only [ixR] at h
   cases e0:μ p with
   | none=>rw [e0] at h; exact h.elim
   | some oo =>
    cases oo with
    | ins _ _=>rw [e0] at h; exact h.elim
    | dct _=>rw [e0] at h; exact h.elim
    | dcl _=>rw [e0] at h; exact h.elim
    | lst l =>
     rw [e0] at h
     dsimp only at h
     obtain ⟨vs,hv,rs⟩:=m p l e0
     cases e:Pv.atI l i with
     | none=>rw [e] at h; exact h.elim
     | some d =>
      rw [e] at h
      obtain ⟨w,e1,r1⟩:=rs.atI e
      exact .inl ⟨p,vs,i,w,rfl,rfl,SqL.of hv,e1,k _ _ _ _ h (Kp.refl _) r1 m⟩
  | _=>exact False.elim h
 | _=>cases rx <;> exact False.elim h
theorem uw0 {K:Fg} {H:Hp}:∀ {l:List D} {vs:List V} {zs:List Str},RelDs K H l vs->strs? l=some zs->vs=zs.map V.str
 | _,_,zs,.nil,e=>by simp [strs?] at e; subst e; rfl
 | _,_,zs,.cons h r,e=>by
  cases h with
  | str x =>
   simp only [strs?] at e
   split at e
   ·next ys e1 =>
    simp only [Option.some.injEq] at e
    subst e
    rw [uw0 r e1]; rfl
   ·cases e
  | _=>simp [strs?] at e
theorem tm1 (z:Str) (zs:List Str):inV (.str z) (zs.map V.str)=zs.contains z:=by
 unfold inV
 rw [List.any_map]
 induction zs with
 | nil=>rfl
 | cons y r ih =>
  rw [any_cons,ih,List.contains_cons]
  congr 1
  show (y == z)=(z == y)
  rw [Bool.eq_iff_iff,beq_iff_eq,beq_iff_eq]
  exact eq_comm
theorem xe1 (zs:List Str):(zs.map V.str).all uz0=true:=by
 rw [List.all_map,List.all_eq_true]; intro _ _; rfl
theorem ut1:RC X (.builtin "len") lenR:=by
 refine ⟨_,call_len_seq.or te1,λ xs vs H Q μ Q3 m r h k=>?_⟩
 cases r with
 | nil=>exact False.elim h
 | cons r1 r2 =>
  cases r2 with
  | cons _ _=>cases r1 <;> exact False.elim h
  | nil =>
   cases r1 with
   | tup hq rs =>
    rename_i a l vs
    refine .inl ⟨a,vs,rfl,.inr (SqT.of hq),?_⟩
    rw [<- rs.length]
    exact k _ _ _ _ h (Kp.refl _) (.int _) m
   | fls hq rs =>
    rename_i a l vs
    refine .inl ⟨a,vs,rfl,.inl hq.l,?_⟩
    rw [<- rs.length]
    exact k _ _ _ _ h (Kp.refl _) (.int _) m
   | str z=>exact .inr ⟨z,rfl,h.1,k _ _ _ _ h.2 (Kp.refl _) (.int _) m⟩
   | ref p =>
    dsimp only [lenR] at h
    cases e:μ p with
    | none=>rw [e] at h; exact h.elim
    | some oo =>
     cases oo with
     | ins _ _=>rw [e] at h; exact h.elim
     | dct _=>rw [e] at h; exact h.elim
     | dcl _=>rw [e] at h; exact h.elim
     | lst l =>
      rw [e] at h
      obtain ⟨vs,hv,rs⟩:=m p l e
      refine .inl ⟨p,vs,rfl,.inl (SqL.of hv),?_⟩
      rw [<- rs.length]
      exact k _ _ _ _ h (Kp.refl _) (.int _) m
   | _=>exact False.elim h
theorem ym2:RC X (.builtin "abs") absR:=by
 refine ⟨_,wr2,λ xs vs H Q μ Q3 m r h k=>?_⟩
 cases r with
 | nil=>exact False.elim h
 | cons r1 r2 =>
  cases r2 with
  | cons _ _=>cases r1 <;> exact False.elim h
  | nil =>
   cases r1 with
   | int i=>exact ⟨i,rfl,k _ _ _ _ h (Kp.refl _) (.int _) m⟩
   | _=>exact False.elim h
theorem tx0:RC X (.type "tuple") tupR:=by
 refine ⟨_,wa1,λ xs vs H Q μ Q3 m r h k=>?_⟩
 cases r with
 | nil=>exact False.elim h
 | cons r1 r2 =>
  cases r2 with
  | cons _ _=>cases r1 <;> exact False.elim h
  | nil =>
   cases r1 with
   | tup hq rs=>exact ⟨_,_,rfl,.inr ⟨(SqT.of hq),k _ _ _ _ h (Kp.refl _) (.tup hq rs) m⟩⟩
   | ref p =>
    dsimp only [tupR] at h
    cases e:μ p with
    | none=>rw [e] at h; exact h.elim
    | some oo =>
     cases oo with
     | ins _ _=>rw [e] at h; exact h.elim
     | dct _=>rw [e] at h; exact h.elim
     | dcl _=>rw [e] at h; exact h.elim
     | lst l =>
      rw [e] at h
      obtain ⟨vs,hv,rs⟩:=m p l e
      exact ⟨p,vs,rfl,.inl ⟨SqL.of hv,λ t ht=>k _ _ _ _ h (Kp.new ht) (.tup yf0 (rs.mono (Kp.new ht))) (m.newT ht)⟩⟩
   | _=>exact False.elim h
theorem xz0 {K:Fg} {H:Hp}:∀ {l:List D} {vs:List V} {zs:List Int},RelDs K H l vs->ints? l=some zs->vs=zs.map V.int
 | _,_,zs,.nil,e=>by simp [ints?] at e; subst e; rfl
 | _,_,zs,.cons h r,e=>by
  cases h with
  | int x =>
   simp only [ints?] at e
   split at e
   ·next ys e1 =>
    simp only [Option.some.injEq] at e
    subst e
    rw [xz0 r e1]; rfl
   ·cases e
  | _=>simp [ints?] at e
theorem yr2:X.calm=true->CallR X (.builtin "sum") (λ xs H Q=>∃ (p:Addr) (ns:List Int),xs=[.ref p] /\ SqL X.K H p (ns.map V.int) /\ Q (.int ns.sum) H):=by
 intro hc pins s σ H xs us Q I r h
 obtain ⟨p,ns,rfl,hq,q⟩:=h
 obtain ⟨u,rfl,rx⟩:=ts0 r
 cases rx
 obtain ⟨its,r',pl,hz⟩:=I.list hq
 have hi:=wv0 r'
 obtain ⟨ys,e⟩:=hi.allInts.items
 have hl:=pl.isList
 rw [e] at hl
 refine sum_intListG (I.ok.hd hc) hl λ h' tk t' hk=>?_
 refine ⟨.int ns.sum,H,I.kept (t':=tk) hk,⟨t',?_⟩,q⟩
 rw [preSum_eq,take_of_length_le (by simp),<- nums_intItems,<- e]
 show Value.int (numsOf its).sum t'=_
 rw [hi.numsOf]
theorem ul2 (hc:X.calm=true:=by rfl):RC X (.builtin "sum") sumR:=by
 refine ⟨_,yr2 hc,λ xs vs H Q μ Q3 m r h k=>?_⟩
 cases r with
 | nil=>exact False.elim h
 | cons r1 r2 =>
  cases r2 with
  | cons _ _=>cases r1 <;> exact False.elim h
  | nil =>
   cases r1 with
   | ref p =>
    dsimp only [sumR] at h
    cases e:μ p with
    | none=>rw [e] at h; exact h.elim
    | some oo =>
     cases oo with
     | ins _ _=>rw [e] at h; exact h.elim
     | dct _=>rw [e] at h; exact h.elim
     | dcl _=>rw [e] at h; exact h.elim
     | lst l =>
      rw [e] at h
      dsimp only at h
      obtain ⟨vs,hv,rs⟩:=m p l e
      cases e1:ints? l with
      | none=>rw [e1] at h; exact h.elim
      | some ns =>
       rw [e1] at h
       have ev:=xz0 rs e1
       subst ev
       exact ⟨p,ns,rfl,SqL.of hv,k _ _ _ _ h (Kp.refl _) (.int _) m⟩
   | _=>exact False.elim h
end
section
variable {X:Cx} {pins:List (Addr × Obj)} {σ:L2.St} {H:Hp} {s:Shared}
mutual
theorem xh0 (I:Inv X pins σ H s):∀ {d:D} {v:V} {p:PyData} {u:Value},RelD X.K H d v->dat d=some p->RelV v u->∃ as,Reads s.heap u p as
 | _,_,p,u,.non,e,r=>by simp only [dat,Option.some.injEq] at e; subst e; cases r; exact ⟨_,Reads.none⟩
 | _,_,p,u,.bl b,e,r=>by simp only [dat,Option.some.injEq] at e; subst e; cases r; exact ⟨_,Reads.bool b⟩
 | _,_,p,u,.int i,e,r=>by simp only [dat,Option.some.injEq] at e; subst e; obtain ⟨t,rfl⟩:=r; exact ⟨_,Reads.int i t⟩
 | _,_,p,u,.str x,e,r=>by
  simp only [dat] at e
  split at e
  ·simp only [Option.some.injEq] at e; subst e; obtain ⟨t,rfl⟩:=r; exact ⟨_,Reads.str x t⟩
  ·cases e
 | _,_,p,u,.ref a,e,r=>by simp [dat] at e
 | _,_,p,u,.ty n,e,r=>by simp [dat] at e
 | _,_,p,u,.fls _ _,e,r=>by simp [dat] at e
 | _,_,p,u,.exc _ _ _,e,r=>by simp [dat] at e
 | _,_,p,u,.tup hq rs,e,r=>by
  simp only [dat] at e
  split at e
  ·next ps e1 =>
   simp only [Option.some.injEq] at e; subst e
   cases r
   obtain ⟨its,rv,⟨o,ho,hc,n,hd⟩,hz⟩:=I.tuple (SqT.of hq)
   obtain ⟨as,q⟩:=vi0 I rs e1 rv
   exact ⟨_,Reads.tuple ho hc hd (by simpa using q)⟩
  ·cases e
 | _,_,p,u,.ktp hq rs,e,r=>by
  simp only [dat] at e
  split at e
  ·next ps e1 =>
   simp only [Option.some.injEq] at e; subst e
   cases r
   obtain ⟨its,rv,⟨o,ho,hc,n,hd⟩,hz⟩:=I.tuple hq
   obtain ⟨as,q⟩:=vi0 I rs e1 rv
   exact ⟨_,Reads.tuple ho hc hd (by simpa using q)⟩
  ·cases e
theorem vi0 (I:Inv X pins σ H s):∀ {l:List D} {vs:List V} {ps:List PyData} {us:List Value},RelDs X.K H l vs->dats l=some ps->Vals vs us->∃ as,ReadsAll s.heap us ps as
 | _,_,ps,us,.nil,e,r=>by simp only [dats,Option.some.injEq] at e; subst e; cases r; exact ⟨_,ReadsAll.nil⟩
 | _,_,ps,us,.cons h rs,e,r=>by
  simp only [dats] at e
  split at e
  ·next p e1 =>
   split at e
   ·next qs e2 =>
    simp only [Option.some.injEq] at e; subst e
    cases r with
    | cons r1 r2 =>
     obtain ⟨as,q1⟩:=xh0 I h e1 r1
     obtain ⟨bs,q2⟩:=vi0 I rs e2 r2
     exact ⟨_,ReadsAll.cons q1 q2⟩
   ·cases e
  ·cases e
end
theorem vg0 (I:Inv X pins σ H s) {μ:Mu} (m:RelM X.K μ H) {d:D} {v:V} {p:PyData} {u:Value} (h:RelD X.K H d v) (e:datM μ d=some p) (r:RelV v u):∃ as,Reads s.heap u p as:=by
 cases h with
 | ref a =>
  simp only [datM] at e
  split at e
  ·next l e0 =>
   split at e
   ·next ps e1 =>
    simp only [Option.some.injEq] at e; subst e
    cases r
    obtain ⟨vs,hv,rs⟩:=m a l e0
    obtain ⟨its,rv,pl,hz⟩:=I.list (SqL.of hv)
    obtain ⟨o,ho,hc,n,hd⟩:=pl.isList
    obtain ⟨as,q⟩:=vi0 I rs e1 rv
    exact ⟨_,Reads.list ho hc hd (by simpa using q)⟩
   ·cases e
  ·cases e
 | non=>exact xh0 I .non e r
 | bl b=>exact xh0 I (.bl b) e r
 | int i=>exact xh0 I (.int i) e r
 | str x=>exact xh0 I (.str x) e r
 | ty n=>exact xh0 I (.ty n) e r
 | tup hq rs=>exact xh0 I (.tup hq rs) e r
 | ktp hq rs=>exact xh0 I (.ktp hq rs) e r
 | fls hq rs=>exact xh0 I (.fls hq rs) e r
 | exc a1 a2 a3=>simp [datM,dat] at e
mutual
theorem we0:∀ (d:D) (p:PyData),dat d=some p->p.canLay0=true
 | .non,p,e=>by simp only [dat,Option.some.injEq] at e; subst e; rfl
 | .bl b,p,e=>by simp only [dat,Option.some.injEq] at e; subst e; rfl
 | .int b,p,e=>by simp only [dat,Option.some.injEq] at e; subst e; rfl
 | .str x,p,e=>by
  simp only [dat] at e
  split at e
  ·next h=>simp only [Option.some.injEq] at e; subst e; exact h
  ·cases e
 | .tup l,p,e=>by
  simp only [dat] at e
  split at e
  ·next ps e1=>simp only [Option.some.injEq] at e; subst e; simp only [PyData.canLay0]; exact zj0 l ps e1
  ·cases e
 | .ktp l,p,e=>by
  simp only [dat] at e
  split at e
  ·next ps e1=>simp only [Option.some.injEq] at e; subst e; simp only [PyData.canLay0]; exact zj0 l ps e1
  ·cases e
 | .fls _,p,e=>by simp [dat] at e
 | .ref _,p,e=>by simp [dat] at e
 | .ty _,p,e=>by simp [dat] at e
theorem zj0:∀ (l:List D) (ps:List PyData),dats l=some ps->PyData.canLayAll0 ps=true
 | [],ps,e=>by simp only [dats,Option.some.injEq] at e; subst e; rfl
 | d :: r,ps,e=>by
  simp only [dats] at e
  split at e
  ·next p e1 =>
   split at e
   ·next qs e2 =>
    simp only [Option.some.injEq] at e; subst e
    simp only [PyData.canLayAll0,Bool.and_eq_true]
    exact ⟨we0 d p e1,zj0 r qs e2⟩
   ·cases e
  ·cases e
end
theorem si1 {μ:Mu} {d:D} {p:PyData} (e:datM μ d=some p):p.canLay0=true:=by
 cases d with
 | ref a =>
  simp only [datM] at e
  split at e
  ·next l e0 =>
   split at e
   ·next ps e1=>simp only [Option.some.injEq] at e; subst e; simp only [PyData.canLay0]; exact zj0 l ps e1
   ·cases e
  ·cases e
 | non=>exact we0 _ p e
 | bl b=>exact we0 _ p e
 | int i=>exact we0 _ p e
 | str x=>exact we0 _ p e
 | ty n=>exact we0 _ p e
 | tup l=>exact we0 _ p e
 | ktp l=>exact we0 _ p e
 | fls l=>exact we0 _ p e
 | exc c=>simp [datM,dat] at e
theorem xd0 {μ:Mu} {d:D} {p:PyData} (e:datM μ d=some p) (h:p.depth<=64):PySem.SeqAt.shaped p=true:=by
 unfold PySem.SeqAt.shaped
 rw [si1 e,decide_eq_true h]; rfl
def rEqD (K:Fg) (neg:Bool):R2:=λ x y H Q=>∃ d e μ p q,RelM K μ H /\ RelD K H d x /\ RelD K H e y /\ datM μ d=some p /\ datM μ e=some q /\ p.depth<=64 /\ q.depth<=64 /\ Q (.bl (if neg then !PyData.eqv p q else PyData.eqv p q)) H
theorem xl4 (hu:X.A.units + 64 < cLine):OpR X (compareOp .Eq) (rEqD X.K false):=by
 intro pins s σ H x y v u Q I rx ry h
 obtain ⟨d,e,μ,p,q,m,rd,re,e1,e2,h1,h2,k⟩:=h
 obtain ⟨as,q1⟩:=vg0 I m rd e1 rx
 obtain ⟨bs,q2⟩:=vg0 I m re e2 ry
 exact eq_dataH q1 q2 (xd0 e1 h1) (xd0 e2 h2) hu ⟨.bl _,H,I,rfl,k⟩
theorem vk4 (hu:X.A.units + 64 < cLine):OpR X (compareOp .NotEq) (rEqD X.K true):=by
 intro pins s σ H x y v u Q I rx ry h
 obtain ⟨d,e,μ,p,q,m,rd,re,e1,e2,h1,h2,k⟩:=h
 obtain ⟨as,q1⟩:=vg0 I m rd e1 rx
 obtain ⟨bs,q2⟩:=vg0 I m re e2 ry
 exact ne_dataH q1 q2 (xd0 e1 h1) (xd0 e2 h2) hu ⟨.bl _,H,I,rfl,k⟩
theorem sn4 {K:Fg} {H:Hp} {x y:D} {v u:V} {c:Bool} (rx:RelD K H x v) (ry:RelD K H y u) (e:eqS x y=some c):scal v u=true /\ decide (v=u)=c:=by
 unfold eqS at e
 split at e <;> first | (cases e; done) | (cases rx; cases ry; cases e; exact ⟨rfl,rfl⟩) | (cases rx; cases ry; cases e; refine ⟨rfl,?_⟩; simp)
theorem hu64 {A:Around} {k:Nat} (hr:Room k A):A.units + 64 < cLine:=by have:=hr.un; omega
def rInD (K:Fg) (neg:Bool):R2:=λ x y H Q=>∃ d e μ p xs,∃ b:Bool,RelM K μ H /\ RelD K H d x /\ RelD K H e y /\ datM μ d=some p /\ datM μ e=some (if b then .list xs else .tuple xs) /\ p.depth<=64 /\ (if b then PyData.list xs else PyData.tuple xs).depth<=64 ∧
 Q (.bl (if neg then !(xs.any λ e=>PyData.eqv e p) else xs.any λ e=>PyData.eqv e p)) H
theorem sk4 (hu:X.A.units + 65 < cLine):OpR X (compareOp .In) (rInD X.K false):=by
 intro pins s σ H x y v u Q I rx ry h
 obtain ⟨d,e,μ,p,xs,b,m,rd,re,e1,e2,h1,h2,k⟩:=h
 obtain ⟨as,q1⟩:=vg0 I m rd e1 rx
 obtain ⟨bs,q2⟩:=vg0 I m re e2 ry
 cases b
 ·exact PySem.SeqAt.in_tuple_reads q2 q1 (PySem.SeqAt.canLay_of_shaped (xd0 e2 h2)) (PySem.SeqAt.canLay_of_shaped (xd0 e1 h1)) (room_in_shaped (xd0 e1 h1) hu) ⟨.bl _,H,I,rfl,k⟩
 ·exact PySem.SeqAt.in_list_reads q2 q1 (PySem.SeqAt.canLay_of_shaped (xd0 e2 h2)) (PySem.SeqAt.canLay_of_shaped (xd0 e1 h1)) (room_in_shaped (xd0 e1 h1) hu) ⟨.bl _,H,I,rfl,k⟩
theorem vb2 (hu:X.A.units + 65 < cLine):OpR X (compareOp .NotIn) (rInD X.K true):=by
 intro pins s σ H x y v u Q I rx ry h
 obtain ⟨d,e,μ,p,xs,b,m,rd,re,e1,e2,h1,h2,k⟩:=h
 obtain ⟨as,q1⟩:=vg0 I m rd e1 rx
 obtain ⟨bs,q2⟩:=vg0 I m re e2 ry
 cases b
 ·exact PySem.SeqAt.notIn_tuple_reads q2 q1 (PySem.SeqAt.canLay_of_shaped (xd0 e2 h2)) (PySem.SeqAt.canLay_of_shaped (xd0 e1 h1)) (room_in_shaped (xd0 e1 h1) hu) ⟨.bl _,H,I,rfl,k⟩
 ·exact PySem.SeqAt.notIn_list_reads q2 q1 (PySem.SeqAt.canLay_of_shaped (xd0 e2 h2)) (PySem.SeqAt.canLay_of_shaped (xd0 e1 h1)) (room_in_shaped (xd0 e1 h1) hu) ⟨.bl _,H,I,rfl,k⟩
theorem hu65 {A:Around} {k:Nat} (hr:Room k A):A.units + 65 < cLine:=by have:=hr.un; omega
theorem si3 {K:Fg} {neg:Bool} {x y:D} {v u:V} {H:Hp} {Q:VK} {μ:Mu} {Q3:VK3} (m:RelM K μ H) (rx:RelD K H x v) (ry:RelD K H y u) (h:inD neg x y μ Q3) (k:Ks K H Q3 Q):rInD K neg v u H Q:=by
 unfold inD at h
 split at h
 ·next d xs e1 e2=>exact ⟨x,y,μ,d,xs,true,m,rx,ry,e1,e2,h.1.1,h.1.2,k _ _ _ _ h.2 (Kp.refl _) (.bl _) m⟩
 ·next d xs e1 e2=>exact ⟨x,y,μ,d,xs,false,m,rx,ry,e1,e2,h.1.1,h.1.2,k _ _ _ _ h.2 (Kp.refl _) (.bl _) m⟩
 ·exact h.elim
theorem RdO.inn {K:Fg} {neg:Bool}:RdO K (λ x y H Q=>(rIn K neg x y H Q \/ ∃ i j,x=.str i /\ y=.str j /\ Q (.bl (if neg then !(!(Builtin.Str.occurrences j i 0 j.length 1).isEmpty) else !(Builtin.Str.occurrences j i 0 j.length 1).isEmpty)) H) \/ rInD K neg x y H Q) (inR neg):=λ x y v u H Q μ Q3 m rx ry h k=>by
 unfold inR at h
 split at h
 ·next z l =>
  cases e:strs? l with
  | none=>rw [e] at h; exact .inr (si3 m rx ry h k)
  | some zs =>
   rw [e] at h
   cases rx
   cases ry with
   | tup hq rs =>
    rename_i a vs
    have ev:=uw0 rs e
    refine .inl <| .inl ⟨a,vs,rfl,.inr (SqT.of hq),rfl,by rw [ev]; exact xe1 zs,?_⟩
    rw [ev,tm1]
    exact k _ _ _ _ h (Kp.refl _) (.bl _) m
 ·next z l =>
  cases e:strs? l with
  | none=>rw [e] at h; exact .inr (si3 m rx ry h k)
  | some zs =>
   rw [e] at h
   cases rx
   cases ry with
   | ktp hq rs =>
    rename_i a vs
    have ev:=uw0 rs e
    refine .inl <| .inl ⟨a,vs,rfl,.inr hq,rfl,by rw [ev]; exact xe1 zs,?_⟩
    rw [ev,tm1]
    exact k _ _ _ _ h (Kp.refl _) (.bl _) m
 ·next z y =>
  cases rx
  cases ry
  exact .inl <| .inr ⟨z,y,rfl,rfl,k _ _ _ _ h (Kp.refl _) (.bl _) m⟩
 ·exact .inr (si3 m rx ry h k)
theorem q_in (hu:X.A.units + 65 < cLine):RO X (compareOp .In) (inR false):=⟨_,(op_in_seq.or ub2).or (sk4 hu),RdO.inn⟩
theorem zd3 (hu:X.A.units + 65 < cLine):RO X (compareOp .NotIn) (inR true):=⟨_,(op_notIn_seq.or uc1).or (vb2 hu),RdO.inn⟩
theorem q_eq (hu:X.A.units + 64 < cLine):RO X (compareOp .Eq) eqR:=by
 refine ⟨_,op_eq.or (xl4 hu),λ x y v u H Q μ Q3 m rx ry h k=>?_⟩
 unfold eqR at h
 cases e:eqS x y with
 | some c =>
  rw [e] at h
  obtain ⟨h1,h2⟩:=sn4 rx ry e
  refine .inl ⟨h1,?_⟩
  rw [h2]
  exact k _ _ _ _ h (Kp.refl _) (.bl _) m
 | none =>
  rw [e] at h
  dsimp only at h
  cases e1:datM μ x with
  | none=>rw [e1] at h; exact h.elim
  | some p =>
   cases e2:datM μ y with
   | none=>rw [e1,e2] at h; exact h.elim
   | some q =>
    rw [e1,e2] at h
    exact .inr ⟨x,y,μ,p,q,m,rx,ry,e1,e2,h.1.1,h.1.2,k _ _ _ _ h.2 (Kp.refl _) (.bl _) m⟩
theorem q_ne (hu:X.A.units + 64 < cLine):RO X (compareOp .NotEq) neR:=by
 refine ⟨_,op_ne.or (vk4 hu),λ x y v u H Q μ Q3 m rx ry h k=>?_⟩
 unfold neR at h
 cases e:eqS x y with
 | some c =>
  rw [e] at h
  obtain ⟨h1,h2⟩:=sn4 rx ry e
  refine .inl ⟨h1,?_⟩
  rw [h2]
  exact k _ _ _ _ h (Kp.refl _) (.bl _) m
 | none =>
  rw [e] at h
  dsimp only at h
  cases e1:datM μ x with
  | none=>rw [e1] at h; exact h.elim
  | some p =>
   cases e2:datM μ y with
   | none=>rw [e1,e2] at h; exact h.elim
   | some q =>
    rw [e1,e2] at h
    exact .inr ⟨x,y,μ,p,q,m,rx,ry,e1,e2,h.1.1,h.1.2,k _ _ _ _ h.2 (Kp.refl _) (.bl _) m⟩
theorem ti3 (K:Fg):∀ t ∈ ["int", "str", "tuple", "bool", "NoneType", "list"],∀ T ∈ ["int", "str", "tuple", "bool", "list"],kitOne K (.type t) (.type T)=some (t == T || (t == "bool" && T == "int")):=by
 intro t ht T hT
 simp only [mem_cons,not_mem_nil,or_false] at ht hT
 rcases ht with rfl | rfl | rfl | rfl | rfl | rfl <;> rcases hT with rfl | rfl | rfl | rfl | rfl <;> with_unfolding_all rfl
theorem zn4 {K:Fg} {t T:String} {b:Bool} (e:isIn t T=some b) (ht:t ∈ ["int", "str", "tuple", "bool", "NoneType", "list"]) (hT:T ∈ ["int", "str", "tuple", "bool", "list"]):kitOne K (.type t) (.type T)=some b:=by
 rw [ti3 K t ht T hT]
 simp only [mem_cons,not_mem_nil,or_false] at ht hT
 rcases ht with rfl | rfl | rfl | rfl | rfl | rfl <;> rcases hT with rfl | rfl | rfl | rfl | rfl <;> simp [isIn] at e <;> subst e <;> rfl
theorem wn4 {t T:String} {b:Bool} (e:isIn t T=some b) (ht:t ∈ ["int", "str", "tuple", "bool", "NoneType", "list"]):T ∈ ["int", "str", "tuple", "bool", "list"] \/ (t=T /\ b=true):=by
 unfold isIn at e
 simp only [mem_cons,not_mem_nil,or_false] at ht ⊢
 split at e
 ·next h=>simp only [Option.some.injEq] at e; exact .inr ⟨h,e.symm⟩
 ·split at e
  ·next h=>rw [h.2]; simp
  ·split at e
   ·next h=>rcases h.2 with rfl | rfl | rfl | rfl | rfl <;> simp
   ·cases e
theorem zp2 (K:Fg) (t:String):kitOne K (.type t) (.type t)=some true:=by
 unfold kitOne
 rw [if_pos (by simp)]
def rIsi (K:Fg):List V->Hp->VK->Prop:=λ xs H Q=>∃ d v μ t T b,xs=[v,.ty T] /\ RelM K μ H /\ RelD K H d v /\ tyN μ d=some t /\ isIn t T=some b /\ Q (.bl b) H
theorem zr2:CallR X (.builtin "isinstance") (rIsi X.K):=by
 intro pins s σ H xs us Q I r h
 obtain ⟨d,v,μ,t,T,b,rfl,m,rd,e1,e2,q⟩:=h
 obtain ⟨u,w',rfl,rx,ry⟩:=tv1 r
 cases ry
 have fin:∀ tk,EP X pins σ Q (.bool b) { s with toks:=tk }:=λ tk=>⟨.bl b,H,I.tok tk,rfl,q⟩
 have hk:∀ t',t' ∈ ["int", "str", "tuple", "bool", "NoneType", "list"]->isIn t' T=some b->kitOne X.K (.type t') (.type T)=some b:=λ t' h1 h2=>by
  rcases wn4 h2 h1 with z | ⟨rfl,rfl⟩
  ·exact zn4 h2 h1 z
  ·exact zp2 _ _
 cases rd with
 | non=>simp only [tyN,Option.some.injEq] at e1; subst e1; cases rx; exact kia_one PySem.W.kitx_none I.kIn True.intro (hk _ (by simp) e2) (λ z=>nomatch z) fin
 | bl y=>simp only [tyN,Option.some.injEq] at e1; subst e1; cases rx; exact kia_one PySem.W.kitx_bool I.kIn True.intro (hk _ (by simp) e2) (λ z=>nomatch z) fin
 | int i=>simp only [tyN,Option.some.injEq] at e1; subst e1; obtain ⟨tk,rfl⟩:=rx; exact kia_one PySem.W.kitx_int I.kIn True.intro (hk _ (by simp) e2) (λ z=>nomatch z) fin
 | str y=>simp only [tyN,Option.some.injEq] at e1; subst e1; obtain ⟨tk,rfl⟩:=rx; exact kia_one PySem.W.kitx_str I.kIn True.intro (hk _ (by simp) e2) (λ z=>nomatch z) fin
 | tup hq rs =>
  simp only [tyN,Option.some.injEq] at e1; subst e1; cases rx
  obtain ⟨its,rv,⟨o,ho,hc,_⟩,hz⟩:=I.tuple (SqT.of hq)
  exact kia_one PySem.W.kitx_tuple I.kIn ⟨o,ho,hc⟩ (hk _ (by simp) e2) (λ z=>nomatch z) fin
 | ref p =>
  simp only [tyN] at e1
  split at e1
  ·next l e0 =>
   simp only [Option.some.injEq] at e1; subst e1; cases rx
   obtain ⟨vs,hv,rs⟩:=m p l e0
   obtain ⟨its,rv,pl,hz⟩:=I.list (SqL.of hv)
   obtain ⟨o,ho,hc,_⟩:=pl.isList
   exact kia_one PySem.W.kitx_list I.kIn ⟨o,ho,hc⟩ (hk _ (by simp) e2) (λ z=>nomatch z) fin
  ·cases e1
 | ty n=>simp [tyN] at e1
 | fls _ _=>simp [tyN] at e1
 | ktp _ _=>simp [tyN] at e1
 | exc _ _ _=>simp [tyN] at e1
theorem yt0:RC X (.builtin "isinstance") isiR:=by
 refine ⟨_,zr2,λ xs vs H Q μ Q3 m r h k=>?_⟩
 cases r with
 | nil=>exact False.elim h
 | cons r1 r2 =>
  cases r2 with
  | nil=>exact False.elim h
  | cons r2 r3 =>
   cases r3 with
   | cons _ _=>cases r2 <;> exact False.elim h
   | nil =>
    cases r2 with
    | ty T =>
     rename_i d v
     dsimp only [isiR] at h
     cases e:tyN μ d with
     | none=>rw [e] at h; exact h.elim
     | some t =>
      rw [e] at h
      dsimp only at h
      cases e2:isIn t T with
      | none=>rw [e2] at h; exact h.elim
      | some b =>
       rw [e2] at h
       exact ⟨d,v,μ,t,T,b,rfl,m,r1,e,e2,k _ _ _ _ h (Kp.refl _) (.bl _) m⟩
    | _=>exact False.elim h
variable {o e:Expr} {es:List Expr} {to:TE3} {t:TA3} {apos cpos:Pos}
theorem ub4 {name:Str} {id:String} {r:V->List V->Hp->VK->Prop} {r3:D->List D->Mu->VK3->Prop} (slot:Slot "list" name id) (hty:typeOf (.builtin id)=pure (.type "method_descriptor")) (hm:MtR X id r)
    (hrd:∀ p xs v vs H Q μ Q3,RelM X.K μ H->RelD X.K H (.ref p) v->RelDs X.K H xs vs->r3 (.ref p) xs μ Q3->Ks X.K H Q3 Q->r v vs H Q) (ho:RE X o to) (ha:RA X (e :: es) t)
    (hbase:attributeBase o name X.env (eval o X.env)=eval o X.env)
    (hfew:((backTo cpos (starEach (e :: es) X.env)).all (λ x=>!x.1) && (backToKw cpos (keywordEach [] X.env)).all (λ x=>x.1.isSome)
     && decide ((e :: es).length + ([]:List Keyword).length + (if ([]:List Keyword).isEmpty then 0 else 1) < 30))=true)
    (hline:(apos.endLine == cpos.line)=true) (hs:starEach (e :: es) X.env=(false,eval e X.env) :: starEach es X.env) (hplain:(backTo cpos (starEach es X.env)).any (·.1)=false) :
    RE X (.Call (.Attribute o name apos) (e :: es) [] cpos) (mt3 r3 to t):=by
 obtain ⟨va,pa,ra⟩:=ho
 obtain ⟨vb,pb,rb⟩:=ha
 refine ⟨_,tj4 PySem.F.plainAttrs_list slot hty hm pa pb hbase hfew hline hs hplain,λ σ H Q ρ μ Q3 s m h k=>ra σ H _ ρ μ _ s m h λ d μ1 v H1 h1 k1 r1 m1=>?_⟩
 cases r1 with
 | ref p =>
  dsimp only at h1
  cases e0:μ1 p with
  | none=>rw [e0] at h1; exact h1.elim
  | some oo =>
   cases oo with
   | ins _ _=>rw [e0] at h1; exact h1.elim
   | dct _=>rw [e0] at h1; exact h1.elim
   | dcl _=>rw [e0] at h1; exact h1.elim
   | lst l =>
    rw [e0] at h1
    obtain ⟨vs,hv,rs⟩:=m1 p l e0
    refine ⟨.inl ⟨rfl,vs,SqL.of hv⟩,rb σ H1 _ ρ μ1 _ (s.mono k1) m1 h1 λ xs μ2 ys H2 h2 k2 r2 m2=>?_⟩
    exact hrd p xs _ ys H2 Q μ2 Q3 m2 (.ref p) r2 h2 (k.after (k1.trans k2))
 | _=>exact False.elim h1
theorem vq0 (ho:RE X o to) (ha:RA X (e :: es) t) (hbase:attributeBase o "append" X.env (eval o X.env)=eval o X.env:=by rfl)
    (hfew:((backTo cpos (starEach (e :: es) X.env)).all (λ x=>!x.1) && (backToKw cpos (keywordEach [] X.env)).all (λ x=>x.1.isSome)
     && decide ((e :: es).length + ([]:List Keyword).length + (if ([]:List Keyword).isEmpty then 0 else 1) < 30))=true:=by rfl)
    (hline:(apos.endLine == cpos.line)=true:=by rfl) (hs:starEach (e :: es) X.env=(false,eval e X.env) :: starEach es X.env:=by rfl) (hplain:(backTo cpos (starEach es X.env)).any (·.1)=false:=by rfl) :
    RE X (.Call (.Attribute o "append" apos) (e :: es) [] cpos) (mt3 appR to t):=by
 refine ub4 PySem.F.slot_list_append PySem.F.type_list_append xr0 (λ p xs v vs H Q μ Q3 m rp rx h k=>?_) ho ha hbase hfew hline hs hplain
 cases rp
 cases rx with
 | nil=>exact False.elim h
 | cons r1 r2 =>
  cases r2 with
  | cons _ _=>exact False.elim h
  | nil =>
   dsimp only [appR] at h
   cases e0:μ p with
   | none=>rw [e0] at h; exact h.elim
   | some oo =>
    cases oo with
    | ins _ _=>rw [e0] at h; exact h.elim
    | dct _=>rw [e0] at h; exact h.elim
    | dcl _=>rw [e0] at h; exact h.elim
    | lst l =>
     rw [e0] at h
     obtain ⟨vs,hv,rs⟩:=m p l e0
     exact ⟨p,vs,_,rfl,rfl,hv,by rw [<- rs.length]; exact h.1,k _ _ _ _ h.2 (Kp.wr hv) .non (m.wr hv (rs.append (.cons r1 .nil)))⟩
theorem ym0 (ho:RE X o to) (ha:RA X (e :: es) t) (hbase:attributeBase o "extend" X.env (eval o X.env)=eval o X.env:=by rfl)
    (hfew:((backTo cpos (starEach (e :: es) X.env)).all (λ x=>!x.1) && (backToKw cpos (keywordEach [] X.env)).all (λ x=>x.1.isSome)
     && decide ((e :: es).length + ([]:List Keyword).length + (if ([]:List Keyword).isEmpty then 0 else 1) < 30))=true:=by rfl)
    (hline:(apos.endLine == cpos.line)=true:=by rfl) (hs:starEach (e :: es) X.env=(false,eval e X.env) :: starEach es X.env:=by rfl) (hplain:(backTo cpos (starEach es X.env)).any (·.1)=false:=by rfl) :
    RE X (.Call (.Attribute o "extend" apos) (e :: es) [] cpos) (mt3 extR to t):=by
 refine ub4 PySem.F.slot_list_extend PySem.F.type_list_extend xc2 (λ p xs v vs H Q μ Q3 m rp rx h k=>?_) ho ha hbase hfew hline hs hplain
 cases rp
 cases rx with
 | nil=>exact False.elim h
 | cons r1 r2 =>
  cases r2 with
  | cons _ _=>cases r1 <;> exact False.elim h
  | nil =>
   cases r1 with
   | ref q =>
    dsimp only [extR] at h
    cases e0:μ p with
    | none=>rw [e0] at h; exact h.elim
    | some oo =>
     cases oo with
     | ins _ _=>rw [e0] at h; exact h.elim
     | dct _=>rw [e0] at h; exact h.elim
     | dcl _=>rw [e0] at h; exact h.elim
     | lst l =>
      cases e2:μ q with
      | none=>rw [e0,e2] at h; exact h.elim
      | some o2 =>
       cases o2 with
       | ins _ _=>rw [e0,e2] at h; exact h.elim
       | dct _=>rw [e0,e2] at h; exact h.elim
       | dcl _=>rw [e0,e2] at h; exact h.elim
       | lst l2 =>
        rw [e0,e2] at h
        obtain ⟨vs,hv,rs⟩:=m p l e0
        obtain ⟨us,hu,ru⟩:=m q l2 e2
        exact ⟨p,q,vs,us,rfl,rfl,hv,hu,by rw [<- rs.length,<- ru.length]; exact h.1,k _ _ _ _ h.2 (Kp.wr hv) .non (m.wr hv (rs.append ru))⟩
   | _=>exact False.elim h
end
abbrev vd0 (X:Cx) (NN:List Str) (scope:Scope) (cl:List (Str × Addr)) (C:Addr) (fp:List Addr) (s₀:Shared) (H₀:Hp) (pn:List (Addr × Obj)):Cx :=
 { X with N:=NN,s₀:=s₀,H₀:=H₀,env:=compEnvC scope cl C X.env,outer:=X.stack,ex:=fp,fn:=λ _=>false,pn:=pn,xe:=λ _ _=>False }
structure CompSc (X:Cx) (NN:List Str) (scope:Scope) (cl:List (Str × Addr)) (js:List (Option Nat)):Prop where
 clos:closureFor scope X.env=pure cl
 cell:∀ y ∈ scope.names,y.2 ≠ .cell
 kind:scope.kind=.function
 names:∀ y ∈ scope.names,y.2=.local->scope.names.lookup y.1=some .local
 sub:∀ x c,cl.lookup x=some c->X.env.cells.lookup x=some c
 has:∀ x,((relabel scope X.env).names.lookup x=some .cell \/ (relabel scope X.env).names.lookup x=some .free)->∃ c,cl.lookup x=some c
 len:js.length=NN.length
 out:∀ (i j:Nat),js[i]?=some (some j)->∃ x,NN[i]?=some x /\ X.N[j]?=some x /\ Vis X.env.scope x /\ X.env.scope.names.lookup x ≠ some .local /\ ((relabel scope X.env).names.lookup x=some .cell \/ (relabel scope X.env).names.lookup x=some .free)
theorem wi0 {α:Type} {x:Str} {k:α}:∀ {l:List (Str × α)},l.lookup x=some k->(x,k) ∈ l
 | [],h=>by simp at h
 | (n,k') :: r,h=>by
  rw [lookup_cons] at h
  split at h
  ·next e=>simp only [Option.some.injEq] at h; subst h; rw [eq_of_beq e]; exact mem_cons_self
  ·exact mem_cons_of_mem _ (wi0 h)
theorem CompSc.closed {X:Cx} {NN:List Str} {scope:Scope} (hf:∀ y ∈ scope.names,y.2 ≠ .free) (hc:∀ y ∈ scope.names,y.2 ≠ .cell) (hk:scope.kind=.function) (hn:∀ y ∈ scope.names,y.2=.local->scope.names.lookup y.1=some .local) :
    CompSc X NN scope [] (NN.map λ _=>none) where
 clos:=closureFor_none hf
 cell:=hc
 kind:=hk
 names:=hn
 sub:=λ x c h=>by simp at h
 has:=λ x h=>by
  exfalso
  have e:(relabel scope X.env).names=scope.names:=map_eq_self (l:=scope.names) (λ y hy=>by
   obtain ⟨n,k⟩:=y
   have:(k == NameKind.free)=false:=by simpa using hf _ hy
   simp [this])
  rw [e] at h
  rcases h with h | h
  ·exact hc _ (wi0 h) rfl
  ·exact hf _ (wi0 h) rfl
 len:=by simp
 out:=λ i j h=>by
  rw [getElem?_map] at h
  cases q:NN[i]? with
  | none=>rw [q] at h; cases h
  | some y=>rw [q] at h; simp at h
def wo0 (js:List (Option Nat)) (σ:L2.St):L2.St:=js.map λ j=>j.bind λ j=>(σ[j]?).bind id
def PTs (X:Cx) (ifs:List Expr) (t:TT):Prop:=∀ (pins:List (Addr × Obj)) (s:Shared) (σ:L2.St) (H:Hp) (Q:Bool->Hp->Prop),Inv X pins σ H s->t σ H Q ->
 wpAny (model X.prog X.w) X.A (forIn ifs true λ c r=>if r=true then do let ok <- isTrue c X.env (eval c X.env); pure (ForInStep.yield ok) else pure (ForInStep.yield r)) (TP X pins σ Q) X.xe s
theorem ye3 {X:Cx}:PTs X [] (λ _ H Q=>Q true H):=λ _ _ _ H _ I h=>wpAny_tests_nil ⟨H,I,h⟩
theorem xe3 {X:Cx} {c:Expr} {t:TT} (h:PT X c t):PTs X [c] t:=λ pins s σ H Q I q=>wpAny_tests_one (h pins s σ H Q I q)
def ww1 (js:List (Option Nat)) (wi:TI) (g:TG) (tc:TT) (te:TE):TE:=λ σ H Q=>wi σ H λ J H1=>∀ p,H1 p=none ->
 ∃ W:Nat->Nat->L2.St->Hp->Prop,(∃ m,W 0 m (wo0 js σ) (upd H1 p (.lst []))) /\ ∀ i m σ' H',W i m σ' H' ->
  ((J.stop i H' /\ Q (.ref p) H') \/ (J.go i H' /\ ∀ x H2,J.yld i H' x H2->g x σ' H2 λ σ3 H3=>tc σ3 H3 λ b H4 =>
   if b=true then te σ3 H4 λ y H5=>∃ ys,H5 p=some (.lst ys) /\ ys.length < sizeLine /\ ∃ m',m' < m /\ W (i + 1) m' σ3 (upd H5 p (.lst (ys ++ [y]))) else ∃ m',m' < m /\ W (i + 1) m' σ3 H4))
section
variable {X:Cx} {NN:List Str} {scope:Scope} {cl:List (Str × Addr)} {js:List (Option Nat)}
theorem yk3 {pins:List (Addr × Obj)} {σ:L2.St} {H:Hp} {s:Shared} {fp:List Addr} {pn:List (Addr × Obj)} (hc:X.calm=true) (S:CompSc X NN scope cl js) (I:Inv X pins σ H s) (f:∀ b ∈ fp,FpOk X pins H b /\ b < s.heap.objs.size) :
    (vd0 X NN scope cl s.heap.objs.size fp s H pn).Ok where
 mod:=I.ok.mod
 kind:=S.kind
 glob:=I.ok.glob
 blt:=I.ok.blt
 above:=Nat.le_refl _
 inj:=λ x y c h1 h2=>I.ok.inj x y c (S.sub x c h1) (S.sub y c h2)
 has:=λ x h=>S.has x h
 cab:=λ x c h=>by cases h
 hd:=λ _=>I.ok.hd hc
 frames:=I.ok.frames
 stk:=.inl rfl
 exf:=λ b hb=>⟨Nat.ne_of_lt (f b hb).2,λ x c e=>(f b hb).1.2.2.2.2.1 x c (S.sub x c e)⟩
 bs:=I.bs
 bsz:=Nat.le_trans I.ok.bsz I.sz
 noex:=λ b o e hb=>by
  rcases (f b hb).1.2.2.2.1 with z | z
  ·exact I.ok.noex b o e z
  ·exact absurd (Nat.lt_of_lt_of_le (Heap.lt_size e) (Nat.le_trans I.ok.bsz z)) (Nat.lt_irrefl _)
 exfs:=λ b hb hfs=>by
  rcases List.mem_cons.mp (I.stkSub b hfs) with z | z
  ·exact (f b hb).1.2.1 z
  ·exact (f b hb).1.2.2.1 z
 funs:=I.stack
 frf:=I.stkFree
theorem vd2 {js:List (Option Nat)} {σ:L2.St} {i:Nat} {v:V} (h:(wo0 js σ)[i]?=some (some v)):∃ j,js[i]?=some (some j) /\ σ[j]?=some (some v):=by
 unfold wo0 at h
 rw [getElem?_map] at h
 cases q:js[i]? with
 | none=>rw [q] at h; cases h
 | some o =>
  rw [q] at h
  cases o with
  | none=>simp at h
  | some j =>
   refine ⟨j,rfl,?_⟩
   simp only [Option.map_some,Option.bind_some,Option.some.injEq] at h
   cases e:σ[j]? with
   | none=>rw [e] at h; simp at h
   | some w=>rw [e] at h; simp only [Option.bind_some,id] at h; rw [h]
theorem ue1 {pins:List (Addr × Obj)} {σ:L2.St} {H:Hp} {s:Shared} {fp:List Addr} {h₁:Heap} {m:Str->Option Value} {tk:Nat} (hc:X.calm=true) (S:CompSc X NN scope cl js) (I:Inv X pins σ H s) (f:∀ b ∈ fp,FpOk X pins H b /\ b < s.heap.objs.size)
    (hn:h₁.Ns s.heap.objs.size m) (k:∀ b u,s.heap.get? b=some u->h₁.get? b=some u):Inv (vd0 X NN scope cl s.heap.objs.size fp s H (X.pn ++ pins)) [] (wo0 js σ) H { s with heap:=h₁,toks:=tk } where
 ok:=yk3 hc S I f
 os:=rfl
 bare:=I.bare
 base:=Un.kept k
 loc:=by
  refine ⟨m,hn,λ i x v h1 h2 h3=>?_⟩
  obtain ⟨j,e1,e2⟩:=vd2 h2
  obtain ⟨y,q1,q2,q3,q4,q5⟩:=S.out i j e1
  have q1':NN[i]?=some x:=h1
  rw [q1] at q1'; cases q1'
  obtain ⟨mX,_,hl⟩:=I.loc
  obtain ⟨u,r,l⟩:=hl j x v q2 e2 q3
  refine ⟨u,r,.inr ⟨q5,?_⟩⟩
  rcases l with ⟨z,_⟩ | ⟨_,c,hc',hcell⟩
  ·exact absurd z q4
  ·obtain ⟨c',hc2⟩:=S.has x q5
   have e:=S.sub x c' hc2
   rw [hc'] at e; cases e
   obtain ⟨o,ho,hd⟩:=hcell
   exact ⟨c,hc2,o,k _ _ ho,hd⟩
 cell:=λ x c e=>by
  obtain ⟨v,o,ho,hd⟩:=I.cell x c (S.sub x c e)
  exact ⟨v,o,k _ _ ho,hd⟩
 free:=I.hok.fresh (Nat.le_refl _)
 freeC:=λ x c e=>I.freeC x c (S.sub x c e)
 pin:=λ p hp=>by
  have hp':p ∈ X.pn ++ pins:=by simpa using hp
  obtain ⟨h1,h2,h3,h4,h5⟩:=I.pin p hp'
  refine ⟨k _ _ h1,h2,Nat.ne_of_lt (Heap.lt_size h1),λ z=>?_,h5⟩
  rcases List.mem_cons.mp (I.stkSub _ z) with z | z
  ·exact h3 z
  ·exact h4 z
 hok:=I.hok.kept k
 len:=by show (wo0 js σ).length=NN.length; unfold wo0; rw [length_map]; exact S.len
theorem yg3 {elt target iter:Expr} {ifs:List Expr} {pos:Pos} {wi:TI} {g:TG} {tc:TT} {te:TE} (hc:X.calm=true) (S:CompSc X NN scope cl js) (hi:PI X target iter wi)
    (hg:∀ C fp s₀ H₀ pn,PG (vd0 X NN scope cl C fp s₀ H₀ pn) target g) (ht:∀ C fp s₀ H₀ pn,PTs (vd0 X NN scope cl C fp s₀ H₀ pn) ifs tc) (he:∀ C fp s₀ H₀ pn,PE (vd0 X NN scope cl C fp s₀ H₀ pn) elt te)
    (hs:∀ x,foldedSetIterable iter X.env x=pure x):PE X (.ListComp elt [⟨target,iter,ifs,0⟩] scope pos) (ww1 js wi g tc te):=by
 intro pins s σ H Q I h
 rw [eval_ListComp]
 refine wpAny_comprehension_free (use:=none) rfl hs S.clos S.kind S.names (thn (hi pins s σ H _ I h) λ xv s1 h1=>thn h1 λ itv s2 h2=>?_)
 obtain ⟨it,fp,tn,J,H2,rfl,I2,T,st2,f2,hW⟩:=h2
 refine wpAny_newObj_type (wpAny_newFunctionEnv S.cell (by intro y hy; simp at hy) (λ h₁ hns₁ hsb₁=>?_) S.kind)
 dsimp only at hns₁ hsb₁ ⊢
 have hD:H2 s2.heap.objs.size=none:=I2.hok.fresh (Nat.le_refl _)
 have I3:Inv X pins σ (upd H2 s2.heap.objs.size (.lst [])) { s2 with heap:=s2.heap.push { cls:=.type "list",dict:=none,data:=.seq ([]:List Value).toArray } } :=
  I2.lnew (t':=s2.toks) (its:=[]) .nil (by rw [sizeLine_eq]; decide)
 generalize hsD:({ s2 with heap:=s2.heap.push { cls:=.type "list",dict:=none,data:=.seq ([]:List Value).toArray } }:Shared)=sD at I3
 have eh:sD.heap=s2.heap.push { cls:=.type "list",dict:=none,data:=.seq ([]:List Value).toArray }:=by rw [<- hsD]
 have es:∀ (h:Heap) (tk:Nat),({ s2 with heap:=h,toks:=tk }:Shared)={ sD with heap:=h,toks:=tk }:=λ h tk=>by rw [<- hsD]
 have hsz:s2.heap.objs.size < sD.heap.objs.size:=by rw [eh,Heap.size_push]; exact Nat.lt_succ_self _
 rw [<- eh] at hns₁ hsb₁ ⊢
 generalize hp0:s2.heap.objs.size=p0 at *
 have up:∀ b u,s2.heap.get? b=some u->sD.heap.get? b=some u:=λ b u e=>by rw [eh]; exact Heap.get?_push_of_some _ e
 have k:∀ b u,sD.heap.get? b=some u->h₁.get? b=some u:=λ b u e=>hsb₁.extBut b u (Nat.ne_of_lt (Heap.lt_size e)) (Heap.get?_push_of_some _ e)
 have f3:∀ b ∈ fp,FpOk X pins (upd H2 p0 (.lst [])) b /\ b < sD.heap.objs.size:=λ b hb=>by
  obtain ⟨o,ho,_⟩:=T.obj 0 _ st2 b hb
  have hlt:b < p0:=by rw [<- hp0]; exact Heap.lt_size ho
  refine ⟨⟨?_,(f2 b hb).2⟩,Nat.lt_trans hlt hsz⟩
  rw [tc0 (Nat.ne_of_lt hlt)]; exact (f2 b hb).1
 obtain ⟨W,⟨m0,w0⟩,turn⟩:=hW p0 hD
 have I4:=ue1 (tk:=s2.toks + ([]:List (Str × Value)).length) hc S I3 f3 hns₁ k
 have st4:tn 0 h₁:=T.keep 0 _ _ st2 λ b _ o e=>k b o (up b o e)
 rw [es]
 generalize hX':vd0 X NN scope cl sD.heap.objs.size fp sD (upd H2 p0 (.lst [])) (X.pn ++ pins)=X' at I4
 have a1:X'.env=compEnvC scope cl sD.heap.objs.size X.env:=by rw [<- hX']
 have a2:X'.prog=X.prog:=by rw [<- hX']
 have a3:X'.w=X.w:=by rw [<- hX']
 have a4:X'.A=X.A:=by rw [<- hX']
 have a5:X'.K=X.K:=by rw [<- hX']
 have a6:X'.calm=true:=by rw [<- hX']; exact hc
 have a7:X'.xe=λ _ _=>False:=by rw [<- hX']
 have a8:X'.ex=fp:=by rw [<- hX']
 have T':Turn X'.prog X'.w X'.K target J fp it tn:=by rw [a2,a3,a5]; exact T
 have hg':PG X' target g:=by rw [<- hX']; exact hg _ _ _ _ _
 have ht':PTs X' ifs tc:=by rw [<- hX']; exact ht _ _ _ _ _
 have he':PE X' elt te:=by rw [<- hX']; exact he _ _ _ _ _
 have fin:∀ {σ':L2.St} {H':Hp} {s':Shared},Inv X' [] σ' H' s'->Q (.ref p0) H'->compPost (model X.prog X.w) X.A X.xe none (EP X pins σ Q) (.ref p0) sD.heap.objs.size (.ok .next) s':=λ {σ' H' s'} I' q=>by
  obtain ⟨m',hn',_⟩:=I'.loc
  rw [a1] at hn'
  refine ⟨m',hn',λ h' sb=>?_⟩
  have u:Un (frs X.stack) fp (upd H2 p0 (.lst [])) H' sD.heap s'.heap:=by
   have:=I'.base
   rw [<- hX'] at this
   exact this
  have hch:∀ b ∈ fp,(b ∈ X.ex \/ X.s₀.heap.objs.size<=b) /\ b ≠ X.env.locals /\ (∀ x c,X.env.cells.lookup x=some c->c ≠ b) /\ ∀ p ∈ X.pn ++ pins,p.1 ≠ b:=λ b hb=>by
   obtain ⟨_,z1,_,z3,z4,z5⟩:=(f3 b hb).1
   exact ⟨z3,z1,z4,z5⟩
  have os':s'.os=sD.os:=by
   have:=I'.os
   rw [<- hX'] at this
   exact this
  have hok':HOk X.prog X.w H' s'.heap:=by
   have:=I'.hok
   rw [<- hX'] at this
   exact this
  have I5:Inv X pins σ H' s':=I3.call' os' u hok' I'.bare hch
  have hC:H' sD.heap.objs.size=none:=by
   have:=I'.free
   rw [a1] at this
   exact this
  refine ⟨.ref p0,H',I5.turned (t':=s'.toks) (it:=sD.heap.objs.size) (λ b o hb e=>sb.extBut b o hb e) hC (Nat.ne_of_gt I3.lt) (.inr I3.sz) (λ x c e=>?_) (λ p hp=>?_),rfl,q⟩
  ·obtain ⟨v,o,ho,_⟩:=I3.cell x c e
   exact Nat.ne_of_lt (Heap.lt_size ho)
  ·exact Nat.ne_of_lt (Heap.lt_size (I3.pin p hp).1)
 have fp4:∀ {H':Hp},(∀ b ∈ fp,H' b=none)->∀ b ∈ fp,FpOk X' [] H' b:=λ hn b hb=>by
  obtain ⟨_,z1,z2,z3,z4,z5⟩:=(f3 b hb).1
  rw [<- hX']
  refine ⟨hn b hb,Nat.ne_of_lt (f3 b hb).2,λ z=>?_,.inl hb,λ x c e=>z4 x c (S.sub x c e),λ p hp=>z5 p (by simpa using hp)⟩
  rcases List.mem_cons.mp (I3.stkSub _ z) with z | z
  ·exact z1 z
  ·exact z2 z
 have loop:∀ s₃:Shared,Inv X' [] (wo0 js σ) (upd H2 p0 (.lst [])) s₃->tn 0 s₃.heap ->
     codeAny (model X.prog X.w) X.A (.compLoop (.ListComp elt [⟨target,iter,ifs,0⟩] scope pos) 0 (.ref it) (.ref p0) (compEnvC scope cl sD.heap.objs.size X.env)) (compPost (model X.prog X.w) X.A X.xe none (EP X pins σ Q) (.ref p0) sD.heap.objs.size) s₃:=by
  intro s₃ I₃ st₃
  refine codeAny_loop rfl (λ n s'=>∃ i σ' H',Inv X' [] σ' H' s' /\ tn i s'.heap /\ (∀ b ∈ fp,H' b=none) /\ W i n σ' H') (λ n s' hI=>?_) m0 ⟨0,wo0 js σ,_,I₃,st₃,λ b hb=>(f3 b hb).1.1,w0⟩
  obtain ⟨i,σ3,H3,J3,st3,fr3,w3⟩:=hI
  have tr:=turn i n σ3 H3 w3
  show wpAny _ X.A ((compTurn (.ListComp elt [⟨target,iter,ifs,0⟩] scope pos) 0 (.ref it) (.ref p0) (compEnvC scope cl sD.heap.objs.size X.env)).onRaise (λ x=>do noteFrame x (compEnvC scope cl sD.heap.objs.size X.env); theTreesLotGoes x)) _ _ s'
  refine wpAny_noted ?_
  rw [compTurn_list,<- a1,<- a2,<- a3,<- a4]
  have nof:∀ {α:Type} {t:Sem α} {Q':α->Shared->Prop} {s'':Shared} {E:Value->Shared->Prop},wpAny (model X'.prog X'.w) X'.A t Q' X'.xe s''->wpAny (model X'.prog X'.w) X'.A t Q' E s'':=λ h=>wpAny_mono h (λ _ _ q=>q) λ _ _ z=>by rw [a7] at z; exact z.elim
  rcases tr with ⟨stop,qn⟩ | ⟨go,step⟩
  ·refine wpAny_bind (wpAny_standAt (wpAny_bind (nof (thn (T'.done X' rfl rfl rfl a6 i [] s' σ3 H3 X'.xe J3 (fp4 fr3) st3 stop) λ r s4 ⟨hr,J4⟩=>?_))))
   subst hr
   exact wpAny_pure (fin J4 qn)
  ·refine wpAny_bind (wpAny_standAt (wpAny_bind (nof (thn (T'.item X' rfl rfl rfl a6 i [] s' σ3 H3 X'.xe J3 (fp4 fr3) st3 go) λ r s4 ⟨u,hr,h4⟩=>?_))))
   subst hr
   refine wpAny_bind (nof (thn h4 λ _ s5 ⟨x,H5,I5,r5,y5,st5,fr5⟩=>?_))
   have I5':=I5.pinned (fp4 fr5) (T.obj _ _ st5)
   refine wpAny_bind (nof (thn (hg' _ s5 σ3 H5 x u _ I5' r5 (step x H5 y5)) λ _ s6 ⟨σ6,H6,I6,q6⟩=>?_))
   refine wpAny_bind (nof (thn (ht' _ s6 σ6 H6 _ I6 q6) λ ok s7 ⟨H7,I7,q7⟩=>?_))
   have again:∀ {s8:Shared} {σ8:L2.St} {H8:Hp},Inv X' ([] ++ yv0 fp s5.heap) σ8 H8 s8->(∃ m',m' < n /\ W (i + 1) m' σ8 H8)->∃ m,m < n /\ ∃ i σ' H',Inv X' [] σ' H' s8 /\ tn i s8.heap /\ (∀ b ∈ fp,H' b=none) /\ W i m σ' H':=λ {s8 σ8 H8} I8 ⟨m',hm,w8⟩=>by
    refine ⟨m',hm,i + 1,σ8,H8,I8.unpinned,T.keep _ _ _ st5 λ b hb o e=>(I8.pin (b,o) (mem_append_right _ (mem_append_right _ (zh0 hb e)))).1,λ b hb=>?_,w8⟩
    obtain ⟨o,e,d⟩:=T.obj _ _ st5 b hb
    exact (I8.pin (b,o) (mem_append_right _ (mem_append_right _ (zh0 hb e)))).2.1
   cases ok with
   | false=>exact wpAny_pure ⟨rfl,again I7 q7⟩
   | true =>
    refine wpAny_bind (wpAny_bind (nof (thn (he' _ s7 σ6 H7 _ I7 q7) λ xv s8 ⟨y,H8,I8,r8,ys,q8,hlen,q9⟩=>wpAny_bind (nof ?_))))
    refine thn (xr0 (X:=X') _ s8 σ6 H8 (.ref p0) [y] (.ref p0) [xv] (λ v H9=>v=.non /\ H9=upd H8 p0 (.lst (ys ++ [y]))) I8 rfl (.cons r8 .nil) ⟨p0,ys,y,rfl,rfl,q8,hlen,rfl,rfl⟩) λ rv s9 ⟨v9,H9,I9,_,_,e9⟩=>?_
    subst e9
    exact wpAny_pure (wpAny_pure ⟨rfl,again I9 q9⟩)
 exact codeAny_compStart_list (loop _ I4 st4) (T.self X.A 0 _ _ _ st4 (loop _ I4 st4))
end
theorem yw0:bootBuiltins "len" = some (.builtin "len"):=by decide +kernel
theorem tn1:bootBuiltins "abs" = some (.builtin "abs"):=by decide +kernel
theorem sc0:bootBuiltins "isinstance" = some (.builtin "isinstance"):=by decide +kernel
theorem vn1:bootBuiltins "sum" = some (.builtin "sum"):=by decide +kernel
theorem wg0:bootBuiltins "tuple" = some (.type "tuple"):=by decide +kernel
theorem se1:bootBuiltins "int" = some (.type "int"):=by decide +kernel
theorem xh2:bootBuiltins "bool" = some (.type "bool"):=by decide +kernel
theorem zp4:bootBuiltins "set" = some (.type "set"):=by decide +kernel
theorem vx2:bootBuiltins "all" = some (.builtin "all"):=by decide +kernel
theorem un1:bootBuiltins "min" = some (.builtin "min"):=by decide +kernel
theorem tg2:bootBuiltins "sorted" = some (.builtin "sorted"):=by decide +kernel
def RTs (X:Cx) (ifs:List Expr) (t:TT3):Prop:=∃ tv,PTs X ifs tv /\ RdT X.K tv t
theorem yl0 {X:Cx}:RTs X [] tt3:=⟨_,ye3,λ σ H Q ρ μ Q3 s m h k=>k _ _ _ h (Kp.refl _) m⟩
theorem wy1 {X:Cx} {c:Expr} {t:TT3} (h:RT X c t):RTs X [c] t:=let ⟨tv,p,r⟩:=h; ⟨tv,xe3 p,r⟩
theorem sp2 {K:Fg} {H:Hp} {ρ:St3} {σ:L2.St} (s:RSt K H ρ σ) (js:List (Option Nat)):RSt K H (js.map λ j=>j.bind (getI ρ)) (wo0 js σ):=by
 refine ⟨by simp [wo0],λ i d e=>?_⟩
 rw [wi1,getElem?_map] at e
 unfold wo0
 rw [getElem?_map]
 cases q:js[i]? with
 | none=>rw [q] at e; cases e
 | some o =>
  rw [q] at e
  cases o with
  | none=>simp at e
  | some j =>
   have e':getI ρ j=some d:=by simpa using e
   obtain ⟨v,h1,h2⟩:=s.at' j d e'
   exact ⟨v,by simp [h1],h2⟩
theorem RdE.comp {K:Fg} {js:List (Option Nat)} {wi:TI} {g:TG} {tc:TT} {te:TE} {ti:TI3} {g3:TG3} {tc3:TT3} {te3:TE3} (ri:RdI K wi ti) (rg:RdG K g g3) (rt:RdT K tc tc3) (re:RdE K te te3):RdE K (ww1 js wi g tc te) (comp3 js ti g3 tc3 te3):=by
 intro σ H Q ρ μ Q3 s m h k
 refine ri σ H _ ρ μ _ s m h λ l S μ1 J H1 h1 k1 m1 ok p hp=>?_
 obtain ⟨W,w0,hS,hn,hs⟩:=h1 p (m1.free hp)
 have kn:Kp H1 (upd H1 p (.lst [])):=Kp.new hp
 refine ⟨λ i n σ2 H2=>n=l.length - i /\ i<=l.length /\ ∃ ρ2 μ2 ys,RSt K H2 ρ2 σ2 /\ RelM K μ2 H2 /\ Kp H1 H2 /\ W (l.drop i) ys ρ2 μ2,⟨l.length,rfl,Nat.zero_le _,_,_,[],(sp2 (s.mono k1) js).mono kn,m1.newL hp .nil,kn,w0⟩,?_⟩
 rintro i n σ2 H2 ⟨rfl,hi,ρ2,μ2,ys,s2,m2,k2,w2⟩
 obtain ⟨hS2,hp2⟩:=hS _ _ _ _ w2
 by_cases hlt:i < l.length
 ·rw [List.drop_eq_getElem_cons hlt] at w2
  obtain ⟨hz,h2⟩:=hs _ _ _ _ _ w2
  obtain ⟨ok1,_⟩:=ok i H2 μ2 k2 m2 hS2
  obtain ⟨go,yl⟩:=ok1 l[i] (getElem?_eq_getElem hlt)
  refine .inr ⟨go,λ x H3 y=>?_⟩
  obtain ⟨k3,m3,r3⟩:=yl x H3 y
  refine rg x l[i] σ2 H3 _ ρ2 μ2 _ (s2.mono k3) m3 r3 h2 λ ρ4 μ4 σ4 H4 h4 k4 s4 m4=>?_
  refine rt σ4 H4 _ ρ4 μ4 _ s4 m4 h4 λ b μ5 H5 h5 k5 m5=>?_
  have k15:Kp H1 H5:=k2.trans (k3.trans (k4.trans k5))
  cases b with
  | false=>exact ⟨l.length - (i + 1),by omega,rfl,hlt,ρ4,μ5,ys,s4.mono k5,m5,k15,h5⟩
  | true =>
   refine re σ4 H5 _ ρ4 μ5 _ (s4.mono k5) m5 h5 λ d μ6 v H6 h6 k6 r6 m6=>?_
   obtain ⟨vs,hv,rv⟩:=m6 p ys h6.1
   refine ⟨vs,hv,by rw [<- rv.length]; exact hz,l.length - (i + 1),by omega,rfl,hlt,ρ4,_,_,((s4.mono k5).mono k6).mono (Kp.wr hv),m6.wr hv (rv.append (.cons r6 .nil)),(k15.trans k6).trans (Kp.wr hv),h6.2⟩
 ·have e:i=l.length:=by omega
  subst e
  rw [List.drop_length] at w2
  exact .inl ⟨(ok _ H2 μ2 k2 m2 hS2).2 (Nat.le_refl _),k _ _ _ _ (hn _ _ _ w2) (k1.trans k2) (.ref p) m2⟩
section
variable {X:Cx} {elt target iter:Expr} {ifs:List Expr} {pos:Pos} {ti:TI3} {g:TG3} {tc:TT3} {te:TE3} {NN:List Str} {scope:Scope} {cl:List (Str × Addr)} {js:List (Option Nat)}
theorem ux0 (hc:X.calm=true) (S:CompSc X NN scope cl js) (hi:RI X target iter ti) (hg:∀ C fp s₀ H₀ pn,RG (vd0 X NN scope cl C fp s₀ H₀ pn) target g)
    (ht:∀ C fp s₀ H₀ pn,RTs (vd0 X NN scope cl C fp s₀ H₀ pn) ifs tc) (he:∀ C fp s₀ H₀ pn,RE (vd0 X NN scope cl C fp s₀ H₀ pn) elt te)
    (hs:∀ x,foldedSetIterable iter X.env x=pure x):RE X (.ListComp elt [⟨target,iter,ifs,0⟩] scope pos) (comp3 js ti g tc te):=by
 obtain ⟨wi,pi,ri⟩:=hi
 let gU:TG:=λ v σ H Q=>∀ (r:TG3),r=g->∃ d ρ μ Q3,RSt X.K H ρ σ /\ RelM X.K μ H /\ RelD X.K H d v /\ g d ρ μ Q3 /\ (∀ ρ' μ' σ' H',Q3 ρ' μ'->Kp H H'->RSt X.K H' ρ' σ'->RelM X.K μ' H'->Q σ' H')
 let tU:TT:=λ σ H Q=>∃ ρ μ Q3,RSt X.K H ρ σ /\ RelM X.K μ H /\ tc ρ μ Q3 /\ (∀ b μ' H',Q3 b μ'->Kp H H'->RelM X.K μ' H'->Q b H')
 let eU:TE:=λ σ H Q=>∃ ρ μ Q3,RSt X.K H ρ σ /\ RelM X.K μ H /\ te ρ μ Q3 /\ Ks X.K H Q3 Q
 have hg':∀ C fp s₀ H₀ pn,PG (vd0 X NN scope cl C fp s₀ H₀ pn) target gU:=λ C fp s₀ H₀ pn=>by
  obtain ⟨tv,p,r⟩:=hg C fp s₀ H₀ pn
  intro pins s σ H v u Q I rv h
  obtain ⟨d,ρ,μ,Q3,a1,a2,a3,a4,a5⟩:=h g rfl
  exact p pins s σ H v u Q I rv (r v d σ H Q ρ μ Q3 a1 a2 a3 a4 a5)
 have ht':∀ C fp s₀ H₀ pn,PTs (vd0 X NN scope cl C fp s₀ H₀ pn) ifs tU:=λ C fp s₀ H₀ pn=>by
  obtain ⟨tv,p,r⟩:=ht C fp s₀ H₀ pn
  intro pins s σ H Q I h
  obtain ⟨ρ,μ,Q3,a1,a2,a3,a4⟩:=h
  exact p pins s σ H Q I (r σ H Q ρ μ Q3 a1 a2 a3 a4)
 have he':∀ C fp s₀ H₀ pn,PE (vd0 X NN scope cl C fp s₀ H₀ pn) elt eU:=λ C fp s₀ H₀ pn=>by
  obtain ⟨tv,p,r⟩:=he C fp s₀ H₀ pn
  intro pins s σ H Q I h
  obtain ⟨ρ,μ,Q3,a1,a2,a3,a4⟩:=h
  exact p pins s σ H Q I (r σ H Q ρ μ Q3 a1 a2 a3 a4)
 exact ⟨_,yg3 hc S pi hg' ht' he' hs,RdE.comp ri (λ v d σ H Q ρ μ Q3 a1 a2 a3 a4 a5 _ _=>⟨d,ρ,μ,Q3,a1,a2,a3,a4,a5⟩) (λ σ H Q ρ μ Q3 a1 a2 a3 a4=>⟨ρ,μ,Q3,a1,a2,a3,a4⟩) (λ σ H Q ρ μ Q3 a1 a2 a3 a4=>⟨ρ,μ,Q3,a1,a2,a3,a4⟩)⟩
theorem sn0 (hf:∀ y ∈ scope.names,y.2 ≠ .free) (hcl:∀ y ∈ scope.names,y.2 ≠ .cell) (hn:∀ y ∈ scope.names,y.2=.local->scope.names.lookup y.1=some .local) (hi:RI X target iter ti) (hg:∀ C fp s₀ H₀ pn,RG (vd0 X NN scope [] C fp s₀ H₀ pn) target g)
    (ht:∀ C fp s₀ H₀ pn,RTs (vd0 X NN scope [] C fp s₀ H₀ pn) ifs tc) (he:∀ C fp s₀ H₀ pn,RE (vd0 X NN scope [] C fp s₀ H₀ pn) elt te) (hc:X.calm=true:=by rfl) (hk:scope.kind=.function:=by rfl)
    (hs:∀ x,foldedSetIterable iter X.env x=pure x:=by intro _; rfl):RE X (.ListComp elt [⟨target,iter,ifs,0⟩] scope pos) (comp3 (NN.map λ _=>none) ti g tc te) :=
 ux0 hc (CompSc.closed hf hcl hk hn) hi hg ht he hs
end
mutual
inductive TupK (K:Fg):List D->Addr->Prop where
 | mk {a:Addr} {l:List D} {its:Array Value} {n:Nat} {od:Option Addr} {sl:Array (Option Value)}:K.lookup a=some ⟨.type "tuple",od,.seq its n,sl⟩->its.size<=sizeLine->ItK K l its.toList->TupK K l a
inductive ItK (K:Fg):List D->List Value->Prop where
 | nil:ItK K [] []
 | int {i:Int} {t:Tok} {l:List D} {us:List Value}:ItK K l us->ItK K (.int i :: l) (.int i t :: us)
 | str {x:Str} {t:Tok} {l:List D} {us:List Value}:ItK K l us->ItK K (.str x :: l) (.str x t :: us)
 | bl {b:Bool} {l:List D} {us:List Value}:ItK K l us->ItK K (.bl b :: l) (.bool b :: us)
 | tup {a:Addr} {l' l:List D} {us:List Value}:TupK K l' a->ItK K l us->ItK K (.ktp l' :: l) (.ref a :: us)
end
mutual
theorem TupK.rel {K:Fg}:∀ {l:List D} {a:Addr},TupK K l a->∀ H,RelD K H (.ktp l) (.ref a)
 | _,_,.mk h1 h2 h3,H=>by
  obtain ⟨vs,r,rd⟩:=h3.rel
  exact .ktp (.inr ⟨_,_,_,h1,rfl,rfl,h2,r⟩) (rd H)
theorem ItK.rel {K:Fg}:∀ {l:List D} {us:List Value},ItK K l us->∃ vs,Vals vs us /\ ∀ H,RelDs K H l vs
 | _,_,.nil=>⟨[],.nil,λ _=>.nil⟩
 | _,_,.int h=>let ⟨vs,r,rd⟩:=h.rel; ⟨_,.cons (show RelV (.int _) _ from ⟨_,rfl⟩) r,λ H=>.cons (.int _) (rd H)⟩
 | _,_,.str h=>let ⟨vs,r,rd⟩:=h.rel; ⟨_,.cons (show RelV (.str _) _ from ⟨_,rfl⟩) r,λ H=>.cons (.str _) (rd H)⟩
 | _,_,.bl h=>let ⟨vs,r,rd⟩:=h.rel; ⟨_,.cons (show RelV (.bl _) _ from rfl) r,λ H=>.cons (.bl _) (rd H)⟩
 | _,_,.tup h0 h=>let ⟨vs,r,rd⟩:=h.rel; ⟨_,.cons (show RelV (.ref _) _ from rfl) r,λ H=>.cons (h0.rel H) (rd H)⟩
end
section
variable {K:Fg} {h:Heap} {mg:Str->Option Value} {x:Str}
theorem td1 {i:Int} {t:Tok} (X:K.In h) (G:h.Ns mainGlobals mg) (e:nsIn K mainGlobals x=some (some (.int i t))):Gd K mg x (.int i):=⟨_,.int i,mg_of X G e,⟨_,rfl⟩,λ _=>.int i⟩
theorem ud1 {a:Addr} {l:List D} (X:K.In h) (G:h.Ns mainGlobals mg) (e:nsIn K mainGlobals x=some (some (.ref a))) (r:TupK K l a):Gd K mg x (.ktp l):=⟨_,.ref a,mg_of X G e,rfl,λ H=>r.rel H⟩
end
theorem wd1 {K:Fg} {H:Hp}:∀ ns:List Int,RelDs K H (ns.map D.int) (ns.map V.int)
 | []=>.nil
 | n :: r=>.cons (.int n) (wd1 r)
theorem xp2 {K:Fg} {H:Hp} {a:Addr} {ns:List Int} {sp:Sp3} (hO:Only H) (hS:SqL K H a (ns.map V.int)) (h:sp [.fls (ns.map D.int)] (λ _=>none) (λ d _=>d=.bl true)) :
    lift K sp [.ref a] H (λ v _=>v=.bl true) λ _ _ _=>False:=by
 have hF:SqF K H a (ns.map V.int):=by
  rcases hS with (h1 | ⟨o,h1⟩) | h1
  ·rcases hO a with z | ⟨o,xs,z⟩
   ·rw [h1] at z; cases z
   ·rw [h1] at z; cases z
  ·exact .inl ⟨o,h1⟩
  ·exact .inr h1
 refine ⟨_,_,_,.cons (.fls hF (wd1 ns)) .nil,(⟨λ p xs e=>(by cases e),λ p c fs e=>(by cases e),λ p kvs e=>(by cases e),λ p kvs e=>(by cases e)⟩),h,λ d μ' v H' q _ r _=>?_⟩
 subst q
 cases r
 rfl
open PySem.AutoSeq1 (wpAny_loadPart')
theorem xg1 (l:Addr) (items:Array Value) (n:Nat) (dd:Option Addr) (sl:Array (Option Value)) (x:Int) (u:Tok) (hc0:(decide (x < -(2 ^ 63)) || decide (x ≥ 2 ^ 63))=false) (hc1:(items.isEmpty || x == 1)=true) :
    Meets (Builtin.«tuple.__mul__» ⟨[.ref l,.int x u],[]⟩) (λ _ R s=>s.heap.get? l=some { cls:=.type "tuple",dict:=dd,data:=.seq items n,slots:=sl } /\ R (.ok (.ret (.ref l))) s) :=
 .of_wp λ prog w A R s h=>by
  obtain ⟨hp,g,d,tk,os⟩:=s; obtain ⟨hl,h⟩:=h
  have f1:=AutoSeq1.idx_int
  have f2:=AutoSeq1.sub_tuple_tuple
  wp_walk using wpAny_loadPart' hl
  refine wpAny_ite_false (decide_eq_false (by rw [hc0]; exact Bool.false_ne_true)) ?_
  wp_walk using wpAny_loadPart' hl
  exact ⟨_,rfl,h⟩
theorem sf1 (l:Addr) (items:Array Value) (n:Nat) (dd:Option Addr) (sl:Array (Option Value)) (x:Int) (u:Tok) (hc0:(decide (x < -(2 ^ 63)) || decide (x ≥ 2 ^ 63))=false) (hc1:(items.isEmpty || x == 1)=false) (hc2:(decide (x<=0) || items.isEmpty)=true) :
    Meets (Builtin.«tuple.__mul__» ⟨[.ref l,.int x u],[]⟩) (λ _ R s=>s.heap.get? l=some { cls:=.type "tuple",dict:=dd,data:=.seq items n,slots:=sl } /\ R (.ok (.ret (.ref s.heap.objs.size))) { s with heap:=s.heap.push { cls:=.type "tuple",data:=.seq #[] } }) :=
 .of_wp λ prog w A R s h=>by
  obtain ⟨hp,g,d,tk,os⟩:=s; obtain ⟨hl,h⟩:=h
  have f1:=AutoSeq1.idx_int
  have f2:=AutoSeq1.sub_tuple_tuple
  wp_walk using wpAny_loadPart' hl
  refine wpAny_ite_false (decide_eq_false (by rw [hc0]; exact Bool.false_ne_true)) ?_
  wp_walk using wpAny_loadPart' hl
  exact ⟨_,rfl,h⟩
theorem tf1 (l:Addr) (items:Array Value) (n:Nat) (dd:Option Addr) (sl:Array (Option Value)) (x:Int) (u:Tok) (hc0:(decide (x < -(2 ^ 63)) || decide (x ≥ 2 ^ 63))=false) (hc1:(items.isEmpty || x == 1)=false) (hc2:(decide (x<=0) || items.isEmpty)=false)
    (hc3:¬ ((items.size:Int) * x > (2 ^ 63 - 1) / 8)) (hc4:Builtin.Tuple.tupleTooMany ((items.size:Int) * x)=false) (hz:((List.replicate x.toNat items).foldl (· ++ ·) #[]).size<=sizeLine) :
    Meets (Builtin.«tuple.__mul__» ⟨[.ref l,.int x u],[]⟩) (λ _ R s=>s.heap.get? l=some { cls:=.type "tuple",dict:=dd,data:=.seq items n,slots:=sl } /\ R (.ok (.ret (.ref s.heap.objs.size))) { s with heap:=s.heap.push { cls:=.type "tuple",data:=.seq ((List.replicate x.toNat items).foldl (· ++ ·) #[]) } }) :=
 .of_wp λ prog w A R s h=>by
  obtain ⟨hp,g,d,tk,os⟩:=s; obtain ⟨hl,h⟩:=h
  have f1:=AutoSeq1.idx_int
  have f2:=AutoSeq1.sub_tuple_tuple
  wp_walk using wpAny_loadPart' hl
  refine wpAny_ite_false (decide_eq_false (by rw [hc0]; exact Bool.false_ne_true)) ?_
  wp_walk using wpAny_loadPart' hl
  refine wpAny_ite_false (decide_eq_false hc3) ?_
  wp_walk using wpAny_loadPart' hl
  all_goals try (refine wpAny_ite_false (decide_eq_false (by rw [hc4]; exact Bool.false_ne_true)) ?_)
  have hsz:((List.replicate x.toNat items).foldl (· ++ ·) #[]).size<=sizeLine:=hz
  wp_walk using wpAny_loadPart' hl
  exact ⟨_,rfl,h⟩
theorem tq0:fillsNumberSlot (.type "tuple") "mul" = pure false :=
 PySem.fillsNumberSlot_seq (id := "tuple.__mul__") (r:=some (.builtin "tuple.__rmul__")) F.slot_tuple_mul.lookup (by decide +kernel) F.slot_tuple_rmul.lookup (by decide +kernel)
theorem wq0:seqRepeat? (.type "tuple")=pure (some (.builtin "tuple.__mul__")):=by
 unfold seqRepeat?
 rw [PySem.seqSlot_of F.slot_tuple_mul.lookup (T := "tuple") (name := "__mul__") (id := "tuple.__mul__") (by decide +kernel),PySem.seqSlot_of F.slot_tuple_rmul.lookup (T := "tuple") (name := "__rmul__") (id := "tuple.__rmul__") (by decide +kernel)]
 rfl
theorem wt0 (a:Int) (t:Tok) (l:Addr) (its:Array Value) (n:Nat) (dd:Option Addr) (sl:Array (Option Value)) :
    Meets (Builtin.«int.__rmul__» ⟨[.int a t,.ref l],[]⟩) (λ _ R s=>s.heap.get? l=some ⟨.type "tuple",dd,.seq its n,sl⟩ /\ R (.ok (.ret .notImplemented)) s) :=
 .of_wp λ prog w A R s h=>by
  obtain ⟨hp,g,d,tk,os⟩:=s
  obtain ⟨hl,h⟩:=h
  wp_walk using wpAny_loadPart' hl
  exact ⟨_,rfl,h⟩
section
variable {X:Cx}
def tv4 (K:Fg):R2:=λ x y H Q=>∃ a k xs,x=.ref a /\ y=.int k /\ SqT K H a xs /\ -(2 ^ 62)<=k /\ k < 2 ^ 62 /\ xs.length * k.toNat<=1000000 /\ (xs=[] \/ k=1->Q (.ref a) H) /\ ∀ p,H p=none->Q (.ref p) (upd H p (.tup (List.replicate k.toNat xs).flatten))
theorem op_repT:OpR X (binaryOp .Mult) (tv4 X.K):=by
 intro pins s σ H x y v u Q I rx ry h
 obtain ⟨a,k,xs,rfl,rfl,hq,h1,h2,hz,q1,q2⟩:=h
 cases rx
 obtain ⟨t,rfl⟩:=ry
 obtain ⟨its,r,⟨⟨cls,dd,data,sl⟩,ho,hc,n,hd⟩,hl⟩:=I.tuple hq
 simp only at hc hd
 subst hc hd
 have hlen:its.length=xs.length:=r.length.symm
 have c0:(decide (k < -(2 ^ 63)) || decide (k ≥ 2 ^ 63))=false:=by
  rw [decide_eq_false (by omega),decide_eq_false (by omega)]; rfl
 refine wpAny_binaryOp_repeat_ref (T := "tuple") (U := "int") (by decide) ⟨_,ho,rfl⟩ (λ s'=>typeIs_int s' k t) tq0 F.fills_int_mul F.slot_int_rmul wq0 F.slot_int_index.lookup
  (call_meets F.slot_int_rmul (typeIs_int s k t) F.entry_int_rmul (F.args_int_rmul_2 _ _) (wt0 k t a its.toArray n dd sl) ⟨ho,rfl,⟨_,ho,rfl⟩,?_⟩)
 by_cases e1:xs=[] \/ k=1
 ·refine call_meets F.slot_tuple_mul ⟨_,ho,rfl⟩ F.entry_tuple_mul (F.args_tuple_mul_2 _ _) (xg1 a its.toArray n dd sl k t c0 ?_) ⟨ho,⟨.ref a,H,I,rfl,q1 e1⟩⟩
  rcases e1 with e1 | e1
  ·subst e1; cases r; rfl
  ·subst e1; simp
 ·have hne:its ≠ []:=λ z=>e1 (.inl (by subst z; cases r; rfl))
  have hk1:k ≠ 1:=λ z=>e1 (.inr z)
  have c1:(its.toArray.isEmpty || k == 1)=false:=by simp [hne,hk1]
  have hf:H s.heap.objs.size=none:=I.hok.fresh (Nat.le_refl _)
  by_cases e2:k<=0
  ·have hk0:k.toNat=0:=by omega
   refine call_meets F.slot_tuple_mul ⟨_,ho,rfl⟩ F.entry_tuple_mul (F.args_tuple_mul_2 _ _) (sf1 a its.toArray n dd sl k t c0 c1 (by simp [e2])) ⟨ho,?_⟩
   refine ⟨.ref _,upd H s.heap.objs.size (.tup []),I.laid (t':=s.toks) (λ b ob q=>Heap.get?_push_of_some _ q) (Nat.le_refl _) ⟨by rw [sizeLine_eq]; decide,[],.nil,IsTup.new _ _⟩,rfl,?_⟩
   have:=q2 _ hf
   rw [hk0] at this
   exact this
  ·have fr:List.foldl (· ++ ·) #[] (List.replicate k.toNat its.toArray)=(List.replicate k.toNat its).flatten.toArray:=by
     have:=sr0 its k.toNat []
     rw [nil_append] at this
     exact this
   have hb:(1000000:Nat)<=sizeLine:=by rw [sizeLine_eq]; decide
   have hm:(its.toArray.size:Int) * k<=1000000:=by
    rw [size_toArray,hlen]
    have:((xs.length * k.toNat:Nat):Int)<=1000000:=by omega
    rw [Int.natCast_mul,Int.toNat_of_nonneg (by omega)] at this
    exact this
   have hsz:(List.replicate k.toNat its).flatten.length<=sizeLine:=by rw [sh1,Nat.mul_comm,hlen]; omega
   refine call_meets F.slot_tuple_mul ⟨_,ho,rfl⟩ F.entry_tuple_mul (F.args_tuple_mul_2 _ _) (tf1 a its.toArray n dd sl k t c0 c1 (by simp [hne]; omega) (by omega) ?_ (by rw [fr,size_toArray]; exact hsz)) ⟨ho,?_⟩
   ·unfold Builtin.Tuple.tupleTooMany
    rw [decide_eq_false (by omega)]
   ·rw [fr]
    refine ⟨.ref _,upd H s.heap.objs.size (.tup (List.replicate k.toNat xs).flatten),I.laid (t':=s.toks) (λ b ob q=>Heap.get?_push_of_some _ q) (Nat.le_refl _) ⟨?_,_,r.rep k.toNat,IsTup.new _ _⟩,rfl,q2 _ hf⟩
    rw [sh1,Nat.mul_comm]; omega
theorem vf0:RO X (binaryOp .Mult) mulR:=by
 refine ⟨_,op_mulB.or (op_repT.or zk4),λ x y v u H Q μ Q3 m rx ry h k=>?_⟩
 cases ry with
 | int j =>
  cases rx with
  | int i=>exact .inl ⟨i,j,rfl,rfl,h.1,k _ _ _ _ h.2 (Kp.refl _) (.int _) m⟩
  | tup hq rs =>
   rename_i a l vs
   refine .inr (.inl ⟨a,j,vs,rfl,rfl,(SqT.of hq),h.1.1.1,h.1.1.2,by rw [<- rs.length]; exact h.1.2,λ e=>?_,λ p hp=>?_⟩)
   ·rcases e with e | e
    ·subst e; cases rs
     have h2:=h.2
     have e:(List.replicate j.toNat ([]:List D)).flatten=[]:=by simp
     rw [e] at h2
     exact k _ _ _ _ h2 (Kp.refl _) (.tup hq .nil) m
    ·subst e
     have h2:=h.2
     have e:(List.replicate (1:Int).toNat l).flatten=l:=by simp
     rw [e] at h2
     exact k _ _ _ _ h2 (Kp.refl _) (.tup hq rs) m
   ·exact k _ _ _ _ h.2 (Kp.new hp) (.tup yf0 ((rs.rep _).mono (Kp.new hp))) (m.newT hp)
  | ref p =>
   dsimp only [mulR] at h
   cases e:μ p with
   | none=>rw [e] at h; exact h.elim
   | some oo =>
    cases oo with
    | ins _ _=>rw [e] at h; exact h.elim
    | dct _=>rw [e] at h; exact h.elim
    | dcl _=>rw [e] at h; exact h.elim
    | lst l =>
     rw [e] at h
     obtain ⟨vs,hv,rv⟩:=m p l e
     have hb:(1000000:Nat)<=sizeLine:=by rw [sizeLine_eq]; decide
     refine .inr (.inr ⟨p,j,vs,rfl,rfl,hv,by have:=h.1.1.1; omega,by have:=h.1.1.2; omega,by rw [<- rv.length]; exact Nat.le_trans h.1.2 hb,λ t ht=>?_⟩)
     exact k _ _ _ _ (h.2 t (m.free ht)) (Kp.new ht) (.ref t) (m.newL ht (rv.rep _))
  | _=>exact False.elim h
 | _=>cases rx <;> exact False.elim h
theorem vg2:CallR X (.type "int") (λ xs H Q=>∃ z n,xs=[.str z] /\ PySem.intText? z=some n /\ z.length<=640 /\ Q (.int n) H):=by
 intro pins s σ H xs us Q I r h
 obtain ⟨z,n,rfl,e,hl,q⟩:=h
 obtain ⟨u,rfl,t,rfl⟩:=ts0 r
 exact PySem.W.KIN.call_text e hl ⟨.int n,H,I.tok _,⟨_,rfl⟩,q⟩
theorem vd3:RC X (.type "int") intR:=by
 refine ⟨_,call_int1.or vg2,λ xs vs H Q μ Q3 m r h k=>?_⟩
 cases r with
 | nil=>exact False.elim h
 | cons r1 r2 =>
  cases r2 with
  | cons _ _=>cases r1 <;> exact False.elim h
  | nil =>
   cases r1 with
   | int i=>exact .inl (.inl ⟨i,rfl,k _ _ _ _ h (Kp.refl _) (.int _) m⟩)
   | bl b=>exact .inl (.inr ⟨b,rfl,k _ _ _ _ h (Kp.refl _) (.int _) m⟩)
   | str z =>
    dsimp only [intR] at h
    cases e:PySem.intText? z with
    | none=>rw [e] at h; exact h.elim
    | some n =>
     rw [e] at h
     exact .inr ⟨z,n,rfl,e,h.1,k _ _ _ _ h.2 (Kp.refl _) (.int _) m⟩
   | _=>exact False.elim h
theorem yw1 {prog:Program} {w:World} {A:Around} {E:Value->Shared->Prop} {s:Shared} {t sl:Addr} {items:Array Value} {vl vu:Value} {lo hi:Option Int} {Q:Value->Shared->Prop} (ht:IsTup s.heap t items) (hs:s.heap.IsSliceOf sl vl vu .none) (pl:IsPart vl lo) (pu:IsPart vu hi)
    (hw:HT.sIx items.size 0 lo=0 /\ HT.sIx items.size items.size hi=items.size) (h:Q (.ref t) s):wpAny (model prog w) A (getItem (.ref t) (.ref sl)) Q E s:=by
 obtain ⟨os,hos,hcs,hds⟩:=id hs
 have hTs:s.TypeIs (.ref sl) "slice" := ⟨os,hos,hcs⟩
 unfold getItem
 try with_reducible refine wpAny_holding ?_
 first | refine wpAny_bind (wpAny_pure ?_) | skip
 refine wpAny_bind (wpAny_sequenceKey ht.typeIs (by decide) ?_)
 refine wpAny_bind (wpAny_callSpecial?_slot ht.typeIs (name:=Str.ofString "__getitem__") PyProof.Rows.slot_tuple_getitem (wpAny_call_entry PyProof.Rows.slot_tuple_getitem ht.typeIs entry_tuple_getitem ?_ (args_tuple_getitem _ _)))
 show wpAny _ _ (Builtin.Tuple.tupleItemsOf (.ref t) >>= _) _ _ s
 refine wpAny_bind (tupleItemsOf_ ht ?_)
 refine wpAny_bind (wpAny_typeOf hTs ?_)
 rw [if_pos (by decide)]
 refine wpAny_bind (HT.sliceApplied_gen hs pl pu ?_)
 rw [hw.1,hw.2]
 show wpAny _ _ (if ((((0:Nat):Int) == 0 && (1:Int) == 1 && (items.size - 0) == items.size)=true) then _ else _) _ _ s
 rw [if_pos (by simp)]
 refine wpAny_bind (m:=Builtin.Tuple.tupleIsExact _) (wpAny_bind (wpAny_typeOf ht.typeIs (wpAny_pure ?_)))
 rw [if_pos (by decide)]
 refine wpAny_bind (wpAny_rule ?_)
 first
  | exact wpAny_pure ⟨_,rfl,wpAny_pure h⟩
  | exact wpAny_bind (wpAny_pure (wpAny_pure ⟨_,rfl,wpAny_pure h⟩))
  | exact wpAny_bind (wpAny_bind (wpAny_pure (wpAny_pure (wpAny_pure ⟨_,rfl,wpAny_pure h⟩))))
def rSlA (K:Fg):V->Option Int->Option Int->Hp->VK->Prop:=λ x lo hi H Q=>∃ a xs,x=.ref a /\ SqT K H a xs /\ (cutV xs lo hi=xs->Q (.ref a) H) /\ ∀ p,H p=none->Q (.ref p) (upd H p (.tup (cutV xs lo hi)))
theorem sl_tupA:SlR X (rSlA X.K):=by
 intro pins s σ H x v vl vu lo hi sl Q I rx hs pl pu h
 obtain ⟨a,xs,rfl,hx,q1,q2⟩:=h
 by_cases hw:HT.sIx xs.length 0 lo=0 /\ HT.sIx xs.length xs.length hi=xs.length
 ·cases rx
  obtain ⟨its,r,ht,hz⟩:=I.tuple hx
  have hlen:its.toArray.size=xs.length:=by rw [size_toArray]; exact r.length.symm
  have e:cutV xs lo hi=xs:=by unfold cutV; rw [hw.1,hw.2]; simp
  exact ⟨"tuple",_,PyProof.Rows.slot_tuple_getitem.lookup,ht.typeIs,yw1 ht hs pl pu (by rw [hlen]; exact hw) ⟨.ref a,H,I,rfl,q1 e⟩⟩
 ·exact xt3 pins s σ H _ v vl vu lo hi sl Q I rx hs pl pu ⟨a,xs,rfl,hx,hw,q2⟩
theorem uc3:∀ (n d:Nat) (o:Option Int),HT.sIx n d o=sIx3 n d o
 | _,_,none=>rfl
 | _,_,some _=>rfl
theorem RelDs.cut {K:Fg} {H:Hp} {l:List D} {vs:List V} (r:RelDs K H l vs) (lo hi:Option Int):RelDs K H (cut3 l lo hi) (cutV vs lo hi):=by
 unfold cut3 cutV
 rw [<- r.length]
 simp only [uc3]
 exact (r.drop _).take _
def RdP (K:Fg) (tv:TO) (t:TO3):Prop:=∀ σ H Q ρ μ Q3,RSt K H ρ σ->RelM K μ H->t ρ μ Q3->(∀ o μ' H',Q3 o μ'->Kp H H'->RelM K μ' H'->Q o H')->tv σ H Q
def RP (X:Cx) (e:Option Expr) (t:TO3):Prop:=∃ tv,PO X e tv /\ RdP X.K tv t
theorem uy1:RP X none np3:=⟨_,zf3,λ σ H Q ρ μ Q3 s m h k=>k _ _ _ h (Kp.refl _) m⟩
theorem vy1 {e:Expr} {te:TE3} (h:RE X e te):RP X (some e) (pt3 te):=by
 obtain ⟨tv,p,r⟩:=h
 refine ⟨_,yf3 p,λ σ H Q ρ μ Q3 s m h k=>r σ H _ ρ μ _ s m h λ d μ1 v H1 h1 k1 r1 m1=>?_⟩
 cases r1 with
 | int i=>exact ⟨i,rfl,k _ _ _ h1 k1 m1⟩
 | _=>exact False.elim h1
def RL (X:Cx) (r3:D->Option Int->Option Int->Mu->VK3->Prop):Prop:=∃ r,SlR X r /\ ∀ x v lo hi H Q μ Q3,RelM X.K μ H->RelD X.K H x v->r3 x lo hi μ Q3->Ks X.K H Q3 Q->r v lo hi H Q
def rSlS:V->Option Int->Option Int->Hp->VK->Prop:=λ x lo hi H Q=>∃ z:Str,x=.str z /\ z.length<=sizeLine /\ Q (.str ⟨(cut3 z.cps.toList lo hi).toArray⟩) H
theorem us3 (lo hi:Option Int) (n:Nat):Builtin.Str.strSliceIndices lo hi 1 n=sliceRange ((sIx3 n 0 lo:Nat):Int) ((sIx3 n n hi:Nat):Int) 1:=by
 unfold Builtin.Str.strSliceIndices
 have a1:∀ (d:Nat) (v:Option Int),(match v with | none=>((d:Nat):Int) | some i=>(if (1:Int) > 0 then max 0 (min (if i < 0 then i + (n:Int) else i) (n:Int)) else max (-1) (min (if i < 0 then i + (n:Int) else i) ((n:Int) - 1))))=((sIx3 n d v:Nat):Int):=λ d v=>by
  cases v with
  | none=>rfl
  | some i =>
   simp only [sIx3,show (1:Int) > 0 by decide,if_true]
   by_cases h:i < 0
   ·simp only [h,if_true]; omega
   ·simp only [h,if_false]; omega
 have e1:=a1 0 lo
 have e2:=a1 n hi
 simp only [show (1:Int) > 0 by decide,if_true] at e1 e2 ⊢
 rw [<- e1,<- e2]
 cases lo <;> cases hi <;> rfl
theorem zt3 (n:Nat) (o:Option Int):sIx3 n n o<=n:=by
 cases o with
 | none=>exact Nat.le_refl _
 | some v =>
  show (if v < 0 then (v + (n:Int)).toNat else min v.toNat n)<=n
  split <;> omega
theorem yt3:SlR X rSlS:=by
 intro pins s σ H x v vl vu lo hi sl Q I rx hs pl pu h
 obtain ⟨z,rfl,hz,q⟩:=h
 obtain ⟨t,rfl⟩:=rx
 refine ⟨"str",_,F.slot_str_getitem.lookup,typeIs_str _ _ _,?_⟩
 have hl:∃ l:Option (Int × Tok),partValue l=vl /\ l.map (·.1)=lo:=by
  cases pl with
  | none=>exact ⟨none,rfl,rfl⟩
  | int i t=>exact ⟨some (i,t),rfl,rfl⟩
 have hu:∃ u:Option (Int × Tok),partValue u=vu /\ u.map (·.1)=hi:=by
  cases pu with
  | none=>exact ⟨none,rfl,rfl⟩
  | int i t=>exact ⟨some (i,t),rfl,rfl⟩
 obtain ⟨l,rfl,rfl⟩:=hl
 obtain ⟨u,rfl,rfl⟩:=hu
 refine wpAny_getItem_str_slice (l:=l) (u:=u) (st:=none) hs rfl ?_
 have e:(slicePicked z l u none).filterMap (z.cps[·]?)=cut3 z.cps.toList (l.map (·.1)) (u.map (·.1)):=by
  unfold slicePicked
  show (Builtin.Str.strSliceIndices _ _ 1 z.length).filterMap (z.cps[·]?)=_
  rw [us3,sliceRange_one,pick_run]
  unfold cut3
  rw [length_toList]
  rfl
 unfold sliceMade
 split
 ·next hw =>
  have hlen:(slicePicked z l u none).length=z.length:=by
   rw [Bool.and_eq_true] at hw
   simpa using hw.2
  have ez:cut3 z.cps.toList (l.map (·.1)) (u.map (·.1))=z.cps.toList:=by
   have h1:(Builtin.Str.strSliceIndices (l.map (·.1)) (u.map (·.1)) 1 z.length).length=z.length:=hlen
   rw [us3,sliceRange_one,length_map,length_range] at h1
   have h2:=zt3 z.length (u.map (·.1))
   have hs:z.length=z.cps.size:=rfl
   unfold cut3
   rw [length_toList,<- hs]
   rcases Nat.eq_zero_or_pos z.length with h0 | h0
   ·have:z.cps.toList=[]:=eq_nil_of_length_eq_zero (by rw [length_toList,<- hs]; exact h0)
    rw [this]; simp
   ·have ha:sIx3 z.length 0 (l.map (·.1))=0:=by omega
    rw [ha,List.drop_zero]
    exact take_of_length_le (by rw [length_toList,<- hs]; omega)
  rw [ez] at q
  exact ⟨.str z,H,I,⟨t,rfl⟩,q⟩
 ·rw [e]
  refine ⟨?_,.str _,H,I.tok _,⟨_,rfl⟩,q⟩
  refine Nat.le_trans ?_ hz
  show (cut3 z.cps.toList (l.map (·.1)) (u.map (·.1))).toArray.size<=z.cps.size
  rw [size_toArray]
  unfold cut3
  rw [length_take,length_drop,length_toList]
  omega
theorem q_sl:RL X slR:=by
 refine ⟨_,(sl_tupA.or xc3).or yt3,λ x v lo hi H Q μ Q3 m rx h k=>?_⟩
 cases rx with
 | str z=>exact .inr ⟨z,rfl,h.1,k _ _ _ _ h.2 (Kp.refl _) (.str _) m⟩
 | tup hq rs =>
  refine .inl <| .inl ⟨_,_,rfl,(SqT.of hq),λ e=>?_,λ p hp=>k _ _ _ _ h (Kp.new hp) (.tup yf0 ((rs.cut lo hi).mono (Kp.new hp))) (m.newT hp)⟩
  refine k _ _ _ _ h (Kp.refl _) (.tup hq ?_) m
  have:=rs.cut lo hi
  rw [e] at this
  exact this
 | fls hq rs=>exact .inl <| .inr ⟨_,_,rfl,hq.l,λ p hp=>k _ _ _ _ (h p (m.free hp)) (Kp.new hp) (.ref p) (m.newL hp (rs.cut lo hi))⟩
 | ref p =>
  dsimp only [slR] at h
  cases e:μ p with
  | none=>rw [e] at h; exact h.elim
  | some oo =>
   cases oo with
   | ins _ _=>rw [e] at h; exact h.elim
   | dct _=>rw [e] at h; exact h.elim
   | dcl _=>rw [e] at h; exact h.elim
   | lst l =>
    rw [e] at h
    obtain ⟨vs,hv,rs⟩:=m p l e
    exact .inl <| .inr ⟨p,vs,rfl,SqL.of hv,λ t ht=>k _ _ _ _ (h t (m.free ht)) (Kp.new ht) (.ref t) (m.newL ht (rs.cut lo hi))⟩
 | _=>exact False.elim h
theorem xl1 {e:Expr} {te:TE3} {lo hi:Option Expr} {tl th:TO3} {pos p2:Pos} {r3:D->Option Int->Option Int->Mu->VK3->Prop} (hr:RL X r3) (he:RE X e te) (hl:RP X lo tl) (hu:RP X hi th):RE X (.Subscript e (.Slice lo hi none p2) pos) (sl3 r3 te tl th):=by
 obtain ⟨r,pr,rr⟩:=hr
 obtain ⟨va,pa,ra⟩:=he
 obtain ⟨vb,pb,rb⟩:=hl
 obtain ⟨vc,pc,rc⟩:=hu
 exact ⟨_,zn2 pr pa pb pc,λ σ H Q ρ μ Q3 s m h k=>ra σ H _ ρ μ _ s m h λ x μ1 v H1 h1 k1 r1 m1=>rb σ H1 _ ρ μ1 _ (s.mono k1) m1 h1 λ l μ2 H2 h2 k2 m2=>rc σ H2 _ ρ μ2 _ ((s.mono k1).mono k2) m2 h2 λ u μ3 H3 h3 k3 m3 =>
  rr x v l u H3 Q μ3 Q3 m3 (r1.mono (k2.trans k3)) h3 (k.after (k1.trans (k2.trans k3)))⟩
theorem zh2 {K:Fg} {H:Hp}:∀ {l:List D} {vs:List V} {bs:List Bool},RelDs K H l vs->bls? l=some bs->vs=bs.map V.bl
 | _,_,bs,.nil,e=>by simp [bls?] at e; subst e; rfl
 | _,_,bs,.cons h r,e=>by
  cases h with
  | bl x =>
   simp only [bls?] at e
   split at e
   ·next ys e1 =>
    simp only [Option.some.injEq] at e
    subst e
    rw [zh2 r e1]; rfl
   ·cases e
  | _=>simp [bls?] at e
theorem yj1:∀ {bs:List Bool} {us:List Value},Vals (bs.map V.bl) us->us=bs.map Value.bool
 | [],_,r=>by cases r; rfl
 | b :: bs,_,r=>by
  cases r with
  | cons r1 r2=>cases r1; rw [yj1 r2]; rfl
theorem zw1 (prog:Program) (w:World) (A:Around) (bs:List Bool):TruthOf prog w A (λ i v=>(bs.map Value.bool).toArray[i]?=some v) (λ i=>bs.getD i false):=by
 intro i v s Q E hP hQ
 have hP':(bs.map Value.bool)[i]?=some v:=by simpa using hP
 rw [getElem?_map] at hP'
 cases e:bs[i]? with
 | none=>rw [e] at hP'; cases hP'
 | some b =>
  rw [e] at hP'
  simp only [Option.map_some,Option.some.injEq] at hP'
  subst hP'
  refine wpAny_truthy_bool ?_
  have:bs.getD i false=b:=by rw [getD_eq_getElem?_getD,e]; rfl
  dsimp only at hQ
  rw [this] at hQ
  exact hQ
theorem vz1 (bs:List Bool):(List.range bs.length).all (λ i=>bs.getD i false)=bs.all id:=by
 rw [Bool.eq_iff_iff,List.all_eq_true,List.all_eq_true]
 constructor
 ·intro h x hx
  obtain ⟨i,hi,rfl⟩:=List.mem_iff_getElem.mp hx
  have:=h i (List.mem_range.mpr hi)
  rw [getD_eq_getElem?_getD,getElem?_eq_getElem hi] at this
  exact this
 ·intro h i hi
  have hi':=List.mem_range.mp hi
  rw [getD_eq_getElem?_getD,getElem?_eq_getElem hi']
  exact h _ (getElem_mem hi')
theorem ug2 (hc:X.calm=true):CallR X (.builtin "all") (λ xs H Q=>∃ (p:Addr) (bs:List Bool),xs=[.ref p] /\ SqL X.K H p (bs.map V.bl) /\ Q (.bl (bs.all id)) H):=by
 intro pins s σ H xs us Q I r h
 obtain ⟨p,bs,rfl,hq,q⟩:=h
 obtain ⟨u,rfl,rx⟩:=ts0 r
 cases rx
 obtain ⟨its,r',pl,hz⟩:=I.list hq
 have eu:=yj1 r'
 subst eu
 refine call_all_walk (wpAny_pyIter_list pl.isList ?_)
 have hlt:p < s.heap.objs.size:=by obtain ⟨o,ho,_⟩:=pl.isList; exact Heap.lt_size ho
 refine ⟨_,_,_,_,_,_,_,rfl,Walks.list (A:=X.A.in1) (I.ok.hd hc) _ p (Nat.ne_of_lt hlt) _,⟨⟨_,Heap.get?_push_size _ rfl,rfl,rfl⟩,pl.isList.at λ o e=>Heap.get?_push_of_some _ e⟩,zw1 _ _ _ bs,λ h' tk hk=>?_⟩
 have e:(bs.map Value.bool).toArray.size=bs.length:=by simp
 rw [e,vz1]
 refine ⟨.bl _,H,I.kept (t':=tk) λ b o eb=>hk b o ?_ (Heap.get?_push_of_some _ eb),rfl,q⟩
 intro z
 rw [mem_singleton] at z
 rw [z] at eb
 exact absurd (Heap.lt_size eb) (Nat.lt_irrefl _)
theorem RdC.bools {K:Fg} {f:List Bool->Bool} {r3:C3} (hr:∀ ds μ Q3,r3 ds μ Q3->∃ p l bs,ds=[.ref p] /\ μ p=some (.lst l) /\ bls? l=some bs /\ Q3 (.bl (f bs)) μ) :
    RdC K (λ xs H Q=>∃ (p:Addr) (bs:List Bool),xs=[.ref p] /\ SqL K H p (bs.map V.bl) /\ Q (.bl (f bs)) H) r3:=λ xs vs H Q μ Q3 m r h k=>by
 obtain ⟨p,l,bs,rfl,e,e1,q⟩:=hr _ _ _ h
 cases r with
 | cons r1 r2 =>
  cases r2
  cases r1
  obtain ⟨us,hv,rs⟩:=m p l e
  have ev:=zh2 rs e1
  subst ev
  exact ⟨p,bs,rfl,SqL.of hv,k _ _ _ _ q (Kp.refl _) (.bl _) m⟩
theorem sg4 (hc:X.calm=true:=by rfl):RC X (.builtin "all") allR:=by
 refine ⟨_,ug2 hc,RdC.bools λ ds μ Q3 h=>?_⟩
 unfold allR at h
 split at h
 ·split at h
  ·next p _ l e =>
   split at h
   ·next bs e1=>exact ⟨p,l,bs,rfl,e,e1,h⟩
   ·exact h.elim
  ·exact h.elim
 ·exact h.elim
end
open PySem.AutoSeq1 (wpAny_loadPart')
theorem sh3 (p q:Addr) (a b c d:Int) (t1 t2 t3 t4:Tok) (n m:Nat) (dd dd2:Option Addr) (sl sl2:Array (Option Value)) :
    Meets (Builtin.«tuple.__lt__» ⟨[.ref p,.ref q],[]⟩) (λ A R s=>s.heap.get? p=some { cls:=.type "tuple",dict:=dd,data:=.seq #[.int a t1,.int b t2] n,slots:=sl } /\ s.heap.get? q=some { cls:=.type "tuple",dict:=dd2,data:=.seq #[.int c t3,.int d t4] m,slots:=sl2 } ∧
     R (.ok (.ret (.bool (ltP a b c d)))) s) :=
 .of_wp λ prog w A R s h=>by
  obtain ⟨hp,g,dr,tk,os⟩:=s; obtain ⟨hl,hb,h⟩:=h
  have f2:=AutoSeq1.sub_tuple_tuple
  have lt:∀ (x y:Int) (tx ty:Tok) {Q:Value->Shared->Prop} {E:Value->Shared->Prop} {A:Around} {s:Shared},Q (.bool (decide (x < y))) s->wpAny (model prog w) A (richCompare .Lt (.int x tx) (.int y ty)) Q E s:=λ x y tx ty Q E A s hq=>wpAny_lt_int hq
  have eqb:∀ (x y:Int) (tx ty:Tok) {Q:Bool->Shared->Prop} {E:Value->Shared->Prop} {A:Around} {s:Shared},Q (x == y) s->wpAny (model prog w) A (eqBool (.int x tx) (.int y ty)) Q E s:=λ x y tx ty Q E A s hq=>wpAny_eqBool_int hq
  wp_walk using wpAny_loadPart' hl,wpAny_loadPart' hb,eqb a c t1 t3
  by_cases h1:a=c
  ·rw [show (a == c)=true by simpa using h1]
   wp_walk using eqb b d t2 t4
   by_cases h2:b=d
   ·rw [show (b == d)=true by simpa using h2]
    wp_walk
    have h':R (.ok (.ret (.bool false))) ⟨hp,g,dr,tk,os⟩:=by simpa [ltP,h1,h2] using h
    exact ⟨_,rfl,h'⟩
   ·rw [show (b == d)=false by simpa using h2]
    wp_walk using lt b d t2 t4
    exact ⟨_,rfl,by simpa [ltP,h1] using h⟩
  ·rw [show (a == c)=false by simpa using h1]
   wp_walk using lt a c t1 t3
   exact ⟨_,rfl,by simpa [ltP,h1] using h⟩
section
variable {prog:Program} {w:World} {A:Around} {R:Result->Shared->Prop} {I:Addr} {fp wr:List Addr} {n:Nat} {P:Nat->Value->Prop} {St:Nat->Heap->Prop}
theorem xq2:(toString "min" ++ toString ".loop" : String) = "min.loop" := by decide
theorem xw2 (W:Walks prog w A.in1 I fp wr n P St) (S:Addr) (hSf:S ∉ fp) (s:Shared) (vb:Value) (c:Nat) (hst:St n s.heap)
    (hS:s.heap.get? S=some { cls:=.type "list",dict:=none,data:=.seq #[vb,vb] c,slots:=#[] })
    (hR:∀ h' tk,(∀ b o,b ∉ wr->b ≠ S->s.heap.get? b=some o->h'.get? b=some o)->R (.ok (.ret vb)) { s with heap:=h',toks:=tk }) :
    codeAny (model prog w) A (.builtin "min.loop" ⟨[.ref I,.none,.ref S],[]⟩) R s:=by
 have hSw:S ∉ wr:=λ h=>hSf (W.sub _ h)
 refine codeAny_builtin F.entry_min_loop ?_
 rw [Around.under_plainId F.plain_min_loop _]
 show wpAny _ A.in1 (seqItems? (.ref S) >>= _) _ _ s
 refine wpAny_bind (wpAny_seqItems hS rfl ?_)
 show wpAny _ A.in1 (tryCatch (pyNext (.ref I)) _ >>= _) _ _ s
 refine wpAny_bind (wpAny_tryCatch (W.done s _ _ hst λ h' tk hk'=>?_))
 have hS':=hk' S _ hSw hS
 show wpAny _ A.in1 (updateSeq S (λ _=>#[]) >>= _) _ _ _
 refine wpAny_bind ?_
 refine wpAny_updateSeq hS' rfl (wpAny_bind (wpAny_letGo (wpAny_pure ?_)))
 exact hR _ tk λ b o hbw hbS e=>(Heap.get?_update_other _ _ (Ne.symm hbS)).trans (hk' b o hbw e)
theorem th3 (W:Walks prog w A.in1 I fp wr n P St) (S:Addr) (hSf:S ∉ fp) (s:Shared) (vb v0:Value) (r:Bool) (c j:Nat) (hlt:j < n) (hj:j + 1=n) (hst:St j s.heap) (hv:∀ v,P j v->v=v0)
    (hcmp:∀ (h':Heap) (tk:Nat) (Q:Value->Shared->Prop) (E:Value->Shared->Prop),(∀ b o,b ∉ wr->s.heap.get? b=some o->h'.get? b=some o)->Q (.bool r) { s with heap:=h',toks:=tk }->wpAny (model prog w) A.in1 (richCompare .Lt v0 vb) Q E { s with heap:=h',toks:=tk })
    (hS:s.heap.get? S=some { cls:=.type "list",dict:=none,data:=.seq #[vb,vb] c,slots:=#[] })
    (hR:∀ h' tk,(∀ b o,b ∉ wr->b ≠ S->s.heap.get? b=some o->h'.get? b=some o)->R (.ok (.ret (if r then v0 else vb))) { s with heap:=h',toks:=tk }) :
    codeAny (model prog w) A (.builtin "min.loop" ⟨[.ref I,.none,.ref S],[]⟩) R s:=by
 have hSw:S ∉ wr:=λ h=>hSf (W.sub _ h)
 refine codeAny_builtin F.entry_min_loop ?_
 rw [Around.under_plainId F.plain_min_loop _]
 show wpAny _ A.in1 (seqItems? (.ref S) >>= _) _ _ s
 refine wpAny_bind (wpAny_seqItems hS rfl ?_)
 show wpAny _ A.in1 (tryCatch (pyNext (.ref I)) _ >>= _) _ _ s
 refine wpAny_bind (wpAny_tryCatch (W.item j s _ _ hlt hst λ v h' tk hP hst' hk'=>?_))
 obtain rfl:=hv v hP
 have hS':=hk' S _ hSw hS
 show wpAny _ A.in1 (tryCatch (holding [v,v] (richCompare .Lt v vb >>= _)) _ >>= _) _ _ _
 refine wpAny_bind (wpAny_tryCatch (wpAny_holding (wpAny_bind (hcmp h' tk _ _ hk' ?_))))
 refine wpAny_bind (wpAny_holding (wpAny_truthy_bool ?_))
 refine wpAny_bind (wpAny_letGo (wpAny_pure ?_))
 cases r with
 | true =>
  simp only [if_true]
  refine wpAny_bind ?_
  refine wpAny_updateSeq hS' rfl (wpAny_bind (wpAny_letGo ?_))
  rw [xq2]
  refine wpAny_pure ⟨plainId_quiet F.plain_min_loop _,xw2 W S hSf _ v _ (hj ▸ W.frame _ _ _ hst' λ b hbf o e=>?_) (Heap.get?_update_self _ hS' rfl) λ h'' tk'' hk''=>?_⟩
  ·exact (Heap.get?_update_other _ _ (λ h:S=b=>hSf (by rw [h]; exact hbf))).trans e
  ·exact hR h'' tk'' λ b o hbw hbS e=>hk'' b o hbw hbS ((Heap.get?_update_other _ _ (Ne.symm hbS)).trans (hk' b o hbw e))
 | false =>
  simp only [Bool.false_eq_true,if_false]
  refine wpAny_bind (wpAny_letGo ?_)
  rw [xq2]
  refine wpAny_pure ⟨plainId_quiet F.plain_min_loop _,xw2 W S hSf _ vb c (hj ▸ hst') hS' λ h'' tk'' hk''=>?_⟩
  exact hR h'' tk'' λ b o hbw hbS e=>hk'' b o hbw hbS (hk' b o hbw e)
theorem tl4 (W:Walks prog w A.in1 I fp wr 2 P St) (S:Addr) (hSf:S ∉ fp) (s:Shared) (va vb:Value) (r:Bool) (c:Nat) (hst:St 0 s.heap) (hva:∀ v,P 0 v->v=va) (hvb:∀ v,P 1 v->v=vb)
    (hcmp:∀ (h':Heap) (tk:Nat) (Q:Value->Shared->Prop) (E:Value->Shared->Prop),(∀ b o,b ∉ wr->b ≠ S->s.heap.get? b=some o->h'.get? b=some o)->Q (.bool r) { s with heap:=h',toks:=tk }->wpAny (model prog w) A.in1 (richCompare .Lt vb va) Q E { s with heap:=h',toks:=tk })
    (hS:s.heap.get? S=some { cls:=.type "list",dict:=none,data:=.seq #[] c,slots:=#[] })
    (hR:∀ h' tk,(∀ b o,b ∉ wr->b ≠ S->s.heap.get? b=some o->h'.get? b=some o)->R (.ok (.ret (if r then vb else va))) { s with heap:=h',toks:=tk }) :
    codeAny (model prog w) A (.builtin "min.loop" ⟨[.ref I,.none,.ref S],[]⟩) R s:=by
 have hSw:S ∉ wr:=λ h=>hSf (W.sub _ h)
 refine codeAny_builtin F.entry_min_loop ?_
 rw [Around.under_plainId F.plain_min_loop _]
 show wpAny _ A.in1 (seqItems? (.ref S) >>= _) _ _ s
 refine wpAny_bind (wpAny_seqItems hS rfl ?_)
 show wpAny _ A.in1 (tryCatch (pyNext (.ref I)) _ >>= _) _ _ s
 refine wpAny_bind (wpAny_tryCatch (W.item 0 s _ _ (by decide) hst λ v h' tk hP hst' hk'=>?_))
 obtain rfl:=hva v hP
 have hS':=hk' S _ hSw hS
 show wpAny _ A.in1 (updateSeq S (λ _=>#[v,v]) >>= _) _ _ _
 refine wpAny_bind ?_
 refine wpAny_updateSeq hS' rfl ?_
 rw [xq2]
 have up:∀ (f:Obj->Obj) b o,b ∉ wr->b ≠ S->s.heap.get? b=some o->Heap.get? (h'.update S f) b=some o:=λ f b o hbw hbS e=>(Heap.get?_update_other _ _ (Ne.symm hbS)).trans (hk' b o hbw e)
 refine wpAny_pure ⟨plainId_quiet F.plain_min_loop _,th3 W S hSf _ v vb r _ 1 (by decide) rfl (W.frame _ _ _ hst' λ b hbf o e=>?_) hvb (λ h2 tk2 Q E hk2 hq=>?_) (Heap.get?_update_self _ hS' rfl) λ h'' tk'' hk''=>?_⟩
 ·exact (Heap.get?_update_other _ _ (λ h:S=b=>hSf (by rw [h]; exact hbf))).trans e
 ·exact hcmp h2 tk2 Q E (λ b o hbw hbS e=>hk2 b o hbw (up _ b o hbw hbS e)) hq
 ·exact hR h'' tk'' λ b o hbw hbS e=>hk'' b o hbw hbS (up _ b o hbw hbS e)
end
section
variable {prog:Program} {w:World} {A:Around} {E:Value->Shared->Prop} {s:Shared}
theorem wu1 {va vb:Value} {r:Bool} {Q:Value->Shared->Prop} (hh:A.handled=none)
    (hcmp:∀ (h':Heap) (tk:Nat) (Q:Value->Shared->Prop) (E:Value->Shared->Prop),(∀ b o,s.heap.get? b=some o->h'.get? b=some o)->Q (.bool r) { s with heap:=h',toks:=tk }->wpAny (model prog w) A.in1 (richCompare .Lt vb va) Q E { s with heap:=h',toks:=tk })
    (h:∀ h' tk,(∀ c o,s.heap.get? c=some o->h'.get? c=some o)->Q (if r then vb else va) { s with heap:=h',toks:=tk }) :
    wpAny (model prog w) A (call (.builtin "min") [va,vb]) Q E s:=by
 refine call_function_tree F.kind_min F.plain_min F.entry_min (F.args_min2 _ _) ?_
 show wpAny _ A.in1 (Builtin.Builtins.bindParams "min" ["key", "default"] 0 ⟨[],[]⟩ >>= _) _ _ s
 refine wpAny_bind (wpAny_of_eq (show Builtin.Builtins.bindParams "min" ["key", "default"] 0 ⟨[],[]⟩=pure [none,none] from rfl) ?_)
 show wpAny _ A.in1 (newTuple [va,vb] >>= _) _ _ s
 refine wpAny_bind (wpAny_newObj_type ?_)
 have hT:(s.heap.push { cls:=.type "tuple",data:=.seq #[va,vb] }).IsTuple s.heap.objs.size #[va,vb]:=⟨_,Heap.get?_push_size _ rfl,rfl,0,rfl⟩
 refine wpAny_bind (wpAny_pyIter_tuple (s:={ s with heap:=s.heap.push { cls:=.type "tuple",data:=.seq #[va,vb] } }) hT ?_)
 have hsz:(s.heap.push { cls:=.type "tuple",data:=.seq #[va,vb] }).objs.size=s.heap.objs.size + 1:=Heap.size_push ..
 refine wpAny_bind (wpAny_newObj_type ?_)
 rw [xq2]
 have hsz2:((s.heap.push { cls:=.type "tuple",data:=.seq #[va,vb] }).push { cls:=.type "tuple_iterator",data:=.fields #[.ref s.heap.objs.size,.int 0 0] }).objs.size=s.heap.objs.size + 2:=by rw [Heap.size_push,hsz]
 have keep:∀ c o,s.heap.get? c=some o->Heap.get? (((s.heap.push { cls:=.type "tuple",data:=.seq #[va,vb] }).push { cls:=.type "tuple_iterator",data:=.fields #[.ref s.heap.objs.size,.int 0 0] }).push { cls:=.type "list",data:=.seq #[] }) c=some o:=λ c o e=>Heap.get?_push_of_some _ (Heap.get?_push_of_some _ (Heap.get?_push_of_some _ e))
 have off:∀ (c:Addr) (o:Obj),s.heap.get? c=some o->c ∉ [(s.heap.push { cls:=.type "tuple",data:=.seq #[va,vb] }).objs.size] /\ c ≠ ((s.heap.push { cls:=.type "tuple",data:=.seq #[va,vb] }).push { cls:=.type "tuple_iterator",data:=.fields #[.ref s.heap.objs.size,.int 0 0] }).objs.size:=λ c o e=>by
  have h1:=Heap.lt_size e
  rw [hsz2,hsz]
  refine ⟨λ hm=>?_,Nat.ne_of_lt (Nat.lt_succ_of_lt (Nat.lt_succ_of_lt h1))⟩
  rw [List.mem_singleton.mp hm] at h1
  exact absurd h1 (Nat.not_lt.mpr (Nat.le_succ _))
 refine wpAny_pure ⟨plainId_quiet F.plain_min_loop _,tl4 (Walks.tuple (A:=A.in1) hh _ s.heap.objs.size (by rw [hsz]; exact Nat.ne_of_lt (Nat.lt_succ_self _)) #[va,vb]) _ ?_ _ va vb r _ ?_ (λ v hP=>by simpa using hP.symm) (λ v hP=>by simpa using hP.symm) ?_ (Heap.get?_push_size _ rfl) ?_⟩
 ·rw [hsz2,hsz]
  simp
 ·exact ⟨⟨_,Heap.get?_push_of_some _ (Heap.get?_push_size _ rfl),rfl,rfl⟩,(hT.push _).push _⟩
 ·intro h' tk Q E hk hq
  exact hcmp h' tk Q E (λ c o e=>hk c o (off c o e).1 (off c o e).2 (keep c o e)) hq
 ·intro h' tk hk
  exact h h' tk λ c o e=>hk c o (off c o e).1 (off c o e).2 (keep c o e)
theorem zo2 {p q:Addr} {a b c d:Int} {t1 t2 t3 t4:Tok} {Q:Value->Shared->Prop} (hh:A.handled=none) (hu:A.units + 64 < cLine) (hp:IsTup s.heap p #[.int a t1,.int b t2]) (hq:IsTup s.heap q #[.int c t3,.int d t4])
    (h:∀ h' tk,(∀ c o,s.heap.get? c=some o->h'.get? c=some o)->Q (if ltP c d a b then .ref q else .ref p) { s with heap:=h',toks:=tk }) :
    wpAny (model prog w) A (call (.builtin "min") [.ref p,.ref q]) Q E s:=by
 refine wu1 hh (λ h' tk Q E hk hq'=>?_) h
 obtain ⟨⟨cp,dp,datp,slp⟩,ep,hcp,np,hdp⟩:=hp
 obtain ⟨⟨cq,dq,datq,slq⟩,eq,hcq,nq,hdq⟩:=hq
 dsimp only at hcp hdp hcq hdq
 subst hcp hdp hcq hdq
 refine richCompare_meets_room (T := "tuple") (s:={ s with heap:=h',toks:=tk }) ⟨_,hk _ _ eq,rfl⟩ ⟨_,hk _ _ ep,rfl⟩ F.slot_tuple_lt F.entry_tuple_lt (F.args_tuple_lt_2 _ _) (sh3 q p c d a b t3 t4 t1 t2 nq np dq dp slq slp) ⟨hk _ _ eq,hk _ _ ep,by simp,hq'⟩ ?_
 have:A.in1.units=A.units + 1:=rfl
 omega
end
section
variable {X:Cx}
theorem yg2 (hc:X.calm=true) (hu:X.A.units + 64 < cLine):CallR X (.builtin "min") (λ xs H Q=>∃ p q a b c d,xs=[.ref p,.ref q] /\ SqT X.K H p [.int a,.int b] /\ SqT X.K H q [.int c,.int d] /\ Q (.ref (if ltP c d a b then q else p)) H):=by
 intro pins s σ H xs us Q I r h
 obtain ⟨p,q,a,b,c,d,rfl,hp,hq,k⟩:=h
 obtain ⟨u,w',rfl,e1,e2⟩:=tv1 r
 cases e1
 cases e2
 obtain ⟨its,rv,pp,hz⟩:=I.tuple hp
 obtain ⟨its2,rv2,pp2,hz2⟩:=I.tuple hq
 obtain ⟨v1,v2,rfl,⟨t1,rfl⟩,⟨t2,rfl⟩⟩:=tv1 rv
 obtain ⟨v3,v4,rfl,⟨t3,rfl⟩,⟨t4,rfl⟩⟩:=tv1 rv2
 refine zo2 (I.ok.hd hc) hu pp pp2 λ h' tk kk=>⟨_,H,I.kept kk,?_,k⟩
 cases ltP c d a b
 ·exact rfl
 ·exact rfl
theorem yw4 (hc:X.calm=true) (hu:X.A.units + 64 < cLine):RC X (.builtin "min") minR:=by
 refine ⟨_,yg2 hc hu,λ xs vs H Q μ Q3 m r h k=>?_⟩
 unfold minR at h
 split at h
 ·next a b c d =>
  cases r with
  | cons r1 r2 =>
   cases r2 with
   | cons r2 r3 =>
    cases r3
    cases r1 with
    | tup hq rs =>
     cases r2 with
     | tup hq2 rs2 =>
      cases rs with
      | cons x1 y1 =>
       cases y1 with
       | cons x2 y2 =>
        cases y2
        cases x1
        cases x2
        cases rs2 with
        | cons x3 y3 =>
         cases y3 with
         | cons x4 y4 =>
          cases y4
          cases x3
          cases x4
          rename_i p q
          refine ⟨p,q,a,b,c,d,rfl,(SqT.of hq),(SqT.of hq2),k _ _ _ _ h (Kp.refl _) ?_ m⟩
          cases ltP c d a b
          ·exact .tup hq (.cons (.int _) (.cons (.int _) .nil))
          ·exact .tup hq2 (.cons (.int _) (.cons (.int _) .nil))
 ·exact h.elim
end
def to0 (cells:List (Str × Addr)):List (Str × NameKind)->List (Str × Addr)->List (Str × Addr)
 | [],acc=>acc
 | (n,k) :: r,acc=>if k == .free then to0 cells r ((n,(cells.lookup n).getD 0) :: acc) else to0 cells r acc
theorem ya1 {scope:Scope} {env:Env} (h:∀ y ∈ scope.names,y.2=.free->(env.cells.lookup y.1).isSome=true):closureFor scope env=pure (to0 env.cells scope.names []):=by
 unfold closureFor
 have key:∀ (l:List (Str × NameKind)) (acc:List (Str × Addr)),(∀ y ∈ l,y.2=.free->(env.cells.lookup y.1).isSome=true) ->
     (forIn l acc (λ x r=>if (x.2 == NameKind.free)=true then do let c <- cellOf env x.1; pure (ForInStep.yield ((x.1,c) :: r)) else pure (ForInStep.yield r)):Sem (List (Str × Addr)))=pure (to0 env.cells l acc):=by
  intro l
  induction l with
  | nil=>intro acc _; rfl
  | cons y r ih =>
   intro acc hl
   obtain ⟨n,k⟩:=y
   rw [List.forIn_cons]
   have ih':=λ a=>ih a λ z hz=>hl z (mem_cons_of_mem _ hz)
   by_cases hk:k=.free
   ·subst hk
    have hs:=hl (n,.free) (mem_cons_self ..) rfl
    obtain ⟨c,hc⟩:=Option.isSome_iff_exists.mp hs
    have ec:cellOf env n=pure c:=by unfold cellOf; rw [hc]
    simp only [to0,ec,pure_bind,beq_self_eq_true,if_true,hc,Option.getD_some]
    exact ih' _
   ·have hk':(k == NameKind.free)=false:=by simpa using hk
    simp only [to0,hk',Bool.false_eq_true,if_false,pure_bind]
    exact ih' _
 have:=key scope.names [] h
 refine Eq.trans ?_ this
 refine Eq.trans (bind_pure (forIn scope.names ([]:List (Str × Addr)) _:Sem (List (Str × Addr)))) ?_
 congr 1
theorem ys0 {cells:List (Str × Addr)} {x:Str} {c:Addr}:∀ (l:List (Str × NameKind)) (acc:List (Str × Addr)),(∀ y ∈ l,y.2=.free->(cells.lookup y.1).isSome=true)->(acc.lookup x=some c->cells.lookup x=some c) ->
    (to0 cells l acc).lookup x=some c->cells.lookup x=some c
 | [],acc,_,ha,h=>ha h
 | (n,k) :: r,acc,hl,ha,h=>by
  unfold to0 at h
  split at h
  ·next hk =>
   refine ys0 r _ (λ z hz=>hl z (mem_cons_of_mem _ hz)) (λ h2=>?_) h
   rw [lookup_cons] at h2
   split at h2
   ·next e =>
    have e':x=n:=eq_of_beq e
    subst e'
    obtain ⟨c',hc⟩:=Option.isSome_iff_exists.mp (hl (x,k) (mem_cons_self ..) (eq_of_beq hk))
    rw [hc] at h2
    simp only [Option.getD_some,Option.some.injEq] at h2
    rw [hc,h2]
   ·exact ha h2
  ·exact ys0 r acc (λ z hz=>hl z (mem_cons_of_mem _ hz)) ha h
theorem zs0 {cells:List (Str × Addr)} {x:Str}:∀ (l:List (Str × NameKind)) (acc:List (Str × Addr)),((∃ c,acc.lookup x=some c) \/ (x,NameKind.free) ∈ l)->∃ c,(to0 cells l acc).lookup x=some c
 | [],acc,h=>by
  rcases h with h | h
  ·exact h
  ·cases h
 | (n,k) :: r,acc,h=>by
  unfold to0
  split
  ·next hk =>
   refine zs0 r _ ?_
   by_cases e:x=n
   ·subst e
    left
    exact ⟨(cells.lookup x).getD 0,by rw [lookup_cons]; simp⟩
   ·rcases h with ⟨c,h⟩ | h
    ·left
     refine ⟨c,?_⟩
     rw [lookup_cons]
     have:(x == n)=false:=by simpa using e
     rw [this]; exact h
    ·right
     rcases List.mem_cons.mp h with h | h
     ·exact absurd (congrArg Prod.fst h) e
     ·exact h
  ·next hk =>
   refine zs0 r acc ?_
   rcases h with h | h
   ·exact .inl h
   ·rcases List.mem_cons.mp h with h | h
    ·cases h; exact absurd rfl hk
    ·exact .inr h
theorem CompSc.free {X:Cx} {NN:List Str} {scope:Scope} {js:List (Option Nat)} (hcell:∀ y ∈ scope.names,y.2 ≠ .cell) (hk:scope.kind=.function) (hfn:X.env.scope.kind=.function)
    (hn:∀ y ∈ scope.names,y.2=.local->scope.names.lookup y.1=some .local) (hfree:∀ y ∈ scope.names,y.2=.free->X.env.scope.names.lookup y.1=some .cell) (hlook:∀ y ∈ scope.names,y.2=.free->scope.names.lookup y.1=some .free)
    (hcl:∀ x,X.env.scope.names.lookup x=some .cell->(X.env.cells.lookup x).isSome=true) (len:js.length=NN.length)
    (hout:∀ i ∈ List.range js.length,∀ j,js.getD i none=some j->∃ x,NN[i]?=some x /\ X.N[j]?=some x /\ scope.names.lookup x=some .free) :
    CompSc X NN scope (to0 X.env.cells scope.names []) js where
 clos:=ya1 λ y hy e=>hcl _ (hfree y hy e)
 cell:=hcell
 kind:=hk
 names:=hn
 sub:=λ x c h=>ys0 scope.names [] (λ y hy e=>hcl _ (hfree y hy e)) (λ h=>by simp at h) h
 has:=λ x h=>by
  refine zs0 scope.names [] (.inr ?_)
  have hm:∃ k,(x,k) ∈ scope.names /\ (k=.free \/ k=.cell):=by
   have key:∀ kk,(relabel scope X.env).names.lookup x=some kk->(kk=.cell \/ kk=.free)->∃ k,(x,k) ∈ scope.names /\ (k=.free \/ k=.cell):=λ kk hkk hc=>by
    have hmem:=wi0 hkk
    obtain ⟨⟨n,k⟩,hy,e⟩:=List.mem_map.mp hmem
    dsimp only at e
    split at e
    ·next hq =>
     cases e
     simp only [Bool.and_eq_true] at hq
     exact ⟨k,hy,.inl (by simpa using hq.1.1)⟩
    ·cases e
     exact ⟨kk,hy,hc.symm⟩
   rcases h with h | h
   ·exact key _ h (.inl rfl)
   ·exact key _ h (.inr rfl)
  obtain ⟨k,hk1,hk2⟩:=hm
  rcases hk2 with rfl | rfl
  ·exact hk1
  ·exact absurd rfl (hcell _ hk1)
 len:=len
 out:=λ i j h=>by
  have hi:i < js.length:=by
   rcases Nat.lt_or_ge i js.length with z | z
   ·exact z
   ·rw [List.getElem?_eq_none z] at h; cases h
  obtain ⟨x,e1,e2,e3⟩:=hout i (List.mem_range.mpr hi) j (by rw [getD_eq_getElem?_getD,h]; rfl)
  have hf:=hfree (x,.free) (wi0 e3) rfl
  refine ⟨x,e1,e2,.inr (.inl hf),by rw [hf]; simp,?_⟩
  left
  have key:∀ (l:List (Str × NameKind)),l.lookup x=some .free->(l.map λ (n,k)=>if (k == NameKind.free && X.env.scope.kind == .function && X.env.kindOf n == some .cell) then (n,NameKind.cell) else (n,k)).lookup x=some .cell:=λ l=>by
   induction l with
   | nil=>intro h; simp at h
   | cons y r ih =>
    obtain ⟨n,k⟩:=y
    intro h
    rw [lookup_cons] at h
    rw [map_cons,lookup_cons]
    by_cases e:x=n
    ·subst e
     simp only [beq_self_eq_true,Option.some.injEq] at h
     subst h
     have hkind:(X.env.kindOf x == some NameKind.cell)=true:=by
      show (X.env.scope.names.lookup x == some NameKind.cell)=true
      rw [hf]; rfl
     simp [hfn,hkind]
    ·have e':(x == n)=false:=by simpa using e
     rw [e'] at h
     have ih':=ih h
     by_cases hq:(k == NameKind.free && X.env.scope.kind == ScopeKind.function && X.env.kindOf n == some NameKind.cell)=true
     ·simp only [hq,if_true,e']; exact ih'
     ·simp only [hq,Bool.false_eq_true,if_false,e']; exact ih'
  exact key _ e3
theorem ti1 {CX:CXT} {P:Program} {w:World} {K:Fg} {mg:Str->Option Value} {base:Heap} {N:List Str} {qual:Str} {sc:Scope} {f:Addr} {cdv:Value} {A:Around} {outer:List Env} {s:Shared} {H:Hp} {E:XK} {NN:List Str} {scope:Scope} {js:List (Option Nat)}
    (hcell:∀ y ∈ scope.names,y.2 ≠ .cell:=by decide +kernel) (hk:scope.kind=.function:=by rfl) (hfn:sc.kind=.function:=by rfl)
    (hn:∀ y ∈ scope.names,y.2=.local->scope.names.lookup y.1=some .local:=by decide +kernel) (hfree:∀ y ∈ scope.names,y.2=.free->sc.names.lookup y.1=some .cell:=by decide +kernel)
    (hlook:∀ y ∈ scope.names,y.2=.free->scope.names.lookup y.1=some .free:=by decide +kernel) (len:js.length=NN.length:=by rfl)
    (hout:∀ i ∈ List.range js.length,∀ j ∈ (js.getD i none).toList,∃ x ∈ NN[i]?.toList,N[j]?=some x /\ scope.names.lookup x=some .free:=by decide +kernel) :
    CompSc (cxOf CX P w K mg base N qual sc f cdv A outer s H E).nox NN scope (to0 (cxOf CX P w K mg base N qual sc f cdv A outer s H E).nox.env.cells scope.names []) js :=
 CompSc.free (X:=(cxOf CX P w K mg base N qual sc f cdv A outer s H E).nox) hcell hk hfn hn hfree hlook (λ x h=>by
  obtain ⟨c,hc⟩:=za1 (n:=_) h
  exact Option.isSome_iff_exists.mpr ⟨c,hc⟩) len λ i hi j hj=>by
   obtain ⟨x,h1,h2,h3⟩:=hout i hi j (by rw [hj]; simp)
   exact ⟨x,by simpa using h1,h2,h3⟩
end Pv
namespace Pv
open PySem
def isN:D->Bool
 | .non=>true
 | _=>false
def isNR (neg:Bool):R3:=λ x y μ Q=>match y with
 | .non=>Q (.bl (if neg then !isN x else isN x)) μ
 | _=>False
def wo2:C3:=λ ds μ Q=>match ds with
 | [.int i,.int j]=>Q (.int (if j < i then j else i)) μ
 | _=>False
end Pv
namespace Pv
open PySem PySem.Spec PyProof.Rows L2
section
variable {X:Cx}
theorem yn4 {K:Fg} {H:Hp} {x:D} {v:V} (r:RelD K H x v):decide (v=.non)=isN x:=by
 cases r <;> simp [isN]
theorem wd3:RO X (compareOp .Is) (isNR false):=by
 refine ⟨_,tk4,λ x y v u H Q μ Q3 m rx ry h k=>?_⟩
 cases ry with
 | non =>
  refine ⟨rfl,?_⟩
  rw [yn4 rx]
  exact k _ _ _ _ h (Kp.refl _) (.bl _) m
 | _=>exact False.elim h
theorem xm2:RO X (compareOp .IsNot) (isNR true):=by
 refine ⟨_,xh3,λ x y v u H Q μ Q3 m rx ry h k=>?_⟩
 cases ry with
 | non =>
  refine ⟨rfl,?_⟩
  rw [yn4 rx]
  exact k _ _ _ _ h (Kp.refl _) (.bl _) m
 | _=>exact False.elim h
theorem zv2 (hc:X.calm=true):RC X (.builtin "min") wo2:=by
 refine ⟨_,wg2 hc,λ xs vs H Q μ Q3 m r h k=>?_⟩
 cases r with
 | nil=>exact False.elim h
 | cons r1 r2 =>
  cases r1 with
  | int i =>
   cases r2 with
   | nil=>exact False.elim h
   | cons r2 r3 =>
    cases r2 with
    | int j =>
     cases r3 with
     | nil=>exact ⟨i,j,rfl,k _ _ _ _ h (Kp.refl _) (.int _) m⟩
     | cons _ _=>exact False.elim h
    | _=>exact False.elim h
  | _=>exact False.elim h
end
end Pv
namespace Pv
open PySem
def mnR:C3:=λ ds μ Q=>match ds with
 | [.int i,.int j]=>Q (.int (if j < i then j else i)) μ
 | [.tup [.int a,.int b],.tup [.int c,.int d]]=>Q (if ltP c d a b then .tup [.int c,.int d] else .tup [.int a,.int b]) μ
 | [.ref p]=>match μ p with
  | some (.lst l)=>match ints? l with
   | some ns=>0 < ns.length /\ ∀ m,m ∈ ns->(∀ a,a ∈ ns->m<=a)->Q (.int m) μ
   | none=>False
  | _=>False
 | _=>False
theorem vl4 (a b c d:Int) (μ:Mu) (Q:VK3):mnR [.tup [.int a,.int b],.tup [.int c,.int d]] μ Q=Q (if ltP c d a b then .tup [.int c,.int d] else .tup [.int a,.int b]) μ:=propext ⟨λ h=>h,λ h=>h⟩
abbrev XE3:=Str->Mu->Prop
end Pv
namespace Pv
open PySem PySem.Spec PyProof.Rows L2
section
variable {X:Cx}
theorem RC.or {f:Value} {R1 R2:C3} (h1:RC X f R1) (h2:RC X f R2):RC X f (λ ds μ Q=>R1 ds μ Q \/ R2 ds μ Q):=by
 obtain ⟨c1,p1,r1⟩:=h1
 obtain ⟨c2,p2,r2⟩:=h2
 exact ⟨λ xs H Q=>c1 xs H Q \/ c2 xs H Q,λ pins s σ H xs us Q I r h=>h.elim (p1 pins s σ H xs us Q I r) (p2 pins s σ H xs us Q I r),
  λ xs vs H Q μ Q3 m r h k=>h.elim (λ h=>.inl (r1 xs vs H Q μ Q3 m r h k)) λ h=>.inr (r2 xs vs H Q μ Q3 m r h k)⟩
theorem RC.le {f:Value} {R1 R2:C3} (h:RC X f R1) (e:∀ ds μ Q,R2 ds μ Q->R1 ds μ Q):RC X f R2:=by
 obtain ⟨c1,p1,r1⟩:=h
 exact ⟨c1,p1,λ xs vs H Q μ Q3 m r h k=>r1 xs vs H Q μ Q3 m r (e _ _ _ h) k⟩
def sl4:C3:=λ ds μ Q=>match ds with
 | [.ref p]=>match μ p with
  | some (.lst l)=>match ints? l with
   | some ns=>0 < ns.length /\ ∀ m,m ∈ ns->(∀ a,a ∈ ns->m<=a)->Q (.int m) μ
   | none=>False
  | _=>False
 | _=>False
theorem zg2 (hc:X.calm=true):CallR X (.builtin "min") (λ xs H Q=>∃ (p:Addr) (ns:List Int),xs=[.ref p] /\ SqL X.K H p (ns.map V.int) /\ 0 < ns.length /\ ∀ m,m ∈ ns->(∀ a,a ∈ ns->m<=a)->Q (.int m) H):=by
 intro pins s σ H xs us Q I r h
 obtain ⟨p,ns,rfl,hq,hne,q⟩:=h
 obtain ⟨u,rfl,rx⟩:=ts0 r
 cases rx
 obtain ⟨its,r',pl,hz⟩:=I.list hq
 have hi:=wv0 r'
 obtain ⟨ys,e⟩:=hi.allInts.items
 have hl:=pl.isList
 rw [e] at hl
 have hns:ns=ys.toList.map (·.1):=by rw [<- hi.numsOf,<- nums_intItems,<- e]
 have hsz:0 < ys.size:=by
  have h3:=hne; rw [hns,length_map,length_toList] at h3; exact h3
 refine min_intList (I.ok.hd hc) hl hsz λ v h' tk hv hk=>?_
 obtain ⟨t,rfl⟩:=intItems_at hv
 obtain ⟨h1,h2⟩:=argBest_lt (numAt ys) (ys.size - 1)
 refine ⟨.int _,H,I.kept (t':=tk) hk,⟨t,rfl⟩,q _ ?_ λ a ha=>?_⟩
 ·rw [hns,numAt_eq]; exact getD_mem (by rw [length_map,length_toList]; omega)
 ·rw [hns] at ha
  obtain ⟨j,hj,rfl⟩:=mem_getD ha
  rw [length_map,length_toList] at hj
  rw [<- numAt_eq]; exact h2 j (by omega)
theorem vg4 (hc:X.calm=true):RC X (.builtin "min") sl4:=by
 refine ⟨_,zg2 hc,λ xs vs H Q μ Q3 m r h k=>?_⟩
 unfold sl4 at h
 split at h
 ·next p =>
  cases r with
  | cons r1 r2 =>
   cases r2
   cases r1
   split at h
   ·next l e =>
    split at h
    ·next ns e1 =>
     obtain ⟨vs,hv,rs⟩:=m p l e
     have ev:=xz0 rs e1
     subst ev
     exact ⟨p,ns,rfl,SqL.of hv,h.1,λ a h1 h2=>k _ _ _ _ (h.2 a h1 h2) (Kp.refl _) (.int _) m⟩
    ·exact h.elim
   ·exact h.elim
 ·exact h.elim
theorem q_mn (hc:X.calm=true) (hu:X.A.units + 64 < cLine):RC X (.builtin "min") mnR:=by
 refine ((zv2 hc).or ((yw4 hc hu).or (vg4 hc))).le λ ds μ Q h=>?_
 unfold mnR at h
 split at h
 ·exact .inl h
 ·exact .inr (.inl h)
 ·exact .inr (.inr h)
 ·exact h.elim
end
section
variable {X:Cx} {e:Expr} {te:TE3} {p p2 pos pos2:Pos}
end
end Pv
namespace L2
open PySem PySem.Spec PyProof.Rows
section
variable {X:Cx} {tg:Expr}
end
end L2
namespace Pv
open PySem L2
section
variable {X:Cx} {a b tg:Expr} {ta tb:TE3} {pos:Pos}
end
end Pv
namespace Pv
open PySem PySem.Spec PyProof.Rows L2
section
variable {prog:Program} {w:World} {A:Around} {E:Value->Shared->Prop} {s:Shared} {R:Result->Shared->Prop} {I l:Addr} {items:Array Value}
end
section
variable {X:Cx} {e:Expr} {te:TE3} {p p2 pos pos2:Pos}
variable {o:Expr} {es:List Expr} {to:TE3} {t:TA3} {apos cpos:Pos}
end
end Pv
namespace Pv
open PySem PySem.Spec PyProof.Rows L2 PySem.Calls
section
variable {P:Program} {w:World} {K:Fg} {mg:Str->Option Value} {base:Heap} {N:List Str} {qual:Str} {scope:Scope} {f:Addr} {cd:Value} {A:Around} {outer:List Env} {s0:Shared} {H0:Hp} {E:XK} {XE:XE3}
end
section
variable {X:Cx} {pins:List (Addr × Obj)} {σ:L2.St} {H H':Hp} {s s':Shared}
variable {k:Nat} {f:Addr} {fd:FuncData} {ps:List Str} {sp:Sp} {fx x:Str} {Pc:Addr} {e:Expr} {es:List Expr} {b₀:Stmt} {suite:List Stmt} {p cpos np hpos pos epos:Pos} {ta:TA} {ts:Addr->TS}
end
section
variable {X:Cx} {k:Nat} {ps:List Str} {spx:XE3->Sp3} {fx x:Str} {Pc:Addr} {e:Expr} {es:List Expr} {b₀:Stmt} {suite:List Stmt} {p cpos np hpos pos epos:Pos} {ta:TA3} {ts:TS3} {ok:Str->Bool}
end
end Pv
namespace Ms
open PySem.W PyProof.Rows
def run (lt:Nat->Nat->Bool) {α:Type}:KasT α->α
 | .ret a=>a
 | .ask i j k=>run lt (k (lt i j))
theorem uk1 (lt:Nat->Nat->Bool) {α β:Type} (f:α->KasT β):∀ t:KasT α,run lt (t.bind f)=run lt (f (run lt t))
 | .ret _=>rfl
 | .ask i j k=>uk1 lt f (k (lt i j))
structure Ord (lt:Nat->Nat->Bool):Prop where
 ir:∀ a,lt a a=false
 tr:∀ a b c,lt a b=true->lt b c=true->lt a c=true
 ng:∀ a b c,lt a c=true->lt a b=true \/ lt b c=true
section
variable {lt:Nat->Nat->Bool} (O:Ord lt)
abbrev at' (p:Array Nat) (i:Nat):Nat:=p.getD i 0
def le (lt:Nat->Nat->Bool) (a b:Nat):Prop:=lt b a=false
include O
theorem le_rf (a:Nat):le lt a a:=O.ir a
theorem le_tr {a b c:Nat} (h:le lt a b) (k:le lt b c):le lt a c:=by
 unfold le at *
 cases e:lt c a with
 | false=>rfl
 | true =>
  rcases O.ng c b a e with h1 | h1
  ·rw [k] at h1; cases h1
  ·rw [h] at h1; cases h1
theorem sy4 {a b:Nat} (h:lt a b=true):le lt a b:=by
 unfold le
 cases e:lt b a with
 | false=>rfl
 | true=>have:=O.tr a b a h e; rw [O.ir] at this; cases this
omit O
def Up (lt:Nat->Nat->Bool) (p:Array Nat) (n:Nat):Prop:=∀ a b,a<=b->b < n->le lt (at' p a) (at' p b)
theorem uk3 {p q:Array Nat} {i j:Nat} (h:p[i]?=q[j]?):at' p i=at' q j:=by
 show p.getD i 0=q.getD j 0
 rw [Array.getD_eq_getD_getElem?,Array.getD_eq_getD_getElem?,h]
theorem tx2 {p:Array Nat} {k l:Nat} (hk:k < p.size) (hl:l<=k) (i:Nat):at' (bubble p k (k - l)) i=if i=l then at' p k else if l < i /\ i<=k then at' p (i - 1) else at' p i:=by
 have h:=getElem?_bubble (xs:=p) hk (k - l) (by omega) i
 rw [show k - (k - l)=l by omega] at h
 by_cases c:i=l
 ·rw [if_pos c] at h ⊢; exact uk3 h
 ·rw [if_neg c] at h ⊢
  by_cases c2:l < i /\ i<=k
  ·rw [if_pos c2] at h ⊢; exact uk3 h
  ·rw [if_neg c2] at h ⊢; exact uk3 h
include O
theorem zy2 {p:Array Nat} {n:Nat} (h:Up lt p n) (h1:1<=n) (k:le lt (at' p (n - 1)) (at' p n)):Up lt p (n + 1):=λ a b hab hb=>by
 by_cases e:b=n
 ·subst e
  by_cases e2:a=b
  ·subst e2; exact le_rf O _
  ·exact le_tr O (h a (b - 1) (by omega) (by omega)) k
 ·exact h a b hab (by omega)
theorem zo1 (p:Array Nat):∀ (f n:Nat),1<=n->Up lt p n->n<=run lt (kas_asc p f n) /\ run lt (kas_asc p f n)<=n + f /\ Up lt p (run lt (kas_asc p f n)) /\ (run lt (kas_asc p f n) < n + f->lt (at' p (run lt (kas_asc p f n))) (at' p (run lt (kas_asc p f n) - 1))=true)
 | 0,n,h1,h=>⟨Nat.le_refl _,Nat.le_refl _,h,λ z=>absurd z (Nat.lt_irrefl _)⟩
 | f + 1,n,h1,h=>by
  cases e:lt (at' p n) (at' p (n - 1)) with
  | true =>
   have r:run lt (kas_asc p (f + 1) n)=n:=by
    show run lt (if lt (at' p n) (at' p (n - 1))=true then .ret n else kas_asc p f (n + 1))=n
    rw [e]; rfl
   rw [r]
   exact ⟨Nat.le_refl _,by omega,h,λ _=>e⟩
  | false =>
   have r:run lt (kas_asc p (f + 1) n)=run lt (kas_asc p f (n + 1)):=by
    show run lt (if lt (at' p n) (at' p (n - 1))=true then .ret n else kas_asc p f (n + 1))=_
    rw [e]; rfl
   rw [r]
   obtain ⟨a1,a2,a3,a4⟩:=zo1 p f (n + 1) (by omega) (zy2 O h h1 e)
   exact ⟨by omega,by omega,a3,λ z=>a4 (by omega)⟩
omit O
include O
omit O
include O
omit O
include O
theorem xy0 {p:Array Nat} {k:Nat} (h:Up lt p k):∀ (f l r:Nat),l<=r->r<=k->r - l<=f->(∀ a,a < l->le lt (at' p a) (at' p k))->(∀ b,r<=b->b < k->lt (at' p k) (at' p b)=true) ->
    run lt (kas_place p k f l r)<=k /\ (∀ a,a < run lt (kas_place p k f l r)->le lt (at' p a) (at' p k)) /\ ∀ b,run lt (kas_place p k f l r)<=b->b < k->lt (at' p k) (at' p b)=true
 | 0,l,r,hlr,hrk,hf,h1,h2=>⟨by show l<=k; omega,h1,λ b hb1 hb2=>h2 b (by have:l<=b:=hb1; omega) hb2⟩
 | f + 1,l,r,hlr,hrk,hf,h1,h2=>by
  by_cases c:l ≥ r
  ·have e:run lt (kas_place p k (f + 1) l r)=l:=by
     show run lt (if l ≥ r then .ret l else _)=l
     rw [if_pos c]; rfl
   rw [e]
   exact ⟨by omega,h1,λ b hb1 hb2=>h2 b (by omega) hb2⟩
  ·cases e:lt (at' p k) (at' p ((l + r) / 2)) with
   | true =>
    have e2:run lt (kas_place p k (f + 1) l r)=run lt (kas_place p k f l ((l + r) / 2)):=by
     show run lt (if l ≥ r then .ret l else .ask (at' p k) (at' p ((l + r) / 2)) λ c=>if c=true then kas_place p k f l ((l + r) / 2) else kas_place p k f ((l + r) / 2 + 1) r)=_
     rw [if_neg c]
     show run lt (if lt (at' p k) (at' p ((l + r) / 2))=true then _ else _)=_
     rw [e,if_pos rfl]
    rw [e2]
    refine xy0 h f l ((l + r) / 2) (by omega) (by omega) (by omega) h1 λ b hb1 hb2=>?_
    have z:=h ((l + r) / 2) b hb1 hb2
    rcases O.ng (at' p k) (at' p b) (at' p ((l + r) / 2)) e with y | y
    ·exact y
    ·unfold le at z; rw [z] at y; cases y
   | false =>
    have e2:run lt (kas_place p k (f + 1) l r)=run lt (kas_place p k f ((l + r) / 2 + 1) r):=by
     show run lt (if l ≥ r then .ret l else .ask (at' p k) (at' p ((l + r) / 2)) λ c=>if c=true then kas_place p k f l ((l + r) / 2) else kas_place p k f ((l + r) / 2 + 1) r)=_
     rw [if_neg c]
     show run lt (if lt (at' p k) (at' p ((l + r) / 2))=true then _ else _)=_
     rw [e,if_neg (by decide)]
    rw [e2]
    exact xy0 h f ((l + r) / 2 + 1) r (by omega) hrk (by omega) (λ a ha=>le_tr O (h a ((l + r) / 2) (by omega) (by omega)) e) h2
theorem vh2 {p0:Array Nat}:∀ (f:Nat) (p:Array Nat) (k:Nat),p.Perm p0->1<=k->k + f<=p0.size->Up lt p k->(run lt (kas_bin f p k)).Perm p0 /\ Up lt (run lt (kas_bin f p k)) (k + f)
 | 0,p,k,hp,h1,hs,h=>⟨hp,h⟩
 | f + 1,p,k,hp,h1,hs,h=>by
  have hsz:p.size=p0.size:=hp.size_eq
  have e:run lt (kas_bin (f + 1) p k)=run lt (kas_bin f (bubble p k (k - run lt (kas_place p k k 0 k))) (k + 1)):=by
   show run lt ((kas_place p k k 0 k).bind λ l=>kas_bin f (bubble p k (k - l)) (k + 1))=_
   rw [uk1]
  rw [e]
  obtain ⟨b1,b2,b3⟩:=xy0 O h k 0 k (by omega) (Nat.le_refl _) (by omega) (λ a ha=>absurd ha (Nat.not_lt_zero _)) (λ b hb1 hb2=>by omega)
  generalize run lt (kas_place p k k 0 k)=l at b1 b2 b3
  have u:Up lt (bubble p k (k - l)) (k + 1):=λ a b hab hb=>by
   rw [tx2 (by omega) b1,tx2 (by omega) b1]
   by_cases ca:a=l
   ·rw [if_pos ca]
    by_cases cb:b=l
    ·rw [if_pos cb]; exact le_rf O _
    ·rw [if_neg cb,if_pos ⟨by omega,by omega⟩]; exact sy4 O (b3 _ (by omega) (by omega))
   ·rw [if_neg ca]
    by_cases cb:b=l
    ·rw [if_pos cb,if_neg (by omega)]; exact b2 _ (by omega)
    ·rw [if_neg cb]
     by_cases ca2:l < a /\ a<=k
     ·rw [if_pos ca2,if_pos ⟨by omega,by omega⟩]; exact h _ _ (by omega) (by omega)
     ·rw [if_neg ca2]
      by_cases cb2:l < b /\ b<=k
      ·rw [if_pos cb2]; exact h _ _ (by omega) (by omega)
      ·rw [if_neg cb2]; exact h _ _ (by omega) (by omega)
  have z:=vh2 f (bubble p k (k - l)) (k + 1) ((bubble_perm _ _ _).trans hp) (by omega) (by omega) u
  rw [show k + 1 + f=k + (f + 1) by omega] at z
  exact z
end
section
variable {N:Nat}
end
end Ms
namespace Ts
open PySem PyProof.Rows
def gal:Bool->Keyed->Array Keyed->Nat->Nat->Nat->StateT SortSt Sem (Option Nat):=sortPriv% PySem.Builtin.gallop
section
variable {prog:Program} {w:World} {A:Around} {E:Value->Shared->Prop} {s:Shared} {κ:SortKind}
structure Cm (prog:Program) (w:World) (A:Around) (s:Shared) (κ:SortKind) (lt:Keyed->Keyed->Bool) (M:Keyed->Prop):Prop where
 ask:∀ x y,M x->M y->∀ C:Bool->Shared->Prop,C (lt x y) s->wpAny (model prog w) A (keyLt' κ x.1 y.1) C (λ _ _=>False) s
 ir:∀ x,lt x x=false
 tr:∀ x y z,lt x y=true->lt y z=true->lt x z=true
 ng:∀ x y z,lt x z=true->lt x y=true \/ lt y z=true
variable {lt:Keyed->Keyed->Bool} {M:Keyed->Prop}
def le (lt:Keyed->Keyed->Bool) (x y:Keyed):Prop:=lt y x=false
theorem Cm.rf (c:Cm prog w A s κ lt M) (x:Keyed):le lt x x:=c.ir x
theorem Cm.lt_le (c:Cm prog w A s κ lt M) {x y:Keyed} (h:lt x y=true):le lt x y:=by
 unfold le
 cases e:lt y x with
 | false=>rfl
 | true=>have:=c.tr x y x h e; rw [c.ir] at this; cases this
theorem Cm.le_tr (c:Cm prog w A s κ lt M) {x y z:Keyed} (h:le lt x y) (k:le lt y z):le lt x z:=by
 unfold le at h k ⊢
 cases e:lt z x with
 | false=>rfl
 | true =>
  rcases c.ng z y x e with q | q
  ·rw [k] at q; cases q
  ·rw [h] at q; cases q
structure Ok (κ:SortKind) (st:SortSt):Prop where
 kd:kindOf st=κ
 fl:failedOf st=none
theorem yc2 (c:Cm prog w A s κ lt M) {x y:Keyed} {st:SortSt} {Q:Option Bool->SortSt->Prop} (o:Ok κ st) (hx:M x) (hy:M y) (h:Q (some (lt x y)) st):wpS (model prog w) A E s (lt' x y) Q st:=by
 rw [lt'_eq]
 refine wpS_bind (wpS_get ?_)
 rw [o.kd]
 refine wpS_bind (wpS_lift (wpAny_attempt (wpAny_mono (c.ask x y hx hy (λ b s'=>s'=s /\ b=lt x y) ⟨rfl,rfl⟩) (λ b s' hb=>?_) λ _ _ hF=>hF.elim)))
 obtain ⟨rfl,rfl⟩:=hb
 exact ⟨rfl,wpS_pure h⟩
theorem wd0 {arr:Array Keyed} {i:Nat} {x:Keyed} {st:SortSt} {Q:Keyed->SortSt->Prop} (hi:arr[i]?=some x) (h:Q x st):wpS (model prog w) A E s (elem' arr i) Q st:=by
 rw [elem'_eq,hi]
 exact wpS_pure h
structure By (lt:Keyed->Keyed->Bool) (M:Keyed->Prop) (l:Bool) (key:Keyed) (arr:Array Keyed) (base n:Nat) (B:Nat->Bool):Prop where
 ky:M key
 it:∀ i,i < n->∃ x,arr[base + i]?=some x /\ M x /\ B i=(if l=true then lt x key else !lt key x)
 mono:∀ i j,i<=j->j < n->B j=true->B i=true
theorem By.no {l:Bool} {key:Keyed} {arr:Array Keyed} {base n:Nat} {B:Nat->Bool} (b:By lt M l key arr base n B) {i j:Nat} (h:i<=j) (hj:j < n) (k:B i=false):B j=false:=by
 cases e:B j with
 | false=>rfl
 | true=>have:=b.mono i j h hj e; rw [k] at this; cases this
theorem sn1 (c:Cm prog w A s κ lt M) {l:Bool} {key:Keyed} {arr:Array Keyed} {base n:Nat} {B:Nat->Bool} (b:By lt M l key arr base n B) {i:Nat} (hi:i < n) {st:SortSt} {Q:Option Bool->SortSt->Prop} (o:Ok κ st) (h:Q (some (B i)) st) :
    wpS (model prog w) A E s (elem' arr (base + i) >>= λ x=>if l=true then lt' x key else lt' key x >>= λ r=>pure (r.map λ y=>!y)) Q st:=by
 obtain ⟨x,ex,mx,e⟩:=b.it i hi
 refine wpS_bind (wd0 ex ?_)
 cases l with
 | true =>
  rw [if_pos rfl]
  rw [if_pos rfl] at e
  exact yc2 c o mx b.ky (e ▸ h)
 | false =>
  rw [if_neg (by simp)]
  rw [if_neg (by simp)] at e
  exact wpS_bind (yc2 c o b.ky mx (wpS_pure (by rw [e] at h; exact h)))
theorem xw0 (c:Cm prog w A s κ lt M) {l:Bool} {key:Keyed} {arr:Array Keyed} {base n hint:Nat} {st:SortSt} {Q:Option Nat->SortSt->Prop} {B:Nat->Bool} (o:Ok κ st) (b:By lt M l key arr base n B) (hh:hint < n)
    (h:∀ k,k<=n->(∀ i,i < k->B i=true)->(∀ i,k<=i->i < n->B i=false)->Q (some k) st):wpS (model prog w) A E s (gal l key arr base n hint) Q st:=by
 refine wpS_bind (sn1 c b hh o ?_)
 have tail:∀ lo hi:Nat,lo<=hi->hi<=n->(∀ i,i < lo->B i=true)->(∀ i,hi<=i->i < n->B i=false)->∀ (f:Nat->Option (Option Nat) × Nat × Nat->StateT SortSt Sem (ForInStep (Option (Option Nat) × Nat × Nat))),
     (∀ x lo hi,lo < hi->hi<=n->f x (none,lo,hi)=((elem' arr (base + (lo + (hi - lo) / 2)) >>= λ x=>if l=true then lt' x key else lt' key x >>= λ r=>pure (r.map λ y=>!y)) >>= λ r=>match r with
      | some true=>pure (.yield (none,lo + (hi - lo) / 2 + 1,hi))
      | some false=>pure (.yield (none,lo,lo + (hi - lo) / 2))
      | none=>pure (.done (some none,lo,hi))))->(∀ x lo hi,¬ lo < hi->f x (none,lo,hi)=pure (.done (none,lo,hi))) ->
     wpS (model prog w) A E s (forIn [0:n] (none,lo,hi) f) (λ r st'=>st'=st /\ r.1=none /\ r.2.2<=n /\ (∀ i,i < r.2.2->B i=true) /\ ∀ i,r.2.2<=i->i < n->B i=false) st:=by
  intro lo hi h1 h2 h3 h4 f f1 f2
  refine wpS_forRange (λ x r st'=>st'=st /\ r.1=none /\ r.2.1<=r.2.2 /\ r.2.2<=n /\ r.2.2 - r.2.1<=n - x /\ (∀ i,i < r.2.1->B i=true) /\ ∀ i,r.2.2<=i->i < n->B i=false) ?_ ?_ ⟨rfl,rfl,h1,h2,by show hi - lo<=n - 0; omega,h3,h4⟩
  ·rintro x ⟨r,lo,hi⟩ st' _ hx ⟨rfl,rfl,a1,a2,a3,a4,a5⟩
   dsimp only at a1 a2 a3 a4 a5
   by_cases z:lo < hi
   ·rw [f1 x lo hi z a2]
    have hm:lo + (hi - lo) / 2 < n:=by omega
    refine wpS_bind (sn1 c b hm o ?_)
    cases e:B (lo + (hi - lo) / 2) with
    | true=>exact wpS_pure ⟨rfl,rfl,by show _ + 1<=hi; omega,a2,by show hi - (_ + 1)<=_; omega,λ i hi'=>b.mono i _ (by show i<=_; have:i < _ + 1:=hi'; omega) hm e,a5⟩
    | false=>exact wpS_pure ⟨rfl,rfl,by show lo<=lo + (hi - lo) / 2; omega,by show lo + (hi - lo) / 2<=n; omega,by show lo + (hi - lo) / 2 - lo<=_; omega,a4,λ i h5 h6=>b.no h5 h6 e⟩
   ·rw [f2 x lo hi z]
    have:lo=hi:=by have:lo<=hi:=a1; omega
    subst this
    exact wpS_pure ⟨rfl,rfl,a2,a4,a5⟩
  ·rintro ⟨r,lo,hi⟩ st' ⟨rfl,rfl,a1,a2,a3,a4,a5⟩
   have a1':lo<=hi:=a1
   have a3':hi - lo<=n - max 0 n:=a3
   have:lo=hi:=by omega
   subst this
   exact ⟨rfl,rfl,a2,a4,a5⟩
 have fin:∀ lo hi:Nat,lo<=hi->hi<=n->(∀ i,i < lo->B i=true)->(∀ i,hi<=i->i < n->B i=false)->∀ (f:Nat->Option (Option Nat) × Nat × Nat->StateT SortSt Sem (ForInStep (Option (Option Nat) × Nat × Nat))) (g:Option (Option Nat) × Nat × Nat->StateT SortSt Sem (Option Nat)),
     (∀ x lo hi,lo < hi->hi<=n->f x (none,lo,hi)=((elem' arr (base + (lo + (hi - lo) / 2)) >>= λ x=>if l=true then lt' x key else lt' key x >>= λ r=>pure (r.map λ y=>!y)) >>= λ r=>match r with
      | some true=>pure (.yield (none,lo + (hi - lo) / 2 + 1,hi))
      | some false=>pure (.yield (none,lo,lo + (hi - lo) / 2))
      | none=>pure (.done (some none,lo,hi))))->(∀ x lo hi,¬ lo < hi->f x (none,lo,hi)=pure (.done (none,lo,hi))) ->
     (∀ lo hi,g (none,lo,hi)=pure (some hi))->wpS (model prog w) A E s (forIn [0:n] (none,lo,hi) f >>= g) Q st:=by
  intro lo hi h1 h2 h3 h4 f g f1 f2 g1
  refine wpS_bind (wpS_mono (tail lo hi h1 h2 h3 h4 f f1 f2) ?_)
  rintro ⟨r,lo,hi⟩ st' ⟨rfl,rfl,a2,a4,a5⟩
  rw [g1]
  exact wpS_pure (h hi a2 a4 a5)
 cases e:B hint with
 | true =>
  refine wpS_bind (wpS_mono (wpS_forRange (λ x (r:Option (Option Nat) × Nat × Nat) st'=>st'=st /\ r.1=none /\ r.2.1 < r.2.2 /\ x + 1<=r.2.2 /\ hint + r.2.1 < n /\ B (hint + r.2.1)=true) (Q:=λ (r:Option (Option Nat) × Nat × Nat) st'=>st'=st /\ r.1=none /\ r.2.1 < r.2.2 /\ hint + r.2.1 < n /\ B (hint + r.2.1)=true /\ (n - hint<=r.2.2 \/ (hint + r.2.2 < n /\ B (hint + r.2.2)=false))) ?_ ?_ ⟨rfl,rfl,by decide,by decide,hh,e⟩) ?_)
  ·rintro x ⟨r,la,of⟩ st' _ hx ⟨rfl,rfl,a1,a2,a3,a4⟩
   dsimp only at a1 a2 a3 a4 ⊢
   by_cases z:of ≥ n - hint
   ·rw [if_pos z]
    exact wpS_pure ⟨rfl,rfl,a1,a3,a4,.inl z⟩
   ·rw [if_neg z]
    have hm:hint + of < n:=by omega
    refine wpS_bind (sn1 c b hm o ?_)
    cases e2:B (hint + of) with
    | true=>exact wpS_pure ⟨rfl,rfl,by show of < 2 * of + 1; omega,by show _<=2 * of + 1; omega,hm,e2⟩
    | false=>exact wpS_pure ⟨rfl,rfl,a1,a3,a4,.inr ⟨hm,e2⟩⟩
  ·rintro ⟨r,la,of⟩ st' ⟨rfl,rfl,a1,a2,a3,a4⟩
   exact ⟨rfl,rfl,a1,a3,a4,.inl (by have:max 0 n + 1<=of:=a2; show n - hint<=of; omega)⟩
  ·rintro ⟨r,la,of⟩ st' ⟨rfl,rfl,a1,a3,a4,a5⟩
   dsimp only at a1 a3 a4 a5 ⊢
   refine fin (hint + la + 1) (hint + min of (n - hint)) (by omega) (by omega) (λ i hi=>b.mono i _ (by omega) a3 a4) (λ i h5 h6=>?_) _ _ ?_ ?_ ?_
   ·rcases a5 with z | ⟨z1,z2⟩
    ·omega
    ·exact b.no (by omega) h6 z2
   ·intro x lo hi z _
    dsimp only
    rw [if_neg (by omega)]
    refine congrArg _ (funext λ r=>?_)
    rcases r with _ | _ | _ <;> rfl
   ·intro x lo hi z
    dsimp only
    rw [if_pos (by omega)]
   ·intro lo hi; rfl
 | false =>
  refine wpS_bind (wpS_mono (wpS_forRange (λ x (r:Option (Option Nat) × Nat × Nat) st'=>st'=st /\ r.1=none /\ r.2.1 < r.2.2 /\ x + 1<=r.2.2 /\ r.2.1<=hint /\ B (hint - r.2.1)=false) (Q:=λ (r:Option (Option Nat) × Nat × Nat) st'=>st'=st /\ r.1=none /\ r.2.1 < r.2.2 /\ r.2.1<=hint /\ B (hint - r.2.1)=false /\ (hint + 1<=r.2.2 \/ (r.2.2<=hint /\ B (hint - r.2.2)=true))) ?_ ?_ ⟨rfl,rfl,by decide,by decide,Nat.zero_le _,e⟩) ?_)
  ·rintro x ⟨r,la,of⟩ st' _ hx ⟨rfl,rfl,a1,a2,a3,a4⟩
   dsimp only at a1 a2 a3 a4 ⊢
   by_cases z:of ≥ hint + 1
   ·rw [if_pos z]
    exact wpS_pure ⟨rfl,rfl,a1,a3,a4,.inl z⟩
   ·rw [if_neg z]
    have hm:hint - of < n:=by omega
    refine wpS_bind (sn1 c b hm o ?_)
    cases e2:B (hint - of) with
    | false=>exact wpS_pure ⟨rfl,rfl,by show of < 2 * of + 1; omega,by show _<=2 * of + 1; omega,by show of<=hint; omega,e2⟩
    | true=>exact wpS_pure ⟨rfl,rfl,a1,a3,a4,.inr ⟨by show of<=hint; omega,e2⟩⟩
  ·rintro ⟨r,la,of⟩ st' ⟨rfl,rfl,a1,a2,a3,a4⟩
   exact ⟨rfl,rfl,a1,a3,a4,.inl (by have:max 0 n + 1<=of:=a2; show hint + 1<=of; omega)⟩
  ·rintro ⟨r,la,of⟩ st' ⟨rfl,rfl,a1,a3,a4,a5⟩
   dsimp only at a1 a3 a4 a5 ⊢
   refine fin (hint + 1 - min of (hint + 1)) (hint - la) (by omega) (by omega) (λ i hi=>?_) (λ i h5 h6=>b.no h5 h6 a4) _ _ ?_ ?_ ?_
   ·rcases a5 with z | ⟨z1,z2⟩
    ·omega
    ·exact b.mono i _ (by omega) (by omega) z2
   ·intro x lo hi z _
    dsimp only
    rw [if_neg (by omega)]
    refine congrArg _ (funext λ r=>?_)
    rcases r with _ | _ | _ <;> rfl
   ·intro x lo hi z
    dsimp only
    rw [if_pos (by omega)]
   ·intro lo hi; rfl
end
def mlo:Array Keyed->Array Keyed->StateT SortSt Sem (Array Keyed):=sortPriv% PySem.Builtin.mergeLo
abbrev GR:=Option (Array Keyed) × Array Keyed × Nat × Nat × Nat × Nat × Nat
def galC (a b:Array Keyed) (k1 k:Nat) (u:Array Keyed) (i j g:Nat):StateT SortSt Sem (ForInStep GR) :=
 let nx:Array Keyed->Nat->StateT SortSt Sem (ForInStep GR):=λ u j=>elem' a i >>= λ v =>
  if (i + 1 + 1 == a.size)=true then pure (.done (some (u.push v ++ b.extract j b.size ++ a.extract (i + 1) a.size),u.push v,i + 1,j,g,k1,k))
  else if (decide (k1 < 7) && decide (k < 7))=true then pure (.done (none,u.push v,i + 1,j,g,k1,k)) else pure (.yield (none,u.push v,i + 1,j,g,k1,k))
 if k > 0 then (if (j + k == b.size)=true then pure (.done (some (u ++ b.extract j (j + k) ++ a.extract i a.size ++ b.extract (j + k) b.size),u ++ b.extract j (j + k),i,j + k,g,k1,k)) else nx (u ++ b.extract j (j + k)) (j + k)) else nx u j
theorem yi0 {α:Type} {l:List α} {i:Nat} {x:α} (h:l[i]?=some x):l.drop i=x :: l.drop (i + 1):=by
 obtain ⟨h1,h2⟩:=List.getElem?_eq_some_iff.mp h
 rw [List.drop_eq_getElem_cons h1,h2]
section
variable {lt:Keyed->Keyed->Bool}
structure MI (lt:Keyed->Keyed->Bool) (la lb out:List Keyed) (ia ib:Nat):Prop where
 so:out.Pairwise (le lt)
 xa:∀ x ∈ out,∀ y ∈ la.drop ia,le lt x y
 xb:∀ x ∈ out,∀ y ∈ lb.drop ib,le lt x y
 pm:(out ++ (la.drop ia ++ lb.drop ib)).Perm (la ++ lb)
def Fin (lt:Keyed->Keyed->Bool) (la lb r:List Keyed):Prop:=r.Perm (la ++ lb) /\ r.Pairwise (le lt)
theorem zh1 {l:List Keyed} (h:l.Pairwise (le lt)) {i:Nat} {x:Keyed} (e:l[i]?=some x):∀ y ∈ l.drop (i + 1),le lt x y:=by
 have h2:(l.drop i).Pairwise (le lt):=h.sublist (drop_sublist i l)
 rw [yi0 e] at h2
 exact (List.pairwise_cons.mp h2).1
theorem MI.a {la lb out:List Keyed} {ia ib:Nat} {x:Keyed} (m:MI lt la lb out ia ib) (sa:la.Pairwise (le lt)) (e:la[ia]?=some x) (k:∀ y ∈ lb.drop ib,le lt x y):MI lt la lb (out ++ [x]) (ia + 1) ib:=by
 have d:=yi0 e
 refine ⟨List.pairwise_append.mpr ⟨m.so,pairwise_singleton _ _,λ z hz y hy=>?_⟩,λ z hz y hy=>?_,λ z hz y hy=>?_,?_⟩
 ·rw [mem_singleton] at hy; subst hy
  exact m.xa z hz y (by rw [d]; exact .head _)
 ·rcases List.mem_append.mp hz with hz | hz
  ·exact m.xa z hz y (by rw [d]; exact .tail _ hy)
  ·rw [mem_singleton] at hz; subst hz
   exact zh1 sa e y hy
 ·rcases List.mem_append.mp hz with hz | hz
  ·exact m.xb z hz y hy
  ·rw [mem_singleton] at hz; subst hz
   exact k y hy
 ·have p:=m.pm
  rw [d] at p
  rw [append_assoc]
  exact p
theorem MI.b {la lb out:List Keyed} {ia ib:Nat} {x:Keyed} (m:MI lt la lb out ia ib) (sb:lb.Pairwise (le lt)) (e:lb[ib]?=some x) (k:∀ y ∈ la.drop ia,le lt x y):MI lt la lb (out ++ [x]) ia (ib + 1):=by
 have d:=yi0 e
 refine ⟨List.pairwise_append.mpr ⟨m.so,pairwise_singleton _ _,λ z hz y hy=>?_⟩,λ z hz y hy=>?_,λ z hz y hy=>?_,?_⟩
 ·rw [mem_singleton] at hy; subst hy
  exact m.xb z hz y (by rw [d]; exact .head _)
 ·rcases List.mem_append.mp hz with hz | hz
  ·exact m.xa z hz y hy
  ·rw [mem_singleton] at hz; subst hz
   exact k y hy
 ·rcases List.mem_append.mp hz with hz | hz
  ·exact m.xb z hz y (by rw [d]; exact .tail _ hy)
  ·rw [mem_singleton] at hz; subst hz
   exact zh1 sb e y hy
 ·have p:=m.pm
  rw [d] at p
  rw [append_assoc]
  refine .trans (List.Perm.append_left _ ?_) p
  show (x :: (la.drop ia ++ lb.drop (ib + 1))).Perm _
  exact List.perm_middle.symm
theorem zb1 {α:Type} {l:List α} {i k:Nat} {x:α} (e:l[i + k]?=some x):(l.drop i).take (k + 1)=(l.drop i).take k ++ [x]:=by
 rw [List.take_succ,getElem?_drop,e]; rfl
theorem MI.as {la lb out:List Keyed} {ia ib:Nat} (m:MI lt la lb out ia ib) (sa:la.Pairwise (le lt)):∀ k,ia + k<=la.length->(∀ i x,i < k->la[ia + i]?=some x->∀ y ∈ lb.drop ib,le lt x y)->MI lt la lb (out ++ (la.drop ia).take k) (ia + k) ib
 | 0,_,_=>by rw [take_zero,append_nil]; exact m
 | k + 1,h,q=>by
  have e:la[ia + k]?=some la[ia + k]:=getElem?_eq_getElem (by omega)
  rw [zb1 e,<- append_assoc]
  exact (m.as sa k (by omega) λ i x hi=>q i x (by omega)).a sa e (q k _ (by omega) e)
theorem MI.bs {la lb out:List Keyed} {ia ib:Nat} (m:MI lt la lb out ia ib) (sb:lb.Pairwise (le lt)):∀ k,ib + k<=lb.length->(∀ i x,i < k->lb[ib + i]?=some x->∀ y ∈ la.drop ia,le lt x y)->MI lt la lb (out ++ (lb.drop ib).take k) ia (ib + k)
 | 0,_,_=>by rw [take_zero,append_nil]; exact m
 | k + 1,h,q=>by
  have e:lb[ib + k]?=some lb[ib + k]:=getElem?_eq_getElem (by omega)
  rw [zb1 e,<- append_assoc]
  exact (m.bs sb k (by omega) λ i x hi=>q i x (by omega)).b sb e (q k _ (by omega) e)
theorem MI.endB {la lb out:List Keyed} {ia ib:Nat} (m:MI lt la lb out ia ib) (sa:la.Pairwise (le lt)) (h:lb.length<=ib):Fin lt la lb (out ++ la.drop ia ++ lb.drop ib):=by
 have e:lb.drop ib=[]:=drop_eq_nil_of_le h
 have p:=m.pm
 rw [e] at p ⊢
 rw [append_nil] at p ⊢
 exact ⟨p,List.pairwise_append.mpr ⟨m.so,sa.sublist (drop_sublist _ _),m.xa⟩⟩
theorem MI.endA {la lb out:List Keyed} {ia ib:Nat} (m:MI lt la lb out ia ib) (sb:lb.Pairwise (le lt)) (h:la.length<=ia):Fin lt la lb (out ++ la.drop ia ++ lb.drop ib):=by
 have e:la.drop ia=[]:=drop_eq_nil_of_le h
 have p:=m.pm
 rw [e] at p ⊢
 rw [append_nil]
 exact ⟨p,List.pairwise_append.mpr ⟨m.so,sb.sublist (drop_sublist _ _),m.xb⟩⟩
theorem MI.last {la lb out:List Keyed} {ia ib:Nat} (m:MI lt la lb out ia ib) (sb:lb.Pairwise (le lt)) (h:ia + 1=la.length) (k:∀ x,la[la.length - 1]?=some x->∀ y ∈ lb,le lt y x):Fin lt la lb (out ++ lb.drop ib ++ la.drop ia):=by
 have e:la[ia]?=some la[ia]:=getElem?_eq_getElem (by omega)
 have d:=yi0 e
 have e2:la.drop (ia + 1)=[]:=drop_eq_nil_of_le (by omega)
 rw [e2] at d
 refine ⟨?_,?_⟩
 ·refine .trans ?_ m.pm
  rw [append_assoc]
  exact List.Perm.append_left _ List.perm_append_comm
 ·rw [append_assoc]
  refine List.pairwise_append.mpr ⟨m.so,List.pairwise_append.mpr ⟨sb.sublist (drop_sublist _ _),?_,λ x hx y hy=>?_⟩,λ x hx y hy=>?_⟩
  ·rw [d]; exact pairwise_singleton _ _
  ·rw [d,mem_singleton] at hy
   subst hy
   exact k _ (by rw [show la.length - 1=ia by omega]; exact e) x (mem_of_mem_drop hx)
  ·rcases List.mem_append.mp hy with hy | hy
   ·exact m.xb x hx y hy
   ·exact m.xa x hx y hy
def Mid (lt:Keyed->Keyed->Bool) (la lb:List Keyed) (n:Nat) (r:Option (Array Keyed)) (out:Array Keyed) (ia ib:Nat):Prop:=match r with
 | some z=>Fin lt la lb z.toList
 | none=>MI lt la lb out.toList ia ib /\ ia + 1 < la.length /\ ib < lb.length /\ n<=ia + ib
end
structure Same (κ:SortKind) (st0 st:SortSt):Prop where
 ok:Ok κ st
 ar:arrOf st=arrOf st0
 pe:pendingOf st=pendingOf st0
theorem wh0 (a:Array Keyed) (i:Nat):(a.extract i a.size).toList=a.toList.drop i:=by
 rw [toList_extract]
 simp only [List.extract]
 exact take_of_length_le (by rw [length_drop,length_toList]; omega)
theorem uj3 (a:Array Keyed) (i k:Nat):(a.extract i (i + k)).toList=(a.toList.drop i).take k:=by
 rw [toList_extract]
 simp [List.extract]
section
variable {prog:Program} {w:World} {A:Around} {E:Value->Shared->Prop} {s:Shared} {κ:SortKind}
variable {lt:Keyed->Keyed->Bool} {M:Keyed->Prop}
theorem sd0 {a:Array Keyed} {i:Nat} (h:i < a.toList.length):∃ x,a[i]?=some x /\ a.toList[i]?=some x /\ x ∈ a.toList:=by
 refine ⟨a.toList[i],?_,getElem?_eq_getElem h,getElem_mem h⟩
 rw [<- getElem?_toList,getElem?_eq_getElem h]
theorem getD_some {l:List Keyed} {i:Nat} {x d:Keyed} (h:l[i]?=some x):l.getD i d=x:=by rw [getD_eq_getElem?_getD,h]; rfl
theorem xo0 {l:List Keyed} (h:l.Pairwise (le lt)) {i j:Nat} {x y:Keyed} (hij:i < j) (ex:l[i]?=some x) (ey:l[j]?=some y):le lt x y:=by
 obtain ⟨h1,rfl⟩:=List.getElem?_eq_some_iff.mp ex
 obtain ⟨h2,rfl⟩:=List.getElem?_eq_some_iff.mp ey
 exact List.pairwise_iff_getElem.mp h i j h1 h2 hij
theorem byF (c:Cm prog w A s κ lt M) {a:Array Keyed} (ma:∀ x ∈ a.toList,M x) {key:Keyed} {ia n:Nat} (hn:ia + n<=a.size) (mk:M key) (sa:a.toList.Pairwise (le lt)):By lt M false key a ia n (λ i=>!lt key (a.toList.getD (ia + i) key)) where
 ky:=mk
 it:=λ i hi=>by
  obtain ⟨x,e1,e2,e3⟩:=sd0 (a:=a) (i:=ia + i) (by rw [length_toList]; omega)
  exact ⟨x,e1,ma x e3,by rw [getD_some e2,if_neg (by simp)]⟩
 mono:=λ i j hij hj h=>by
  by_cases z:i=j
  ·subst z; exact h
  obtain ⟨x,_,e2,_⟩:=sd0 (a:=a) (i:=ia + i) (by rw [length_toList]; omega)
  obtain ⟨y,_,e5,_⟩:=sd0 (a:=a) (i:=ia + j) (by rw [length_toList]; omega)
  have l:=xo0 sa (show ia + i < ia + j by omega) e2 e5
  rw [getD_some e5] at h
  rw [getD_some e2]
  have h':le lt y key:=(by simpa using h:lt key y=false)
  have q:lt key x=false:=c.le_tr l h'
  simpa using q
theorem byT (c:Cm prog w A s κ lt M) {a:Array Keyed} (ma:∀ x ∈ a.toList,M x) {key:Keyed} {ia n:Nat} (hn:ia + n<=a.size) (mk:M key) (sa:a.toList.Pairwise (le lt)):By lt M true key a ia n (λ i=>lt (a.toList.getD (ia + i) key) key) where
 ky:=mk
 it:=λ i hi=>by
  obtain ⟨x,e1,e2,e3⟩:=sd0 (a:=a) (i:=ia + i) (by rw [length_toList]; omega)
  exact ⟨x,e1,ma x e3,by rw [getD_some e2,if_pos rfl]⟩
 mono:=λ i j hij hj h=>by
  by_cases z:i=j
  ·subst z; exact h
  obtain ⟨x,_,e2,_⟩:=sd0 (a:=a) (i:=ia + i) (by rw [length_toList]; omega)
  obtain ⟨y,_,e5,_⟩:=sd0 (a:=a) (i:=ia + j) (by rw [length_toList]; omega)
  have l:=xo0 sa (show ia + i < ia + j by omega) e2 e5
  rw [getD_some e5] at h
  rw [getD_some e2]
  rcases c.ng y x key h with q | q
  ·rw [show lt y x=false from l] at q; cases q
  ·exact q
def Pst (κ:SortKind) (lt:Keyed->Keyed->Bool) (a b:Array Keyed) (st:SortSt) (x:Nat):ForInStep GR->SortSt->Prop:=λ r st'=>match r with
 | .done c'=>Same κ st st' /\ Mid lt a.toList b.toList (x + 2) c'.1 c'.2.1 c'.2.2.1 c'.2.2.2.1
 | .yield c'=>Same κ st st' /\ c'.1=none /\ Mid lt a.toList b.toList (x + 2) none c'.2.1 c'.2.2.1 c'.2.2.2.1
theorem xu2 {α:Type} {Md:Model} {A:Around} {E:Value->Shared->Prop} {s:Shared} {C:Nat->Prop} [I:∀ g,Decidable (C g)] {t e:Nat->StateT SortSt Sem α} {Q:α->SortSt->Prop} {st:SortSt} (ht:∀ g,t g=e (g - 1)) (h:∀ g,wpS Md A E s (e g) Q st) (g:Nat):wpS Md A E s (@ite _ (C g) (I g) (t g) (e g)) Q st:=by
 by_cases q:C g
 ·rw [if_pos q,ht]; exact h _
 ·rw [if_neg q]; exact h _
theorem ul4 (c:Cm prog w A s κ lt M) {a b:Array Keyed} {st:SortSt} {Q:Array Keyed->SortSt->Prop} (o:Ok κ st) (ma:∀ x ∈ a.toList,M x) (mb:∀ x ∈ b.toList,M x) (sa:a.toList.Pairwise (le lt)) (sb:b.toList.Pairwise (le lt))
    (na:0 < a.toList.length) (nb:0 < b.toList.length) (h0:∀ x y,b.toList[0]?=some x->a.toList[0]?=some y->le lt x y) (hl:∀ x,a.toList[a.toList.length - 1]?=some x->∀ y ∈ b.toList,le lt y x)
    (h:∀ r st',Same κ st st'->Fin lt a.toList b.toList r.toList->Q r st'):wpS (model prog w) A E s (mlo a b) Q st:=by
 refine wpS_bind (wpS_lift (wpAny_rule ⟨rfl,?_⟩))
 obtain ⟨b0,eb,eb',hb0⟩:=sd0 (a:=b) nb
 refine wpS_bind (wd0 eb ?_)
 dsimp only
 obtain ⟨a0,ea,ea',ha0⟩:=sd0 (a:=a) na
 have dn:∀ {l:List Keyed} {x:Keyed} {i:Nat},l.Pairwise (le lt)->l[i]?=some x->∀ z,le lt z x->∀ y ∈ l.drop i,le lt z y:=by
  intro l x i sl e z hz y hy
  rw [yi0 e] at hy
  rcases List.mem_cons.mp hy with rfl | hy
  ·exact hz
  ·exact c.le_tr hz (zh1 sl e y hy)
 have m0:MI lt a.toList b.toList #[b0].toList 0 1:=by
  have m:MI lt a.toList b.toList [] 0 0:=⟨List.Pairwise.nil,λ _ h=>(nomatch h),λ _ h=>(nomatch h),.refl _⟩
  exact m.b sb eb' (dn sa ea' b0 (h0 _ _ eb' ea'))
 have doneB:∀ {out:Array Keyed} {ia ib:Nat},MI lt a.toList b.toList out.toList ia ib->b.size<=ib->Fin lt a.toList b.toList (out ++ a.extract ia a.size ++ b.extract ib b.size).toList:=by
  intro out ia ib m hi
  rw [toList_append,toList_append,wh0,wh0]
  exact m.endB sa hi
 have doneA:∀ {out:Array Keyed} {ia ib:Nat},MI lt a.toList b.toList out.toList ia ib->a.size<=ia->Fin lt a.toList b.toList (out ++ a.extract ia a.size ++ b.extract ib b.size).toList:=by
  intro out ia ib m hi
  rw [toList_append,toList_append,wh0,wh0]
  exact m.endA sb hi
 have lastA:∀ {out:Array Keyed} {ia ib:Nat},MI lt a.toList b.toList out.toList ia ib->ia + 1=a.size->Fin lt a.toList b.toList (out ++ b.extract ib b.size ++ a.extract ia a.size).toList:=by
  intro out ia ib m hi
  rw [toList_append,toList_append,wh0,wh0]
  exact m.last sb hi hl
 have sza:a.toList.length=a.size:=length_toList
 have szb:b.toList.length=b.size:=length_toList
 have nxA:∀ (x k1 k2 g:Nat) (out:Array Keyed) (i j:Nat) (st3:SortSt),Same κ st st3->MI lt a.toList b.toList out.toList i j->i + 1 < a.size->j < b.size->x + 2<=i + j + 1->(∀ v,a.toList[i]?=some v->∀ y ∈ b.toList.drop j,le lt v y) ->
     wpS (model prog w) A E s (elem' a i >>= λ v=>if (i + 1 + 1 == a.size)=true then pure (.done (some (out.push v ++ b.extract j b.size ++ a.extract (i + 1) a.size),out.push v,i + 1,j,g,k1,k2))
      else if (decide (k1 < 7) && decide (k2 < 7))=true then pure (.done (none,out.push v,i + 1,j,g,k1,k2)) else pure (.yield (none,out.push v,i + 1,j,g,k1,k2))) (Pst κ lt a b st x) st3:=by
  intro x k1 k2 g out i j st3 s3 m h1 h2 h3 hle
  obtain ⟨va,e4,e5,e6⟩:=sd0 (a:=a) (i:=i) (by omega)
  refine wpS_bind (wd0 e4 ?_)
  have m':=m.a sa e5 (hle va e5)
  rw [<- toList_push] at m'
  by_cases z:(i + 1 + 1 == a.size)=true
  ·rw [if_pos z]
   exact wpS_pure ⟨s3,lastA m' (eq_of_beq z)⟩
  ·rw [if_neg z]
   have z':i + 1 + 1 ≠ a.size:=λ e=>z (beq_iff_eq.mpr e)
   by_cases y1:(decide (k1 < 7) && decide (k2 < 7))=true
   ·rw [if_pos y1]
    exact wpS_pure ⟨s3,m',by show i + 1 + 1 < _; omega,by show j < _; omega,by show _<=i + 1 + j; omega⟩
   ·rw [if_neg y1]
    exact wpS_pure ⟨s3,rfl,m',by show i + 1 + 1 < _; omega,by show j < _; omega,by show _<=i + 1 + j; omega⟩
 have nxB:∀ (x k bc g:Nat) (out:Array Keyed) {i j:Nat} {st3:SortSt} {vb:Keyed},Same κ st st3->MI lt a.toList b.toList out.toList i j->i + 1 < a.size->j < b.toList.length->x + 2<=i + j->b[j]?=some vb->b.toList[j]?=some vb->(∀ y ∈ a.toList.drop i,le lt vb y) ->
     ∀ (G:Keyed->Keyed->Option Nat->StateT SortSt Sem (ForInStep GR)),(∀ v y k2,G v y (some k2)=galC a b k k2 (out.push v) i (j + 1) g) ->
     wpS (model prog w) A E s (elem' b j >>= λ v=>if (j + 1 == b.size)=true then pure (.done (some (out.push v ++ a.extract i a.size ++ b.extract (j + 1) b.size),out.push v,i,j + 1,g,k,bc))
      else elem' a i >>= λ y=>gal true y b (j + 1) (b.size - (j + 1)) 0 >>= G v y) (Pst κ lt a b st x) st3:=by
  intro x k bc g out i j st3 vb s3 m h1 h2 h3 e1 e2 lo G hG
  refine wpS_bind (wd0 e1 ?_)
  have m':=m.b sb e2 lo
  rw [<- toList_push] at m'
  by_cases z:(j + 1 == b.size)=true
  ·rw [if_pos z]
   exact wpS_pure ⟨s3,doneB m' (Nat.le_of_eq (eq_of_beq z).symm)⟩
  ·rw [if_neg z]
   have z':j + 1 ≠ b.size:=λ e=>z (beq_iff_eq.mpr e)
   obtain ⟨va,e4,e5,e6⟩:=sd0 (a:=a) (i:=i) (by omega)
   refine wpS_bind (wd0 e4 ?_)
   refine wpS_bind (xw0 c s3.ok (byT c mb (by omega) (ma _ e6) sb) (by omega) λ k2 q1 q2 q3=>?_)
   rw [hG]
   unfold galC
   dsimp only
   have mk:=m'.bs sb k2 (by omega) λ i y hi ey=>dn sa e5 y (by
    have q:=q2 i hi
    rw [getD_some ey] at q
    exact c.lt_le q)
   have lo2:∀ v,a.toList[i]?=some v->∀ y ∈ b.toList.drop (j + 1 + k2),le lt v y:=by
    intro v ev y hy
    rw [e5] at ev
    cases ev
    obtain ⟨n,hn,ey⟩:=List.mem_drop_iff_getElem.mp hy
    have q:=q3 (k2 + n) (by omega) (by omega)
    rw [getD_some (x:=y) (by rw [show j + 1 + (k2 + n)=j + 1 + k2 + n by omega,getElem?_eq_getElem (by omega)]; exact congrArg some ey)] at q
    exact q
   by_cases kp:k2 > 0
   ·rw [if_pos kp]
    rw [<- uj3,<- toList_append] at mk
    by_cases zz:(j + 1 + k2 == b.size)=true
    ·rw [if_pos zz]
     exact wpS_pure ⟨s3,doneB mk (Nat.le_of_eq (eq_of_beq zz).symm)⟩
    ·rw [if_neg zz]
     have zz':j + 1 + k2 ≠ b.size:=λ e=>zz (beq_iff_eq.mpr e)
     exact nxA x _ _ _ _ _ _ _ s3 mk h1 (by omega) (by omega) lo2
   ·rw [if_neg kp]
    have k0:k2=0:=by omega
    subst k0
    exact nxA x _ _ _ _ _ _ _ s3 m' h1 (by omega) (by omega) lo2
 by_cases z1:(1 == b.size)=true
 ·rw [if_pos z1]
  exact wpS_pure (h _ _ ⟨o,rfl,rfl⟩ (doneB m0 (by have:=eq_of_beq z1; omega)))
 rw [if_neg z1]
 by_cases z2:(0 + 1 == a.size)=true
 ·rw [if_pos z2]
  exact wpS_pure (h _ _ ⟨o,rfl,rfl⟩ (lastA m0 (eq_of_beq z2)))
 rw [if_neg z2]
 have n1:b.size ≠ 1:=λ e=>z1 (beq_iff_eq.mpr e.symm)
 have n2:a.size ≠ 1:=λ e=>z2 (beq_iff_eq.mpr e.symm)
 refine wpS_bind (wpS_get ?_)
 refine wpS_bind (wpS_mono (wpS_forRange (λ x (r:Option (Array Keyed) × Array Keyed × Nat × Nat × Nat) st'=>Same κ st st' /\ r.1=none /\ Mid lt a.toList b.toList (x + 1) none r.2.1 r.2.2.1 r.2.2.2.1)
  (Q:=λ (r:Option (Array Keyed) × Array Keyed × Nat × Nat × Nat) st'=>Same κ st st' /\ ∃ z,r.1=some z /\ Fin lt a.toList b.toList z.toList) ?_ ?_ ⟨⟨o,rfl,rfl⟩,rfl,m0,by show 0 + 1 < _; omega,by show 1 < _; omega,Nat.le_refl 1⟩) ?_)
 ·rintro x ⟨r,out,ia,ib,mg⟩ st1 _ hx ⟨s1,rfl,mi⟩
  dsimp only at mi ⊢
  refine wpS_bind (wpS_mono (wpS_forRange (λ y (r:Option (Array Keyed) × Array Keyed × Nat × Nat × Nat × Nat) st'=>Same κ st st' /\ r.1=none /\ Mid lt a.toList b.toList (x + 1 + y) none r.2.1 r.2.2.1 r.2.2.2.1)
   (Q:=λ (r:Option (Array Keyed) × Array Keyed × Nat × Nat × Nat × Nat) st'=>Same κ st st' /\ Mid lt a.toList b.toList (x + 2) r.1 r.2.1 r.2.2.1 r.2.2.2.1) ?_ ?_ ⟨s1,rfl,mi⟩) ?_)
  ·rintro y ⟨r,out,ia,ib,ac,bc⟩ st2 _ hy ⟨s2,rfl,m,i1,i2,i3⟩
   dsimp only at m i1 i2 i3 ⊢
   obtain ⟨vb,e1,e2,e3⟩:=sd0 (a:=b) i2
   obtain ⟨va,e4,e5,e6⟩:=sd0 (a:=a) (i:=ia) (by omega)
   refine wpS_bind (wd0 e1 (wpS_bind (wd0 e4 (wpS_bind (yc2 c s2.ok (mb _ e3) (ma _ e6) ?_)))))
   cases q:lt vb va with
   | true =>
    dsimp only
    rw [if_pos rfl]
    refine wpS_bind (wd0 e1 ?_)
    have m':=m.b sb e2 (dn sa e5 vb (c.lt_le q))
    rw [<- toList_push] at m'
    by_cases z:(ib + 1 == b.size)=true
    ·rw [if_pos z]
     exact wpS_pure ⟨s2,doneB m' (Nat.le_of_eq (eq_of_beq z).symm)⟩
    ·rw [if_neg z]
     have z':ib + 1 ≠ b.size:=λ e=>z (beq_iff_eq.mpr e)
     by_cases y1:bc + 1 ≥ mg
     ·rw [if_pos y1]
      exact wpS_pure ⟨s2,m',i1,by show ib + 1 < _; omega,by show _<=ia + (ib + 1); omega⟩
     ·rw [if_neg y1]
      exact wpS_pure ⟨s2,rfl,m',i1,by show ib + 1 < _; omega,by show _<=ia + (ib + 1); omega⟩
   | false =>
    dsimp only
    rw [if_neg (by simp)]
    refine wpS_bind (wd0 e4 ?_)
    have m':=m.a sa e5 (dn sb e2 va q)
    rw [<- toList_push] at m'
    by_cases z:(ia + 1 + 1 == a.size)=true
    ·rw [if_pos z]
     exact wpS_pure ⟨s2,lastA m' (eq_of_beq z)⟩
    ·rw [if_neg z]
     have z':ia + 1 + 1 ≠ a.size:=λ e=>z (beq_iff_eq.mpr e)
     by_cases y1:ac + 1 ≥ mg
     ·rw [if_pos y1]
      exact wpS_pure ⟨s2,m',by show ia + 1 + 1 < _; omega,i2,by show _<=ia + 1 + ib; omega⟩
     ·rw [if_neg y1]
      exact wpS_pure ⟨s2,rfl,m',by show ia + 1 + 1 < _; omega,i2,by show _<=ia + 1 + ib; omega⟩
  ·rintro ⟨r,out,ia,ib,ac,bc⟩ st2 ⟨s2,rfl,m,i1,i2,i3⟩
   exact ⟨s2,m,i1,i2,by omega⟩
  ·rintro ⟨r,out,ia,ib,ac,bc⟩ st2 ⟨s2,mm⟩
   dsimp only at mm ⊢
   cases r with
   | some z=>exact wpS_pure ⟨s2,z,rfl,mm⟩
   | none =>
    dsimp only
    refine wpS_bind (wpS_lift (wpAny_rule ⟨rfl,?_⟩))
    refine wpS_bind (wpS_mono (wpS_forRange (λ y (r:Option (Array Keyed) × Array Keyed × Nat × Nat × Nat × Nat × Nat) st'=>Same κ st st' /\ r.1=none /\ Mid lt a.toList b.toList (x + 2) none r.2.1 r.2.2.1 r.2.2.2.1)
     (Q:=λ (r:Option (Array Keyed) × Array Keyed × Nat × Nat × Nat × Nat × Nat) st'=>Same κ st st' /\ Mid lt a.toList b.toList (x + 2) r.1 r.2.1 r.2.2.1 r.2.2.2.1) ?_ ?_ ⟨s2,rfl,mm⟩) ?_)
    ·rintro y ⟨r,out,ia,ib,mg,ac,bc⟩ st3 _ hy ⟨s3,rfl,m,i1,i2,i3⟩
     dsimp only at m i1 i2 i3 ⊢
     have s3':∀ g:Nat,Same κ st (SortSt.mk' (kindOf st3) (arrOf st3) (pendingOf st3) g (failedOf st3)):=λ g=>⟨⟨s3.ok.kd,s3.ok.fl⟩,s3.ar,s3.pe⟩
     obtain ⟨vb,e1,e2,e3⟩:=sd0 (a:=b) i2
     revert mg
     refine xu2 (λ _=>rfl) λ mg=>?_
     refine wpS_bind (wpS_modify ?_)
     refine wpS_bind (wd0 e1 ?_)
     refine wpS_bind (xw0 c (s3' _).ok (byF c ma (by omega) (mb _ e3) sa) (by omega) λ k k1 k2 k3=>?_)
     dsimp only
     have mk:=m.as sa k (by omega) λ i y hi ey=>dn sb e2 y (by
      have q:=k2 i hi
      rw [getD_some ey] at q
      exact (by simpa using q:lt vb y=false))
     have lo:∀ y ∈ a.toList.drop (ia + k),le lt vb y:=by
      intro y hy
      obtain ⟨i,hi,ey⟩:=List.mem_drop_iff_getElem.mp hy
      have q:=k3 (k + i) (by omega) (by omega)
      rw [getD_some (x:=y) (by rw [show ia + (k + i)=ia + k + i by omega,getElem?_eq_getElem (by omega)]; exact congrArg some ey)] at q
      exact c.lt_le (by simpa using q)
     by_cases kp:k > 0
     ·rw [if_pos kp]
      have mk':=mk
      rw [<- uj3,<- toList_append] at mk'
      by_cases z:(ia + k + 1 == a.size)=true
      ·rw [if_pos z]
       exact wpS_pure ⟨s3' _,lastA mk' (eq_of_beq z)⟩
      ·rw [if_neg z]
       have z':ia + k + 1 ≠ a.size:=λ e=>z (beq_iff_eq.mpr e)
       by_cases zz:(ia + k == a.size)=true
       ·rw [if_pos zz]
        exact wpS_pure ⟨s3' _,doneA mk' (Nat.le_of_eq (eq_of_beq zz).symm)⟩
       ·rw [if_neg zz]
        have zz':ia + k ≠ a.size:=λ e=>zz (beq_iff_eq.mpr e)
        refine wpS_mono (nxB x k bc _ _ (s3' _) mk' (by omega) i2 (by omega) e1 e2 lo _ ?_) ?_
        ·intro _ _ _; rfl
        ·intro r st' q; cases r <;> exact q
     ·rw [if_neg kp]
      have k0:k=0:=by omega
      subst k0
      rw [take_zero,append_nil] at mk
      refine wpS_mono (nxB x 0 bc _ _ (s3' _) m (by omega) i2 (by omega) e1 e2 lo _ ?_) ?_
      ·intro _ _ _; rfl
      ·intro r st' q; cases r <;> exact q
    ·rintro ⟨r,out,ia,ib,mg,ac,bc⟩ st3 ⟨s3,rfl,m,i1,i2,i3⟩
     exact ⟨s3,m,i1,i2,i3⟩
    ·rintro ⟨r,out,ia,ib,mg,ac,bc⟩ st3 ⟨s3,mm⟩
     dsimp only at mm ⊢
     cases r with
     | some z=>exact wpS_pure ⟨s3,z,rfl,mm⟩
     | none =>
      dsimp only
      exact wpS_bind (wpS_modify (wpS_pure ⟨⟨⟨s3.ok.kd,s3.ok.fl⟩,s3.ar,s3.pe⟩,rfl,mm⟩))
 ·rintro ⟨r,out,ia,ib,mg⟩ st1 ⟨s1,rfl,m,i1,i2,i3⟩
  exfalso
  dsimp only at i1 i2 i3
  omega
 ·rintro ⟨r,out,ia,ib,mg⟩ st1 ⟨s1,z,e,f⟩
  dsimp only at e ⊢
  subst e
  exact wpS_pure (h z st1 s1 f)
end
def mhi:Array Keyed->Array Keyed->StateT SortSt Sem (Array Keyed):=sortPriv% PySem.Builtin.mergeHi
section
variable {lt:Keyed->Keyed->Bool}
theorem ve0 {α:Type} {l:List α} {i:Nat} {x:α} (h:l[i]?=some x):l.take (i + 1)=l.take i ++ [x]:=by rw [List.take_succ,h]; rfl
theorem xm1 {α:Type} {l:List α} {i n:Nat} {x:α} (h:l[i]?=some x) (hi:i < n):x ∈ l.take n:=List.mem_iff_getElem?.mpr ⟨i,by rw [getElem?_take_of_lt hi]; exact h⟩
structure MH (lt:Keyed->Keyed->Bool) (la lb ro:List Keyed) (na nb:Nat):Prop where
 so:ro.Pairwise (le lt)
 xa:∀ x ∈ la.take na,∀ y ∈ ro,le lt x y
 xb:∀ x ∈ lb.take nb,∀ y ∈ ro,le lt x y
 pm:(la.take na ++ (lb.take nb ++ ro)).Perm (la ++ lb)
theorem sy2 {l:List Keyed} (h:l.Pairwise (le lt)) {n:Nat} {x:Keyed} (e:l[n]?=some x):∀ z ∈ l.take n,le lt z x:=by
 intro z hz
 obtain ⟨i,hi,ez⟩:=List.mem_take_iff_getElem.mp hz
 exact xo0 h (by omega) (List.getElem?_eq_some_iff.mpr ⟨by omega,ez⟩) e
theorem MH.a {la lb ro:List Keyed} {n nb:Nat} {x:Keyed} (m:MH lt la lb ro (n + 1) nb) (sa:la.Pairwise (le lt)) (e:la[n]?=some x) (k:∀ y ∈ lb.take nb,le lt y x):MH lt la lb (x :: ro) n nb:=by
 have d:=ve0 e
 refine ⟨List.pairwise_cons.mpr ⟨λ y hy=>m.xa x (xm1 e (by omega)) y hy,m.so⟩,λ z hz y hy=>?_,λ z hz y hy=>?_,?_⟩
 ·rcases List.mem_cons.mp hy with rfl | hy
  ·exact sy2 sa e z hz
  ·exact m.xa z (by rw [d]; exact mem_append_left _ hz) y hy
 ·rcases List.mem_cons.mp hy with rfl | hy
  ·exact k z hz
  ·exact m.xb z hz y hy
 ·refine .trans ?_ m.pm
  rw [d,append_assoc]
  refine List.Perm.append_left _ ?_
  exact List.perm_middle
theorem MH.b {la lb ro:List Keyed} {na n:Nat} {x:Keyed} (m:MH lt la lb ro na (n + 1)) (sb:lb.Pairwise (le lt)) (e:lb[n]?=some x) (k:∀ y ∈ la.take na,le lt y x):MH lt la lb (x :: ro) na n:=by
 have d:=ve0 e
 refine ⟨List.pairwise_cons.mpr ⟨λ y hy=>m.xb x (xm1 e (by omega)) y hy,m.so⟩,λ z hz y hy=>?_,λ z hz y hy=>?_,?_⟩
 ·rcases List.mem_cons.mp hy with rfl | hy
  ·exact k z hz
  ·exact m.xa z hz y hy
 ·rcases List.mem_cons.mp hy with rfl | hy
  ·exact sy2 sb e z hz
  ·exact m.xb z (by rw [d]; exact mem_append_left _ hz) y hy
 ·have p:=m.pm
  rw [d,append_assoc] at p
  exact p
theorem MH.as {la lb:List Keyed} {nb:Nat} (sa:la.Pairwise (le lt)) {at_:Nat}:∀ (k:Nat) {ro:List Keyed},MH lt la lb ro (at_ + k) nb->at_ + k<=la.length->(∀ i x,at_<=i->i < at_ + k->la[i]?=some x->∀ y ∈ lb.take nb,le lt y x)->MH lt la lb ((la.take (at_ + k)).drop at_ ++ ro) at_ nb
 | 0,ro,m,_,_=>by
  have e:(la.take (at_ + 0)).drop at_=[]:=drop_eq_nil_of_le (by rw [length_take]; omega)
  rw [e]
  exact m
 | k + 1,ro,m,h,q=>by
  have e:la[at_ + k]?=some la[at_ + k]:=getElem?_eq_getElem (by omega)
  have m2:=MH.a (n:=at_ + k) m sa e (q _ _ (by omega) (by omega) e)
  have r:=MH.as sa k m2 (by omega) λ i x h1 h2=>q i x h1 (by omega)
  have e2:(la.take (at_ + (k + 1))).drop at_=(la.take (at_ + k)).drop at_ ++ [la[at_ + k]]:=by
   rw [show at_ + (k + 1)=at_ + k + 1 from rfl,ve0 e,List.drop_append_of_le_length (by rw [length_take]; omega)]
  rw [e2,append_assoc]
  exact r
theorem MH.bs {la lb:List Keyed} {na:Nat} (sb:lb.Pairwise (le lt)) {at_:Nat}:∀ (k:Nat) {ro:List Keyed},MH lt la lb ro na (at_ + k)->at_ + k<=lb.length->(∀ i x,at_<=i->i < at_ + k->lb[i]?=some x->∀ y ∈ la.take na,le lt y x)->MH lt la lb ((lb.take (at_ + k)).drop at_ ++ ro) na at_
 | 0,ro,m,_,_=>by
  have e:(lb.take (at_ + 0)).drop at_=[]:=drop_eq_nil_of_le (by rw [length_take]; omega)
  rw [e]
  exact m
 | k + 1,ro,m,h,q=>by
  have e:lb[at_ + k]?=some lb[at_ + k]:=getElem?_eq_getElem (by omega)
  have m2:=MH.b (n:=at_ + k) m sb e (q _ _ (by omega) (by omega) e)
  have r:=MH.bs sb k m2 (by omega) λ i x h1 h2=>q i x h1 (by omega)
  have e2:(lb.take (at_ + (k + 1))).drop at_=(lb.take (at_ + k)).drop at_ ++ [lb[at_ + k]]:=by
   rw [show at_ + (k + 1)=at_ + k + 1 from rfl,ve0 e,List.drop_append_of_le_length (by rw [length_take]; omega)]
  rw [e2,append_assoc]
  exact r
theorem MH.endA {la lb ro:List Keyed} {nb:Nat} (m:MH lt la lb ro 0 nb) (sb:lb.Pairwise (le lt)):Fin lt la lb (la.take 0 ++ lb.take nb ++ ro):=by
 have p:=m.pm
 rw [take_zero,nil_append] at p ⊢
 exact ⟨p,List.pairwise_append.mpr ⟨sb.sublist (take_sublist _ _),m.so,m.xb⟩⟩
theorem MH.endB {la lb ro:List Keyed} {na:Nat} (m:MH lt la lb ro na 0) (sa:la.Pairwise (le lt)):Fin lt la lb (la.take na ++ lb.take 0 ++ ro):=by
 have p:=m.pm
 rw [take_zero,nil_append] at p
 rw [take_zero,append_nil]
 exact ⟨p,List.pairwise_append.mpr ⟨sa.sublist (take_sublist _ _),m.so,m.xa⟩⟩
theorem MH.first {la lb ro:List Keyed} {na:Nat} (m:MH lt la lb ro na 1) (sa:la.Pairwise (le lt)) (hb:0 < lb.length) (k:∀ x,lb[0]?=some x->∀ y ∈ la,le lt x y):Fin lt la lb (lb.take 1 ++ la.take na ++ ro):=by
 have e:lb[0]?=some lb[0]:=getElem?_eq_getElem hb
 have d:=ve0 e
 rw [take_zero,nil_append] at d
 refine ⟨?_,?_⟩
 ·refine .trans ?_ m.pm
  rw [<- append_assoc]
  exact List.Perm.append_right _ List.perm_append_comm
 ·refine List.pairwise_append.mpr ⟨List.pairwise_append.mpr ⟨?_,sa.sublist (take_sublist _ _),λ x hx y hy=>?_⟩,m.so,λ x hx y hy=>?_⟩
  ·rw [d]; exact pairwise_singleton _ _
  ·rw [d,mem_singleton] at hx
   subst hx
   exact k _ e y (mem_of_mem_take hy)
  ·rcases List.mem_append.mp hx with hx | hx
   ·exact m.xb x hx y hy
   ·exact m.xa x hx y hy
def MidH (lt:Keyed->Keyed->Bool) (la lb:List Keyed) (n:Nat) (r:Option (Array Keyed)) (na nb:Nat) (out:Array Keyed):Prop:=match r with
 | some z=>Fin lt la lb z.toList
 | none=>MH lt la lb out.toList.reverse na nb /\ 0 < na /\ na<=la.length /\ 1 < nb /\ nb<=lb.length /\ na + nb + n<=la.length + lb.length
end
theorem ext0 (a:Array Keyed) (n:Nat):(a.extract 0 n).toList=a.toList.take n:=by
 rw [toList_extract]
 simp [List.extract]
theorem vj3 (a:Array Keyed) (i n:Nat):(a.extract i n).toList=(a.toList.take n).drop i:=by
 rw [toList_extract,List.extract_eq_drop_take,List.drop_take]
theorem vp0 (u:Array Keyed) (v:Keyed):(u.push v).toList.reverse=v :: u.toList.reverse:=by simp
theorem xz1 (u t:Array Keyed):(u ++ t.reverse).toList.reverse=t.toList ++ u.toList.reverse:=by simp
abbrev GH:=Option (Array Keyed) × Nat × Nat × Array Keyed × Nat × Nat × Nat
def PstH (κ:SortKind) (lt:Keyed->Keyed->Bool) (a b:Array Keyed) (st:SortSt) (x:Nat):ForInStep GH->SortSt->Prop:=λ r st'=>match r with
 | .done c'=>Same κ st st' /\ MidH lt a.toList b.toList (x + 2) c'.1 c'.2.1 c'.2.2.1 c'.2.2.2.1
 | .yield c'=>Same κ st st' /\ c'.1=none /\ MidH lt a.toList b.toList (x + 2) none c'.2.1 c'.2.2.1 c'.2.2.2.1
def galH (a b:Array Keyed) (k1 t:Nat) (u:Array Keyed) (i j g:Nat):StateT SortSt Sem (ForInStep GH) :=
 let nx:Nat->Array Keyed->StateT SortSt Sem (ForInStep GH):=λ m u=>elem' a (i - 1) >>= λ v =>
  if (i - 1 == 0)=true then pure (.done (some (a.extract 0 (i - 1) ++ b.extract 0 m ++ (u.push v).reverse),i - 1,m,u.push v,g,k1,j - t))
  else if (decide (k1 < 7) && decide (j - t < 7))=true then pure (.done (none,i - 1,m,u.push v,g,k1,j - t)) else pure (.yield (none,i - 1,m,u.push v,g,k1,j - t))
 if j - t > 0 then (if (t == 1)=true then pure (.done (some (b.extract 0 t ++ a.extract 0 i ++ (u ++ (b.extract t j).reverse).reverse),i,t,u ++ (b.extract t j).reverse,g,k1,j - t))
  else if (t == 0)=true then pure (.done (some (a.extract 0 i ++ b.extract 0 t ++ (u ++ (b.extract t j).reverse).reverse),i,t,u ++ (b.extract t j).reverse,g,k1,j - t)) else nx t (u ++ (b.extract t j).reverse)) else nx j u
section
variable {prog:Program} {w:World} {A:Around} {E:Value->Shared->Prop} {s:Shared} {κ:SortKind}
variable {lt:Keyed->Keyed->Bool} {M:Keyed->Prop}
theorem ym4 (c:Cm prog w A s κ lt M) {a b:Array Keyed} {st:SortSt} {Q:Array Keyed->SortSt->Prop} (o:Ok κ st) (ma:∀ x ∈ a.toList,M x) (mb:∀ x ∈ b.toList,M x) (sa:a.toList.Pairwise (le lt)) (sb:b.toList.Pairwise (le lt))
    (na:0 < a.toList.length) (nb:0 < b.toList.length) (h0:∀ x y,b.toList[0]?=some x->a.toList[0]?=some y->le lt x y) (hl:∀ x,a.toList[a.toList.length - 1]?=some x->∀ y ∈ b.toList,le lt y x)
    (h:∀ r st',Same κ st st'->Fin lt a.toList b.toList r.toList->Q r st'):wpS (model prog w) A E s (mhi a b) Q st:=by
 refine wpS_bind (wpS_lift (wpAny_rule ⟨rfl,?_⟩))
 have sza:a.toList.length=a.size:=length_toList
 have szb:b.toList.length=b.size:=length_toList
 obtain ⟨vl,el,el',hvl⟩:=sd0 (a:=a) (i:=a.size - 1) (by omega)
 refine wpS_bind (wd0 el ?_)
 dsimp only
 obtain ⟨a0,ea,ea',ha0⟩:=sd0 (a:=a) na
 have up:∀ {l:List Keyed} {x:Keyed} {n:Nat},l.Pairwise (le lt)->l[n]?=some x->∀ z,le lt x z->∀ y ∈ l.take (n + 1),le lt y z:=by
  intro l x n sl e z hz y hy
  rw [ve0 e] at hy
  rcases List.mem_append.mp hy with hy | hy
  ·exact c.le_tr (sy2 sl e y hy) hz
  ·rw [mem_singleton] at hy; subst hy; exact hz
 have fb:∀ x,b.toList[0]?=some x->∀ y ∈ a.toList,le lt x y:=by
  intro x ex y hy
  obtain ⟨i,hi,rfl⟩:=List.mem_iff_getElem.mp hy
  have e:=getElem?_eq_getElem hi
  have q:=h0 x a0 ex ea'
  by_cases z:i=0
  ·subst z; rw [ea'] at e; cases e; exact q
  ·exact c.le_tr q (xo0 sa (by omega) ea' e)
 have m0:MH lt a.toList b.toList #[vl].toList.reverse (a.size - 1) b.size:=by
  have m:MH lt a.toList b.toList [] (a.size - 1 + 1) b.size:=⟨List.Pairwise.nil,λ _ _ _ h=>(nomatch h),λ _ _ _ h=>(nomatch h),by
   rw [take_of_length_le (by omega),take_of_length_le (by omega),append_nil]⟩
  exact m.a sa el' λ y hy=>hl vl (by rw [sza]; exact el') y (mem_of_mem_take hy)
 have doneA:∀ {out:Array Keyed} {j:Nat} {i:Nat},MH lt a.toList b.toList out.toList.reverse i j->i=0->Fin lt a.toList b.toList (a.extract 0 i ++ b.extract 0 j ++ out.reverse).toList:=by
  intro out j i m hi
  subst hi
  rw [toList_append,toList_append,ext0,ext0,Array.toList_reverse]
  exact m.endA sb
 have doneB:∀ {out:Array Keyed} {j:Nat} {i:Nat},MH lt a.toList b.toList out.toList.reverse i j->j=0->Fin lt a.toList b.toList (a.extract 0 i ++ b.extract 0 j ++ out.reverse).toList:=by
  intro out j i m hi
  subst hi
  rw [toList_append,toList_append,ext0,ext0,Array.toList_reverse]
  exact m.endB sa
 have firstB:∀ {out:Array Keyed} {j:Nat} {i:Nat},MH lt a.toList b.toList out.toList.reverse i j->j=1->Fin lt a.toList b.toList (b.extract 0 j ++ a.extract 0 i ++ out.reverse).toList:=by
  intro out j i m hi
  subst hi
  rw [toList_append,toList_append,ext0,ext0,Array.toList_reverse]
  exact m.first sa nb fb
 have nxA:∀ (x k1 k2 g:Nat) (out:Array Keyed) (i j:Nat) (st3:SortSt),Same κ st st3->MH lt a.toList b.toList out.toList.reverse i j->0 < i->i<=a.size->1 < j->j<=b.size->i + j + (x + 1)<=a.size + b.size->(∀ v,a.toList[i - 1]?=some v->∀ y ∈ b.toList.take j,le lt y v) ->
     wpS (model prog w) A E s (elem' a (i - 1) >>= λ v=>if (i - 1 == 0)=true then pure (.done (some (a.extract 0 (i - 1) ++ b.extract 0 j ++ (out.push v).reverse),i - 1,j,out.push v,g,k1,k2))
      else if (decide (k1 < 7) && decide (k2 < 7))=true then pure (.done (none,i - 1,j,out.push v,g,k1,k2)) else pure (.yield (none,i - 1,j,out.push v,g,k1,k2))) (PstH κ lt a b st x) st3:=by
  intro x k1 k2 g out i j st3 s3 m p1 p2 p3 p4 p5 hle
  obtain ⟨n,rfl⟩:∃ n,i=n + 1:=⟨i - 1,by omega⟩
  rw [Nat.add_sub_cancel] at hle ⊢
  obtain ⟨va,e4,e5,e6⟩:=sd0 (a:=a) (i:=n) (by omega)
  refine wpS_bind (wd0 e4 ?_)
  have m':=m.a sa e5 (hle va e5)
  rw [<- vp0] at m'
  by_cases z:(n == 0)=true
  ·rw [if_pos z]
   exact wpS_pure ⟨s3,doneA m' (eq_of_beq z)⟩
  ·rw [if_neg z]
   have z':n ≠ 0:=λ e=>z (beq_iff_eq.mpr e)
   by_cases y1:(decide (k1 < 7) && decide (k2 < 7))=true
   ·rw [if_pos y1]
    exact wpS_pure ⟨s3,m',by show 0 < n; omega,by show n<=_; omega,p3,by show j<=_; omega,by show n + j + (x + 2)<=_; omega⟩
   ·rw [if_neg y1]
    exact wpS_pure ⟨s3,rfl,m',by show 0 < n; omega,by show n<=_; omega,p3,by show j<=_; omega,by show n + j + (x + 2)<=_; omega⟩
 have nxB:∀ (x k bc g:Nat) (out:Array Keyed) {i j:Nat} {st3:SortSt} {vb:Keyed},Same κ st st3->MH lt a.toList b.toList out.toList.reverse i j->0 < i->i<=a.size->1 < j->j<=b.size->i + j + (x + 2)<=a.size + b.size->b[j - 1]?=some vb->b.toList[j - 1]?=some vb->(∀ y ∈ a.toList.take i,le lt y vb) ->
     ∀ (G:Keyed->Keyed->Option Nat->StateT SortSt Sem (ForInStep GH)),(∀ v y t,G v y (some t)=galH a b k t (out.push v) i (j - 1) g) ->
     wpS (model prog w) A E s (elem' b (j - 1) >>= λ v=>if (j - 1 == 1)=true then pure (.done (some (b.extract 0 (j - 1) ++ a.extract 0 i ++ (out.push v).reverse),i,j - 1,out.push v,g,k,bc))
      else elem' a (i - 1) >>= λ y=>gal true y b 0 (j - 1) (j - 1 - 1) >>= G v y) (PstH κ lt a b st x) st3:=by
  intro x k bc g out i j st3 vb s3 m p1 p2 p3 p4 p5 e1 e2 lo G hG
  obtain ⟨n,rfl⟩:∃ n,j=n + 1:=⟨j - 1,by omega⟩
  rw [Nat.add_sub_cancel] at e1 e2 ⊢
  refine wpS_bind (wd0 e1 ?_)
  have m':=m.b sb e2 lo
  rw [<- vp0] at m'
  by_cases z:(n == 1)=true
  ·rw [if_pos z]
   exact wpS_pure ⟨s3,firstB m' (eq_of_beq z)⟩
  ·rw [if_neg z]
   have z':n ≠ 1:=λ e=>z (beq_iff_eq.mpr e)
   obtain ⟨va,e4,e5,e6⟩:=sd0 (a:=a) (i:=i - 1) (by omega)
   refine wpS_bind (wd0 e4 ?_)
   refine wpS_bind (xw0 c s3.ok (byT c mb (by omega) (ma _ e6) sb) (by omega) λ t q1 q2 q3=>?_)
   rw [hG,Nat.add_sub_cancel]
   unfold galH
   dsimp only
   obtain ⟨k2,rfl⟩:∃ k2,n=t + k2:=⟨n - t,by omega⟩
   have mk:=MH.bs sb k2 m' (by omega) λ ii y h1 h2 ey=>by
    have q:=q3 ii h1 h2
    rw [getD_some (x:=y) (by rw [Nat.zero_add]; exact ey)] at q
    have u:=up sa e5 y q
    rw [show i - 1 + 1=i by omega] at u
    exact u
   have lo2:∀ v,a.toList[i - 1]?=some v->∀ y ∈ b.toList.take t,le lt y v:=by
    intro v ev y hy
    rw [e5] at ev
    cases ev
    obtain ⟨ii,hi,ey⟩:=List.mem_take_iff_getElem.mp hy
    have q:=q2 ii (by omega)
    rw [getD_some (x:=y) (by rw [Nat.zero_add]; exact List.getElem?_eq_some_iff.mpr ⟨by omega,ey⟩)] at q
    exact c.lt_le q
   by_cases kp:t + k2 - t > 0
   ·rw [if_pos kp]
    rw [<- vj3,<- xz1] at mk
    by_cases zz:(t == 1)=true
    ·rw [if_pos zz]
     exact wpS_pure ⟨s3,firstB mk (eq_of_beq zz)⟩
    ·rw [if_neg zz]
     have zz':t ≠ 1:=λ e=>zz (beq_iff_eq.mpr e)
     by_cases zy:(t == 0)=true
     ·rw [if_pos zy]
      exact wpS_pure ⟨s3,doneB mk (eq_of_beq zy)⟩
     ·rw [if_neg zy]
      have zy':t ≠ 0:=λ e=>zy (beq_iff_eq.mpr e)
      exact nxA x _ _ _ _ _ _ _ s3 mk p1 p2 (by omega) (by omega) (by omega) lo2
   ·rw [if_neg kp]
    have k0:k2=0:=by omega
    subst k0
    exact nxA x _ _ _ _ _ _ _ s3 m' p1 p2 (by omega) (by omega) (by omega) lo2
 by_cases z1:(a.size - 1 == 0)=true
 ·rw [if_pos z1]
  exact wpS_pure (h _ _ ⟨o,rfl,rfl⟩ (doneA m0 (eq_of_beq z1)))
 rw [if_neg z1]
 by_cases z2:(b.size == 1)=true
 ·rw [if_pos z2]
  exact wpS_pure (h _ _ ⟨o,rfl,rfl⟩ (firstB m0 (eq_of_beq z2)))
 rw [if_neg z2]
 have n1:b.size ≠ 1:=λ e=>z2 (beq_iff_eq.mpr e)
 have n2:a.size - 1 ≠ 0:=λ e=>z1 (beq_iff_eq.mpr e)
 refine wpS_bind (wpS_get ?_)
 refine wpS_bind (wpS_mono (wpS_forRange (λ x (r:Option (Array Keyed) × Nat × Nat × Array Keyed × Nat) st'=>Same κ st st' /\ r.1=none /\ MidH lt a.toList b.toList (x + 1) none r.2.1 r.2.2.1 r.2.2.2.1)
  (Q:=λ (r:Option (Array Keyed) × Nat × Nat × Array Keyed × Nat) st'=>Same κ st st' /\ ∃ z,r.1=some z /\ Fin lt a.toList b.toList z.toList) ?_ ?_ ⟨⟨o,rfl,rfl⟩,rfl,m0,by show 0 < a.size - 1; omega,by show a.size - 1<=_; omega,by show 1 < b.size; omega,by show b.size<=_; omega,by show a.size - 1 + b.size + (0 + 1)<=_; omega⟩) ?_)
 ·rintro x ⟨r,i,j,out,mg⟩ st1 _ hx ⟨s1,rfl,mi⟩
  dsimp only at mi ⊢
  refine wpS_bind (wpS_mono (wpS_forRange (λ y (r:Option (Array Keyed) × Nat × Nat × Array Keyed × Nat × Nat) st'=>Same κ st st' /\ r.1=none /\ MidH lt a.toList b.toList (x + 1 + y) none r.2.1 r.2.2.1 r.2.2.2.1)
   (Q:=λ (r:Option (Array Keyed) × Nat × Nat × Array Keyed × Nat × Nat) st'=>Same κ st st' /\ MidH lt a.toList b.toList (x + 2) r.1 r.2.1 r.2.2.1 r.2.2.2.1) ?_ ?_ ⟨s1,rfl,mi⟩) ?_)
  ·rintro y ⟨r,i,j,out,ac,bc⟩ st2 _ hy ⟨s2,rfl,m,p1,p2,p3,p4,p5⟩
   dsimp only at m p1 p2 p3 p4 p5 ⊢
   obtain ⟨n,rfl⟩:∃ n,i=n + 1:=⟨i - 1,by omega⟩
   obtain ⟨l,rfl⟩:∃ l,j=l + 1:=⟨j - 1,by omega⟩
   simp only [Nat.add_sub_cancel]
   obtain ⟨vb,e1,e2,e3⟩:=sd0 (a:=b) (i:=l) (by omega)
   obtain ⟨va,e4,e5,e6⟩:=sd0 (a:=a) (i:=n) (by omega)
   refine wpS_bind (wd0 e1 (wpS_bind (wd0 e4 (wpS_bind (yc2 c s2.ok (mb _ e3) (ma _ e6) ?_)))))
   cases q:lt vb va with
   | true =>
    dsimp only
    rw [if_pos rfl]
    refine wpS_bind (wd0 e4 ?_)
    have m':=m.a sa e5 (up sb e2 va (c.lt_le q))
    rw [<- vp0] at m'
    by_cases z:(n == 0)=true
    ·rw [if_pos z]
     exact wpS_pure ⟨s2,doneA m' (eq_of_beq z)⟩
    ·rw [if_neg z]
     have z':n ≠ 0:=λ e=>z (beq_iff_eq.mpr e)
     by_cases y1:ac + 1 ≥ mg
     ·rw [if_pos y1]
      exact wpS_pure ⟨s2,m',by show 0 < n; omega,by show n<=_; omega,p3,p4,by show n + (l + 1) + (x + 2)<=_; omega⟩
     ·rw [if_neg y1]
      exact wpS_pure ⟨s2,rfl,m',by show 0 < n; omega,by show n<=_; omega,p3,p4,by show n + (l + 1) + (x + 1 + (y + 1))<=_; omega⟩
   | false =>
    dsimp only
    rw [if_neg (by simp)]
    refine wpS_bind (wd0 e1 ?_)
    have m':=m.b sb e2 (up sa e5 vb q)
    rw [<- vp0] at m'
    by_cases z:(l == 1)=true
    ·rw [if_pos z]
     exact wpS_pure ⟨s2,firstB m' (eq_of_beq z)⟩
    ·rw [if_neg z]
     have z':l ≠ 1:=λ e=>z (beq_iff_eq.mpr e)
     by_cases y1:bc + 1 ≥ mg
     ·rw [if_pos y1]
      exact wpS_pure ⟨s2,m',p1,p2,by show 1 < l; omega,by show l<=_; omega,by show n + 1 + l + (x + 2)<=_; omega⟩
     ·rw [if_neg y1]
      exact wpS_pure ⟨s2,rfl,m',p1,p2,by show 1 < l; omega,by show l<=_; omega,by show n + 1 + l + (x + 1 + (y + 1))<=_; omega⟩
  ·rintro ⟨r,i,j,out,ac,bc⟩ st2 ⟨s2,rfl,m,p1,p2,p3,p4,p5⟩
   exact ⟨s2,m,p1,p2,p3,p4,by dsimp only at p5 ⊢; omega⟩
  ·rintro ⟨r,i,j,out,ac,bc⟩ st2 ⟨s2,mm⟩
   dsimp only at mm ⊢
   cases r with
   | some z=>exact wpS_pure ⟨s2,z,rfl,mm⟩
   | none =>
    dsimp only
    refine wpS_bind (wpS_lift (wpAny_rule ⟨rfl,?_⟩))
    refine wpS_bind (wpS_mono (wpS_forRange (λ y (r:Option (Array Keyed) × Nat × Nat × Array Keyed × Nat × Nat × Nat) st'=>Same κ st st' /\ r.1=none /\ MidH lt a.toList b.toList (x + 2) none r.2.1 r.2.2.1 r.2.2.2.1)
     (Q:=λ (r:Option (Array Keyed) × Nat × Nat × Array Keyed × Nat × Nat × Nat) st'=>Same κ st st' /\ MidH lt a.toList b.toList (x + 2) r.1 r.2.1 r.2.2.1 r.2.2.2.1) ?_ ?_ ⟨s2,rfl,mm⟩) ?_)
    ·rintro y ⟨r,i,j,out,mg,ac,bc⟩ st3 _ hy ⟨s3,rfl,m,p1,p2,p3,p4,p5⟩
     dsimp only at m p1 p2 p3 p4 p5 ⊢
     have s3':∀ g:Nat,Same κ st (SortSt.mk' (kindOf st3) (arrOf st3) (pendingOf st3) g (failedOf st3)):=λ g=>⟨⟨s3.ok.kd,s3.ok.fl⟩,s3.ar,s3.pe⟩
     obtain ⟨vb,e1,e2,e3⟩:=sd0 (a:=b) (i:=j - 1) (by omega)
     revert mg
     refine xu2 (λ _=>rfl) λ mg=>?_
     refine wpS_bind (wpS_modify ?_)
     refine wpS_bind (wd0 e1 ?_)
     refine wpS_bind (xw0 c (s3' _).ok (byF c ma (by omega) (mb _ e3) sa) (by omega) λ t k1 k2 k3=>?_)
     dsimp only
     obtain ⟨k,rfl⟩:∃ k,i=t + k:=⟨i - t,by omega⟩
     have mk:=MH.as sa k m (by omega) λ ii y h1 h2 ey=>by
      have q:=k3 ii h1 h2
      rw [getD_some (x:=y) (by rw [Nat.zero_add]; exact ey)] at q
      have u:=up sb e2 y (c.lt_le (by simpa using q))
      rw [show j - 1 + 1=j by omega] at u
      exact u
     have lo:∀ y ∈ a.toList.take t,le lt y vb:=by
      intro y hy
      obtain ⟨ii,hi,ey⟩:=List.mem_take_iff_getElem.mp hy
      have q:=k2 ii (by omega)
      rw [getD_some (x:=y) (by rw [Nat.zero_add]; exact List.getElem?_eq_some_iff.mpr ⟨by omega,ey⟩)] at q
      exact (by simpa using q:lt vb y=false)
     by_cases kp:t + k - t > 0
     ·rw [if_pos kp]
      rw [<- vj3,<- xz1] at mk
      by_cases z:(t == 0)=true
      ·rw [if_pos z]
       exact wpS_pure ⟨s3' _,doneA mk (eq_of_beq z)⟩
      ·rw [if_neg z]
       have z':t ≠ 0:=λ e=>z (beq_iff_eq.mpr e)
       refine wpS_mono (nxB x _ bc _ _ (s3' _) mk (by omega) (by omega) p3 (by omega) (by omega) e1 e2 lo _ ?_) ?_
       ·intro _ _ _; rfl
       ·intro r st' q; cases r <;> exact q
     ·rw [if_neg kp]
      have k0:k=0:=by omega
      subst k0
      refine wpS_mono (nxB x _ bc _ _ (s3' _) m (by omega) (by omega) p3 (by omega) (by omega) e1 e2 lo _ ?_) ?_
      ·intro _ _ _; rfl
      ·intro r st' q; cases r <;> exact q
    ·rintro ⟨r,i,j,out,mg,ac,bc⟩ st3 ⟨s3,rfl,m,p1,p2,p3,p4,p5⟩
     exact ⟨s3,m,p1,p2,p3,p4,p5⟩
    ·rintro ⟨r,i,j,out,mg,ac,bc⟩ st3 ⟨s3,mm⟩
     dsimp only at mm ⊢
     cases r with
     | some z=>exact wpS_pure ⟨s3,z,rfl,mm⟩
     | none =>
      dsimp only
      exact wpS_bind (wpS_modify (wpS_pure ⟨⟨⟨s3.ok.kd,s3.ok.fl⟩,s3.ar,s3.pe⟩,rfl,mm⟩))
 ·rintro ⟨r,i,j,out,mg⟩ st1 ⟨s1,rfl,m,p1,p2,p3,p4,p5⟩
  exfalso
  dsimp only at p1 p2 p3 p4 p5
  omega
 ·rintro ⟨r,i,j,out,mg⟩ st1 ⟨s1,z,e,f⟩
  dsimp only at e ⊢
  subst e
  exact wpS_pure (h z st1 s1 f)
end
theorem yo2 {xs:Array Keyed} {U V W:List Keyed} {i j:Nat} (h:xs.toList=U ++ (V ++ W)) (hi:i=U.length) (hj:j=U.length + V.length):(mirror xs i j ((j - i) / 2)).toList=U ++ (V.reverse ++ W):=by
 have hs:xs.size=U.length + (V.length + W.length):=by rw [<- length_toList,h]; simp
 apply ext_getElem?
 intro k
 rw [getElem?_toList,getElem?_mirror_all (by omega)]
 simp only [<- getElem?_toList,h]
 by_cases c:i<=k /\ k < j
 ·rw [if_pos c,getElem?_append_right (by omega),getElem?_append_left (by omega),getElem?_append_right (by omega),getElem?_append_left (by rw [length_reverse]; omega),List.getElem?_reverse (by omega)]
  congr 1
  omega
 ·rw [if_neg c]
  by_cases d:k < i
  ·rw [getElem?_append_left (by omega),getElem?_append_left (by omega)]
  ·rw [getElem?_append_right (by omega),getElem?_append_right (by omega),getElem?_append_right (by omega),getElem?_append_right (by rw [length_reverse]; omega),length_reverse]
theorem ur2 {xs:Array Keyed} {U V W:List Keyed} {x:Keyed} {i j:Nat} (h:xs.toList=U ++ (V ++ x :: W)) (hi:i=U.length + V.length) (hj:j=U.length):(bubble xs i (i - j)).toList=U ++ x :: (V ++ W):=by
 have hs:xs.size=U.length + (V.length + (W.length + 1)):=by rw [<- length_toList,h]; simp
 apply ext_getElem?
 intro k
 rw [getElem?_toList,getElem?_bubble (by omega) (i - j) (by omega),show i - (i - j)=j by omega]
 simp only [<- getElem?_toList,h]
 by_cases c:k=j
 ·rw [if_pos c,getElem?_append_right (by omega),getElem?_append_right (by omega),getElem?_append_right (by omega),show i - U.length - V.length=0 by omega,show k - U.length=0 by omega]
  rfl
 ·rw [if_neg c]
  by_cases d:j < k /\ k<=i
  ·rw [if_pos d,getElem?_append_right (by omega),getElem?_append_left (by omega),getElem?_append_right (by omega),show k - U.length=(k - 1 - U.length) + 1 by omega,getElem?_cons_succ,getElem?_append_left (by omega)]
  ·rw [if_neg d]
   by_cases f:k < j
   ·rw [getElem?_append_left (by omega),getElem?_append_left (by omega)]
   ·rw [getElem?_append_right (by omega),getElem?_append_right (by omega),getElem?_append_right (by omega),show k - U.length=(k - 1 - U.length) + 1 by omega,getElem?_cons_succ,getElem?_append_right (by omega),show k - 1 - U.length + 1 - V.length=(k - 1 - U.length - V.length) + 1 by omega,getElem?_cons_succ]
structure At (κ:SortKind) (p:Array (Nat × Nat × Nat)) (st:SortSt) (L:List Keyed):Prop where
 ok:Ok κ st
 pe:pendingOf st=p
 ls:(arrOf st).toList=L
section
variable {prog:Program} {w:World} {A:Around} {E:Value->Shared->Prop} {s:Shared} {κ:SortKind} {p:Array (Nat × Nat × Nat)}
variable {lt:Keyed->Keyed->Bool} {M:Keyed->Prop}
theorem vf1 (c:Cm prog w A s κ lt M) {st:SortSt} {L:List Keyed} {i j:Nat} {x y:Keyed} {Q:Option Bool->SortSt->Prop} (a:At κ p st L) (hM:∀ x ∈ L,M x) (ex:L[i]?=some x) (ey:L[j]?=some y) (h:Q (some (lt x y)) st):wpS (model prog w) A E s (ltAt' i j) Q st:=by
 rw [ltAt'_eq]
 refine wpS_bind (wpS_get ?_)
 refine wpS_bind (wd0 (x:=x) (by rw [<- getElem?_toList,a.ls]; exact ex) (wpS_bind (wd0 (x:=y) (by rw [<- getElem?_toList,a.ls]; exact ey) ?_)))
 exact yc2 c a.ok (hM x (mem_of_getElem? ex)) (hM y (mem_of_getElem? ey)) h
theorem tk1 {st:SortSt} {U V W:List Keyed} {i j:Nat} {Q:Unit->SortSt->Prop} (a:At κ p st (U ++ (V ++ W))) (hi:i=U.length) (hj:j=U.length + V.length) (h:∀ st',At κ p st' (U ++ (V.reverse ++ W))->Q () st'):wpS (model prog w) A E s (reverseSlice' i j) Q st:=by
 rw [reverseSlice'_eq]
 exact wpS_modify (h _ ⟨⟨a.ok.kd,a.ok.fl⟩,a.pe,yo2 a.ls hi hj⟩)
theorem wl4 {st:SortSt} {U V W:List Keyed} {x:Keyed} {i j:Nat} {Q:Unit->SortSt->Prop} (a:At κ p st (U ++ (V ++ x :: W))) (hi:i=U.length + V.length) (hj:j=U.length) (h:∀ st',At κ p st' (U ++ x :: (V ++ W))->Q () st'):wpS (model prog w) A E s (moveDown' i j) Q st:=by
 rw [moveDown'_eq]
 exact wpS_modify (h _ ⟨⟨a.ok.kd,a.ok.fl⟩,a.pe,ur2 a.ls hi hj⟩)
abbrev FA:=Nat->Option (Option Nat) × Nat->StateT SortSt Sem (ForInStep (Option (Option Nat) × Nat))
def isA (lo:Nat) (f:FA):Prop:=∀ x n,f x (none,n)=(ltAt' (lo + n) (lo + n - 1) >>= λ r=>match r with
 | some true=>pure (.done (none,n))
 | some false=>pure (.yield (none,n + 1))
 | none=>pure (.done (some none,n)))
theorem ud3 (c:Cm prog w A s κ lt M) {l:List Keyed} {n:Nat} {x y:Keyed} (h:(l.take (n + 1)).Pairwise (le lt)) (ex:l[n]?=some x) (ey:l[n + 1]?=some y) (k:le lt x y):(l.take (n + 2)).Pairwise (le lt):=by
 rw [ve0 ey]
 refine List.pairwise_append.mpr ⟨h,pairwise_singleton _ _,λ z hz v hv=>?_⟩
 rw [mem_singleton] at hv
 subst hv
 rw [ve0 ex] at h hz
 rcases List.mem_append.mp hz with hz | hz
 ·exact c.le_tr ((List.pairwise_append.mp h).2.2 z hz x (List.mem_singleton.mpr rfl)) k
 ·rw [mem_singleton] at hz; subst hz; exact k
theorem zo1 (c:Cm prog w A s κ lt M) {st:SortSt} {P R:List Keyed} {n0 lo:Nat} {f:FA} (hf:isA lo f) (a:At κ p st (P ++ R)) (hM:∀ x ∈ P ++ R,M x) (hlo:lo=P.length) (h1:1<=n0) (h2:n0<=R.length) (so:(R.take n0).Pairwise (le lt)) :
    wpS (model prog w) A E s (forIn [n0:R.length] (none,n0) f) (λ r st'=>st'=st /\ r.1=none /\ n0<=r.2 /\ r.2<=R.length /\ (R.take r.2).Pairwise (le lt) /\ (r.2=R.length \/ ∃ x y,R[r.2]?=some y /\ R[r.2 - 1]?=some x /\ lt y x=true)) st:=by
 refine wpS_forRange (λ x (r:Option (Option Nat) × Nat) st'=>st'=st /\ r=(none,x) /\ n0<=x /\ x<=R.length /\ (R.take x).Pairwise (le lt)) ?_ ?_ ⟨rfl,rfl,Nat.le_refl _,h2,so⟩
 ·rintro x r st' _ hx ⟨rfl,rfl,a1,a2,a3⟩
  rw [hf]
  obtain ⟨n,rfl⟩:∃ n,x=n + 1:=⟨x - 1,by omega⟩
  have ey:R[n + 1]?=some R[n + 1]:=getElem?_eq_getElem hx
  have ex:R[n]?=some R[n]:=getElem?_eq_getElem (by omega)
  refine wpS_bind (vf1 c a hM (x:=R[n + 1]) (y:=R[n]) (by rw [getElem?_append_right (by omega),show lo + (n + 1) - P.length=n + 1 by omega]; exact ey) (by rw [getElem?_append_right (by omega),show lo + (n + 1) - 1 - P.length=n by omega]; exact ex) ?_)
  cases q:lt R[n + 1] R[n] with
  | true=>exact wpS_pure ⟨rfl,rfl,a1,a2,a3,.inr ⟨R[n],R[n + 1],ey,ex,q⟩⟩
  | false=>exact wpS_pure ⟨rfl,rfl,by omega,by omega,ud3 c a3 ex ey q⟩
 ·rintro r st' ⟨rfl,rfl,a1,a2,a3⟩
  exact ⟨rfl,rfl,a1,a2,a3,.inl (by show max n0 R.length=_; omega)⟩
theorem fin3 (c:Cm prog w A s κ lt M) {st:SortSt} {P V W:List Keyed} {n N lo:Nat} {f:FA} {g:Option (Option Nat) × Nat->StateT SortSt Sem (Option Nat)} {Q:Option Nat->SortSt->Prop} (hf:isA lo f) (hg:∀ n,g (none,n)=pure (some n)) (a:At κ p st (P ++ (V ++ W))) (hM:∀ x ∈ P ++ (V ++ W),M x) (hlo:lo=P.length)
    (hn:n=V.length) (hN:N=V.length + W.length) (h1:1<=n) (so:V.Pairwise λ x y=>le lt y x) (h:∀ m st' R,At κ p st' (P ++ R)->R.Perm (V ++ W)->1<=m->m<=N->(R.take m).Pairwise (le lt)->Q (some m) st') :
    wpS (model prog w) A E s (reverseSlice' lo (lo + n) >>= λ _=>forIn [n:N] (none,n) f >>= g) Q st:=by
 refine wpS_bind (tk1 a hlo (by omega) λ st1 a1=>?_)
 have e:N=(V.reverse ++ W).length:=by rw [length_append,length_reverse]; exact hN
 have pm:(V.reverse ++ W).Perm (V ++ W):=List.Perm.append_right _ (reverse_perm V)
 subst e
 refine wpS_bind (wpS_mono (zo1 c hf a1 (λ x hx=>hM x (by
  rcases List.mem_append.mp hx with q | q
  ·exact mem_append_left _ q
  ·exact mem_append_right _ (pm.mem_iff.mp q))) hlo h1 (by rw [length_append,length_reverse]; omega) ?_) ?_)
 ·rw [hn,List.take_append_of_le_length (by rw [length_reverse]; omega),take_of_length_le (by rw [length_reverse]; omega)]
  exact List.pairwise_reverse.mpr so
 ·rintro ⟨r,m⟩ st2 ⟨rfl,rfl,b1,b2,b3,_⟩
  dsimp only at b1 b2 b3 ⊢
  rw [hg]
  exact wpS_pure (h m _ _ a1 pm (by omega) b2 b3)
abbrev FD:=Nat->Option (Option Nat) × Nat × Nat->StateT SortSt Sem (ForInStep (Option (Option Nat) × Nat × Nat))
def isD (lo:Nat) (f:FD):Prop:=∀ x n q,f x (none,n,q)=(ltAt' (lo + n) (lo + n - 1) >>= λ r=>match r with
 | some true=>if q > 0 then reverseSlice' (lo + n - (q + 1)) (lo + n) >>= λ _=>pure (.yield (none,n + 1,0)) else pure (.yield (none,n + 1,0))
 | some false=>ltAt' (lo + n - 1) (lo + n) >>= λ r=>match r with
  | some true=>pure (.done (none,n,q))
  | some false=>pure (.yield (none,n + 1,q + 1))
  | none=>pure (.done (some none,n,q))
 | none=>pure (.done (some none,n,q)))
structure Fall (κ:SortKind) (p:Array (Nat × Nat × Nat)) (lt:Keyed->Keyed->Bool) (P R:List Keyed) (st:SortSt) (n q:Nat) (X B W:List Keyed) (b:Keyed):Prop where
 at_:At κ p st (P ++ (X ++ (B ++ b :: W)))
 hn:n=X.length + B.length + 1
 hq:q=B.length
 pm:(X ++ (B ++ b :: W)).Perm R
 dn:(X ++ (B ++ [b])).Pairwise λ x y=>le lt y x
 eq:∀ x ∈ B,le lt x b /\ le lt b x
theorem Fall.low {P R X B W:List Keyed} {st:SortSt} {n q:Nat} {b:Keyed} (F:Fall κ p lt P R st n q X B W b):∀ z ∈ X ++ B,le lt b z:=by
 have d:=F.dn
 rw [<- append_assoc] at d
 exact λ z hz=>(List.pairwise_append.mp d).2.2 z hz b (List.mem_singleton.mpr rfl)
theorem Fall.rest {P R X B W:List Keyed} {st:SortSt} {n q:Nat} {b:Keyed} (F:Fall κ p lt P R st n q X B W b) (hx:n < R.length):∃ y W',W=y :: W':=by
 cases W with
 | cons y W'=>exact ⟨y,W',rfl⟩
 | nil =>
  have:=F.pm.length_eq
  rw [length_append,length_append,length_cons,length_nil] at this
  have:=F.hn
  omega
theorem vo4 (c:Cm prog w A s κ lt M) {P R X B W:List Keyed} {st:SortSt} {n q:Nat} {b:Keyed} (F:Fall κ p lt P R st n q X B W b):(X ++ (B ++ [b]).reverse).Pairwise λ x y=>le lt y x:=by
 obtain ⟨d1,d2,d3⟩:=List.pairwise_append.mp F.dn
 refine List.pairwise_append.mpr ⟨d1,?_,λ x hx y hy=>d3 x hx y (List.mem_reverse.mp hy)⟩
 have all:∀ x ∈ B ++ [b],le lt x b /\ le lt b x:=λ x hx=>by
  rcases List.mem_append.mp hx with h | h
  ·exact F.eq x h
  ·rw [mem_singleton] at h; subst h; exact ⟨c.rf x,c.rf x⟩
 rw [List.pairwise_reverse]
 exact List.Pairwise.imp_of_mem (λ {x y} hx hy _=>c.le_tr (all x hx).1 (all y hy).2) d2
theorem xm4 (c:Cm prog w A s κ lt M) {st:SortSt} {P R X W:List Keyed} {y:Keyed} {n1 lo N:Nat} {f:FD} {g:Option (Option Nat) × Nat × Nat->StateT SortSt Sem (Option Nat)} {Q:Option Nat->SortSt->Prop} (hf:isD lo f)
    (hg:∀ n q,∃ J,g (none,n,q)=(if q > 0 then reverseSlice' (lo + n - (q + 1)) (lo + n) >>= λ _=>J else J) /\ ∀ st' V W,At κ p st' (P ++ (V ++ W))->(V ++ W).Perm R->n=V.length->1<=n->V.Pairwise (λ x y=>le lt y x)->wpS (model prog w) A E s J Q st') (hlo:lo=P.length) (hN:N=R.length) (hR:∀ x ∈ P,M x) (hM:∀ x ∈ R,M x) (hn:n1=X.length) (a:At κ p st (P ++ (X ++ y :: W))) (pm:(X ++ y :: W).Perm R) (dn:(X ++ [y]).Pairwise λ x y=>le lt y x) :
    wpS (model prog w) A E s (forIn [n1 + 1:N] (none,n1 + 1,0) f >>= g) Q st:=by
 have mem:∀ {L:List Keyed},L.Perm R->∀ x ∈ P ++ L,M x:=λ e x hx=>by
  rcases List.mem_append.mp hx with h | h
  ·exact hR x h
  ·exact hM x (e.mem_iff.mp h)
 refine wpS_bind (wpS_mono (wpS_forRange (λ x (r:Option (Option Nat) × Nat × Nat) st'=>∃ q X B W b,r=(none,x,q) /\ Fall κ p lt P R st' x q X B W b) (Q:=λ (r:Option (Option Nat) × Nat × Nat) st'=>∃ n q X B W b,r=(none,n,q) /\ Fall κ p lt P R st' n q X B W b) ?_ ?_ ⟨0,X,[],W,y,rfl,⟨a,by simp [hn],rfl,pm,dn,λ _ h=>nomatch h⟩⟩) ?_)
 ·rintro x r st1 _ hx ⟨q,X,B,W,b,rfl,F⟩
  obtain ⟨v,W',rfl⟩:=F.rest (by omega)
  rw [hf]
  have L:=F.at_
  have hn':=F.hn
  have hq':=F.hq
  have e1:(P ++ (X ++ (B ++ b :: v :: W')))[lo + x]?=some v:=by
   rw [getElem?_append_right (by omega),getElem?_append_right (by omega),getElem?_append_right (by omega),show lo + x - P.length - X.length - B.length=1 by omega]; rfl
  have e2:(P ++ (X ++ (B ++ b :: v :: W')))[lo + x - 1]?=some b:=by
   rw [getElem?_append_right (by omega),getElem?_append_right (by omega),getElem?_append_right (by omega),show lo + x - 1 - P.length - X.length - B.length=0 by omega]; rfl
  refine wpS_bind (vf1 c L (mem F.pm) e1 e2 ?_)
  cases s1:lt v b with
  | true =>
   dsimp only
   have low:∀ z ∈ X ++ (B ++ [b]),le lt v z:=λ z hz=>by
    rw [<- append_assoc] at hz
    rcases List.mem_append.mp hz with h | h
    ·exact c.le_tr (c.lt_le s1) (F.low z h)
    ·rw [mem_singleton] at h; subst h; exact c.lt_le s1
   by_cases z:q > 0
   ·rw [if_pos z]
    refine wpS_bind (tk1 (U:=P ++ X) (V:=B ++ [b]) (W:=v :: W') (by rw [append_assoc,append_assoc]; exact L) (by rw [length_append]; omega) (by simp only [length_append,length_cons,length_nil]; omega) λ st2 a2=>wpS_pure ⟨0,X ++ (B ++ [b]).reverse,[],W',v,rfl,?_⟩)
    refine ⟨by rw [append_assoc] at a2; simpa [append_assoc] using a2,by simp only [length_append,length_reverse,length_cons,length_nil]; omega,rfl,?_,?_,λ _ h=>nomatch h⟩
    ·refine .trans ?_ F.pm
     rw [nil_append,append_assoc]
     refine List.Perm.append_left _ (.trans (List.Perm.append_right _ (reverse_perm _)) ?_)
     rw [append_assoc]
     exact .refl _
    ·rw [nil_append]
     refine List.pairwise_append.mpr ⟨vo4 c F,pairwise_singleton _ _,λ z1 hz1 y1 hy1=>?_⟩
     rw [mem_singleton] at hy1; subst hy1
     refine low z1 ?_
     rcases List.mem_append.mp hz1 with h | h
     ·exact mem_append_left _ h
     ·exact mem_append_right _ (List.mem_reverse.mp h)
   ·rw [if_neg z]
    have b0:B=[]:=eq_nil_of_length_eq_zero (by omega)
    subst b0
    refine wpS_pure ⟨0,X ++ [b],[],W',v,rfl,⟨by simpa [append_assoc] using L,by simp only [length_append,length_cons,length_nil] at hn' ⊢; omega,rfl,by simpa [append_assoc] using F.pm,?_,λ _ h=>nomatch h⟩⟩
    refine List.pairwise_append.mpr ⟨F.dn,pairwise_singleton _ _,λ z1 hz1 y1 hy1=>?_⟩
    rw [nil_append,mem_singleton] at hy1; subst hy1
    exact low z1 hz1
  | false =>
   dsimp only
   refine wpS_bind (vf1 c L (mem F.pm) e2 e1 ?_)
   cases s2:lt b v with
   | true=>exact wpS_pure ⟨x,q,X,B,v :: W',b,rfl,F⟩
   | false =>
    refine wpS_pure ⟨q + 1,X,B ++ [b],W',v,rfl,⟨by simpa [append_assoc] using L,by simp only [length_append,length_cons,length_nil]; omega,by simp only [length_append,length_cons,length_nil]; omega,by simpa [append_assoc] using F.pm,?_,?_⟩⟩
    ·rw [<- append_assoc]
     refine List.pairwise_append.mpr ⟨F.dn,pairwise_singleton _ _,λ z1 hz1 y1 hy1=>?_⟩
     rw [mem_singleton] at hy1; subst hy1
     rw [<- append_assoc] at hz1
     rcases List.mem_append.mp hz1 with h | h
     ·exact c.le_tr s2 (F.low z1 h)
     ·rw [mem_singleton] at h; subst h; exact s2
    ·intro z hz
     rcases List.mem_append.mp hz with h | h
     ·exact ⟨c.le_tr (F.eq z h).1 s1,c.le_tr s2 (F.eq z h).2⟩
     ·rw [mem_singleton] at h; subst h; exact ⟨s1,s2⟩
 ·rintro r st1 ⟨q,X,B,W,b,rfl,F⟩
  exact ⟨_,q,X,B,W,b,rfl,F⟩
 ·rintro r st1 ⟨n,q,X,B,W,b,rfl,F⟩
  obtain ⟨J,eJ,hJ⟩:=hg n q
  rw [eJ]
  have hn':=F.hn
  have hq':=F.hq
  by_cases z:q > 0
  ·rw [if_pos z]
   refine wpS_bind (tk1 (U:=P ++ X) (V:=B ++ [b]) (W:=W) (by simpa [append_assoc] using F.at_) (by rw [length_append]; omega) (by simp only [length_append,length_cons,length_nil]; omega) λ st2 a2=>?_)
   refine hJ st2 (X ++ (B ++ [b]).reverse) W (by rw [append_assoc] at a2; rw [append_assoc]; exact a2) ?_ (by simp only [length_append,length_reverse,length_cons,length_nil]; omega) (by omega) (vo4 c F)
   refine .trans ?_ F.pm
   rw [append_assoc]
   refine List.Perm.append_left _ (.trans (List.Perm.append_right _ (reverse_perm _)) ?_)
   rw [append_assoc]
   exact .refl _
  ·rw [if_neg z]
   exact hJ st1 (X ++ (B ++ [b])) W (by simpa [append_assoc] using F.at_) (by simpa [append_assoc] using F.pm) (by simp only [length_append,length_cons,length_nil]; omega) (by omega) F.dn
theorem yp4 (c:Cm prog w A s κ lt M) {st:SortSt} {P R:List Keyed} {lo:Nat} {Q:Option Nat->SortSt->Prop} (a:At κ p st (P ++ R)) (hM:∀ x ∈ P ++ R,M x) (hlo:lo=P.length) (h1:1<=R.length)
    (h:∀ m st' R',At κ p st' (P ++ R')->R'.Perm R->1<=m->m<=R.length->(R'.take m).Pairwise (le lt)->Q (some m) st'):wpS (model prog w) A E s (countRun' lo R.length) Q st:=by
 have isa:∀ {f:FA},f=(λ x __s=>(ltAt' (lo + __s.2) (lo + __s.2 - 1) >>= λ r=>match r with
  | some b=>if b=true then pure (.done (none,__s.2)) else pure (.yield (none,__s.2 + 1))
  | x=>pure (.done (some none,__s.2))))->isA lo f:=by
  rintro f rfl x n
  refine congrArg _ (funext λ r=>?_)
  rcases r with _ | _ | _ <;> rfl
 have r0:R[0]?=some R[0]:=getElem?_eq_getElem h1
 have fall:∀ {st1:SortSt} {X W:List Keyed} {y:Keyed},At κ p st1 (P ++ (X ++ y :: W))->(X ++ y :: W).Perm R->(X ++ [y]).Pairwise (λ x y=>le lt y x)->∀ {n1:Nat},n1=X.length->∀ {f:FD} {g:Option (Option Nat) × Nat × Nat->StateT SortSt Sem (Option Nat)},isD lo f ->
     (∀ n q,∃ (J:StateT SortSt Sem (Option Nat)) (f:FA) (g':Option (Option Nat) × Nat->StateT SortSt Sem (Option Nat)),g (none,n,q)=(if q > 0 then reverseSlice' (lo + n - (q + 1)) (lo + n) >>= λ _=>J else J) /\ isA lo f /\ (∀ n,g' (none,n)=pure (some n)) /\ J=(reverseSlice' lo (lo + n) >>= λ _=>forIn [n:R.length] (none,n) f >>= g')) ->
     wpS (model prog w) A E s (forIn [n1 + 1:R.length] (none,n1 + 1,0) f >>= g) Q st1:=by
  intro st1 X W y a1 pm dn n1 hn f g hf hg
  refine xm4 c hf (λ n q=>?_) hlo rfl (λ x hx=>hM x (mem_append_left _ hx)) (λ x hx=>hM x (mem_append_right _ hx)) hn a1 pm dn
  obtain ⟨J,f,g',e1,hf,hg,e⟩:=hg n q
  refine ⟨J,e1,?_⟩
  intro st2 V W a2 pm2 hn2 h2 so
  rw [e]
  have ll:=pm2.length_eq
  rw [length_append] at ll
  refine fin3 c hf hg a2 (λ x hx=>?_) hlo hn2 ll.symm h2 so λ m st' R' a3 pm3 m1 m2 so3=>h m st' R' a3 (pm3.trans pm2) m1 m2 so3
  rcases List.mem_append.mp hx with q | q
  ·exact hM x (mem_append_left _ q)
  ·exact hM x (mem_append_right _ (pm2.mem_iff.mp q))
 refine wpS_bind (wpS_mono (zo1 c (f:=_) (isa rfl) a hM hlo (Nat.le_refl 1) h1 (by rw [ve0 r0]; exact pairwise_singleton _ _)) ?_)
 rintro ⟨r,n⟩ st1 ⟨rfl,rfl,b1,b2,b3,b4⟩
 dsimp only at b1 b2 b3 b4 ⊢
 by_cases z:(n == R.length)=true
 ·rw [if_pos z]
  exact wpS_pure (h n _ R a (.refl _) b1 b2 b3)
 rw [if_neg z]
 have z':n ≠ R.length:=λ e=>z (beq_iff_eq.mpr e)
 rcases b4 with b4 | ⟨x,y,ey,ex,q⟩
 ·exact absurd b4 z'
 have d:R=R.take n ++ y :: R.drop (n + 1):=by
  have:=take_append_drop n R
  rw [yi0 ey] at this
  exact this.symm
 by_cases n1:n > 1
 ·rw [if_pos n1]
  refine wpS_bind (vf1 c a hM (x:=R[0]) (y:=x) (by rw [getElem?_append_right (by omega),show lo - P.length=0 by omega]; exact r0) (by rw [getElem?_append_right (by omega),show lo + n - 1 - P.length=n - 1 by omega]; exact ex) ?_)
  cases q2:lt R[0] x with
  | true=>exact wpS_pure (h n _ R a (.refl _) b1 b2 b3)
  | false =>
   dsimp only
   rw [if_neg (by simp)]
   have all:∀ u ∈ R.take n,le lt u x /\ le lt x u:=by
    have e0:(R.take n)[0]?=some R[0]:=by rw [getElem?_take_of_lt (by omega)]; exact r0
    have el:(R.take n)[n - 1]?=some x:=by rw [getElem?_take_of_lt (by omega)]; exact ex
    intro u hu
    obtain ⟨i,hi⟩:=List.mem_iff_getElem?.mp hu
    have li:i < n:=by
     have:=(List.getElem?_eq_some_iff.mp hi).1
     rw [length_take] at this
     omega
    constructor
    ·by_cases e:i=n - 1
     ·subst e; rw [el] at hi; cases hi; exact c.rf _
     ·exact xo0 b3 (by omega) hi el
    ·by_cases e:i=0
     ·subst e; rw [e0] at hi; cases hi; exact q2
     ·exact c.le_tr q2 (xo0 b3 (by omega) e0 hi)
   have lt1:(R.take n).length=n:=by rw [length_take]; omega
   refine wpS_bind (tk1 (U:=P) (V:=R.take n) (W:=y :: R.drop (n + 1)) (by rw [<- d]; exact a) hlo (by omega) λ st2 a2=>?_)
   refine wpS_bind (wpS_lift (wpAny_rule ⟨rfl,?_⟩))
   refine fall a2 ?_ ?_ (by rw [length_reverse]; exact lt1.symm) ?_ ?_
   ·refine .trans (List.Perm.append_right _ (reverse_perm _)) ?_
    rw [<- d]
   ·refine List.pairwise_append.mpr ⟨?_,pairwise_singleton _ _,λ u hu v hv=>?_⟩
    ·rw [List.pairwise_reverse]
     exact b3
    ·rw [mem_singleton] at hv; subst hv
     exact c.le_tr (c.lt_le q) (all u (List.mem_reverse.mp hu)).2
   ·intro x n q
    refine congrArg _ (funext λ r=>?_)
    rcases r with _ | _ | _
    ·rfl
    ·dsimp only
     rw [if_neg (by simp)]
     refine congrArg _ (funext λ r=>?_)
     rcases r with _ | _ | _ <;> rfl
    ·rfl
   ·intro n q
    exact ⟨_,_,_,rfl,isa rfl,λ _=>rfl,rfl⟩
 ·rw [if_neg n1]
  have e1:n=1:=by omega
  subst e1
  refine wpS_bind (wpS_lift (wpAny_rule ⟨rfl,?_⟩))
  have t1:=ve0 r0
  rw [take_zero,nil_append] at t1
  have ex0:x=R[0]:=by rw [show 1 - 1=0 from rfl,r0] at ex; cases ex; rfl
  rw [show (0:Nat) + 1=1 from rfl] at t1
  rw [t1] at d
  refine fall (X:=[R[0]]) (y:=y) (W:=R.drop (1 + 1)) (by rw [<- d]; exact a) (by rw [<- d]) ?_ rfl ?_ ?_
  ·refine List.pairwise_append.mpr ⟨pairwise_singleton _ _,pairwise_singleton _ _,λ u hu v hv=>?_⟩
   rw [mem_singleton] at hu hv
   subst hu hv
   rw [<- ex0]
   exact c.lt_le q
  ·intro x n q
   refine congrArg _ (funext λ r=>?_)
   rcases r with _ | _ | _
   ·rfl
   ·dsimp only
    rw [if_neg (by simp)]
    refine congrArg _ (funext λ r=>?_)
    rcases r with _ | _ | _ <;> rfl
   ·rfl
  ·intro n q
   exact ⟨_,_,_,rfl,isa rfl,λ _=>rfl,rfl⟩
end
section
variable {prog:Program} {w:World} {A:Around} {E:Value->Shared->Prop} {s:Shared} {κ:SortKind} {p:Array (Nat × Nat × Nat)}
variable {lt:Keyed->Keyed->Bool} {M:Keyed->Prop}
theorem vh2 (c:Cm prog w A s κ lt M) {st:SortSt} {P R:List Keyed} {lo n ok:Nat} {Q:Bool->SortSt->Prop} (a:At κ p st (P ++ R)) (hM:∀ x ∈ P ++ R,M x) (hlo:lo=P.length) (h1:1<=ok) (h2:ok<=n) (h3:n<=R.length) (so:(R.take ok).Pairwise (le lt))
    (h:∀ st' R',At κ p st' (P ++ R')->R'.Perm R->(R'.take n).Pairwise (le lt)->Q true st'):wpS (model prog w) A E s (binarySort' lo n ok) Q st:=by
 refine wpS_bind (wpS_mono (wpS_forRange (λ x (r:Option Bool × Unit) st'=>r=(none,()) /\ ∃ R',At κ p st' (P ++ R') /\ R'.Perm R /\ (R'.take x).Pairwise (le lt)) (Q:=λ (r:Option Bool × Unit) st'=>r=(none,()) /\ ∃ R',At κ p st' (P ++ R') /\ R'.Perm R /\ (R'.take n).Pairwise (le lt)) ?_ ?_ ⟨rfl,R,a,.refl _,by rw [show max ok 1=ok by omega]; exact so⟩) ?_)
 ·rintro k r st1 hk0 hk ⟨rfl,R',a1,pm,so1⟩
  have ll:=pm.length_eq
  have hM1:∀ x ∈ P ++ R',M x:=λ x hx=>by
   rcases List.mem_append.mp hx with q | q
   ·exact hM x (mem_append_left _ q)
   ·exact hM x (mem_append_right _ (pm.mem_iff.mp q))
  have ev:R'[k]?=some R'[k]:=getElem?_eq_getElem (by omega)
  have at':∀ {m:Nat} {x:Keyed},R'[m]?=some x->m < k->(R'.take k)[m]?=some x:=λ e l=>by rw [getElem?_take_of_lt l]; exact e
  dsimp only
  refine wpS_bind (wpS_mono (wpS_forRange (λ y (r:Option Bool × Nat × Nat) st'=>st'=st1 /\ r.1=none /\ r.2.1<=r.2.2 /\ r.2.2<=k /\ r.2.2 - r.2.1<=k - y /\ (∀ i x,i < r.2.1->R'[i]?=some x->le lt x R'[k]) /\ ∀ i x,r.2.2<=i->i < k->R'[i]?=some x->le lt R'[k] x)
   (Q:=λ (r:Option Bool × Nat × Nat) st'=>st'=st1 /\ r.1=none /\ r.2.1<=k /\ (∀ i x,i < r.2.1->R'[i]?=some x->le lt x R'[k]) /\ ∀ i x,r.2.1<=i->i < k->R'[i]?=some x->le lt R'[k] x) ?_ ?_ ⟨rfl,rfl,Nat.zero_le _,Nat.le_refl _,Nat.le_refl _,λ i x hi=>absurd hi (Nat.not_lt_zero _),λ i x h1 h2=>absurd h2 (by show ¬ i < k; exact Nat.not_lt.mpr h1)⟩) ?_)
  ·rintro y ⟨r,l,u⟩ st2 _ hy ⟨rfl,rfl,b1,b2,b3,b4,b5⟩
   dsimp only at b1 b2 b3 b4 b5 ⊢
   by_cases z:l ≥ u
   ·rw [if_pos z]
    have:l=u:=by omega
    subst this
    exact wpS_pure ⟨rfl,rfl,b2,b4,b5⟩
   ·rw [if_neg z]
    have em:R'[(l + u) / 2]?=some R'[(l + u) / 2]:=getElem?_eq_getElem (by omega)
    refine wpS_bind (vf1 c a1 hM1 (x:=R'[k]) (y:=R'[(l + u) / 2]) (by rw [getElem?_append_right (by omega),show lo + k - P.length=k by omega]; exact ev) (by rw [getElem?_append_right (by omega),show lo + (l + u) / 2 - P.length=(l + u) / 2 by omega]; exact em) ?_)
    cases q:lt R'[k] R'[(l + u) / 2] with
    | true =>
     refine wpS_pure ⟨rfl,rfl,by show l<=(l + u) / 2; omega,by show (l + u) / 2<=k; omega,by show (l + u) / 2 - l<=_; omega,b4,λ i x h1 h2 ex=>?_⟩
     by_cases e:i=(l + u) / 2
     ·subst e; rw [em] at ex; cases ex; exact c.lt_le q
     ·have h1':(l + u) / 2<=i:=h1
      exact c.le_tr (c.lt_le q) (xo0 so1 (show (l + u) / 2 < i by omega) (at' em (by omega)) (at' ex h2))
    | false =>
     refine wpS_pure ⟨rfl,rfl,by show (l + u) / 2 + 1<=u; omega,b2,by show u - ((l + u) / 2 + 1)<=_; omega,λ i x h1 ex=>?_,b5⟩
     have h1':i < (l + u) / 2 + 1:=h1
     by_cases e:i=(l + u) / 2
     ·subst e; rw [em] at ex; cases ex; exact q
     ·exact c.le_tr (xo0 so1 (show i < (l + u) / 2 by omega) (at' ex (by omega)) (at' em (by omega))) q
  ·rintro ⟨r,l,u⟩ st2 ⟨rfl,rfl,b1,b2,b3,b4,b5⟩
   dsimp only at b1 b2 b3 b4 b5 ⊢
   have:l=u:=by have:u - l<=k - max 0 k:=b3; omega
   subst this
   exact ⟨rfl,rfl,b2,b4,b5⟩
  ·rintro ⟨r,l,u⟩ st2 ⟨rfl,rfl,b2,b4,b5⟩
   dsimp only at b2 b4 b5 ⊢
   have d:R'=R'.take l ++ ((R'.take k).drop l ++ R'[k] :: R'.drop (k + 1)):=by
    have e1:=take_append_drop k R'
    rw [yi0 ev] at e1
    have e2:=take_append_drop l (R'.take k)
    rw [List.take_take,show min l k=l by omega] at e2
    rw [<- append_assoc,e2]
    exact e1.symm
   have t1:(R'.take l).length=l:=by rw [length_take]; omega
   have t2:((R'.take k).drop l).length=k - l:=by rw [length_drop,length_take]; omega
   refine wpS_bind (wl4 (U:=P ++ R'.take l) (V:=(R'.take k).drop l) (x:=R'[k]) (W:=R'.drop (k + 1)) (by rw [append_assoc,<- d]; exact a1) (by rw [length_append]; omega) (by rw [length_append]; omega) λ st3 a3=>wpS_pure ⟨rfl,R'.take l ++ R'[k] :: ((R'.take k).drop l ++ R'.drop (k + 1)),by rw [append_assoc] at a3; exact a3,?_,?_⟩)
   ·refine .trans ?_ pm
    conv=>rhs; rw [d]
    exact List.Perm.append_left _ List.perm_middle.symm
   ·have e:(R'.take l ++ R'[k] :: ((R'.take k).drop l ++ R'.drop (k + 1))).take (k + 1)=R'.take l ++ R'[k] :: (R'.take k).drop l:=by
      rw [<- cons_append,<- append_assoc]
      exact List.take_left' (by simp only [length_append,length_cons]; omega)
    rw [e]
    have m1:∀ z ∈ R'.take l,le lt z R'[k]:=λ z hz=>by
     obtain ⟨i,hi,ez⟩:=List.mem_take_iff_getElem.mp hz
     exact b4 i z (by omega) (List.getElem?_eq_some_iff.mpr ⟨by omega,ez⟩)
    have m2:∀ z ∈ (R'.take k).drop l,le lt R'[k] z:=λ z hz=>by
     obtain ⟨i,hi,ez⟩:=List.mem_drop_iff_getElem.mp hz
     have hi':i + l < k:=by rw [length_take] at hi; omega
     rw [List.getElem_take] at ez
     exact b5 (l + i) z (by omega) (by omega) (List.getElem?_eq_some_iff.mpr ⟨by omega,ez⟩)
    have so2:=so1
    have e2:=take_append_drop l (R'.take k)
    rw [List.take_take,show min l k=l by omega] at e2
    rw [<- e2] at so2
    obtain ⟨p1,p2,p3⟩:=List.pairwise_append.mp so2
    refine List.pairwise_append.mpr ⟨p1,List.pairwise_cons.mpr ⟨m2,p2⟩,λ z hz v hv=>?_⟩
    rcases List.mem_cons.mp hv with rfl | hv
    ·exact m1 z hz
    ·exact p3 z hz v hv
 ·rintro r st1 ⟨rfl,R',a1,pm,so1⟩
  exact ⟨rfl,R',a1,pm,by rw [show max (max ok 1) n=n by omega] at so1; exact so1⟩
 ·rintro r st1 ⟨rfl,R',a1,pm,so1⟩
  exact wpS_pure (h st1 R' a1 pm so1)
end
theorem wb (s:Nat):∀ (m V U W:List Keyed) (arr:Array Keyed) (o:Nat),arr.toList=U ++ (V ++ W)->V.length=m.length->U.length=s + o ->
    ((m.zipIdx o).foldl (λ (a:Array Keyed) (x:Keyed × Nat)=>match x with | (q,j)=>a.setIfInBounds (s + j) q) arr).toList=U ++ (m ++ W)
 | [],V,U,W,arr,o,h,l,_=>by
  have e:V=[]:=eq_nil_of_length_eq_zero l
  subst e
  exact h
 | v :: m,V,U,W,arr,o,h,l,hu=>by
  cases V with
  | nil=>simp at l
  | cons u V =>
   rw [List.zipIdx_cons,List.foldl_cons]
   have:=wb s m V (U ++ [v]) W (arr.setIfInBounds (s + o) v) (o + 1) (by
    rw [Array.toList_setIfInBounds,h,List.set_append_right _ _ (by omega),show s + o - U.length=0 by omega]
    simp) (by simpa using l) (by simp; omega)
   rw [append_assoc] at this
   exact this
section
variable {prog:Program} {w:World} {A:Around} {E:Value->Shared->Prop} {s:Shared} {κ:SortKind} {p:Array (Nat × Nat × Nat)}
variable {lt:Keyed->Keyed->Bool} {M:Keyed->Prop}
theorem xy2 {σ:Type} {Md:Model} {s':σ} {Q:PUnit->σ->Prop} {st:σ} (h:Q ⟨⟩ s'):wpS Md A E s (set s':StateT σ Sem PUnit) Q st:=by
 unfold wpS; rw [StateT.run_set]; exact wpAny_pure ⟨rfl,h⟩
theorem vk1 {arr:Array Keyed} {P r S:List Keyed} {b i:Nat} (h:arr.toList=P ++ (r ++ S)) (hb:b=P.length) (hi:i < r.length):arr[b + i]?=some r[i]:=by
 rw [<- getElem?_toList,h,getElem?_append_right (by omega),getElem?_append_left (by omega),show b + i - P.length=i by omega]
 exact getElem?_eq_getElem hi
theorem bsF (c:Cm prog w A s κ lt M) {arr:Array Keyed} {P r S:List Keyed} {b:Nat} {key:Keyed} (h:arr.toList=P ++ (r ++ S)) (hb:b=P.length) (hM:∀ x ∈ r,M x) (mk:M key) (so:r.Pairwise (le lt)):By lt M false key arr b r.length (λ i=>!lt key (r.getD i key)) where
 ky:=mk
 it:=λ i hi=>⟨r[i],vk1 h hb hi,hM _ (getElem_mem hi),by rw [getD_some (getElem?_eq_getElem hi),if_neg (by simp)]⟩
 mono:=λ i j hij hj q=>by
  by_cases z:i=j
  ·subst z; exact q
  have e1:=getElem?_eq_getElem (l:=r) (i:=i) (by omega)
  have e2:=getElem?_eq_getElem hj
  have l:=xo0 so (show i < j by omega) e1 e2
  rw [getD_some e2] at q
  rw [getD_some e1]
  have h':le lt r[j] key:=(by simpa using q:lt key r[j]=false)
  have z:lt key r[i]=false:=c.le_tr l h'
  simpa using z
theorem bsT (c:Cm prog w A s κ lt M) {arr:Array Keyed} {P r S:List Keyed} {b:Nat} {key:Keyed} (h:arr.toList=P ++ (r ++ S)) (hb:b=P.length) (hM:∀ x ∈ r,M x) (mk:M key) (so:r.Pairwise (le lt)):By lt M true key arr b r.length (λ i=>lt (r.getD i key) key) where
 ky:=mk
 it:=λ i hi=>⟨r[i],vk1 h hb hi,hM _ (getElem_mem hi),by rw [getD_some (getElem?_eq_getElem hi),if_pos rfl]⟩
 mono:=λ i j hij hj q=>by
  by_cases z:i=j
  ·subst z; exact q
  have e1:=getElem?_eq_getElem (l:=r) (i:=i) (by omega)
  have e2:=getElem?_eq_getElem hj
  have l:=xo0 so (show i < j by omega) e1 e2
  rw [getD_some e2] at q
  rw [getD_some e1]
  rcases c.ng r[j] r[i] key q with z | z
  ·rw [show lt r[j] r[i]=false from l] at z; cases z
  ·exact z
theorem zm4 (c:Cm prog w A s κ lt M) {st:SortSt} {P r1 r2 S:List Keyed} {i sa na pw sb nb pw2:Nat} {Q:Bool->SortSt->Prop} (a:At κ p st (P ++ (r1 ++ (r2 ++ S)))) (hM:∀ x ∈ r1 ++ r2,M x) (e1:p[i]?=some (sa,na,pw)) (e2:p[i + 1]?=some (sb,nb,pw2)) (hsa:sa=P.length) (hna:na=r1.length) (hsb:sb=P.length + r1.length) (hnb:nb=r2.length)
    (n1:0 < r1.length) (n2:0 < r2.length) (s1:r1.Pairwise (le lt)) (s2:r2.Pairwise (le lt)) (h:∀ st' m,At κ ((p.setIfInBounds i (sa,na + nb,pw)).eraseIdxIfInBounds (i + 1)) st' (P ++ (m ++ S))->m.Perm (r1 ++ r2)->m.Pairwise (le lt)->Q true st') :
    wpS (model prog w) A E s (mergeAt' i) Q st:=by
 refine wpS_bind (wpS_get ?_)
 obtain rfl:=a.pe
 have ls:=a.ls
 rw [e1,e2]
 dsimp only
 have M1:∀ x ∈ r1,M x:=λ x hx=>hM x (mem_append_left _ hx)
 have M2:∀ x ∈ r2,M x:=λ x hx=>hM x (mem_append_right _ hx)
 have ls2:(arrOf st).toList=(P ++ r1) ++ (r2 ++ S):=by rw [append_assoc]; exact ls
 have hsb':sb=(P ++ r1).length:=by rw [length_append]; exact hsb
 have k0:r2[0]?=some r2[0]:=getElem?_eq_getElem n2
 have kl:r1[r1.length - 1]?=some r1[r1.length - 1]:=getElem?_eq_getElem (by omega)
 have fin:∀ {st':SortSt},Ok κ st'->arrOf st'=arrOf st->pendingOf st'=((pendingOf st).setIfInBounds i (sa,na + nb,pw)).eraseIdxIfInBounds (i + 1)->(∀ x ∈ r1,∀ y ∈ r2,le lt x y)->Q true st':=λ o ea ep hx =>
  h _ (r1 ++ r2) ⟨o,ep,by rw [ea,ls,append_assoc]⟩ (.refl _) (List.pairwise_append.mpr ⟨s1,s2,hx⟩)
 refine wpS_bind (xy2 ?_)
 refine wpS_bind (wd0 (x:=r2[0]) (by have:=vk1 (i:=0) ls2 hsb' n2; exact this) ?_)
 subst hna hnb
 refine wpS_bind (xw0 c ⟨a.ok.kd,a.ok.fl⟩ (bsF c ls hsa M1 (M2 _ (getElem_mem n2)) s1) n1 λ k k1 k2 k3=>?_)
 dsimp only
 have lowA:∀ i x,i < k->r1[i]?=some x->le lt x r2[0]:=λ i x hi ex=>by
  have q:=k2 i hi
  rw [getD_some ex] at q
  exact (by simpa using q:lt r2[0] x=false)
 have highA:∀ i x,k<=i->r1[i]?=some x->le lt r2[0] x:=λ i x hi ex=>by
  have q:=k3 i hi (List.getElem?_eq_some_iff.mp ex).1
  rw [getD_some ex] at q
  exact c.lt_le (by simpa using q)
 have first2:∀ y ∈ r2,le lt r2[0] y:=λ y hy=>by
  obtain ⟨j,hj,rfl⟩:=List.mem_iff_getElem.mp hy
  by_cases z:j=0
  ·subst z; exact c.rf _
  ·exact xo0 s2 (by omega) k0 (getElem?_eq_getElem hj)
 have last1:∀ x ∈ r1,le lt x r1[r1.length - 1]:=λ x hx=>by
  obtain ⟨j,hj,rfl⟩:=List.mem_iff_getElem.mp hx
  by_cases z:j=r1.length - 1
  ·subst z; exact c.rf _
  ·exact xo0 s1 (by omega) (getElem?_eq_getElem hj) kl
 by_cases z:(r1.length - k == 0)=true
 ·rw [if_pos z]
  have z':r1.length - k=0:=eq_of_beq z
  refine wpS_pure (fin ⟨a.ok.kd,a.ok.fl⟩ rfl rfl λ x hx y hy=>?_)
  obtain ⟨j,hj,rfl⟩:=List.mem_iff_getElem.mp hx
  exact c.le_tr (lowA j _ (by omega) (getElem?_eq_getElem hj)) (first2 y hy)
 rw [if_neg z]
 have z':r1.length - k ≠ 0:=λ e=>z (beq_iff_eq.mpr e)
 refine wpS_bind (wd0 (x:=r1[r1.length - 1]) (by
  have:=vk1 (i:=r1.length - 1) ls hsa (by omega)
  rw [show sa + k + (r1.length - k) - 1=sa + (r1.length - 1) by omega]
  exact this) ?_)
 refine wpS_bind (xw0 c ⟨a.ok.kd,a.ok.fl⟩ (bsT c ls2 hsb' M2 (M1 _ (getElem_mem _)) s2) (by omega) λ t t1 t2 t3=>?_)
 dsimp only
 have lowB:∀ i y,i < t->r2[i]?=some y->le lt y r1[r1.length - 1]:=λ i y hi ey=>by
  have q:=t2 i hi
  rw [getD_some ey] at q
  exact c.lt_le q
 have highB:∀ i y,t<=i->r2[i]?=some y->le lt r1[r1.length - 1] y:=λ i y hi ey=>by
  have q:=t3 i hi (List.getElem?_eq_some_iff.mp ey).1
  rw [getD_some ey] at q
  exact q
 by_cases zt:(t == 0)=true
 ·rw [if_pos zt]
  have zt':t=0:=eq_of_beq zt
  refine wpS_pure (fin ⟨a.ok.kd,a.ok.fl⟩ rfl rfl λ x hx y hy=>?_)
  obtain ⟨j,hj,rfl⟩:=List.mem_iff_getElem.mp hy
  exact c.le_tr (last1 x hx) (highB j _ (by omega) (getElem?_eq_getElem hj))
 rw [if_neg zt]
 have zt':t ≠ 0:=λ e=>zt (beq_iff_eq.mpr e)
 have xs:((arrOf st).extract (sa + k) sb).toList=r1.drop k:=by
  rw [vj3,ls2,List.take_append_of_le_length (by omega),take_of_length_le (by omega),List.drop_append,show sa + k - P.length=k by omega,drop_eq_nil_of_le (by omega),nil_append]
 have ys:((arrOf st).extract sb (sb + t)).toList=r2.take t:=by
  rw [uj3,ls2,List.drop_left' hsb'.symm,List.take_append_of_le_length (by omega)]
 have dx:∀ x ∈ r1.drop k,∃ j,k<=j /\ r1[j]?=some x:=λ x hx=>by
  obtain ⟨j,hj,rfl⟩:=List.mem_drop_iff_getElem.mp hx
  exact ⟨k + j,by omega,getElem?_eq_getElem (by omega)⟩
 have dy:∀ y ∈ r2.take t,∃ j,j < t /\ r2[j]?=some y:=λ y hy=>by
  obtain ⟨j,hj,rfl⟩:=List.mem_take_iff_getElem.mp hy
  exact ⟨j,by omega,getElem?_eq_getElem (by omega)⟩
 have done:∀ (mg:Array Keyed) (st2:SortSt),Same κ (SortSt.mk' (kindOf st) (arrOf st) (((pendingOf st).setIfInBounds i (sa,r1.length + r2.length,pw)).eraseIdxIfInBounds (i + 1)) (gallopOf st) (failedOf st)) st2->Fin lt (r1.drop k) (r2.take t) mg.toList ->
     ∀ (f:SortSt->SortSt),(∀ u,f u=setArr u (mg.toList.zipIdx.foldl (λ (a:Array Keyed) (x:Keyed × Nat)=>match x with | (q,j)=>a.setIfInBounds (sa + k + j) q) (arrOf u)))->wpS (model prog w) A E s (modify f >>= λ _=>get >>= λ u=>pure (failedOf u).isNone) Q st2:=by
  intro mg st2 sm F f hf
  refine wpS_bind (wpS_modify (wpS_bind (wpS_get ?_)))
  rw [hf]
  have e:(failedOf (setArr st2 (mg.toList.zipIdx.foldl (λ (a:Array Keyed) (x:Keyed × Nat)=>match x with | (q,j)=>a.setIfInBounds (sa + k + j) q) (arrOf st2)))).isNone=true:=by
   show (failedOf st2).isNone=true
   rw [sm.ok.fl]; rfl
  rw [e]
  have l1:(r1.take k).length=k:=by rw [length_take]; omega
  have l2:mg.toList.length=(r1.drop k ++ r2.take t).length:=F.1.length_eq
  have wbk:=wb (sa + k) mg.toList (r1.drop k ++ r2.take t) (P ++ r1.take k) (r2.drop t ++ S) (arrOf st2) 0 (by
   rw [sm.ar]
   show (arrOf st).toList=_
   rw [ls]
   simp only [append_assoc]
   rw [<- append_assoc (r1.take k),take_append_drop,<- append_assoc (r2.take t),take_append_drop]) l2.symm (by rw [length_append]; omega)
  refine wpS_pure (h _ (r1.take k ++ mg.toList ++ r2.drop t) ⟨⟨sm.ok.kd,sm.ok.fl⟩,sm.pe,?_⟩ ?_ ?_)
  ·refine wbk.trans ?_
   simp only [append_assoc]
  ·have q:=F.1
   refine .trans (List.Perm.append_right _ (List.Perm.append_left _ q)) ?_
   rw [<- append_assoc (r1.take k),take_append_drop,append_assoc,take_append_drop]
  ·have mem:∀ v ∈ mg.toList,v ∈ r1.drop k \/ v ∈ r2.take t:=λ v hv=>List.mem_append.mp (F.1.mem_iff.mp hv)
   have lowk:∀ x ∈ r1.take k,le lt x r2[0]:=λ x hx=>by
    obtain ⟨j,hj,rfl⟩:=List.mem_take_iff_getElem.mp hx
    exact lowA j _ (by omega) (getElem?_eq_getElem (by omega))
   have s1':=s1
   rw [<- take_append_drop k r1] at s1'
   have s2':=s2
   rw [<- take_append_drop t r2] at s2'
   have hd:∀ y ∈ r2.drop t,le lt r1[r1.length - 1] y:=λ y hy=>by
    obtain ⟨j,hj,rfl⟩:=List.mem_drop_iff_getElem.mp hy
    exact highB (t + j) _ (by omega) (getElem?_eq_getElem (by omega))
   refine List.pairwise_append.mpr ⟨List.pairwise_append.mpr ⟨(List.pairwise_append.mp s1').1,F.2,λ x hx v hv=>?_⟩,(List.pairwise_append.mp s2').2.1,λ x hx y hy=>?_⟩
   ·rcases mem v hv with q | q
    ·exact (List.pairwise_append.mp s1').2.2 x hx v q
    ·exact c.le_tr (lowk x hx) (first2 v (mem_of_mem_take q))
   ·rcases List.mem_append.mp hx with q | q
    ·exact c.le_tr (lowk x q) (first2 y (mem_of_mem_drop hy))
    ·rcases mem x q with q | q
     ·exact c.le_tr (last1 x (mem_of_mem_drop q)) (hd y hy)
     ·exact (List.pairwise_append.mp s2').2.2 x q y hy
 have pre1:∀ x ∈ ((arrOf st).extract (sa + k) sb).toList,M x:=λ x hx=>M1 x (by rw [xs] at hx; exact mem_of_mem_drop hx)
 have pre2:∀ x ∈ ((arrOf st).extract sb (sb + t)).toList,M x:=λ x hx=>M2 x (by rw [ys] at hx; exact mem_of_mem_take hx)
 have pre3:((arrOf st).extract (sa + k) sb).toList.Pairwise (le lt):=by rw [xs]; exact s1.sublist (drop_sublist _ _)
 have pre4:((arrOf st).extract sb (sb + t)).toList.Pairwise (le lt):=by rw [ys]; exact s2.sublist (take_sublist _ _)
 have pre5:0 < ((arrOf st).extract (sa + k) sb).toList.length:=by rw [xs,length_drop]; omega
 have pre6:0 < ((arrOf st).extract sb (sb + t)).toList.length:=by rw [ys,length_take]; omega
 have pre7:∀ x y,((arrOf st).extract sb (sb + t)).toList[0]?=some x->((arrOf st).extract (sa + k) sb).toList[0]?=some y->le lt x y:=λ x y hx hy=>by
  rw [ys,getElem?_take_of_lt (by omega),k0] at hx
  cases hx
  rw [xs] at hy
  obtain ⟨j,hj,ej⟩:=dx y (mem_of_getElem? hy)
  exact highA j y hj ej
 have pre8:∀ x,((arrOf st).extract (sa + k) sb).toList[((arrOf st).extract (sa + k) sb).toList.length - 1]?=some x->∀ y ∈ ((arrOf st).extract sb (sb + t)).toList,le lt y x:=λ x hx y hy=>by
  rw [xs,length_drop,getElem?_drop,show k + (r1.length - k - 1)=r1.length - 1 by omega,kl] at hx
  cases hx
  rw [ys] at hy
  obtain ⟨j,hj,ej⟩:=dy y hy
  exact lowB j y hj ej
 by_cases g:r1.length - k<=t
 ·rw [if_pos g]
  refine wpS_bind (ul4 c ⟨a.ok.kd,a.ok.fl⟩ pre1 pre2 pre3 pre4 pre5 pre6 pre7 pre8 λ mg st2 sm F=>?_)
  rw [xs,ys] at F
  refine done mg st2 sm F _ ?_
  intro u; rfl
 ·rw [if_neg g]
  refine wpS_bind (ym4 c ⟨a.ok.kd,a.ok.fl⟩ pre1 pre2 pre3 pre4 pre5 pre6 pre7 pre8 λ mg st2 sm F=>?_)
  rw [xs,ys] at F
  refine done mg st2 sm F _ ?_
  intro u; rfl
end
def pos:Nat->List (List Keyed)->List (Nat × Nat)
 | _,[]=>[]
 | o,r :: rs=>(o,r.length) :: pos (o + r.length) rs
theorem sx0:∀ (o:Nat) (X Y:List (List Keyed)),pos o (X ++ Y)=pos o X ++ pos (o + X.flatten.length) Y
 | o,[],Y=>by simp [pos]
 | o,r :: X,Y=>by
  show (o,r.length) :: pos (o + r.length) (X ++ Y)=_
  rw [sx0]
  simp [pos,Nat.add_assoc]
theorem wh1:∀ (o:Nat) (X:List (List Keyed)),(pos o X).length=X.length
 | _,[]=>rfl
 | o,r :: X=>by show (pos _ X).length + 1=X.length + 1; rw [wh1]
abbrev pn (t:Nat × Nat × Nat):Nat × Nat:=(t.1,t.2.1)
structure Lay (κ:SortKind) (lt:Keyed->Keyed->Bool) (L0:List Keyed) (p:Array (Nat × Nat × Nat)) (st:SortSt) (rs:List (List Keyed)) (rest:List Keyed):Prop where
 at_:At κ p st (rs.flatten ++ rest)
 po:p.toList.map pn=pos 0 rs
 so:∀ r ∈ rs,0 < r.length /\ r.Pairwise (le lt)
 pm:(rs.flatten ++ rest).Perm L0
theorem Lay.size {κ:SortKind} {lt:Keyed->Keyed->Bool} {L0:List Keyed} {p:Array (Nat × Nat × Nat)} {st:SortSt} {rs:List (List Keyed)} {rest:List Keyed} (l:Lay κ lt L0 p st rs rest):p.size=rs.length:=by
 have:=congrArg List.length l.po
 rw [length_map,wh1] at this
 exact this
theorem Lay.many {κ:SortKind} {lt:Keyed->Keyed->Bool} {L0:List Keyed} {p:Array (Nat × Nat × Nat)} {st:SortSt} {rs:List (List Keyed)} {rest:List Keyed} (l:Lay κ lt L0 p st rs rest):rs.length<=rs.flatten.length:=by
 have h:=l.so
 clear l
 induction rs with
 | nil=>simp
 | cons r rs ih =>
  have a:=(h r (.head _)).1
  have b:=ih λ x hx=>h x (.tail _ hx)
  simp only [length_cons,flatten_cons,length_append]
  omega
section
variable {prog:Program} {w:World} {A:Around} {E:Value->Shared->Prop} {s:Shared} {κ:SortKind} {p:Array (Nat × Nat × Nat)}
variable {lt:Keyed->Keyed->Bool} {M:Keyed->Prop}
theorem Lay.merge (c:Cm prog w A s κ lt M) {L0:List Keyed} {st:SortSt} {rs:List (List Keyed)} {rest:List Keyed} {i:Nat} {Q:Bool->SortSt->Prop} (hM:∀ x ∈ L0,M x) (l:Lay κ lt L0 p st rs rest) (hi:i + 1 < rs.length)
    (h:∀ st' p' rs',Lay κ lt L0 p' st' rs' rest->rs'.length + 1=rs.length->rs'.flatten.length=rs.flatten.length->Q true st'):wpS (model prog w) A E s (mergeAt' i) Q st:=by
 obtain ⟨X,r1,r2,Y,rfl,hX⟩:∃ X r1 r2 Y,rs=X ++ r1 :: r2 :: Y /\ X.length=i:=by
  refine ⟨rs.take i,rs[i],rs[i + 1],rs.drop (i + 2),?_,by rw [length_take]; omega⟩
  rw [<- List.drop_eq_getElem_cons,<- List.drop_eq_getElem_cons,take_append_drop]
 have po:=l.po
 rw [sx0] at po
 obtain ⟨px,pr,e1,e2,e3⟩:=List.map_eq_append_iff.mp po
 obtain ⟨t1,pr1,e4,e5,e6⟩:=List.map_eq_cons_iff.mp e3
 obtain ⟨t2,py,e7,e8,e9⟩:=List.map_eq_cons_iff.mp e6
 subst e4 e7
 obtain ⟨sa,na,pw⟩:=t1
 obtain ⟨sb,nb,pw2⟩:=t2
 have lp:px.length=i:=by have:=congrArg List.length e2; rw [length_map,wh1] at this; omega
 injection e5 with f1 f2
 injection e8 with f3 f4
 dsimp only at f1 f2 f3 f4
 rw [Nat.zero_add] at f1 f3 e9
 have g1:p[i]?=some (sa,na,pw):=by rw [<- getElem?_toList,e1,getElem?_append_right (by omega),show i - px.length=0 by omega]; rfl
 have g2:p[i + 1]?=some (sb,nb,pw2):=by rw [<- getElem?_toList,e1,getElem?_append_right (by omega),show i + 1 - px.length=1 by omega]; rfl
 have a:=l.at_
 have fl:(X ++ r1 :: r2 :: Y).flatten ++ rest=X.flatten ++ (r1 ++ (r2 ++ (Y.flatten ++ rest))):=by simp
 rw [fl] at a
 have pm:=l.pm
 rw [fl] at pm
 have s1:=l.so r1 (by simp)
 have s2:=l.so r2 (by simp)
 refine zm4 c a (λ x hx=>hM x (pm.mem_iff.mp ?_)) g1 g2 f1 f2 f3 f4 s1.1 s2.1 s1.2 s2.2 λ st' m a' pm' so'=>?_
 ·rcases List.mem_append.mp hx with q | q
  ·exact mem_append_right _ (mem_append_left _ q)
  ·exact mem_append_right _ (mem_append_right _ (mem_append_left _ q))
 ·have lm:=pm'.length_eq
  rw [length_append] at lm
  refine h st' ((p.setIfInBounds i (sa,na + nb,pw)).eraseIdxIfInBounds (i + 1)) (X ++ m :: Y) ⟨?_,?_,?_,?_⟩ (by simp; omega) (by simp only [List.flatten_append,flatten_cons,length_append]; omega)
  ·have fl2:(X ++ m :: Y).flatten ++ rest=X.flatten ++ (m ++ (Y.flatten ++ rest)):=by simp
   rw [fl2]
   exact a'
  ·have pl:((p.setIfInBounds i (sa,na + nb,pw)).eraseIdxIfInBounds (i + 1)).toList=px ++ (sa,na + nb,pw) :: py:=by
     rw [Array.toList_eraseIdxIfInBounds,Array.toList_setIfInBounds,e1,List.set_append_right _ _ (by omega),show i - px.length=0 by omega,set_cons_zero,List.eraseIdx_append_of_length_le (by omega),show i + 1 - px.length=1 by omega]
     rfl
   rw [pl,map_append,e2,sx0,map_cons]
   refine congrArg _ ?_
   show (sa,na + nb) :: _=(0 + X.flatten.length,m.length) :: pos _ Y
   rw [Nat.zero_add,f1,show na + nb=m.length by omega,e9,show X.flatten.length + m.length=X.flatten.length + r1.length + r2.length by omega]
  ·intro r hr
   rcases List.mem_append.mp hr with q | q
   ·exact l.so r (mem_append_left _ q)
   ·rcases List.mem_cons.mp q with rfl | q
    ·exact ⟨by omega,so'⟩
    ·exact l.so r (mem_append_right _ (.tail _ (.tail _ q)))
  ·refine .trans ?_ pm
   have fl2:(X ++ m :: Y).flatten ++ rest=X.flatten ++ (m ++ (Y.flatten ++ rest)):=by simp
   rw [fl2]
   refine List.Perm.append_left _ ?_
   rw [<- append_assoc r1]
   exact List.Perm.append_right _ pm'
theorem ts3 (c:Cm prog w A s κ lt M) {st:SortSt} {L0:List Keyed} {Q:Unit->SortSt->Prop} (a:At κ #[] st L0) (hM:∀ x ∈ L0,M x) (h2:2<=L0.length) (h:∀ st' p L,At κ p st' L->L.Perm L0->L.Pairwise (le lt)->Q () st') :
    wpS (model prog w) A E s sortRuns' Q st:=by
 refine wpS_bind (wpS_get ?_)
 dsimp only
 have sz:(arrOf st).size=L0.length:=by rw [<- length_toList,a.ls]
 generalize hsz:(arrOf st).size=size at *
 have hs:size=L0.length:=sz
 generalize ((sortPriv% PySem.Builtin.minRun):Nat->Nat->Nat->Nat) size size 0=mr
 have st0:Lay κ lt L0 #[] st [] L0:=⟨by simpa using a,rfl,λ _ h=>(nomatch h),by simp⟩
 have llen:∀ {p:Array (Nat × Nat × Nat)} {st':SortSt} {rs:List (List Keyed)} {rest:List Keyed},Lay κ lt L0 p st' rs rest->rs.flatten.length + rest.length=size:=λ l=>by
  have:=l.pm.length_eq
  rw [length_append] at this
  omega
 have push:∀ {p:Array (Nat × Nat × Nat)} {st':SortSt} {rs:List (List Keyed)} {rest:List Keyed} {lo n:Nat},Lay κ lt L0 p st' rs rest->lo=rs.flatten.length->1<=n->n<=rest.length->(rest.take n).Pairwise (le lt) ->
     Lay κ lt L0 (p.push (lo,n,0)) (setPending st' ((pendingOf st').push (lo,n,0))) (rs ++ [rest.take n]) (rest.drop n):=by
  intro p st' rs rest lo n l hlo h1 h2 so
  have e:(rs ++ [rest.take n]).flatten ++ rest.drop n=rs.flatten ++ rest:=by simp
  have lt1:(rest.take n).length=n:=by rw [length_take]; omega
  refine ⟨by rw [e]; exact ⟨⟨l.at_.ok.kd,l.at_.ok.fl⟩,by show (pendingOf st').push _=_; rw [l.at_.pe],l.at_.ls⟩,?_,?_,by rw [e]; exact l.pm⟩
  ·rw [toList_push,map_append,l.po,sx0]
   refine congrArg _ ?_
   show [(lo,n)]=[(0 + rs.flatten.length,(rest.take n).length)]
   rw [Nat.zero_add,lt1,hlo]
  ·intro r hr
   rcases List.mem_append.mp hr with q | q
   ·exact l.so r q
   ·rw [mem_singleton] at q; subst q; exact ⟨by omega,so⟩
 refine wpS_bind (wpS_mono (wpS_forRange (λ x (r:Option Unit × Nat) st'=>r.1=none /\ x<=r.2 /\ ∃ p rs rest,Lay κ lt L0 p st' rs rest /\ r.2=rs.flatten.length) (Q:=λ (r:Option Unit × Nat) st'=>r.1=none /\ ∃ p rs,Lay κ lt L0 p st' rs []) ?_ ?_ ⟨rfl,Nat.zero_le _,#[],[],L0,st0,rfl⟩) ?_)
 ·rintro x ⟨r,lo⟩ st1 _ hx ⟨rfl,b1,p1,rs,rest,l,hlo⟩
  dsimp only at b1 hlo ⊢
  have ln:=llen l
  by_cases z:lo ≥ size
  ·rw [if_pos z]
   have e:rest=[]:=eq_nil_of_length_eq_zero (by omega)
   subst e
   exact wpS_pure ⟨rfl,p1,rs,l⟩
  ·rw [if_neg z]
   have hr:size - lo=rest.length:=by omega
   rw [hr]
   refine wpS_bind (yp4 c l.at_ (λ x hx=>hM x (l.pm.mem_iff.mp hx)) hlo (by omega) λ m st2 R2 a2 pm2 m1 m2 so2=>?_)
   have l2:Lay κ lt L0 p1 st2 rs R2:=⟨a2,l.po,l.so,(List.Perm.append_left _ pm2).trans l.pm⟩
   have r2l:=pm2.length_eq
   have jp:∀ (n:Nat) (st3:SortSt) (R3:List Keyed),Lay κ lt L0 p1 st3 rs R3->1<=n->n<=R3.length->(R3.take n).Pairwise (le lt)->∀ (G:SortSt->StateT SortSt Sem (ForInStep (Option Unit × Nat))) (J:StateT SortSt Sem (ForInStep (Option Unit × Nat))),
       (∀ (q:Array (Nat × Nat × Nat)) (st4:SortSt) rs4,Lay κ lt L0 q st4 rs4 R3->rs4.flatten.length=lo->wpS (model prog w) A E s J (λ r st'=>match r with
        | .done c'=>c'.1=none /\ ∃ p rs,Lay κ lt L0 p st' rs []
        | .yield c'=>c'.1=none /\ x + 1<=c'.2 /\ ∃ p rs rest,Lay κ lt L0 p st' rs rest /\ c'.2=rs.flatten.length) st4) ->
       ((pendingOf st3).back?=none->G st3=J)->(∀ s1 n1 o1,(pendingOf st3).back?=some (s1,n1,o1)->∃ (pw:Nat) (f:Nat->Option Unit × Unit->StateT SortSt Sem (ForInStep (Option Unit × Unit))) (g:Option Unit × Unit->StateT SortSt Sem (ForInStep (Option Unit × Nat))),G st3=(forIn [0:size] (none,()) f >>= g) ∧
        (∀ y,f y (none,())=(get >>= λ u=>match (if (pendingOf u).size > 1 then (pendingOf u)[(pendingOf u).size - 2]? else none) with
         | some (_,_,older)=>if older<=pw then pure (.done (none,())) else mergeAt' ((pendingOf u).size - 2) >>= λ b=>if (!b)=true then pure (.done (some (),())) else pure (.yield (none,()))
         | none=>pure (.done (none,())))) ∧
        g (none,())=(modify (λ u=>setPending u ((pendingOf u).modify ((pendingOf u).size - 1) λ t=>(t.1,t.2.1,pw))) >>= λ _=>J)) ->
       wpS (model prog w) A E s (get >>= G) (λ r st'=>match r with
        | .done c'=>c'.1=none /\ ∃ p rs,Lay κ lt L0 p st' rs []
        | .yield c'=>c'.1=none /\ x + 1<=c'.2 /\ ∃ p rs rest,Lay κ lt L0 p st' rs rest /\ c'.2=rs.flatten.length) st3:=by
    intro n st3 R3 l3 h1 h2 so3 G J hJ hG1 hG2
    refine wpS_bind (wpS_get ?_)
    cases hb:(pendingOf st3).back? with
    | none =>
     rw [hG1 hb]
     exact hJ _ st3 rs l3 hlo.symm
    | some t =>
     obtain ⟨s1,n1,o1⟩:=t
     obtain ⟨pw,f,g,e1,e2,e3⟩:=hG2 s1 n1 o1 hb
     rw [e1]
     refine wpS_bind (wpS_mono (wpS_forRange (λ y (r:Option Unit × Unit) st'=>r=(none,()) /\ ∃ q rs4,Lay κ lt L0 q st' rs4 R3 /\ rs4.flatten.length=lo) (Q:=λ (r:Option Unit × Unit) st'=>r=(none,()) /\ ∃ q rs4,Lay κ lt L0 q st' rs4 R3 /\ rs4.flatten.length=lo) ?_ (λ _ _ q=>q) ⟨rfl,p1,rs,l3,hlo.symm⟩) ?_)
     ·rintro y r st4 _ _ ⟨rfl,q,rs4,l4,hl4⟩
      rw [e2]
      refine wpS_bind (wpS_get ?_)
      have pe:=l4.at_.pe
      have ps:=l4.size
      by_cases c1:(pendingOf st4).size > 1
      ·rw [if_pos c1]
       cases c2:(pendingOf st4)[(pendingOf st4).size - 2]? with
       | none=>exact wpS_pure ⟨rfl,q,rs4,l4,hl4⟩
       | some t =>
        obtain ⟨_,_,older⟩:=t
        dsimp only
        by_cases c3:older<=pw
        ·rw [if_pos c3]
         exact wpS_pure ⟨rfl,q,rs4,l4,hl4⟩
        ·rw [if_neg c3]
         refine wpS_bind (l4.merge c hM (by rw [pe] at c1 ⊢; omega) λ st5 p5 rs5 l5 _ hl5=>?_)
         rw [if_neg (by simp)]
         exact wpS_pure ⟨rfl,p5,rs5,l5,by omega⟩
      ·rw [if_neg c1]
       exact wpS_pure ⟨rfl,q,rs4,l4,hl4⟩
     ·rintro r st4 ⟨rfl,q,rs4,l4,hl4⟩
      rw [e3]
      refine wpS_bind (wpS_modify (hJ (q.modify (q.size - 1) λ t=>(t.1,t.2.1,pw)) _ rs4 ⟨⟨⟨l4.at_.ok.kd,l4.at_.ok.fl⟩,?_,l4.at_.ls⟩,?_,l4.so,l4.pm⟩ hl4))
      ·have pe4:=l4.at_.pe
       subst pe4
       rfl
      ·rw [<- l4.po,Array.toList_modify]
       apply ext_getElem?
       intro k
       rw [getElem?_map,getElem?_map,List.getElem?_modify]
       split
       ·cases q.toList[k]? <;> rfl
       ·cases q.toList[k]? <;> rfl
   have end_:∀ {n:Nat} {R3:List Keyed},1<=n->n<=R3.length->(R3.take n).Pairwise (le lt)->∀ (q:Array (Nat × Nat × Nat)) (st4:SortSt) rs4,Lay κ lt L0 q st4 rs4 R3->rs4.flatten.length=lo->∀ (f:SortSt->SortSt),(∀ u,f u=setPending u ((pendingOf u).push (lo,n,0)))->wpS (model prog w) A E s (modify f >>= λ _=>pure (ForInStep.yield ((none,lo + n):Option Unit × Nat))) (λ r st'=>match r with
         | .done c'=>c'.1=none /\ ∃ p rs,Lay κ lt L0 p st' rs []
         | .yield c'=>c'.1=none /\ x + 1<=c'.2 /\ ∃ p rs rest,Lay κ lt L0 p st' rs rest /\ c'.2=rs.flatten.length) st4:=by
    intro n R3 h1 h2 so3 q st4 rs4 l4 hl4 f hf
    refine wpS_bind (wpS_modify (wpS_pure ?_))
    rw [hf]
    refine ⟨rfl,by show x + 1<=lo + n; omega,_,_,_,push l4 hl4.symm h1 h2 so3,?_⟩
    show lo + n=_
    rw [List.flatten_append,length_append]
    simp only [flatten_cons,List.flatten_nil,append_nil,length_take]
    omega
   dsimp only
   by_cases g:m < mr
   ·rw [if_pos g]
    refine wpS_bind (wpS_lift (wpAny_rule ⟨rfl,?_⟩))
    refine wpS_bind (vh2 c a2 (λ x hx=>hM x (l2.pm.mem_iff.mp hx)) hlo m1 (show m<=min rest.length mr by omega) (by omega) so2 λ st3 R3 a3 pm3 so3=>?_)
    rw [if_neg (by simp)]
    have l3:Lay κ lt L0 p1 st3 rs R3:=⟨a3,l.po,l.so,(List.Perm.append_left _ pm3).trans l2.pm⟩
    have r3l:=pm3.length_eq
    refine wpS_mono (jp _ st3 R3 l3 (show 1<=min rest.length mr by omega) (by omega) so3 _ _ (λ q st4 rs4 l4 hl4=>end_ (by omega) (by omega) so3 q st4 rs4 l4 hl4 _ λ _=>rfl) ?_ ?_) ?_
    ·intro hb; rw [hb]
    ·intro s1 n1 o1 hb
     rw [hb]
     refine ⟨_,_,_,rfl,λ y=>?_,rfl⟩
     refine congrArg _ (funext λ u=>?_)
     generalize (if (pendingOf u).size > 1 then (pendingOf u)[(pendingOf u).size - 2]? else none)=o
     rcases o with _ | ⟨_,_,_⟩ <;> rfl
    ·intro r st' q; cases r <;> exact q
   ·rw [if_neg g]
    refine wpS_mono (jp m st2 R2 l2 m1 (by omega) so2 _ _ (λ q st4 rs4 l4 hl4=>end_ m1 (by omega) so2 q st4 rs4 l4 hl4 _ λ _=>rfl) ?_ ?_) ?_
    ·intro hb; rw [hb]
    ·intro s1 n1 o1 hb
     rw [hb]
     refine ⟨_,_,_,rfl,λ y=>?_,rfl⟩
     refine congrArg _ (funext λ u=>?_)
     generalize (if (pendingOf u).size > 1 then (pendingOf u)[(pendingOf u).size - 2]? else none)=o
     rcases o with _ | ⟨_,_,_⟩ <;> rfl
    ·intro r st' q; cases r <;> exact q
 ·rintro ⟨r,lo⟩ st1 ⟨rfl,b1,p1,rs,rest,l,hlo⟩
  dsimp only at b1 hlo
  have ln:=llen l
  have b1':max 0 size<=lo:=b1
  have e:rest=[]:=eq_nil_of_length_eq_zero (by omega)
  subst e
  exact ⟨rfl,p1,rs,l⟩
 ·rintro ⟨r,lo⟩ st1 ⟨rfl,p1,rs,l⟩
  dsimp only
  have ln:=llen l
  have mn:=l.many
  refine wpS_bind (wpS_mono (wpS_forRange (λ x (r:Option Unit × Unit) st'=>r=(none,()) /\ ∃ p rs,Lay κ lt L0 p st' rs [] /\ rs.length + x<=size + 1 + (if rs.length<=1 then x else 0)) (Q:=λ (r:Option Unit × Unit) st'=>r=(none,()) /\ ∃ p rs,Lay κ lt L0 p st' rs [] /\ rs.length<=1) ?_ ?_ ⟨rfl,p1,rs,l,by rw [length_nil] at ln; omega⟩) ?_)
  ·rintro x r st2 _ hx ⟨rfl,p2,rs2,l2,b⟩
   refine wpS_bind (wpS_get ?_)
   have pe:=l2.at_.pe
   have ps:=l2.size
   have ps':(pendingOf st2).size=rs2.length:=by rw [pe]; exact ps
   by_cases z:(pendingOf st2).size<=1
   ·rw [if_pos z]
    exact wpS_pure ⟨rfl,p2,rs2,l2,by omega⟩
   ·rw [if_neg z]
    refine wpS_bind (l2.merge c hM ?_ λ st3 p3 rs3 l3 hl3 _=>?_)
    ·exact (show ∀ (P:Prop) [Decidable P] (n m:Nat),2<=n->n=m->(if P then n - 2 - 1 else n - 2) + 1 < m by intro P _ n m h1 h2; split <;> omega) _ _ _ (show 2<=(pendingOf st2).size by omega) ps'
    ·rw [if_neg (by simp)]
     refine wpS_pure ⟨rfl,p3,rs3,l3,?_⟩
     rw [if_neg (by omega)] at b
     split <;> omega
  ·rintro r st2 ⟨rfl,p2,rs2,l2,b⟩
   refine ⟨rfl,p2,rs2,l2,?_⟩
   by_cases z:rs2.length<=1
   ·exact z
   ·rw [if_neg z] at b
    omega
  ·rintro r st2 ⟨rfl,p2,rs2,l2,b⟩
   dsimp only
   have pm:=l2.pm
   have a2:=l2.at_
   rw [append_nil] at pm a2
   refine wpS_pure (h st2 p2 _ a2 pm ?_)
   match rs2,b,l2.so with
   | [],_,_=>exact List.Pairwise.nil
   | [r],_,so=>simpa using (so r (.head _)).2
   | _ :: _ :: _,b,_=>simp at b
end
end Ts
namespace Ts
open PySem PyProof.Rows PySem.W
theorem sa2 {α β:Type} {f:α->β} {L N:List β} (h:L.Perm N):∀ l:List α,N=l.map f->∃ l':List α,l'.Perm l /\ L=l'.map f:=by
 induction h with
 | nil=>intro l e; exact ⟨l,.refl _,e⟩
 | cons x _ ih =>
  intro l e
  obtain ⟨a,l1,rfl,rfl,e3⟩:=List.map_eq_cons_iff.mp e.symm
  obtain ⟨l',p,e4⟩:=ih l1 e3.symm
  exact ⟨a :: l',p.cons a,by rw [e4]; rfl⟩
 | swap x y t =>
  intro l e
  obtain ⟨a,l1,rfl,rfl,e3⟩:=List.map_eq_cons_iff.mp e.symm
  obtain ⟨b,l2,rfl,rfl,e5⟩:=List.map_eq_cons_iff.mp e3
  exact ⟨b :: a :: l2,.swap a b l2,by rw [<- e5]; rfl⟩
 | trans _ _ ih1 ih2 =>
  intro l e
  obtain ⟨l2,p2,e2⟩:=ih2 l e
  obtain ⟨l1,p1,e1⟩:=ih1 l2 e2
  exact ⟨l1,p1.trans p2,e1⟩
open Classical in
def idx (vs:List Value) (x:Keyed):Nat:=if h:∃ i:Nat,vs[i]?=some x.1 then Classical.choose h else 0
theorem sm1 {vs:List Value} {x:Keyed} (h:∃ i:Nat,vs[i]?=some x.1):vs[idx vs x]?=some x.1:=by
 unfold idx
 rw [dif_pos h]
 exact Classical.choose_spec h
section
variable {prog:Program} {w:World} {A:Around} {E:Value->Shared->Prop} {s:Shared} {κ:SortKind}
theorem run_idx {vs:List Value} {lt:Nat->Nat->Bool} (O:Ms.Ord lt) (h2:2<=vs.length) (sm:∀ (i j:Nat) v,vs[i]?=some v->vs[j]?=some v->∀ k,lt i k=lt j k /\ lt k i=lt k j)
    (ask:∀ (i j:Nat) x y,vs[i]?=some x->vs[j]?=some y->∀ C:Bool->Shared->Prop,C (lt i j) s->wpAny (model prog w) A (keyLt' κ x y) C (λ _ _=>False) s) :
    wpS (model prog w) A E s sortRuns' (λ _ st'=>∃ p:Array Nat,p.Perm (List.toArray (List.range vs.length)) /\ Ms.Up lt p vs.length /\ arrOf st'=p.map (kas_item (vs.toArray.zip vs.toArray)) /\ failedOf st'=none) (SortSt.mk' κ (vs.toArray.zip vs.toArray) #[] 7 none):=by
 let M:Keyed->Prop:=λ x=>∃ i:Nat,vs[i]?=some x.1
 let lk:Keyed->Keyed->Bool:=λ x y=>lt (idx vs x) (idx vs y)
 have c:Cm prog w A s κ lk M:=⟨λ x y hx hy C h=>ask _ _ _ _ (sm1 hx) (sm1 hy) C h,λ x=>O.ir _,λ x y z=>O.tr _ _ _,λ x y z=>O.ng _ _ _⟩
 have it:(vs.toArray.zip vs.toArray).toList=(List.range vs.length).map (kas_item (vs.toArray.zip vs.toArray)):=by
  have:=kas_range (vs.toArray.zip vs.toArray)
  have sz:(vs.toArray.zip vs.toArray).size=vs.length:=by simp
  rw [sz] at this
  have e:=congrArg Array.toList this
  simpa using e.symm
 have ki:∀ i,i < vs.length->(kas_item (vs.toArray.zip vs.toArray) i).1=vs.getD i .none:=λ i hi=>by
  show ((vs.toArray.zip vs.toArray).getD i _).1=_
  simp [Array.getD,hi,getD_eq_getElem?_getD]
 refine ts3 c (L0:=(vs.toArray.zip vs.toArray).toList) ⟨⟨rfl,rfl⟩,rfl,rfl⟩ (λ x hx=>?_) (by simp; exact h2) λ st' p L a pm so=>?_
 ·rw [it] at hx
  obtain ⟨i,hi,rfl⟩:=List.mem_map.mp hx
  have hi':=List.mem_range.mp hi
  exact ⟨i,by rw [ki i hi',getD_eq_getElem?_getD,getElem?_eq_getElem hi']; rfl⟩
 ·obtain ⟨l,pl,el⟩:=sa2 pm _ it
  subst el
  refine ⟨l.toArray,Array.perm_iff_toList_perm.mpr pl,?_,Array.toList_inj.mp (by rw [a.ls]; simp),a.ok.fl⟩
  have ll:l.length=vs.length:=by have:=pl.length_eq; simpa using this
  intro x y hxy hy
  show lt (l.toArray.getD y 0) (l.toArray.getD x 0)=false
  have gx:∀ z,z < l.length->l.toArray.getD z 0=l.getD z 0:=λ z hz=>by simp [Array.getD,hz,getD_eq_getElem?_getD]
  rw [gx y (by omega),gx x (by omega)]
  by_cases e:x=y
  ·subst e; exact O.ir _
  have ex:l[x]?=some l[x]:=getElem?_eq_getElem (by omega)
  have ey:l[y]?=some l[y]:=getElem?_eq_getElem (by omega)
  have q:=xo0 so (show x < y by omega) (by rw [getElem?_map,ex]; rfl) (by rw [getElem?_map,ey]; rfl)
  have rx:l[x] < vs.length:=List.mem_range.mp (pl.mem_iff.mp (getElem_mem _))
  have ry:l[y] < vs.length:=List.mem_range.mp (pl.mem_iff.mp (getElem_mem _))
  have vx:vs[l[x]]?=some (kas_item (vs.toArray.zip vs.toArray) l[x]).1:=by rw [ki _ rx,getD_eq_getElem?_getD,getElem?_eq_getElem rx]; rfl
  have vy:vs[l[y]]?=some (kas_item (vs.toArray.zip vs.toArray) l[y]).1:=by rw [ki _ ry,getD_eq_getElem?_getD,getElem?_eq_getElem ry]; rfl
  have jx:=sm1 (vs:=vs) (x:=kas_item (vs.toArray.zip vs.toArray) l[x]) ⟨_,vx⟩
  have jy:=sm1 (vs:=vs) (x:=kas_item (vs.toArray.zip vs.toArray) l[y]) ⟨_,vy⟩
  have q':lt (idx vs (kas_item (vs.toArray.zip vs.toArray) l[y])) (idx vs (kas_item (vs.toArray.zip vs.toArray) l[x]))=false:=q
  rw [(sm _ _ _ jy vy _).1,(sm _ _ _ jx vx _).2] at q'
  simpa [getD_eq_getElem?_getD,ex,ey] using q'
end
end Ts
namespace Pv
open PySem PySem.Spec PySem.W PyProof.Rows L2
abbrev T3:=Int × Int × Int
def lt3 (a b:T3):Bool:=decide (a.1 < b.1) || (a.1 == b.1 && (decide (a.2.1 < b.2.1) || (a.2.1 == b.2.1 && decide (a.2.2 < b.2.2))))
def IsT3 (h:Heap) (v:Value) (t:T3):Prop:=∃ a o t1 t2 t3 n,v=.ref a /\ h.get? a=some o /\ o.cls=.type "tuple" /\ o.data=.seq #[.int t.1 t1,.int t.2.1 t2,.int t.2.2 t3] n
theorem IsT3.one {h:Heap} {v:Value} {t u:T3} (i:IsT3 h v t) (k:IsT3 h v u):t=u:=by
 obtain ⟨a,o,t1,t2,t3,n,rfl,e2,_,e4⟩:=i
 obtain ⟨b,q,u1,u2,u3,m,f1,f2,_,f4⟩:=k
 cases f1
 rw [e2] at f2
 cases f2
 rw [e4] at f4
 obtain ⟨x,y,z⟩:=t
 obtain ⟨x',y',z'⟩:=u
 simp only [Data.seq.injEq,Array.mk.injEq,List.cons.injEq,Value.int.injEq] at f4
 obtain ⟨⟨⟨h1,_⟩,⟨h2,_⟩,⟨h3,_⟩,_⟩,_⟩:=f4
 rw [h1,h2,h3]
theorem zc2 (ts:List T3):Ms.Ord λ i j=>lt3 (ts.getD i (0,0,0)) (ts.getD j (0,0,0)) where
 ir:=λ a=>by simp [lt3]
 tr:=λ a b c h k=>by
  simp only [lt3,Bool.or_eq_true,Bool.and_eq_true,decide_eq_true_eq,beq_iff_eq] at h k ⊢
  omega
 ng:=λ a b c h=>by
  simp only [lt3,Bool.or_eq_true,Bool.and_eq_true,decide_eq_true_eq,beq_iff_eq] at h ⊢
  omega
section
variable {prog:Program} {w:World} {A:Around} {E:Value->Shared->Prop} {s:Shared}
theorem tr4 {x y:Value} {a b:T3} {Q:Bool->Shared->Prop} (hx:IsT3 s.heap x a) (hy:IsT3 s.heap y b) (h:Q (lt3 a b) s):wpAny (model prog w) A (keyLt' (tuples' true) x y) Q E s:=by
 obtain ⟨x,ox,t1,t2,t3,n,rfl,ex,_,dx⟩:=hx
 obtain ⟨y,oy,u1,u2,u3,m,rfl,ey,_,dy⟩:=hy
 obtain ⟨a1,a2,a3⟩:=a
 obtain ⟨b1,b2,b3⟩:=b
 refine kat_lt ex dx ey dy ?_
 refine kat_cons (wpAny_eqBool_int ?_)
 by_cases c1:a1=b1
 ·rw [show (a1 == b1)=true from beq_iff_eq.mpr c1]
  refine kat_yes (kat_cons (wpAny_eqBool_int ?_))
  by_cases c2:a2=b2
  ·rw [show (a2 == b2)=true from beq_iff_eq.mpr c2]
   refine kat_yes (kat_cons (wpAny_eqBool_int ?_))
   by_cases c3:a3=b3
   ·rw [show (a3 == b3)=true from beq_iff_eq.mpr c3]
    refine kat_yes (kat_nil ?_)
    have e:lt3 (a1,a2,a3) (b1,b2,b3)=false:=by subst c1 c2 c3; simp [lt3]
    rw [e] at h
    exact h
   ·rw [show (a3 == b3)=false from by simpa using c3]
    have e:lt3 (a1,a2,a3) (b1,b2,b3)=decide (a3 < b3):=by subst c1 c2; simp [lt3]
    rw [e] at h
    exact kat_no (kat_one _ _ (lt_int h))
  ·rw [show (a2 == b2)=false from by simpa using c2]
   have e:lt3 (a1,a2,a3) (b1,b2,b3)=decide (a2 < b2):=by subst c1; simp [lt3,c2]
   rw [e] at h
   exact kat_no (kat_one _ _ (lt_int h))
 ·rw [show (a1 == b1)=false from by simpa using c1]
  have e:lt3 (a1,a2,a3) (b1,b2,b3)=decide (a1 < b1):=by simp [lt3,c1]
  rw [e] at h
  exact kat_no (oneLt_int h)
def T3s (h:Heap):List Value->List T3->Prop
 | [],[]=>True
 | v :: vs,t :: ts=>IsT3 h v t /\ T3s h vs ts
 | _,_=>False
theorem T3s.kept {h h':Heap} (k:∀ b o,h.get? b=some o->o.cls=.type "tuple" -> h'.get? b=some o):∀ {vs:List Value} {ts:List T3},T3s h vs ts->T3s h' vs ts
 | [],[],_=>trivial
 | [],_ :: _,i=>i.elim
 | _ :: _,[],i=>i.elim
 | v :: vs,t :: ts,i=>by
  obtain ⟨⟨a,o,t1,t2,t3,n,e1,e2,e3,e4⟩,r⟩:=i
  exact ⟨⟨a,o,t1,t2,t3,n,e1,k _ _ e2 e3,e3,e4⟩,T3s.kept k r⟩
theorem T3s.get {h:Heap}:∀ {vs:List Value} {ts:List T3},T3s h vs ts->∀ i,i < vs.length->IsT3 h (vs.getD i .none) (ts.getD i (0,0,0))
 | [],[],_,i,hi=>absurd hi (Nat.not_lt_zero _)
 | [],_ :: _,z,_,_=>z.elim
 | _ :: _,[],z,_,_=>z.elim
 | v :: vs,t :: ts,z,0,_=>z.1
 | v :: vs,t :: ts,z,i + 1,hi=>T3s.get z.2 i (Nat.lt_of_succ_lt_succ hi)
theorem T3s.firsts {h:Heap}:∀ {vs:List Value} {ts:List T3},T3s h vs ts->∃ fs,KatTups h vs fs /\ fs.length=vs.length /\ ∀ v ∈ fs,∃ i t,v=Value.int i t
 | [],[],_=>⟨[],trivial,rfl,λ _ hv=>nomatch hv⟩
 | [],_ :: _,z=>z.elim
 | _ :: _,[],z=>z.elim
 | v :: vs,t :: ts,z=>by
  obtain ⟨fs,f1,f2,f3⟩:=T3s.firsts z.2
  obtain ⟨a,o,t1,t2,t3,n,rfl,e2,e3,e4⟩:=z.1
  refine ⟨.int t.1 t1 :: fs,KatTups.cons e2 e3 e4 rfl f1,by rw [length_cons,length_cons,f2],λ x hx=>?_⟩
  rcases List.mem_cons.mp hx with rfl | hx
  ·exact ⟨_,_,rfl⟩
  ·exact f3 x hx
abbrev ltI (ts:List T3):Nat->Nat->Bool:=λ i j=>lt3 (ts.getD i (0,0,0)) (ts.getD j (0,0,0))
abbrev outV (vs:List Value) (p:Array Nat):List Value:=p.toList.map λ i=>vs.getD i Value.none
theorem yu1 (vs:List Value):outV vs (List.toArray (List.range vs.length))=vs:=by
 apply List.ext_getElem
 ·simp
 ·intro i h1 h2
  simp [getD_eq_getElem?_getD,getElem?_eq_getElem h2]
theorem yy4 {vs:Array Value} {n:Nat} {C:Prop} (h:(seqObj "list" vs n).cls=Value.type "tuple"):C:=by
 have h':Value.type "list" = Value.type "tuple" := h
 injection h' with e
 exact absurd e (by decide)
theorem vo2 {a:Addr} {vs:List Value} {ts:List T3} {n:Nat} {P:PySem.Fin->Shared->Prop} (ho:s.heap.get? a=some (seqObj "list" vs.toArray n)) (ht:T3s s.heap vs ts) (hz:vs.length<=sizeLine)
    (h:∀ (p:Array Nat) (h':Heap) (c:Nat),p.Perm (List.toArray (List.range vs.length))->Ms.Up (ltI ts) p vs.length->(∀ b o,b ≠ a->s.heap.get? b=some o->h'.get? b=some o) ->
     h'.get? a=some (seqObj "list" (outV vs p).toArray c)->P (.done (.ret .none)) { s with heap:=h' }) :
    wpAny (model prog w) A (Builtin.«list.sort» ⟨[.ref a],[]⟩) P E s:=by
 have ha:a < s.heap.objs.size:=Heap.lt_size ho
 obtain ⟨e1,ho1⟩:∃ e1,(s.heap.update a (Obj.mapSeq λ _=>(#[]:Array Value))).get? a=some (seqObj "list" #[] e1):=⟨_,get?_update_seq ho λ _=>#[]⟩
 have kp:∀ b o,b ≠ a->s.heap.get? b=some o->(((s.heap.update a (Obj.mapSeq λ _=>(#[]:Array Value))).push (seqObj "tuple" vs.toArray 0)).push (seqObj "list" #[] 0)).get? b=some o:=λ b o hb e =>
  Heap.get?_push_of_some _ (Heap.get?_push_of_some _ (by rw [Heap.get?_update_ne _ _ _ _ hb]; exact e))
 have ht3:=T3s.kept (h':=((s.heap.update a (Obj.mapSeq λ _=>(#[]:Array Value))).push (seqObj "tuple" vs.toArray 0)).push (seqObj "list" #[] 0)) (λ b o e ec=>kp b o (by intro z; subst z; rw [ho] at e; cases e; exact yy4 ec) e) ht
 have hoN:=Heap.get?_push_of_some (seqObj "list" #[] 0) (Heap.get?_push_of_some (seqObj "tuple" vs.toArray 0) ho1)
 generalize hN:((s.heap.update a (Obj.mapSeq λ _=>(#[]:Array Value))).push (seqObj "tuple" vs.toArray 0)).push (seqObj "list" #[] 0)=hp3 at kp ht3 hoN
 have fin:∀ (p:Array Nat),p.Perm (List.toArray (List.range vs.length))->Ms.Up (ltI ts) p vs.length->P (.done (.ret .none)) { s with heap:=hp3.update a (Obj.mapSeq λ _=>(outV vs p).toArray) }:=λ p hp hu=>by
  refine h p _ _ hp hu (λ b o hb e=>by rw [Heap.get?_update_ne _ _ _ _ hb]; exact kp b o hb e) (get?_update_seq hoN λ _=>(outV vs p).toArray)
 have szO:∀ p:Array Nat,p.Perm (List.toArray (List.range vs.length))->(outV vs p).toArray.size<=sizeLine + 1:=λ p hp=>by
  have:=hp.size_eq
  simp at this
  simp
  omega
 rw [list_sort_plain]
 refine wpAny_bind (listItems_at ho rfl (wpAny_bind (listUpdate_at ho rfl ?_ (by simpa using hz) (Nat.zero_le _))))
 refine wpAny_bind (seqEpoch_at ho1 rfl (wpAny_bind (wpAny_newTuple ?_ (by simpa using hz))))
 refine wpAny_bind (wpAny_newList (wpAny_holding ?_) (Nat.zero_le _))
 show wpAny (model prog w) A _ P E { s with heap:=((s.heap.update a (Obj.mapSeq λ _=>(#[]:Array Value))).push (seqObj "tuple" vs.toArray 0)).push (seqObj "list" #[] 0) }
 rw [hN]
 dsimp only
 by_cases c:vs.toArray.size < 2
 ·rw [if_pos c,if_pos c]
  refine wpAny_bind (wpAny_pure ?_)
  rw [StateT.run_pure]
  refine wpAny_bind (wpAny_pure ?_)
  have id1:(arrOf (SortSt.mk' general' (vs.toArray.zip vs.toArray) #[] 7 none)).map (·.2)=(outV vs (List.toArray (List.range vs.length))).toArray:=by
   rw [yu1]
   show (vs.toArray.zip vs.toArray).map (·.2)=vs.toArray
   apply Array.toList_inj.mp
   simp [List.map_snd_zip]
  dsimp only
  rw [id1]
  have pr:=Array.Perm.refl (List.toArray (List.range vs.length))
  refine wpAny_bind (seqEpoch_at hoN rfl (wpAny_bind (listUpdate_at hoN rfl ?_ (Nat.zero_le _) (szO _ pr))))
  simp only [bne_self_eq_false,Bool.false_eq_true,if_false]
  refine wpAny_pure (fin _ pr ?_)
  intro x y hxy hy
  have:x=y:=by simp at c; omega
  subst this
  exact Ms.le_rf (zc2 ts) _
 ·rw [if_neg c,if_neg c]
  have c2:2<=vs.length:=by simp at c; omega
  obtain ⟨fs,f1,f2,f3⟩:=ht3.firsts
  refine wpAny_bind (kat_kind f1 (by omega) (T:=.type "int") (λ v hv=>?_) (by decide) ?_)
  ·obtain ⟨i,t,rfl⟩:=f3 v hv
   exact Looks.of_pure rfl
  show wpAny _ _ _ _ _ _
  rw [show (Value.type "int" != Value.type "tuple")=true by decide]
  refine wpAny_bind (wpAny_mono (Ts.run_idx (vs:=vs) (lt:=ltI ts) (s:={ s with heap:=hp3 }) (κ:=tuples' true) (zc2 ts) c2 (λ i j v e1 e2 k=>?_) λ i j x y e1 e2 C hc=>?_) ?_ λ _ _ z=>z)
  ·have l1:=(List.getElem?_eq_some_iff.mp e1).1
   have l2:=(List.getElem?_eq_some_iff.mp e2).1
   have g1:=ht3.get i l1
   have g2:=ht3.get j l2
   rw [getD_eq_getElem?_getD,e1] at g1
   rw [getD_eq_getElem?_getD,e2] at g2
   have e:=g1.one g2
   show lt3 (ts.getD i _) _=lt3 (ts.getD j _) _ /\ lt3 _ (ts.getD i _)=lt3 _ (ts.getD j _)
   rw [e]
   exact ⟨rfl,rfl⟩
  ·have g1:=ht3.get i (List.getElem?_eq_some_iff.mp e1).1
   have g2:=ht3.get j (List.getElem?_eq_some_iff.mp e2).1
   rw [getD_eq_getElem?_getD,e1] at g1
   rw [getD_eq_getElem?_getD,e2] at g2
   exact tr4 g1 g2 hc
  ·rintro ⟨⟨⟩,st'⟩ s' ⟨rfl,p,pp,pu,hp1,hp2⟩
   dsimp only
   rw [kat_snds rfl hp1]
   refine wpAny_bind (seqEpoch_at hoN rfl (wpAny_bind (listUpdate_at hoN rfl ?_ (Nat.zero_le _) (szO _ pp))))
   rw [hp2]
   simp only [bne_self_eq_false,Bool.false_eq_true,if_false]
   exact wpAny_pure (fin _ pp pu)
end
section
variable {prog:Program} {w:World} {A:Around} {E:Value->Shared->Prop} {s:Shared}
end
def V3s (K:Fg) (H:Hp):List V->List T3->Prop
 | [],[]=>True
 | v :: vs,t :: ts=>(∃ a,v=.ref a /\ H a=some (.tup [.int t.1,.int t.2.1,.int t.2.2])) /\ V3s K H vs ts
 | _,_=>False
section
variable {X:Cx}
theorem zj1 {pins:List (Addr × Obj)} {σ:L2.St} {H:Hp} {s:Shared} (I:Inv X pins σ H s):∀ {vs:List V} {ts:List T3} {us:List Value},V3s X.K H vs ts->Vals vs us->T3s s.heap us ts
 | [],[],_,_,.nil=>trivial
 | [],_ :: _,_,z,_=>z.elim
 | _ :: _,[],_,z,_=>z.elim
 | v :: vs,t :: ts,_,z,.cons r rs=>by
  obtain ⟨⟨a,rfl,hq⟩,z⟩:=z
  refine ⟨?_,zj1 I z rs⟩
  cases r
  obtain ⟨its,rv,⟨o,p1,p2,n,p3⟩,_⟩:=I.tuple (SqT.of hq)
  cases rv with
  | cons r1 rv =>
   cases rv with
   | cons r2 rv =>
    cases rv with
    | cons r3 rv =>
     cases rv
     obtain ⟨t1,rfl⟩:=r1
     obtain ⟨t2,rfl⟩:=r2
     obtain ⟨t3,rfl⟩:=r3
     exact ⟨a,o,t1,t2,t3,n,rfl,p1,p2,p3⟩
theorem yb1 {vs:List V} {us:List Value} (r:Vals vs us):∀ (l:List Nat),(∀ i ∈ l,i < vs.length)->Vals (l.map λ i=>vs.getD i .non) (l.map λ i=>us.getD i Value.none)
 | [],_=>.nil
 | i :: l,h=>by
  refine .cons ?_ (yb1 r l λ j hj=>h j (mem_cons_of_mem _ hj))
  have hi:=h i (mem_cons_self ..)
  obtain ⟨u,e,z⟩:=Vals.get r (i:=i) (x:=vs.getD i .non) (by rw [getD_eq_getElem?_getD,getElem?_eq_getElem hi]; rfl)
  dsimp only
  rw [show us.getD i Value.none=u by rw [getD_eq_getElem?_getD,e]; rfl]
  exact z
end
def encT (t:T3):D:=.tup [.int t.1,.int t.2.1,.int t.2.2]
theorem sv1 {K:Fg} {H:Hp}:∀ {ts:List T3} {vs:List V},RelDs K H (ts.map encT) vs->V3s K H vs ts
 | [],_,.nil=>trivial
 | t :: ts,_,.cons r rs=>by
  refine ⟨?_,sv1 rs⟩
  cases r with
  | tup hq r2 =>
   cases r2 with
   | cons x r2 =>
    cases r2 with
    | cons y r2 =>
     cases r2 with
     | cons z r2 =>
      cases r2
      cases x
      cases y
      cases z
      exact ⟨_,rfl,hq⟩
theorem su0 {K:Fg} {H:Hp} {ts:List T3} {vs:List V} (r:RelDs K H (ts.map encT) vs):∀ (l:List Nat),(∀ i ∈ l,i < vs.length)->RelDs K H ((l.map λ i=>ts.getD i (0,0,0)).map encT) (l.map λ i=>vs.getD i .non)
 | [],_=>.nil
 | i :: l,h=>by
  refine .cons ?_ (su0 r l λ j hj=>h j (mem_cons_of_mem _ hj))
  have hi:=h i (mem_cons_self ..)
  have hl:=r.length
  rw [length_map] at hl
  obtain ⟨v,e,z⟩:=r.get (i:=i) (d:=encT (ts.getD i (0,0,0))) (by rw [getElem?_map,getD_eq_getElem?_getD,getElem?_eq_getElem (by omega)]; rfl)
  dsimp only
  rw [show vs.getD i .non=v by rw [getD_eq_getElem?_getD,e]; rfl]
  exact z
def le3 (a b:T3):Prop:=lt3 b a=false
theorem wx1 {ts:List T3} {q:Array Nat} (h:q.Perm (List.toArray (List.range ts.length))):(q.toList.map λ i=>ts.getD i (0,0,0)).Perm ts:=by
 have h1:q.toList.Perm (List.range ts.length):=h.toList
 refine (h1.map _).trans (List.Perm.of_eq ?_)
 apply List.ext_getElem
 ·simp
 ·intro i h1 h2
  simp [getD_eq_getElem?_getD,getElem?_eq_getElem h2]
theorem sb3 {ts:List T3} {q:Array Nat} (h:q.Perm (List.toArray (List.range ts.length))) (u:Ms.Up (ltI ts) q ts.length):(q.toList.map λ i=>ts.getD i (0,0,0)).Pairwise le3:=by
 have sz:q.size=ts.length:=by have:=h.size_eq; simpa using this
 rw [List.pairwise_iff_getElem]
 intro i j hi hj hij
 simp only [length_map,length_toList] at hi hj
 have z:=u i j (Nat.le_of_lt hij) (by omega)
 simp only [List.getElem_map,Array.getElem_toList]
 have e1:Ms.at' q i=q[i]:=by show q.getD i 0=_; simp [Array.getD,hi]
 have e2:Ms.at' q j=q[j]:=by show q.getD j 0=_; simp [Array.getD,hj]
 rw [e1,e2] at z
 exact z
section
variable {X:Cx}
end
section
variable {prog:Program} {w:World} {A:Around} {E:Value->Shared->Prop} {s:Shared} {d it:Addr} {es:Array DictEntry} {ep i:Nat}
end
section
variable {prog:Program} {w:World} {A:Around} {E:Value->Shared->Prop} {s:Shared} {d:Addr} {es:Array DictEntry} {ep:Nat}
end
section
variable {X:Cx}
theorem V3s.len {K:Fg} {H:Hp}:∀ {vs:List V} {ts:List T3},V3s K H vs ts->vs.length=ts.length
 | [],[],_=>rfl
 | [],_ :: _,z=>z.elim
 | _ :: _,[],z=>z.elim
 | _ :: vs,_ :: ts,z=>by rw [length_cons,length_cons,V3s.len z.2]
theorem sk1 {K:Fg} {H:Hp}:∀ {ts:List T3} {vs:List V},V3s K H vs ts->RelDs K H (ts.map encT) vs
 | [],[],_=>.nil
 | [],_ :: _,z=>z.elim
 | _ :: _,[],z=>z.elim
 | t :: ts,v :: vs,z=>by
  obtain ⟨⟨a,rfl,hq⟩,z⟩:=z
  exact .cons (.tup hq (.cons (.int _) (.cons (.int _) (.cons (.int _) .nil)))) (sk1 z)
end
open PySem.AutoSeq1 (wpAny_loadPart')
theorem Kp.wrD {H:Hp} {p:Addr} {o:HO} {xs:List (List Key × V)} (h:H p=some (.dT xs)):Kp H (upd H p o) :=
 ⟨λ b ys q=>by rw [tc0 (sb2 q h (by intro z; cases z))]; exact q,λ b o u q=>by rw [tc0 (sb2 q h (by intro z; cases z))]; exact q⟩
section
variable {X:Cx} {pos pos':Pos}
end
end Pv
namespace Pv
open PySem PySem.Spec PyProof.Rows L2
open PySem.AutoSeq1 (wpAny_loadPart')
section
variable {prog:Program} {w:World} {A:Around} {R:Result->Shared->Prop} {I:Addr} {fp wr:List Addr} {n:Nat} {P:Nat->Value->Prop} {St:Nat->Heap->Prop}
end
section
variable {prog:Program} {w:World} {A:Around} {E:Value->Shared->Prop} {s:Shared}
end
section
variable {X:Cx}
end
end Pv
namespace Pv
open PySem
abbrev Rise (xs:Array Nat):Prop:=xs.toList.Pairwise (· < ·)
theorem un0 {xs:Array Nat} (h:Rise xs) {i j a b:Nat} (hi:xs[i]?=some a) (hj:xs[j]?=some b) (l:i < j):a < b:=by
 have h':=List.pairwise_iff_getElem.mp h
 rw [<- getElem?_toList] at hi hj
 obtain ⟨hi1,hi2⟩:=List.getElem?_eq_some_iff.mp hi
 obtain ⟨hj1,hj2⟩:=List.getElem?_eq_some_iff.mp hj
 rw [<- hi2,<- hj2]
 exact h' i j hi1 hj1 l
theorem xq0 (xs:Array Nat) (j:Nat) (h:Rise xs):∀ (fuel lo hi:Nat),hi - lo<=fuel->lo<=hi->hi<=xs.size->(∀ i a,i < lo->xs[i]?=some a->a < j)->(∀ i a,hi<=i->xs[i]?=some a->j<=a) ->
    (∀ i a,xs[i]?=some a->(i < SetTable.below.go xs j fuel lo hi ↔ a < j)) /\ SetTable.below.go xs j fuel lo hi<=xs.size
 | 0,lo,hi,f,l1,l2,a1,a2=>by
  have e:lo=hi:=by omega
  subst e
  unfold SetTable.below.go
  refine ⟨λ i a q=>⟨λ c=>a1 i a c q,λ c=>?_⟩,l2⟩
  by_cases z:i < lo
  ·exact z
  ·have:=a2 i a (by omega) q; omega
 | fuel + 1,lo,hi,f,l1,l2,a1,a2=>by
  unfold SetTable.below.go
  split
  ·next c =>
   have m1:(lo + hi) / 2 < hi:=by omega
   have m2:lo<=(lo + hi) / 2:=by omega
   have hm:xs[(lo + hi) / 2]?=some (xs.getD ((lo + hi) / 2) j):=by
    have:(lo + hi) / 2 < xs.size:=by omega
    simp [Array.getD,this]
   dsimp only
   split
   ·next c2 =>
    refine xq0 xs j h fuel _ _ (by omega) (by omega) l2 (λ i a z q=>?_) a2
    by_cases y:i=(lo + hi) / 2
    ·subst y; rw [hm] at q; cases q; exact c2
    ·exact Nat.lt_trans (un0 h q hm (by omega)) c2
   ·next c2 =>
    refine xq0 xs j h fuel _ _ (by omega) (by omega) (by omega) a1 (λ i a z q=>?_)
    by_cases y:i=(lo + hi) / 2
    ·subst y; rw [hm] at q; cases q; omega
    ·have:=un0 h hm q (by omega); omega
  ·next c =>
   have e:lo=hi:=by omega
   subst e
   refine ⟨λ i a q=>⟨λ c=>a1 i a c q,λ c=>?_⟩,l2⟩
   by_cases z:i < lo
   ·exact z
   ·have:=a2 i a (by omega) q; omega
theorem uk0 {xs:Array Nat} (h:Rise xs) (j:Nat) {i a:Nat} (q:xs[i]?=some a):i < SetTable.below xs j ↔ a < j :=
 (xq0 xs j h xs.size 0 xs.size (by omega) (by omega) (Nat.le_refl _) (λ _ _ z=>absurd z (Nat.not_lt_zero _)) (λ i a z q=>by rw [getElem?_eq_none z] at q; cases q)).1 i a q
theorem yn0 {xs:Array Nat} (h:Rise xs) (j:Nat):SetTable.below xs j<=xs.size :=
 (xq0 xs j h xs.size 0 xs.size (by omega) (by omega) (Nat.le_refl _) (λ _ _ z=>absurd z (Nat.not_lt_zero _)) (λ i a z q=>by rw [getElem?_eq_none z] at q; cases q)).2
theorem zn0 {xs:Array Nat} (h:Rise xs) {i j:Nat} (q:xs[i]?=some j):SetTable.below xs j=i:=by
 have h1:=uk0 h j q
 have h2:=yn0 h j
 by_cases c:SetTable.below xs j < i
 ·have hi:=(Array.getElem?_eq_some_iff.mp q).1
  obtain ⟨a,ha⟩:∃ a,xs[SetTable.below xs j]?=some a:=⟨_,Array.getElem?_eq_getElem (by omega)⟩
  have h3:=uk0 h j ha
  have h4:=un0 h ha q c
  omega
 ·omega
theorem tc1 {xs:Array Nat} {j:Nat} (h:j ∈ xs.toList):∃ i:Nat,xs[i]?=some j:=by
 obtain ⟨i,hi⟩:=List.mem_iff_getElem?.mp h
 exact ⟨i,by rw [<- getElem?_toList]; exact hi⟩
theorem zw0 {xs:Array Nat} {i j:Nat} (h:xs[i]?=some j):j ∈ xs.toList:=List.mem_iff_getElem?.mpr ⟨i,by rw [getElem?_toList]; exact h⟩
theorem vl0 {xs:Array Nat} (h:Rise xs) (j:Nat):SetTable.has xs j=true ↔ j ∈ xs.toList:=by
 unfold SetTable.has
 constructor
 ·intro z; exact zw0 (eq_of_beq z)
 ·intro z
  obtain ⟨i,hi⟩:=tc1 z
  rw [zn0 h hi,hi]
  exact beq_self_eq_true _
theorem ub1 {t:SetTable} (h:Rise t.place) {i j:Nat}:t.slot j=.live i ↔ t.place[i]?=some j:=by
 unfold SetTable.slot
 dsimp only
 constructor
 ·intro z
  split at z
  ·next c=>cases z; exact eq_of_beq c
  ·split at z <;> cases z
 ·intro z
  rw [zn0 h z,z]
  simp
theorem yu0 {t:SetTable} (h:Rise t.place) (hd:Rise t.dummies) {j:Nat} (dj:j ∈ t.dummies.toList->j ∉ t.place.toList):t.slot j=.dummy ↔ j ∈ t.dummies.toList:=by
 unfold SetTable.slot
 dsimp only
 constructor
 ·intro z
  split at z
  ·cases z
  ·split at z
   ·next c=>exact (vl0 hd j).mp c
   ·cases z
 ·intro z
  rw [if_neg,if_pos ((vl0 hd j).mpr z)]
  intro c
  exact dj z (zw0 (eq_of_beq c))
theorem xu0 {t:SetTable} (h:Rise t.place) (hd:Rise t.dummies) {j:Nat}:t.slot j=.empty ↔ j ∉ t.place.toList /\ j ∉ t.dummies.toList:=by
 unfold SetTable.slot
 dsimp only
 constructor
 ·intro z
  split at z
  ·cases z
  ·next c =>
   split at z
   ·cases z
   ·next c2 =>
    refine ⟨λ m=>c ?_,λ m=>c2 ((vl0 hd j).mpr m)⟩
    obtain ⟨i,hi⟩:=tc1 m
    rw [zn0 h hi,hi]
    exact beq_self_eq_true _
 ·rintro ⟨z1,z2⟩
  rw [if_neg (λ c=>z1 (zw0 (eq_of_beq c))),if_neg (λ c=>z2 ((vl0 hd j).mp c))]
def mkT (mask:Nat):SetTable:={ SetTable.fresh 0 0 false with mask:=mask }
def trS (mask:Nat) (h:Int):Nat->SetTable.Probe
 | 0=>(mkT mask).probeStart h
 | n + 1=>(mkT mask).advance (trS mask h n)
abbrev tr (mask:Nat) (h:Int) (n:Nat):Nat:=(trS mask h n).j
theorem uf1 (t:SetTable) (p:SetTable.Probe) (d:Option Nat):t.advance { p with dummy:=d }={ t.advance p with dummy:=d }:=by
 unfold SetTable.advance
 dsimp only
 split <;> rfl
def seg (mask i perturb:Nat):SetTable.Probe:={ j:=i,more:=SetTable.runEnd mask i - i,i:=i,perturb:=perturb,dummy:=none }
theorem run9 (mask i:Nat):SetTable.runEnd mask i - i<=9:=by unfold SetTable.runEnd; split <;> omega
theorem ww3 (mask i:Nat):i<=SetTable.runEnd mask i:=by unfold SetTable.runEnd; split <;> omega
theorem vw3 (mask i:Nat) (h:i<=mask):SetTable.runEnd mask i<=mask:=by unfold SetTable.runEnd; split <;> omega
theorem vx0 {mask:Nat} {h:Int} {n i p:Nat} (e:trS mask h n=seg mask i p):∀ k,k<=SetTable.runEnd mask i - i->trS mask h (n + k)={ seg mask i p with j:=i + k,more:=SetTable.runEnd mask i - i - k }
 | 0,_=>e
 | k + 1,hk=>by
  have ih:=vx0 e k (by omega)
  show (mkT mask).advance (trS mask h (n + k))=_
  rw [ih]
  unfold SetTable.advance
  dsimp only [seg]
  rw [if_pos (by omega)]
  congr 1
theorem yp0 {mask:Nat} {h:Int} {n i p:Nat} (e:trS mask h n=seg mask i p):trS mask h (n + (SetTable.runEnd mask i - i) + 1)=seg mask (SetTable.leap mask i p).1 (SetTable.leap mask i p).2:=by
 have ih:=vx0 e _ (Nat.le_refl _)
 show (mkT mask).advance (trS mask h (n + (SetTable.runEnd mask i - i)))=_
 rw [ih]
 unfold SetTable.advance
 dsimp only [seg]
 rw [if_neg (by omega)]
 rfl
def lp (mask:Nat):Nat->Nat × Nat->Nat × Nat
 | 0,x=>x
 | k + 1,x=>lp mask k (SetTable.leap mask x.1 x.2)
theorem xv2 {mask:Nat} {h:Int}:∀ (K:Nat) {n i p:Nat},trS mask h n=seg mask i p->∃ m,n<=m /\ m<=n + 10 * K /\ trS mask h m=seg mask (lp mask K (i,p)).1 (lp mask K (i,p)).2
 | 0,n,i,p,e=>⟨n,Nat.le_refl _,Nat.le_refl _,e⟩
 | K + 1,n,i,p,e=>by
  obtain ⟨m,h1,h2,h3⟩:=xv2 K (yp0 e)
  have:=run9 mask i
  exact ⟨m,by omega,by omega,h3⟩
theorem zw2 (mask:Nat):∀ (a b:Nat) (x:Nat × Nat),lp mask (a + b) x=lp mask b (lp mask a x)
 | 0,b,x=>by rw [Nat.zero_add]; rfl
 | a + 1,b,x=>by rw [show a + 1 + b=(a + b) + 1 by omega]; exact zw2 mask a b _
theorem yw2 (mask:Nat):∀ (k:Nat) (x:Nat × Nat),x.2 < 32 ^ k->(lp mask k x).2=0
 | 0,x,h=>by simp at h; exact h
 | k + 1,x,h=>yw2 mask k _ (by show x.2 / 32 < 32 ^ k; rw [Nat.pow_succ] at h; omega)
def f0 (mask i:Nat):Nat:=(i * 5 + 1) % (mask + 1)
def fN (mask:Nat):Nat->Nat->Nat
 | 0,i=>i
 | k + 1,i=>fN mask k (f0 mask i)
theorem wc2 (mask:Nat):∀ (k i:Nat),lp mask k (i,0)=(fN mask k i,0)
 | 0,i=>rfl
 | k + 1,i=>by
  show lp mask k (SetTable.leap mask i 0)=_
  have:SetTable.leap mask i 0=(f0 mask i,0):=by unfold SetTable.leap f0; simp
  rw [this,wc2 mask k]
  rfl
theorem ye1 (mask:Nat):∀ (a b i:Nat),fN mask (a + b) i=fN mask b (fN mask a i)
 | 0,b,i=>by rw [Nat.zero_add]; rfl
 | a + 1,b,i=>by rw [show a + 1 + b=(a + b) + 1 by omega]; exact ye1 mask a b _
def okM:List Nat:=[7,15,31,63,127,255,511,1023,2047,4095]
def gs:Nat->Nat
 | 0=>0
 | r + 1=>5 * gs r + 1
theorem sd2:∀ r,5 ^ r=4 * gs r + 1
 | 0=>rfl
 | r + 1=>by rw [Nat.pow_succ,sd2 r]; show _=4 * (5 * gs r + 1) + 1; omega
theorem xe2:∀ a b,gs (a + b)=gs a * 5 ^ b + gs b
 | a,0=>by simp [gs]
 | a,b + 1=>by
  show 5 * gs (a + b) + 1=_
  rw [xe2 a b,Nat.pow_succ]
  show _=gs a * (5 ^ b * 5) + (5 * gs b + 1)
  rw [Nat.mul_add,<- Nat.mul_assoc,Nat.mul_comm 5 (gs a),Nat.mul_assoc (gs a) 5,Nat.mul_comm 5 (5 ^ b)]
  omega
theorem td2:∀ k,∃ o,gs (2 ^ k)=2 ^ k * (2 * o + 1)
 | 0=>⟨0,rfl⟩
 | k + 1=>by
  obtain ⟨o,e⟩:=td2 k
  refine ⟨o + (2 * o + 1) * gs (2 ^ k),?_⟩
  have h:gs (2 ^ (k + 1))=gs (2 ^ k) * (4 * gs (2 ^ k) + 2):=by
   rw [show 2 ^ (k + 1)=2 ^ k + 2 ^ k by rw [Nat.pow_succ]; omega,xe2,sd2]
   grind
  rw [h,Nat.pow_succ,e]
  generalize 2 ^ k=P
  grind
theorem uh3 {x e P:Nat} (hP:0 < P) (h:x % P=e % P):x % (P * 2)=e % (P * 2) \/ (x + P) % (P * 2)=e % (P * 2):=by
 rw [Nat.mod_mul,Nat.mod_mul,Nat.mod_mul,h,Nat.add_mod_right,h,Nat.add_div_right _ hP]
 rcases Nat.mod_two_eq_zero_or_one (x / P) with a | a <;> rcases Nat.mod_two_eq_zero_or_one (e / P) with b | b
 ·left; rw [a,b]
 ·right; rw [b,show (x / P + 1) % 2=1 by omega]
 ·right; rw [b,show (x / P + 1) % 2=0 by omega]
 ·left; rw [a,b]
theorem xn1:∀ k e,∃ r,r < 2 ^ k /\ gs r % 2 ^ k=e % 2 ^ k
 | 0,e=>⟨0,by decide,by simp [Nat.mod_one]⟩
 | k + 1,e=>by
  obtain ⟨r,hr,h⟩:=xn1 k e
  have hP:0 < 2 ^ k:=Nat.two_pow_pos k
  rw [Nat.pow_succ]
  rcases uh3 hP h with q | q
  ·exact ⟨r,by omega,q⟩
  ·refine ⟨2 ^ k + r,by omega,?_⟩
   obtain ⟨o,eo⟩:=td2 k
   rw [xe2,sd2,eo,<- q]
   generalize 2 ^ k=P at *
   have:P * (2 * o + 1) * (4 * gs r + 1) + gs r=(gs r + P) + P * 2 * (o + (2 * o + 1) * (2 * gs r)):=by grind
   rw [this,Nat.add_mul_mod_self_left]
theorem wj3 (mask:Nat):∀ r,fN mask r 0=gs r % (mask + 1)
 | 0=>by show 0=0 % (mask + 1); rw [Nat.zero_mod]
 | r + 1=>by
  rw [ye1 mask r 1 0,wj3 mask r]
  show f0 mask (gs r % (mask + 1))=(5 * gs r + 1) % (mask + 1)
  unfold f0
  rw [Nat.add_mod (gs r % (mask + 1) * 5),Nat.mul_mod,Nat.mod_mod,<- Nat.mul_mod,<- Nat.add_mod,Nat.mul_comm]
theorem wh3:∀ m ∈ okM,∃ k,m + 1=2 ^ k:=by
 intro m hm
 simp only [okM,mem_cons,not_mem_nil,or_false] at hm
 rcases hm with rfl | rfl | rfl | rfl | rfl | rfl | rfl | rfl | rfl | rfl
 ·exact ⟨3,rfl⟩
 ·exact ⟨4,rfl⟩
 ·exact ⟨5,rfl⟩
 ·exact ⟨6,rfl⟩
 ·exact ⟨7,rfl⟩
 ·exact ⟨8,rfl⟩
 ·exact ⟨9,rfl⟩
 ·exact ⟨10,rfl⟩
 ·exact ⟨11,rfl⟩
 ·exact ⟨12,rfl⟩
theorem xp4 {mask:Nat} (hm:mask ∈ okM) {i e:Nat} (hi:i<=mask) (he:e<=mask):∃ r,r<=mask /\ fN mask r i=e:=by
 obtain ⟨k,hk⟩:=wh3 mask hm
 have h2:fN mask (mask + 1) 0=0:=by
  obtain ⟨o,eo⟩:=td2 k
  rw [wj3,hk,eo,Nat.mul_mod_right]
 have g:∀ x,x<=mask->∃ r,r<=mask /\ fN mask r 0=x:=λ x hx=>by
  obtain ⟨r,hr,h⟩:=xn1 k x
  refine ⟨r,by omega,?_⟩
  rw [wj3,hk,h,Nat.mod_eq_of_lt (by omega)]
 obtain ⟨a,ha,ea⟩:=g i hi
 obtain ⟨b,hb,eb⟩:=g e he
 by_cases c:a<=b
 ·refine ⟨b - a,by omega,?_⟩
  have:=ye1 mask a (b - a) 0
  rw [show a + (b - a)=b by omega,eb,ea] at this
  exact this.symm
 ·refine ⟨mask + 1 - a + b,by omega,?_⟩
  have h3:=ye1 mask a (mask + 1 - a) 0
  rw [show a + (mask + 1 - a)=mask + 1 by omega,h2,ea] at h3
  rw [ye1,<- h3,eb]
theorem wm4 {mask:Nat}:∀ (k:Nat) (x:Nat × Nat),x.1<=mask->(lp mask k x).1<=mask
 | 0,x,h=>h
 | k + 1,x,_=>wm4 k _ (by show (x.1 * 5 + 1 + x.2 / 32) % (mask + 1)<=mask; have:=Nat.mod_lt (x.1 * 5 + 1 + x.2 / 32) (show mask + 1 > 0 by omega); omega)
theorem ym1 {mask:Nat} (hm:mask ∈ okM) {i p e:Nat} (hi:i<=mask) (hp:p < 2 ^ 64) (he:e<=mask):∃ K,K<=13 + mask /\ (lp mask K (i,p)).1=e:=by
 have h1:=yw2 mask 13 (i,p) (Nat.lt_of_lt_of_le hp (by decide))
 have h2:=wm4 13 (i,p) hi
 obtain ⟨r,hr,er⟩:=xp4 hm h2 he
 refine ⟨13 + r,by omega,?_⟩
 rw [zw2,show lp mask 13 (i,p)=((lp mask 13 (i,p)).1,0) from Prod.ext rfl h1,wc2,er]
theorem wh2 (h:Int):SetTable.bits h < 2 ^ 64:=by
 unfold SetTable.bits
 have:=Int.emod_lt_of_pos h (show (0:Int) < 2 ^ 64 by decide)
 have:=Int.emod_nonneg h (show (2 ^ 64:Int) ≠ 0 by decide)
 omega
theorem vb1 (mask:Nat) (h:Int):trS mask h 0=seg mask (SetTable.bits h % (mask + 1)) (SetTable.bits h):=rfl
theorem xp3 {mask:Nat} (h:Int) (n:Nat):∃ n0 i p k,n=n0 + k /\ trS mask h n0=seg mask i p /\ i<=mask /\ p < 2 ^ 64 /\ k<=SetTable.runEnd mask i - i:=by
 induction n with
 | zero=>exact ⟨0,_,_,0,rfl,vb1 mask h,by have:=Nat.mod_lt (SetTable.bits h) (show mask + 1 > 0 by omega); omega,wh2 h,Nat.zero_le _⟩
 | succ n ih =>
  obtain ⟨n0,i,p,k,e1,e2,e3,e4,e5⟩:=ih
  by_cases c:k + 1<=SetTable.runEnd mask i - i
  ·exact ⟨n0,i,p,k + 1,by omega,e2,e3,e4,c⟩
  ·refine ⟨n0 + (SetTable.runEnd mask i - i) + 1,_,_,0,by omega,yp0 e2,?_,?_,Nat.zero_le _⟩
   ·show (i * 5 + 1 + p / 32) % (mask + 1)<=mask; have:=Nat.mod_lt (i * 5 + 1 + p / 32) (show mask + 1 > 0 by omega); omega
   ·show p / 32 < 2 ^ 64; omega
theorem uy2 {mask:Nat} (h:Int) (n:Nat):tr mask h n<=mask:=by
 obtain ⟨n0,i,p,k,e1,e2,e3,e4,e5⟩:=xp3 (mask:=mask) h n
 subst e1
 show (trS mask h (n0 + k)).j<=mask
 rw [vx0 e2 k e5]
 show i + k<=mask
 have:=vw3 mask i e3
 omega
theorem uj1 {mask:Nat} (hm:mask ∈ okM) (h:Int) (n:Nat) {e:Nat} (he:e<=mask):∃ m,n<=m /\ m < n + 10 * SetTable.turns mask /\ tr mask h m=e:=by
 obtain ⟨n0,i,p,k,e1,e2,e3,e4,e5⟩:=xp3 (mask:=mask) h n
 have e6:=yp0 e2
 have l1:(SetTable.leap mask i p).1<=mask:=by show (i * 5 + 1 + p / 32) % (mask + 1)<=mask; have:=Nat.mod_lt (i * 5 + 1 + p / 32) (show mask + 1 > 0 by omega); omega
 obtain ⟨K,hK,eK⟩:=ym1 hm l1 (show (SetTable.leap mask i p).2 < 2 ^ 64 by show p / 32 < 2 ^ 64; omega) he
 obtain ⟨m,h1,h2,h3⟩:=xv2 K e6
 have:=run9 mask i
 refine ⟨m,by omega,by unfold SetTable.turns; omega,?_⟩
 show (trS mask h m).j=e
 rw [h3]
 exact eK
def Occ (t:SetTable) (j:Nat):Prop:=j ∈ t.place.toList \/ j ∈ t.dummies.toList
structure TOk (t:SetTable) (hs:List Int):Prop where
 ris:Rise t.place
 rid:Rise t.dummies
 dj:∀ j,j ∈ t.dummies.toList->j ∉ t.place.toList
 inP:∀ j,j ∈ t.place.toList->j<=t.mask
 inD:∀ j,j ∈ t.dummies.toList->j<=t.mask
 msk:t.mask ∈ okM
 sz:t.place.size=hs.length
 reach:∀ (i j:Nat) (h:Int),t.place[i]?=some j->hs[i]?=some h->∃ m,tr t.mask h m=j /\ ∀ l,l < m->Occ t (tr t.mask h l)
theorem TOk.occ {t:SetTable} {hs:List Int} (k:TOk t hs) (j:Nat):Occ t j ↔ t.slot j ≠ .empty:=by
 rw [Ne,xu0 k.ris k.rid]
 unfold Occ
 constructor
 ·rintro (z | z) ⟨a,b⟩
  ·exact a z
  ·exact b z
 ·intro z
  by_cases c:j ∈ t.place.toList
  ·exact .inl c
  ·by_cases d:j ∈ t.dummies.toList
   ·exact .inr d
   ·exact absurd ⟨c,d⟩ z
theorem uv2:∀ (M:Nat) (L:List Nat),(∀ e,e < M->e ∈ L)->M<=L.length
 | 0,_,_=>Nat.zero_le _
 | M + 1,L,h=>by
  have h1:=h M (Nat.lt_succ_self _)
  have h2:=uv2 M (L.erase M) λ e he=>(List.mem_erase_of_ne (Nat.ne_of_lt he)).mpr (h e (Nat.lt_succ_of_lt he))
  rw [List.length_erase_of_mem h1] at h2
  have:=List.length_pos_of_mem h1
  omega
theorem TOk.hole {t:SetTable} {hs:List Int} (k:TOk t hs) (r:t.fill<=t.mask):∃ e,e<=t.mask /\ t.slot e=.empty:=by
 refine Classical.byContradiction λ c=>?_
 have:=uv2 (t.mask + 1) (t.place.toList ++ t.dummies.toList) λ e he=>by
  have h1:Occ t e:=(k.occ e).mpr λ z=>c ⟨e,by omega,z⟩
  exact List.mem_append.mpr h1
 rw [length_append] at this
 simp only [length_toList] at this
 unfold SetTable.fill at r
 omega
def Sk (t:SetTable) (hashAt:Nat->Int) (h:Int) (n m:Nat):Prop:=∀ l,n<=l->l < m->t.slot (tr t.mask h l) ≠ .empty /\ ∀ i,t.slot (tr t.mask h l)=.live i->hashAt i ≠ h
def DumOk (t:SetTable) (h:Int) (d:Option Nat) (n:Nat):Prop:=∀ x,d=some x->∃ l,l < n /\ tr t.mask h l=x /\ t.slot x=.dummy
theorem DumOk.up {t:SetTable} {h:Int} {d:Option Nat} {n m:Nat} (k:DumOk t h d n) (l:n<=m):DumOk t h d m:=λ x e=>by
 obtain ⟨a,b,c⟩:=k x e
 exact ⟨a,by omega,c⟩
theorem Sk.cons {t:SetTable} {hashAt:Nat->Int} {h:Int} {n m:Nat} (a:t.slot (tr t.mask h n) ≠ .empty) (b:∀ i,t.slot (tr t.mask h n)=.live i->hashAt i ≠ h) (k:Sk t hashAt h (n + 1) m):Sk t hashAt h n m:=λ l h1 h2=>by
 by_cases c:l=n
 ·subst c; exact ⟨a,b⟩
 ·exact k l (by omega) h2
theorem zi1 (t:SetTable) (hashAt:Nat->Int) (h:Int):∀ (fuel n:Nat) (d:Option Nat),DumOk t h d n->(∃ m,n<=m /\ m < n + fuel /\ t.slot (tr t.mask h m)=.empty) ->
    (∃ m d',SetTable.probe.go t hashAt h fuel { trS t.mask h n with dummy:=d }=some (.empty (tr t.mask h m) d') /\ n<=m /\ t.slot (tr t.mask h m)=.empty /\ Sk t hashAt h n m /\ DumOk t h d' m) ∨
    (∃ m i d',SetTable.probe.go t hashAt h fuel { trS t.mask h n with dummy:=d }=some (.candidate (tr t.mask h m) i { trS t.mask h (m + 1) with dummy:=d' }) /\ n<=m /\ t.slot (tr t.mask h m)=.live i /\ hashAt i=h /\ Sk t hashAt h n m /\ DumOk t h d' m)
 | 0,n,d,k,c=>by obtain ⟨m,a,b,_⟩:=c; omega
 | fuel + 1,n,d,k,c=>by
  have nx:t.slot (tr t.mask h n) ≠ .empty->∃ m,n + 1<=m /\ m < n + 1 + fuel /\ t.slot (tr t.mask h m)=.empty:=λ z=>by
   obtain ⟨m,a,b,e⟩:=c
   refine ⟨m,?_,by omega,e⟩
   by_cases y:m=n
   ·subst y; exact absurd e z
   ·omega
  unfold SetTable.probe.go
  dsimp only
  cases hs:t.slot (tr t.mask h n) with
  | empty=>exact .inl ⟨n,d,rfl,Nat.le_refl _,hs,λ l a b=>by omega,k⟩
  | dummy =>
   dsimp only
   have e1:t.advance { trS t.mask h n with dummy:=some (tr t.mask h n) }={ trS t.mask h (n + 1) with dummy:=some (tr t.mask h n) }:=uf1 t (trS t.mask h n) _
   rw [e1]
   have k':DumOk t h (some (tr t.mask h n)) (n + 1):=λ x e=>by cases e; exact ⟨n,Nat.lt_succ_self _,rfl,hs⟩
   have e2:t.slot (tr t.mask h n) ≠ .empty:=by rw [hs]; intro z; cases z
   have e3:∀ i,t.slot (tr t.mask h n)=.live i->hashAt i ≠ h:=λ i z=>by rw [hs] at z; cases z
   rcases zi1 t hashAt h fuel (n + 1) _ k' (nx e2) with ⟨m,d',a1,a2,a3,a4,a5⟩ | ⟨m,i,d',a1,a2,a3,a4,a5,a6⟩
   ·exact .inl ⟨m,d',a1,by omega,a3,a4.cons e2 e3,a5⟩
   ·exact .inr ⟨m,i,d',a1,by omega,a3,a4,a5.cons e2 e3,a6⟩
  | live i =>
   dsimp only
   have e1:t.advance { trS t.mask h n with dummy:=d }={ trS t.mask h (n + 1) with dummy:=d }:=uf1 t (trS t.mask h n) _
   rw [e1]
   have e2:t.slot (tr t.mask h n) ≠ .empty:=by rw [hs]; intro z; cases z
   by_cases c2:hashAt i=h
   ·rw [if_pos (by simpa using c2)]
    exact .inr ⟨n,i,d,rfl,Nat.le_refl _,hs,c2,λ l a b=>by omega,k⟩
   ·rw [if_neg (by simpa using c2)]
    have e3:∀ i,t.slot (tr t.mask h n)=.live i->hashAt i ≠ h:=λ i' z=>by rw [hs] at z; cases z; exact c2
    rcases zi1 t hashAt h fuel (n + 1) _ (k.up (Nat.le_succ _)) (nx e2) with ⟨m,d',a1,a2,a3,a4,a5⟩ | ⟨m,i,d',a1,a2,a3,a4,a5,a6⟩
    ·exact .inl ⟨m,d',a1,by omega,a3,a4.cons e2 e3,a5⟩
    ·exact .inr ⟨m,i,d',a1,by omega,a3,a4,a5.cons e2 e3,a6⟩
theorem TOk.probe {t:SetTable} {hs:List Int} (k:TOk t hs) (r:t.fill<=t.mask) (hashAt:Nat->Int) (h:Int) (n:Nat) (d:Option Nat) (kd:DumOk t h d n) :
    (∃ m d',t.probe hashAt h { trS t.mask h n with dummy:=d }=some (.empty (tr t.mask h m) d') /\ n<=m /\ t.slot (tr t.mask h m)=.empty /\ Sk t hashAt h n m /\ DumOk t h d' m) ∨
    (∃ m i d',t.probe hashAt h { trS t.mask h n with dummy:=d }=some (.candidate (tr t.mask h m) i { trS t.mask h (m + 1) with dummy:=d' }) /\ n<=m /\ t.slot (tr t.mask h m)=.live i /\ hashAt i=h /\ Sk t hashAt h n m /\ DumOk t h d' m):=by
 obtain ⟨e,he,ee⟩:=k.hole r
 obtain ⟨m,h1,h2,h3⟩:=uj1 k.msk h n he
 exact zi1 t hashAt h _ n d kd ⟨m,h1,h2,by rw [h3]; exact ee⟩
theorem vv0 {α:Type} {xs:List α} {p:Nat} {x:α} {i:Nat} (hp:p<=xs.length) (h:i < p):(xs.take p ++ x :: xs.drop p)[i]?=xs[i]?:=by
 rw [getElem?_append_left (by rw [length_take]; omega),getElem?_take_of_lt h]
theorem tv0 {α:Type} {xs:List α} {p:Nat} {x:α} (hp:p<=xs.length):(xs.take p ++ x :: xs.drop p)[p]?=some x:=by
 rw [getElem?_append_right (by rw [length_take]; omega),length_take,show p - min p xs.length=0 by omega]
 rfl
theorem uv0 {α:Type} {xs:List α} {p:Nat} {x:α} {i:Nat} (hp:p<=xs.length) (h:p<=i):(xs.take p ++ x :: xs.drop p)[i + 1]?=xs[i]?:=by
 rw [getElem?_append_right (by rw [length_take]; omega),length_take,show i + 1 - min p xs.length=(i - p) + 1 by omega,getElem?_cons_succ,getElem?_drop]
 congr 1
 omega
def insL {α:Type} (xs:List α) (p:Nat) (x:α):List α:=xs.take p ++ x :: xs.drop p
theorem tp0 {α:Type} (xs:List α) (p:Nat) (x y:α):y ∈ insL xs p x ↔ y=x \/ y ∈ xs:=by
 have e:xs=xs.take p ++ xs.drop p:=(take_append_drop p xs).symm
 unfold insL
 rw [mem_append,mem_cons]
 constructor
 ·rintro (z | z | z)
  ·exact .inr (mem_of_mem_take z)
  ·exact .inl z
  ·exact .inr (mem_of_mem_drop z)
 ·rintro (z | z)
  ·exact .inr (.inl z)
  ·rw [e] at z
   rcases List.mem_append.mp z with z | z
   ·exact .inl z
   ·exact .inr (.inr z)
theorem xj0 {α:Type} (xs:List α) (p:Nat) (x:α):(insL xs p x).length=xs.length + 1:=by
 unfold insL
 rw [length_append,length_cons,length_take,length_drop]
 omega
theorem um1 {α β:Type} (f:α->β) (xs:List α) (p:Nat) (x:α):(insL xs p x).map f=insL (xs.map f) p (f x):=by
 unfold insL
 rw [map_append,map_cons,List.map_take,List.map_drop]
theorem zl2 {xs:Array Nat} (h:Rise xs) {j:Nat} (hn:j ∉ xs.toList):(insL xs.toList (SetTable.below xs j) j).Pairwise (· < ·):=by
 have b:∀ {i a:Nat},xs[i]?=some a->(i < SetTable.below xs j ↔ a < j):=λ q=>uk0 h j q
 have hb:=yn0 h j
 have e:xs.toList=xs.toList.take (SetTable.below xs j) ++ xs.toList.drop (SetTable.below xs j):=(take_append_drop _ _).symm
 have h':=h
 unfold Rise at h'
 rw [e] at h'
 obtain ⟨h1,h2,h3⟩:=List.pairwise_append.mp h'
 unfold insL
 refine List.pairwise_append.mpr ⟨h1,List.pairwise_cons.mpr ⟨λ x hx=>?_,h2⟩,λ x hx y hy=>?_⟩
 ·obtain ⟨i,hi⟩:=List.mem_iff_getElem?.mp hx
  rw [getElem?_drop,getElem?_toList] at hi
  have:=b hi
  have ne:x ≠ j:=λ z=>hn (by subst z; exact zw0 hi)
  omega
 ·have hxl:x < j:=by
    obtain ⟨i,hi⟩:=List.mem_iff_getElem?.mp hx
    have hlt:i < SetTable.below xs j:=by
     have:=(List.getElem?_eq_some_iff.mp hi).1
     rw [length_take] at this
     omega
    rw [getElem?_take_of_lt hlt,getElem?_toList] at hi
    exact (b hi).mp hlt
  rcases List.mem_cons.mp hy with rfl | hy
  ·exact hxl
  ·exact h3 x hx y hy
theorem tj3 {xs:Array Nat} (h:Rise xs) {p j:Nat} (hp:xs[p]?=some j) (x:Nat):x ∈ (SetTable.eraseAt xs p).toList ↔ x ∈ xs.toList /\ x ≠ j:=by
 have hpl:=(Array.getElem?_eq_some_iff.mp hp).1
 have e:(SetTable.eraseAt xs p).toList=xs.toList.take p ++ xs.toList.drop (p + 1):=by
  simp [SetTable.eraseAt,List.extract_eq_take_drop,take_of_length_le]
 rw [e,mem_append]
 constructor
 ·rintro (z | z)
  ·obtain ⟨i,hi⟩:=List.mem_iff_getElem?.mp z
   have hlt:i < p:=by
    have:=(List.getElem?_eq_some_iff.mp hi).1
    rw [length_take] at this
    omega
   rw [getElem?_take_of_lt hlt,getElem?_toList] at hi
   exact ⟨zw0 hi,Nat.ne_of_lt (un0 h hi hp hlt)⟩
  ·obtain ⟨i,hi⟩:=List.mem_iff_getElem?.mp z
   rw [getElem?_drop,getElem?_toList] at hi
   exact ⟨zw0 hi,Nat.ne_of_gt (un0 h hp hi (by omega))⟩
 ·rintro ⟨z,ne⟩
  obtain ⟨i,hi⟩:=tc1 z
  have hil:=(Array.getElem?_eq_some_iff.mp hi).1
  by_cases c:i < p
  ·exact .inl (List.mem_iff_getElem?.mpr ⟨i,by rw [getElem?_take_of_lt c,getElem?_toList]; exact hi⟩)
  ·have:i ≠ p:=λ y=>by subst y; rw [hp] at hi; cases hi; exact ne rfl
   exact .inr (List.mem_iff_getElem?.mpr ⟨i - (p + 1),by rw [getElem?_drop,show p + 1 + (i - (p + 1))=i by omega,getElem?_toList]; exact hi⟩)
theorem tz0 (xs:Array Nat) (p:Nat):(SetTable.eraseAt xs p).toList=xs.toList.take p ++ xs.toList.drop (p + 1):=by
 simp [SetTable.eraseAt,List.extract_eq_take_drop,take_of_length_le]
theorem wl2 {xs:Array Nat} (h:Rise xs) (p:Nat):Rise (SetTable.eraseAt xs p):=by
 unfold Rise
 rw [tz0]
 have e:xs.toList=xs.toList.take p ++ xs.toList.drop p:=(take_append_drop p xs.toList).symm
 refine List.Pairwise.sublist ?_ h
 conv=>rhs; rw [e]
 refine List.Sublist.append (List.Sublist.refl _) ?_
 rw [<- List.drop_drop]
 exact drop_sublist _ _
theorem zl0 {t:SetTable} (k:Rise t.dummies) (j x:Nat):x ∈ (t.put j).1.dummies.toList ↔ x ∈ t.dummies.toList /\ x ≠ j:=by
 show x ∈ (if SetTable.has t.dummies j then SetTable.eraseAt t.dummies (SetTable.below t.dummies j) else t.dummies).toList ↔ _
 by_cases c:SetTable.has t.dummies j=true
 ·rw [if_pos c]
  obtain ⟨i,hi⟩:=tc1 ((vl0 k j).mp c)
  rw [zn0 k hi]
  exact tj3 k hi x
 ·rw [if_neg c]
  exact ⟨λ z=>⟨z,λ y=>by subst y; exact c ((vl0 k x).mpr z)⟩,λ z=>z.1⟩
theorem tg0 (t:SetTable) (j:Nat):(t.put j).1.place.toList=insL t.place.toList (SetTable.below t.place j) j:=SetTable.toList_insertAt _ _ _
theorem TOk.put {t:SetTable} {hs:List Int} (k:TOk t hs) {x:Nat} {h:Int} (hx:x ∉ t.place.toList) (hr:∃ m,tr t.mask h m=x /\ ∀ l,l < m->Occ t (tr t.mask h l)) :
    TOk (t.put x).1 (insL hs (SetTable.below t.place x) h):=by
 have hb:=yn0 k.ris x
 have sz:=k.sz
 have oc:∀ j,Occ t j->Occ (t.put x).1 j:=λ j o=>by
  unfold Occ
  rw [tg0,tp0,zl0 k.rid]
  by_cases c:j=x
  ·exact .inl (.inl c)
  ·exact o.elim (λ z=>.inl (.inr z)) λ z=>.inr ⟨z,c⟩
 have hxm:x<=t.mask:=by obtain ⟨m,e,_⟩:=hr; rw [<- e]; exact uy2 h m
 refine ⟨?_,?_,λ j a b=>?_,λ j a=>?_,λ j a=>?_,k.msk,?_,λ i j h' a b=>?_⟩
 ·unfold Rise; rw [tg0]; exact zl2 k.ris hx
 ·show Rise (if SetTable.has t.dummies x then SetTable.eraseAt t.dummies (SetTable.below t.dummies x) else t.dummies)
  split
  ·exact wl2 k.rid _
  ·exact k.rid
 ·rw [zl0 k.rid] at a
  rw [tg0,tp0] at b
  rcases b with rfl | b
  ·exact a.2 rfl
  ·exact k.dj j a.1 b
 ·rw [tg0,tp0] at a
  rcases a with rfl | a
  ·exact hxm
  ·exact k.inP j a
 ·rw [zl0 k.rid] at a
  exact k.inD j a.1
 ·rw [<- length_toList,tg0,xj0,xj0,length_toList,sz]
 ·have lp:SetTable.below t.place x<=t.place.toList.length:=by rw [length_toList]; exact hb
  have lh:SetTable.below t.place x<=hs.length:=by rw [<- sz]; exact hb
  rw [<- getElem?_toList,tg0] at a
  show ∃ m,tr t.mask h' m=j /\ ∀ l,l < m->Occ (t.put x).1 (tr t.mask h' l)
  unfold insL at a b
  by_cases c:i < SetTable.below t.place x
  ·rw [vv0 lp c,getElem?_toList] at a
   rw [vv0 lh c] at b
   obtain ⟨m,e,o⟩:=k.reach i j h' a b
   exact ⟨m,e,λ l hl=>oc _ (o l hl)⟩
  ·by_cases c2:i=SetTable.below t.place x
   ·subst c2
    rw [tv0 lp] at a
    rw [tv0 lh] at b
    cases a
    cases b
    obtain ⟨m,e,o⟩:=hr
    exact ⟨m,e,λ l hl=>oc _ (o l hl)⟩
   ·obtain ⟨i',rfl⟩:∃ i',i=i' + 1:=⟨i - 1,by omega⟩
    rw [uv0 lp (by omega),getElem?_toList] at a
    rw [uv0 lh (by omega)] at b
    obtain ⟨m,e,o⟩:=k.reach i' j h' a b
    exact ⟨m,e,λ l hl=>oc _ (o l hl)⟩
theorem zm2 {t:SetTable} {hs:List Int} (k:TOk t hs) {x:Nat}:(t.put x).1.fill<=t.fill + 1:=by
 unfold SetTable.fill
 have h1:(t.put x).1.place.size=t.place.size + 1:=by rw [<- length_toList,tg0,xj0,length_toList]
 have h2:(t.put x).1.dummies.size<=t.dummies.size:=by
  show (if SetTable.has t.dummies x then SetTable.eraseAt t.dummies (SetTable.below t.dummies x) else t.dummies).size<=_
  split
  ·rw [<- length_toList,tz0,length_append,length_take,length_drop,length_toList]; omega
  ·exact Nat.le_refl _
 omega
theorem tt1 {t:SetTable} {hs:List Int} (k:TOk t hs) {x:Nat} (hd:t.slot x=.dummy):(t.put x).1.fill<=t.fill:=by
 unfold SetTable.fill
 have h1:(t.put x).1.place.size=t.place.size + 1:=by rw [<- length_toList,tg0,xj0,length_toList]
 have m:=(yu0 k.ris k.rid (k.dj x)).mp hd
 obtain ⟨i,hi⟩:=tc1 m
 have hil:=(Array.getElem?_eq_some_iff.mp hi).1
 have h2:(t.put x).1.dummies.size + 1<=t.dummies.size:=by
  show (if SetTable.has t.dummies x then SetTable.eraseAt t.dummies (SetTable.below t.dummies x) else t.dummies).size + 1<=_
  rw [if_pos ((vl0 k.rid x).mpr m),zn0 k.rid hi,<- length_toList,tz0,length_append,length_take,length_drop,length_toList]
  omega
 omega
theorem sd1 (mask:Nat) (h:Int) (owner:Array (Option Nat)):∀ (fuel n i p:Nat),trS mask h n=seg mask i p->(∃ K,K < fuel /\ owner.getD (lp mask K (i,p)).1 (some 0)=none) ->
    ∃ m,SetTable.layClean.free mask owner fuel i p=some (tr mask h m) /\ n<=m /\ owner.getD (tr mask h m) (some 0)=none /\ ∀ l,n<=l->l < m->owner.getD (tr mask h l) (some 0) ≠ none
 | 0,n,i,p,e,c=>by obtain ⟨K,a,_⟩:=c; omega
 | fuel + 1,n,i,p,e,c=>by
  have trk:∀ k,k<=SetTable.runEnd mask i - i->tr mask h (n + k)=i + k:=λ k hk=>by
   show (trS mask h (n + k)).j=_
   rw [vx0 e k hk]
  have rl:=ww3 mask i
  unfold SetTable.layClean.free
  cases hf:(List.range (SetTable.runEnd mask i + 1 - i)).find? (λ k=>(owner.getD (i + k) (some 0)).isNone) with
  | some k =>
   dsimp only
   obtain ⟨h1,h2,h3⟩:=List.find?_range_eq_some.mp hf
   have h2':k < SetTable.runEnd mask i + 1 - i:=List.mem_range.mp h2
   refine ⟨n + k,by rw [trk k (by omega)],by omega,by rw [trk k (by omega)]; simpa using h1,λ l a b=>?_⟩
   obtain ⟨l',rfl⟩:∃ l',l=n + l':=⟨l - n,by omega⟩
   rw [trk l' (by omega)]
   have:=h3 l' (by omega)
   intro z
   rw [z] at this
   simp at this
  | none =>
   dsimp only
   have h1:=List.find?_range_eq_none.mp hf
   have h1':∀ k,k<=SetTable.runEnd mask i - i->owner.getD (i + k) (some 0) ≠ none:=λ k hk z=>by
    have:=h1 k (by omega)
    rw [z] at this
    simp at this
   have c':∃ K,K < fuel /\ owner.getD (lp mask K (SetTable.leap mask i p)).1 (some 0)=none:=by
    obtain ⟨K,a,b⟩:=c
    cases K with
    | zero=>exact absurd b (h1' 0 (Nat.zero_le _))
    | succ K=>exact ⟨K,by omega,b⟩
   obtain ⟨m,a1,a2,a3,a4⟩:=sd1 mask h owner fuel _ _ _ (yp0 e) c'
   refine ⟨m,a1,by omega,a3,λ l b1 b2=>?_⟩
   by_cases z:l<=n + (SetTable.runEnd mask i - i)
   ·obtain ⟨l',rfl⟩:∃ l',l=n + l':=⟨l - n,by omega⟩
    rw [trk l' (by omega)]
    exact h1' l' (by omega)
   ·exact a4 l (by omega) b2
theorem sw2 {α β:Type} {f:α->Option β}:∀ {L:List α},(∀ j ∈ L,f j ≠ none)->(L.filterMap f).length=L.length
 | [],_=>rfl
 | j :: L,h=>by
  have h1:=h j (mem_cons_self ..)
  obtain ⟨b,hb⟩:∃ b,f j=some b:=by cases hq:f j with | none=>exact absurd hq h1 | some b=>exact ⟨b,rfl⟩
  rw [List.filterMap_cons_some hb,length_cons,length_cons,sw2 λ x hx=>h x (mem_cons_of_mem _ hx)]
theorem vz0 {α β:Type} {f g:α->Option β}:∀ {L:List α},(∀ j ∈ L,f j=g j)->L.filterMap f=L.filterMap g
 | [],_=>rfl
 | j :: L,h=>by
  rw [filterMap_cons,filterMap_cons,h j (mem_cons_self ..),vz0 λ x hx=>h x (mem_cons_of_mem _ hx)]
theorem tw2 {f g:Nat->Option Nat} {x k:Nat} (e1:f x=none) (e2:g x=some k) (e3:∀ y,y ≠ x->g y=f y):∀ {L:List Nat},L.Nodup->x ∈ L->(L.filterMap g).Perm (k :: L.filterMap f)
 | [],_,h=>by cases h
 | y :: L,nd,h=>by
  obtain ⟨n1,n2⟩:=List.nodup_cons.mp nd
  by_cases c:y=x
  ·subst c
   rw [List.filterMap_cons_some e2,List.filterMap_cons_none e1]
   refine List.Perm.cons _ (List.Perm.of_eq ?_)
   exact vz0 λ j hj=>e3 j λ z=>n1 (z ▸ hj)
  ·have ih:=tw2 e1 e2 e3 n2 (by rcases List.mem_cons.mp h with rfl | h; exact absurd rfl c; exact h)
   have e:=e3 y c
   cases hf:f y with
   | none=>rw [List.filterMap_cons_none (by rw [e,hf]),List.filterMap_cons_none hf]; exact ih
   | some b =>
    rw [List.filterMap_cons_some (by rw [e,hf]),List.filterMap_cons_some hf]
    exact (List.Perm.cons _ ih).trans (List.Perm.swap _ _ _)
structure OwnOk (mask:Nat) (hs:List Int) (owner:Array (Option Nat)):Prop where
 sz:owner.size=mask + 1
 perm:((List.range (mask + 1)).filterMap λ j=>owner.getD j none).Perm (List.range hs.length)
 reach:∀ j k,owner.getD j none=some k->∃ h,hs[k]?=some h /\ ∃ m,tr mask h m=j /\ ∀ l,l < m->owner.getD (tr mask h l) none ≠ none
theorem zz0 {owner:Array (Option Nat)} {j:Nat} (h:j < owner.size) (a b:Option Nat):owner.getD j a=owner.getD j b:=by simp [Array.getD,h]
theorem OwnOk.step {mask:Nat} (hm:mask ∈ okM) {hs:List Int} {owner:Array (Option Nat)} (k:OwnOk mask hs owner) (hl:hs.length<=mask) (h:Int) :
    ∃ x,SetTable.layClean.free mask owner (SetTable.turns mask) (SetTable.bits h % (mask + 1)) (SetTable.bits h)=some x /\ OwnOk mask (hs ++ [h]) (owner.setIfInBounds x (some hs.length)):=by
 have sz:=k.sz
 obtain ⟨e,he,ee⟩:∃ e,e<=mask /\ owner.getD e none=none:=by
  refine Classical.byContradiction λ c=>?_
  have h1:=sw2 (f:=λ j=>owner.getD j none) (L:=List.range (mask + 1)) λ j hj z=>c ⟨j,by have:=List.mem_range.mp hj; omega,z⟩
  rw [k.perm.length_eq,length_range,length_range] at h1
  omega
 have hi:SetTable.bits h % (mask + 1)<=mask:=by have:=Nat.mod_lt (SetTable.bits h) (show mask + 1 > 0 by omega); omega
 obtain ⟨K,hK,eK⟩:=ym1 hm hi (wh2 h) he
 obtain ⟨m,a1,a2,a3,a4⟩:=sd1 mask h owner (SetTable.turns mask) 0 _ _ (vb1 mask h) ⟨K,by unfold SetTable.turns; omega,by rw [eK,zz0 (by omega) _ none]; exact ee⟩
 have ml:∀ l,tr mask h l < owner.size:=λ l=>by have:=uy2 (mask:=mask) h l; omega
 have a3':owner.getD (tr mask h m) none=none:=by rw [zz0 (ml m) _ (some 0)]; exact a3
 have gx:(owner.setIfInBounds (tr mask h m) (some hs.length)).getD (tr mask h m) none=some hs.length:=by
  have:=ml m
  simp [Array.getD,this]
 have gy:∀ y,y ≠ tr mask h m->(owner.setIfInBounds (tr mask h m) (some hs.length)).getD y none=owner.getD y none:=λ y hy=>by
  by_cases c:y < owner.size
  ·simp [Array.getD,c,Array.getElem_setIfInBounds,Ne.symm hy]
  ·simp [Array.getD,c]
 have mono:∀ y,owner.getD y none ≠ none->(owner.setIfInBounds (tr mask h m) (some hs.length)).getD y none ≠ none:=λ y hy=>by
  by_cases c:y=tr mask h m
  ·subst c; rw [gx]; intro z; cases z
  ·rw [gy y c]; exact hy
 refine ⟨tr mask h m,a1,by rw [Array.size_setIfInBounds]; exact sz,?_,λ j q e=>?_⟩
 ·refine (tw2 a3' gx gy List.nodup_range (List.mem_range.mpr (by have:=ml m; omega))).trans ?_
  rw [length_append,List.length_singleton]
  exact ((List.Perm.cons _ k.perm).trans (List.perm_append_singleton _ _).symm).trans (List.Perm.of_eq List.range_succ.symm)
 ·by_cases c:j=tr mask h m
  ·subst c
   rw [gx] at e
   cases e
   refine ⟨h,by simp,m,rfl,λ l hl=>mono _ ?_⟩
   have:=a4 l (Nat.zero_le _) hl
   rw [zz0 (ml l) _ none] at this
   exact this
  ·rw [gy j c] at e
   obtain ⟨h',b1,m',b2,b3⟩:=k.reach j q e
   refine ⟨h',?_,m',b2,λ l hl=>mono _ (b3 l hl)⟩
   rw [getElem?_append_left (List.getElem?_eq_some_iff.mp b1).1]
   exact b1
theorem ze2 {mask:Nat} (hm:mask ∈ okM):∀ (rest done:List Int) (owner:Array (Option Nat)),OwnOk mask done owner->done.length + rest.length<=mask + 1 ->
    ∃ owner',List.foldl (λ acc h=>do
     let (owner,k) <- acc
     let j <- SetTable.layClean.free mask owner (SetTable.turns mask) (SetTable.bits h % (mask + 1)) (SetTable.bits h)
     pure (owner.setIfInBounds j (some k),k + 1)) (some (owner,done.length)) rest=some (owner',done.length + rest.length) /\ OwnOk mask (done ++ rest) owner'
 | [],done,owner,k,_=>⟨owner,rfl,by rw [append_nil]; exact k⟩
 | h :: rest,done,owner,k,hl=>by
  rw [length_cons] at hl
  obtain ⟨x,e,k'⟩:=k.step hm (by omega) h
  obtain ⟨o',e',k''⟩:=ze2 hm rest (done ++ [h]) _ k' (by rw [length_append,List.length_singleton]; omega)
  refine ⟨o',?_,by rw [append_assoc] at k''; exact k''⟩
  rw [length_append,List.length_singleton] at e'
  rw [List.foldl_cons,length_cons,show done.length + (rest.length + 1)=done.length + 1 + rest.length by omega,<- e']
  simp only [bind,Option.bind,e,pure]
theorem own0 (mask:Nat):OwnOk mask [] (Array.replicate (mask + 1) none):=by
 have g:∀ j,(Array.replicate (mask + 1) (none:Option Nat)).getD j none=none:=λ j=>by
  by_cases c:j < mask + 1 <;> simp [Array.getD,c]
 refine ⟨by simp,?_,λ j k e=>by rw [g] at e; cases e⟩
 rw [List.filterMap_eq_nil_iff.mpr λ j _=>g j]
 exact List.Perm.refl _
theorem xi1 {mask:Nat} (hm:mask ∈ okM) (hs:Array Int) (hl:hs.size<=mask + 1):∃ owner,SetTable.layClean mask hs=some owner /\ OwnOk mask hs.toList owner:=by
 obtain ⟨o,e,k⟩:=ze2 hm hs.toList [] _ (own0 mask) (by simpa using hl)
 refine ⟨o,?_,by simpa using k⟩
 unfold SetTable.layClean
 rw [<- Array.foldl_toList]
 rw [length_nil] at e
 rw [e]
 rfl
theorem vi3 {mask:Nat} (hm:mask ∈ okM) (hs:Array Int) (hl:hs.size<=mask + 1) (fi mo:Nat) (le pl:Bool) :
    ∃ t' order,SetTable.laid mask fi mo le pl hs=some (t',order) /\ t'.mask=mask /\ t'.dummies = #[] /\ t'.led=le /\ t'.plain=pl /\ t'.finger=fi /\ t'.moves=mo /\ order.toList.Perm (List.range hs.size) /\ TOk t' (order.toList.map λ k=>hs.getD k 0):=by
 obtain ⟨o,e,k⟩:=xi1 hm hs hl
 unfold SetTable.laid
 rw [e]
 refine ⟨_,_,rfl,rfl,rfl,rfl,rfl,rfl,rfl,?_,?_⟩
 ·have:(((List.range (mask + 1)).filterMap λ j=>(o.getD j none).map (j,·)).map (·.2))=(List.range (mask + 1)).filterMap λ j=>o.getD j none:=by
    rw [List.map_filterMap]
    refine vz0 λ j _=>?_
    cases o.getD j none <;> rfl
  simp only [List.toList_toArray]
  rw [this]
  simpa using k.perm
 ·generalize hlv:((List.range (mask + 1)).filterMap λ j=>(o.getD j none).map (j,·))=live
  have lget:∀ x,x ∈ live->x.1<=mask /\ o.getD x.1 none=some x.2:=λ x hx=>by
   rw [<- hlv] at hx
   obtain ⟨j,hj,ej⟩:=List.mem_filterMap.mp hx
   cases hq:o.getD j none with
   | none=>rw [hq] at ej; cases ej
   | some b=>rw [hq] at ej; cases ej; exact ⟨by have:=List.mem_range.mp hj; show j<=mask; omega,hq⟩
  have lin:∀ j q,j<=mask->o.getD j none=some q->j ∈ live.map (·.1):=λ j q hj eq=>by
   rw [<- hlv]
   exact List.mem_map.mpr ⟨(j,q),List.mem_filterMap.mpr ⟨j,List.mem_range.mpr (by omega),by rw [eq]; rfl⟩,rfl⟩
  have pw:(live.map (·.1)).Pairwise (· < ·):=by
   rw [<- hlv,List.map_filterMap,List.pairwise_filterMap]
   refine List.pairwise_lt_range.imp_of_mem ?_
   ·intro a b ha hb hab x hx y hy
    cases hq:o.getD a none with
    | none=>rw [hq] at hx; cases hx
    | some u =>
     cases hq2:o.getD b none with
     | none=>rw [hq2] at hy; cases hy
     | some v=>rw [hq] at hx; rw [hq2] at hy; cases hx; cases hy; exact hab
  refine ⟨by simpa [Rise] using pw,List.Pairwise.nil,λ j z=>by simp at z,λ j z=>?_,λ j z=>by simp at z,hm,by simp,λ i j h a b=>?_⟩
  ·have z':j ∈ live.map (·.1):=by simpa using z
   obtain ⟨x,hx,rfl⟩:=List.mem_map.mp z'
   exact (lget x hx).1
  ·have a':(live.map (·.1))[i]?=some j:=by simpa using a
   have b':((live.map (·.2)).map λ k=>hs.getD k 0)[i]?=some h:=by simpa using b
   rw [getElem?_map] at a' b'
   rw [getElem?_map] at b'
   cases hx:live[i]? with
   | none=>rw [hx] at a'; cases a'
   | some x =>
    rw [hx] at a' b'
    have a2:x.1=j:=by simpa using a'
    have b2:hs.getD x.2 0=h:=by simpa using b'
    obtain ⟨g1,g2⟩:=lget x (mem_of_getElem? hx)
    obtain ⟨h',c1,m,c2,c3⟩:=k.reach _ _ g2
    have hh:h'=h:=by
     rw [<- b2]
     rw [getElem?_toList] at c1
     obtain ⟨hl1,hl2⟩:=Array.getElem?_eq_some_iff.mp c1
     simp [Array.getD,hl1,hl2]
    subst hh
    refine ⟨m,by rw [c2,a2],λ l hl=>.inl ?_⟩
    have c4:=c3 l hl
    cases hq:o.getD (tr mask h' l) none with
    | none=>exact absurd hq c4
    | some q=>simpa using lin _ q (uy2 h' l) hq
theorem sb1:∀ n,n < 512->SetTable.sizeAbove (n * 4) - 1 ∈ okM /\ n * 5 < (SetTable.sizeAbove (n * 4) - 1) * 3 /\ SetTable.sizeAbove (n * 4)<=2048:=by
 have:((List.range 512).all λ n=>decide (SetTable.sizeAbove (n * 4) - 1 ∈ okM /\ n * 5 < (SetTable.sizeAbove (n * 4) - 1) * 3 /\ SetTable.sizeAbove (n * 4)<=2048))=true:=by decide +kernel
 intro n hn
 exact of_decide_eq_true (List.all_eq_true.mp this n (List.mem_range.mpr hn))
end Pv
namespace Pv
open PySem PySem.Spec PySem.W PyProof.Rows L2
def kI (t:T3):List Int:=[t.1,t.2.1,t.2.2]
theorem vw2 {a b:T3} (h:kI a=kI b):a=b:=by
 obtain ⟨a1,a2,a3⟩:=a
 obtain ⟨b1,b2,b3⟩:=b
 simp only [kI,List.cons.injEq,and_true] at h
 obtain ⟨rfl,rfl,rfl⟩:=h
 rfl
section
variable {prog:Program} {w:World} {A:Around} {E:Value->Shared->Prop} {s:Shared}
abbrev TK (prog:Program) (w:World) (h:Heap) (t:T3) (a:Addr):Prop:=IsTupleKey (intKind prog w) h (kI t) a
def hT (prog:Program) (w:World) (t:T3):Int:=tupleKeyHash (intKind prog w) (kI t)
theorem xj3 {k:T3} {b:Addr} {Q:Int->Shared->Prop} (hu:A.units < cLine) (i:TK prog w s.heap k b) (h:∀ tk,Q (hT prog w k) { s with toks:=tk }):wpAny (model prog w) A (pyHash (.ref b)) Q E s:=wpAny_pyHash_tuple hu i (h _)
theorem IsT3.key {h:Heap} {a:Addr} {t:T3} (i:IsT3 h (.ref a) t):TK prog w h t a:=by
 obtain ⟨a',o,t1,t2,t3,n,e1,e2,e3,e4⟩:=i
 cases e1
 exact ⟨o,_,n,e2,e3,e4,.cons (intKind_is ..) (.cons (intKind_is ..) (.cons (intKind_is ..) .nil))⟩
theorem TK.t3 {h:Heap} {a:Addr} {t:T3} (i:TK prog w h t a):IsT3 h (.ref a) t:=by
 obtain ⟨o,items,n,e1,e2,e3,e4⟩:=i
 obtain ⟨it⟩:=items
 dsimp only at e4
 have f:∀ {k:Int} {v:Value},(intKind prog w).is k v=true->∃ tk,v=.int k tk:=λ {k v} z=>by
  cases v <;> simp [intKind,Value.isInt] at z
  exact ⟨_,by rw [z]⟩
 unfold kI at e4
 cases e4 with
 | cons a1 e4 =>
  cases e4 with
  | cons a2 e4 =>
   cases e4 with
   | cons a3 e4 =>
    cases e4
    obtain ⟨t1,rfl⟩:=f a1
    obtain ⟨t2,rfl⟩:=f a2
    obtain ⟨t3,rfl⟩:=f a3
    exact ⟨a,o,t1,t2,t3,n,rfl,e1,e2,e3⟩
theorem TK.kept {h h':Heap} {a:Addr} {t:T3} (k:∀ o,h.get? a=some o->o.cls=.type "tuple" -> h'.get? a=some o) (i:TK prog w h t a):TK prog w h' t a:=by
 obtain ⟨o,items,n,e1,e2,e3⟩:=i
 exact ⟨o,items,n,k o e1 e2,e2,e3⟩
theorem zp0 {a:Addr} {Q:Bool->Shared->Prop} (h:Q true s):wpAny (model prog w) A (isSame (.ref a) (.ref a)) Q E s:=by
 unfold isSame
 dsimp only
 rw [if_pos (beq_self_eq_true a)]
 exact wpAny_pure h
theorem TK.items {h:Heap} {a:Addr} {t:T3} (i:TK prog w h t a):∃ o t1 t2 t3 n,h.get? a=some o /\ o.cls=.type "tuple" /\ o.data=.seq #[.int t.1 t1,.int t.2.1 t2,.int t.2.2 t3] n:=by
 obtain ⟨a',o,t1,t2,t3,n,e1,e2,e3,e4⟩:=i.t3
 cases e1
 exact ⟨o,t1,t2,t3,n,e2,e3,e4⟩
theorem wx2 {t:T3} {a:Addr} {Q:Bool->Shared->Prop} (i:TK prog w s.heap t a) (h:Q false s):wpAny (model prog w) A (ofAClassStatement 8 (.ref a)) Q E s:=by
 have ty:=i.typeIs
 obtain ⟨o,t1,t2,t3,n,e1,e2,e3⟩:=i.items
 unfold ofAClassStatement
 refine wpAny_bind (wpAny_typeOf ty ?_)
 dsimp only
 rw [if_pos (by decide)]
 refine wpAny_bind (wpAny_pure ?_)
 rw [if_neg (by decide)]
 refine wpAny_bind (wpAny_seqItems e1 e3 ?_)
 dsimp only
 refine wpAny_bind ?_
 rw [<- Array.forIn_toList]
 refine wpAny_forIn_list _ (λ rest r s'=>r.1=none /\ s'=s /\ ∀ v ∈ rest,carriedByValue v=true) _ ?_ ?_ _ _ ⟨rfl,rfl,by simp [carriedByValue]⟩
 ·rintro v rest r s' ⟨hr,rfl,hall⟩
  have hv:=hall v mem_cons_self
  have hq:ofAClassStatement 7 v=pure false:=by
   cases v with
   | ref a=>simp [carriedByValue] at hv
   | _=>first | rfl | simp [ofAClassStatement] | (unfold ofAClassStatement; rfl)
  rw [hq]
  refine wpAny_bind (wpAny_pure ?_)
  simp only [Bool.false_eq_true,if_false]
  exact wpAny_pure ⟨rfl,rfl,λ u hu'=>hall u (mem_cons_of_mem _ hu')⟩
 ·rintro ⟨r1,r2⟩ s' ⟨hr,rfl,_⟩
  simp only at hr
  subst hr
  exact wpAny_pure h
theorem wc3 {k:T3} {b:Addr} {stored:List Value} {Q:Bool->Shared->Prop} (i:TK prog w s.heap k b) (hs:∀ v ∈ stored,∃ t a,v=.ref a /\ TK prog w s.heap t a) (h:Q false s) :
    wpAny (model prog w) A (searchCouldBeSeen (.ref b) stored) Q E s:=by
 unfold searchCouldBeSeen
 refine wpAny_bind ?_
 refine wpAny_forIn_list _ (λ rest r s'=>r.1=none /\ s'=s /\ ∀ v ∈ rest,∃ t a,v=.ref a /\ TK prog w s.heap t a) _ ?_ ?_ _ _ ⟨rfl,rfl,hs⟩
 ·rintro v rest r s' ⟨hr,rfl,hall⟩
  obtain ⟨t,a,rfl,hv⟩:=hall v mem_cons_self
  have tl:=λ u hu'=>hall u (mem_cons_of_mem _ hu')
  dsimp only
  split
  ·exact wpAny_pure ⟨rfl,rfl,tl⟩
  ·refine wpAny_bind (wpAny_eqIsQuiet_tuple i ?_)
   simp only [Bool.not_true,Bool.false_eq_true,if_false]
   refine wpAny_bind (wpAny_eqIsQuiet_tuple hv ?_)
   simp only [Bool.not_true,Bool.false_eq_true,if_false]
   refine wpAny_bind (wx2 i ?_)
   simp only [Bool.false_eq_true,if_false]
   refine wpAny_bind (wx2 hv ?_)
   simp only [Bool.false_eq_true,if_false]
   exact wpAny_pure ⟨rfl,rfl,tl⟩
 ·rintro ⟨r1,r2⟩ s' ⟨hr,rfl,_⟩
  simp only at hr
  subst hr
  exact wpAny_pure h
theorem vr2 {t:T3} {a:Addr} {Q:Bool->Shared->Prop} (i:TK prog w s.heap t a) (h:Q true s):wpAny (model prog w) A (hashByValue 8 (.ref a)) Q E s:=by
 have ty:=i.typeIs
 obtain ⟨o,t1,t2,t3,n,e1,e2,e3⟩:=i.items
 unfold hashByValue
 refine wpAny_bind (wpAny_specialOf ty F.slot_tuple_hash.lookup ?_)
 show wpAny _ _ (seqItems? (.ref a) >>= _) _ _ s
 refine wpAny_bind (wpAny_seqItems e1 e3 ?_)
 refine wpAny_bind ?_
 show wpAny _ _ (forIn #[Value.int t.1 t1,.int t.2.1 t2,.int t.2.2 t3] _ _) _ _ s
 rw [<- Array.forIn_toList]
 refine wpAny_forIn_list _ (λ rest r s'=>r.1=none /\ s'=s /\ ∀ v ∈ rest,∃ i t,v=Value.int i t) _ ?_ ?_ _ _ ⟨rfl,rfl,by simp⟩
 ·rintro v rest r s' ⟨hr,rfl,hall⟩
  obtain ⟨j,tk,rfl⟩:=hall v mem_cons_self
  have hq:hashByValue 7 (.int j tk)=pure true:=by unfold hashByValue; rfl
  rw [hq]
  refine wpAny_bind (wpAny_pure ?_)
  simp only [Bool.not_true,Bool.false_eq_true,if_false]
  exact wpAny_pure ⟨rfl,rfl,λ u hu'=>hall u (mem_cons_of_mem _ hu')⟩
 ·rintro ⟨r1,r2⟩ s' ⟨hr,rfl,_⟩
  simp only at hr
  subst hr
  exact wpAny_pure h
end
def bT (prog:Program) (w:World):Bool:=(model prog w).w.params.followText "set-order"
abbrev ent (hf:T3->Int) (x:T3 × Addr):Int × Value:=(hf x.1,.ref x.2)
structure SetIs (prog:Program) (w:World) (hf:T3->Int) (h:Heap) (a:Addr) (o:Obj) (es:Array (Int × Value)) (ep:Nat) (t:SetTable) (xs:List (T3 × Addr)):Prop where
 ho:h.get? a=some o
 ex:o.ExactSet
 hd:o.data=.set es ep t
 el:es.toList=xs.map (ent hf)
 ks:∀ x ∈ xs,TK prog w h x.1 x.2
 nd:(xs.map (·.1)).Nodup
 ok:TOk t (xs.map λ x=>hf x.1)
 rm:t.fill<=t.mask
 pl:t.plain=true
 le:t.led = !bT prog w
section
variable {prog:Program} {w:World} {A:Around} {E:Value->Shared->Prop} {s:Shared} {a:Addr} {o:Obj} {es:Array (Int × Value)} {ep:Nat} {t:SetTable} {xs:List (T3 × Addr)} {hf:T3->Int}
theorem SetIs.at {h:Heap} (S:SetIs prog w hf h a o es ep t xs) (i:Nat):es[i]?=(xs[i]?).map (ent hf):=by rw [<- getElem?_toList,S.el,getElem?_map]
theorem SetIs.size {h:Heap} (S:SetIs prog w hf h a o es ep t xs):es.size=xs.length:=by rw [<- length_toList,S.el,length_map]
theorem SetIs.fits {h:Heap} (S:SetIs prog w hf h a o es ep t xs):t.fits es.size=true:=by
 have h1:=S.ok.sz
 have h2:=S.size
 have h3:=S.rm
 rw [length_map] at h1
 simp [SetTable.fits,h1,h2,h3]
theorem SetIs.odd {h:Heap} (S:SetIs prog w hf h a o es ep t xs):t.gaveWay=false:=by
 have:∀ m ∈ okM,(m % 2 == 0)=false:=by decide
 exact this _ S.ok.msk
theorem wc1 {f:Nat->Int} {h:Int} {n:Nat} {d:Option Nat} {hs:List Int} {r:Option SetTable.Met} (k:TOk t hs) (rm:t.fill<=t.mask) (kd:DumOk t h d n) (e:t.probe f h { trS t.mask h n with dummy:=d }=r) :
    (∃ m d',r=some (.empty (tr t.mask h m) d') /\ n<=m /\ t.slot (tr t.mask h m)=.empty /\ Sk t f h n m /\ DumOk t h d' m) ∨
    (∃ m i d',r=some (.candidate (tr t.mask h m) i { trS t.mask h (m + 1) with dummy:=d' }) /\ n<=m /\ t.slot (tr t.mask h m)=.live i /\ f i=h /\ Sk t f h n m /\ DumOk t h d' m):=by
 subst e
 exact k.probe rm f h n d kd
def Hist (hf:T3->Int) (t:SetTable) (xs:List (T3 × Addr)) (k:T3) (n:Nat):Prop:=∀ l,l < n->t.slot (tr t.mask (hf k) l) ≠ .empty /\ ∀ i,t.slot (tr t.mask (hf k) l)=.live i->∀ x,xs[i]?=some x->x.1 ≠ k
theorem ug1 {k:T3} {b:Addr} {adding:Bool} {Q:SetFound->Shared->Prop} (hu:A.units < cLine) (S:SetIs prog w hf s.heap a o es ep t xs) (hk:TK prog w s.heap k b)
    (found:∀ i b',xs[i]?=some (k,b')->Q (.there (if adding then none else some i)) s)
    (free:∀ sl wd,k ∉ xs.map (·.1)->sl ∉ t.place.toList->(∃ m,tr t.mask (hf k) m=sl /\ ∀ l,l < m->Occ t (tr t.mask (hf k) l))->(wd=true->t.slot sl=.dummy)->Q (.free sl wd) s)
    {fuel n:Nat} {d:Option Nat} {stand:Option SetTable.Probe} (kd:DumOk t (hf k) d n) (hist:Hist hf t xs k n) (st:stand.getD (t.probeStart (hf k))={ trS t.mask (hf k) n with dummy:=d })
    (ih:∀ (n':Nat) (d':Option Nat) (stand':Option SetTable.Probe),n < n'->DumOk t (hf k) d' n'->Hist hf t xs k n'->stand'.getD (t.probeStart (hf k))={ trS t.mask (hf k) n' with dummy:=d' } ->
     wpAny (model prog w) A (setSearchFrom a (.ref b) (hf k) adding fuel stand') Q E s) :
    wpAny (model prog w) A (setSearchFrom a (.ref b) (hf k) adding (fuel + 1) stand) Q E s:=by
 have hist':∀ {f:Nat->Int} {m:Nat},(∀ i,f i=((es[i]?).map (·.1)).getD 0)->Sk t f (hf k) n m->∀ l,l < m->t.slot (tr t.mask (hf k) l) ≠ .empty /\ ∀ i,t.slot (tr t.mask (hf k) l)=.live i->∀ x,xs[i]?=some x->x.1 ≠ k:=λ {f m} hf sk l hl=>by
  by_cases c:l < n
  ·exact hist l c
  ·obtain ⟨b1,b2⟩:=sk l (by omega) hl
   refine ⟨b1,λ i e x hx z=>b2 i e ?_⟩
   rw [hf,S.at,hx,Option.map_some,Option.map_some,Option.getD_some,<- z]
 unfold setSearchFrom
 refine wpAny_bind (wpAny_setState_of S.ho S.hd S.fits ?_)
 dsimp only
 rw [S.odd,st]
 simp only [Bool.false_eq_true,if_false]
 split
 ·next met heq =>
  rcases wc1 S.ok S.rm kd heq with ⟨m,d',e,a1,a2,a3,a4⟩ | ⟨m,i,d',e,a1,a2,a3,a4,a5⟩
  ·cases e
   have H:=hist' (λ _=>rfl) a3
   have nk:k ∉ xs.map (·.1):=λ z=>by
    obtain ⟨x,hx,ek⟩:=List.mem_map.mp z
    obtain ⟨i,hi⟩:=List.mem_iff_getElem?.mp hx
    have hlt:i < t.place.size:=by rw [S.ok.sz,length_map]; exact (List.getElem?_eq_some_iff.mp hi).1
    have hp:t.place[i]?=some t.place[i]:=Array.getElem?_eq_getElem hlt
    obtain ⟨m',q1,q2⟩:=S.ok.reach i _ (hf k) hp (by rw [getElem?_map,hi]; show some (hf x.1)=_; rw [ek])
    have hl:=(ub1 S.ok.ris).mpr hp
    rw [<- q1] at hl
    by_cases c:m' < m
    ·exact (H m' c).2 i hl x hi ek
    ·by_cases c2:m=m'
     ·subst c2; rw [a2] at hl; cases hl
     ·exact (S.ok.occ _).mp (q2 m (by omega)) a2
   have oc:∀ l,l < m->Occ t (tr t.mask (hf k) l):=λ l hl=>(S.ok.occ _).mpr (H l hl).1
   cases d' with
   | none=>exact wpAny_pure (free _ false nk ((xu0 S.ok.ris S.ok.rid).mp a2).1 ⟨m,rfl,oc⟩ (λ z=>by cases z))
   | some x =>
    obtain ⟨l,b1,b2,b3⟩:=a4 x rfl
    dsimp only
    rw [b3]
    simp only [bne_self_eq_false,Bool.and_false,Bool.false_eq_true,if_false]
    refine wpAny_pure (free x true nk (S.ok.dj x ((yu0 S.ok.ris S.ok.rid (S.ok.dj x)).mp b3)) ⟨l,b2,λ l' hl=>oc l' (by omega)⟩ (λ _=>b3))
  ·cases e
   have H:=hist' (λ _=>rfl) a4
   have hp:=(ub1 S.ok.ris).mp a2
   have hlt:i < xs.length:=by have:=(Array.getElem?_eq_some_iff.mp hp).1; rw [S.ok.sz,length_map] at this; exact this
   obtain ⟨x,hx⟩:∃ x,xs[i]?=some x:=⟨_,getElem?_eq_getElem hlt⟩
   have he:es[i]?=some (ent hf x):=by rw [S.at,hx]; rfl
   have hkx:=S.ks x (mem_of_getElem? hx)
   have sm:t.sameMemory t.moves t.mask=some true:=by unfold SetTable.sameMemory; simp
   have sto:∀ v ∈ List.map (λ x=>x.snd) (Array.filter (λ x=>x.fst == hf k) es).toList,∃ t a,v=.ref a /\ TK prog w s.heap t a:=λ v hv=>by
    obtain ⟨y,hy,rfl⟩:=List.mem_map.mp hv
    have hy':y ∈ es.toList:=by
     rw [Array.toList_filter] at hy
     exact (List.mem_filter.mp hy).1
    rw [S.el] at hy'
    obtain ⟨z,hz,rfl⟩:=List.mem_map.mp hy'
    exact ⟨z.1,z.2,rfl,S.ks z hz⟩
   dsimp only
   split
   ·refine wpAny_bind (wc3 hk sto ?_)
    simp only [Bool.false_eq_true,if_false]
    rw [he]
    dsimp only
    refine wpAny_bind (wpAny_holding (wpAny_eqBool_tuple hu hkx hk ?_))
    refine wpAny_bind (wpAny_setState_of S.ho S.hd S.fits ?_)
    dsimp only
    by_cases c:x.1=k
    ·rw [decide_eq_true (congrArg kI c)]
     have fd:=found i x.2 (by rw [hx,<- c])
     cases adding
     ·rw [sm]
      simp only [Bool.false_and,Bool.false_eq_true,if_false,if_true]
      rw [a2]
      dsimp only
      rw [he]
      dsimp only
      refine wpAny_bind (zp0 (wpAny_bind (wpAny_pure ?_)))
      exact wpAny_pure fd
     ·exact wpAny_pure fd
    ·rw [decide_eq_false (λ z=>c (vw2 z)),sm]
     simp only [Bool.and_false,Bool.false_eq_true,if_false,if_true]
     rw [a2]
     dsimp only
     rw [he]
     dsimp only
     refine wpAny_bind (zp0 (wpAny_bind (wpAny_pure ?_)))
     refine ih (m + 1) d' _ (by omega) (a5.up (Nat.le_succ _)) (λ l hl=>?_) rfl
     by_cases c2:l < m
     ·exact H l c2
     ·have:l=m:=by omega
      subst this
      refine ⟨(by rw [a2]; intro z; cases z),λ i' z y hy=>?_⟩
      rw [a2] at z
      cases z
      rw [hx] at hy
      cases hy
      exact c
   ·rw [he]
    dsimp only
    refine wpAny_bind (wpAny_holding (wpAny_eqBool_tuple hu hkx hk ?_))
    refine wpAny_bind (wpAny_setState_of S.ho S.hd S.fits ?_)
    dsimp only
    by_cases c:x.1=k
    ·rw [decide_eq_true (congrArg kI c)]
     have fd:=found i x.2 (by rw [hx,<- c])
     cases adding
     ·rw [sm]
      simp only [Bool.false_and,Bool.false_eq_true,if_false,if_true]
      rw [a2]
      dsimp only
      rw [he]
      dsimp only
      refine wpAny_bind (zp0 (wpAny_bind (wpAny_pure ?_)))
      exact wpAny_pure fd
     ·exact wpAny_pure fd
    ·rw [decide_eq_false (λ z=>c (vw2 z)),sm]
     simp only [Bool.and_false,Bool.false_eq_true,if_false,if_true]
     rw [a2]
     dsimp only
     rw [he]
     dsimp only
     refine wpAny_bind (zp0 (wpAny_bind (wpAny_pure ?_)))
     refine ih (m + 1) d' _ (by omega) (a5.up (Nat.le_succ _)) (λ l hl=>?_) rfl
     by_cases c2:l < m
     ·exact H l c2
     ·have:l=m:=by omega
      subst this
      refine ⟨(by rw [a2]; intro z; cases z),λ i' z y hy=>?_⟩
      rw [a2] at z
      cases z
      rw [hx] at hy
      cases hy
      exact c
 ·next hne =>
  rcases wc1 S.ok S.rm kd rfl with ⟨m,d',e,a1,a2,a3,a4⟩ | ⟨m,i,d',e,a1,a2,a3,a4,a5⟩
  ·exact (hne _ e).elim
  ·exact (hne _ e).elim
theorem yy1 {k:T3} {b:Addr} {adding:Bool} {Q:SetFound->Shared->Prop} (hu:A.units < cLine) (S:SetIs prog w hf s.heap a o es ep t xs) (hk:TK prog w s.heap k b)
    (found:∀ i b',xs[i]?=some (k,b')->Q (.there (if adding then none else some i)) s)
    (free:∀ sl wd,k ∉ xs.map (·.1)->sl ∉ t.place.toList->(∃ m,tr t.mask (hf k) m=sl /\ ∀ l,l < m->Occ t (tr t.mask (hf k) l))->(wd=true->t.slot sl=.dummy)->Q (.free sl wd) s)
    (N:Nat) (hN:t.slot (tr t.mask (hf k) N)=.empty) (r:Nat):∀ (fuel n:Nat) (d:Option Nat) (stand:Option SetTable.Probe),N < n + r->r<=fuel->DumOk t (hf k) d n->Hist hf t xs k n ->
    stand.getD (t.probeStart (hf k))={ trS t.mask (hf k) n with dummy:=d } ->
    wpAny (model prog w) A (setSearchFrom a (.ref b) (hf k) adding fuel stand) Q E s:=by
 induction r with
 | zero =>
  intro fuel n d stand h1 h2 kd hist st
  exact absurd hN (hist N (by omega)).1
 | succ r ih =>
  intro fuel n d stand h1 h2 kd hist st
  cases fuel with
  | zero=>omega
  | succ fuel=>exact ug1 hu S hk found free kd hist st λ n' d' stand' a1 a2 a3 a4=>ih fuel n' d' stand' (by omega) (by omega) a2 a3 a4
end
section
variable {prog:Program} {w:World} {A:Around} {E:Value->Shared->Prop} {s:Shared} {a:Addr} {o:Obj} {es:Array (Int × Value)} {ep:Nat} {t:SetTable} {xs:List (T3 × Addr)} {hf:T3->Int}
theorem ty0:∀ m ∈ okM,7<=m /\ m<=4095:=by decide
theorem xc1 {k:T3} {b:Addr} {adding:Bool} {Q:SetFound->Shared->Prop} (hu:A.units < cLine) (S:SetIs prog w hf s.heap a o es ep t xs) (hk:TK prog w s.heap k b)
    (found:∀ i b',xs[i]?=some (k,b')->Q (.there (if adding then none else some i)) s)
    (free:∀ sl wd,k ∉ xs.map (·.1)->sl ∉ t.place.toList->(∃ m,tr t.mask (hf k) m=sl /\ ∀ l,l < m->Occ t (tr t.mask (hf k) l))->(wd=true->t.slot sl=.dummy)->Q (.free sl wd) s) :
    wpAny (model prog w) A (setSearch a (.ref b) (hf k) adding) Q E s:=by
 obtain ⟨e,he,ee⟩:=S.ok.hole S.rm
 obtain ⟨N,_,h2,h3⟩:=uj1 S.ok.msk (hf k) 0 he
 have hm:=ty0 _ S.ok.msk
 unfold SetTable.turns at h2
 unfold setSearch
 refine yy1 hu S hk found free N (by rw [h3]; exact ee) (N + 1) _ 0 none none (by omega) (by omega) (λ x z=>by cases z) (λ l hl=>absurd hl (Nat.not_lt_zero _)) ?_
 rfl
theorem vc3 (b:Addr) (es:Array (Int × Value)):byScan (.ref b) es=false:=by simp [byScan,Value.scannable]
theorem SetIs.store {h:Heap} (S:SetIs prog w hf h a o es ep t xs) {xs':List (T3 × Addr)} {es':Array (Int × Value)} {t':SetTable} (el:es'.toList=xs'.map (ent hf)) (ks:∀ x ∈ xs',TK prog w h x.1 x.2) (nd:(xs'.map (·.1)).Nodup)
    (ok:TOk t' (xs'.map λ x=>hf x.1)) (rm:t'.fill<=t'.mask) (pl:t'.plain=true) (le:t'.led = !bT prog w) :
    SetIs prog w hf (h.update a (Obj.putSet es' t')) a { o with data:=.set es' (ep + 1) t' } es' (ep + 1) t' xs':=by
 have hg:(h.update a (Obj.putSet es' t')).get? a=some { o with data:=.set es' (ep + 1) t' }:=by
  have:=Heap.get?_update_self (Obj.putSet es' t') S.ho (by rw [putSet_of es' t' S.hd]; rfl)
  rw [putSet_of es' t' S.hd] at this; exact this
 refine ⟨hg,S.ex,rfl,el,λ x hx=>(ks x hx).kept λ o' e1 e2=>?_,nd,ok,rm,pl,le⟩
 rw [Heap.get?_update_ne _ _ _ _ (λ z=>?_)]
 ·exact e1
 ·rw [z,S.ho] at e1
  cases e1
  rw [S.ex.1] at e2
  injection e2 with e
  exact absurd e (by decide)
theorem zq4 {α β:Type} {m m':Sem α} {g:α->Sem β} {Q:β->Shared->Prop} (e:m=m') (h:wpAny (model prog w) A (m' >>= g) Q E s):wpAny (model prog w) A (m >>= g) Q E s:=by rw [e]; exact h
theorem wi3 {mk fi mo:Nat} {le pl:Bool} (m1:mk ∈ okM) (hl:xs.length<=mk + 1) (eel:es.toList=xs.map (ent hf)) :
    ∃ t' order,∃ xs':List (T3 × Addr),SetTable.laid mk fi mo le pl (es.map (·.1))=some (t',order) /\ (order.filterMap λ k=>es[k]?).toList=xs'.map (ent hf) /\ xs'.Perm xs /\ (order.filterMap λ k=>es[k]?).size=es.size /\ TOk t' (xs'.map λ x=>hf x.1) /\ t'.mask=mk /\ t'.dummies = #[] /\ t'.led=le /\ t'.plain=pl:=by
 have sz:es.size=xs.length:=by rw [<- length_toList,eel,length_map]
 have hat:∀ i:Nat,es[i]?=(xs[i]?).map (ent hf):=λ i=>by rw [<- getElem?_toList,eel,getElem?_map]
 obtain ⟨t',order,e1,e2,e3,e4,e5,e6,e7,e8,e9⟩:=vi3 m1 (es.map (·.1)) (by rw [size_map,sz]; omega) fi mo le pl
 rw [size_map,sz] at e8
 have olt:∀ k ∈ order.toList,k < xs.length:=λ k hk=>List.mem_range.mp (e8.mem_iff.mp hk)
 obtain ⟨d⟩:Nonempty (T3 × Addr):=⟨((0,0,0),0)⟩
 have fm:∀ (l:List Nat),(∀ k ∈ l,k < xs.length)->l.filterMap (λ k=>es[k]?)=(l.map λ k=>xs.getD k d).map (ent hf):=λ l=>by
  induction l with
  | nil=>intro _; rfl
  | cons k l ih =>
   intro hl
   have hk:=hl k (mem_cons_self ..)
   rw [List.filterMap_cons_some (b:=ent hf (xs.getD k d)),ih λ j hj=>hl j (mem_cons_of_mem _ hj),map_cons,map_cons]
   rw [hat,getD_eq_getElem?_getD,getElem?_eq_getElem hk]
   simp only [Option.map_some,Option.getD_some]
 have fm':(order.filterMap λ k=>es[k]?).toList=(order.toList.map λ k=>xs.getD k d).map (ent hf):=by rw [Array.toList_filterMap]; exact fm _ olt
 have pm:(order.toList.map λ k=>xs.getD k d).Perm xs:=by
  refine (e8.map _).trans (List.Perm.of_eq ?_)
  apply List.ext_getElem
  ·simp
  ·intro i h1 h2
   simp [getD_eq_getElem?_getD,getElem?_eq_getElem h2]
 have hz:(order.filterMap λ k=>es[k]?).size=es.size:=by rw [<- length_toList,fm',length_map,pm.length_eq,sz]
 have hok:TOk t' ((order.toList.map λ k=>xs.getD k d).map λ x=>hf x.1):=by
  have:(order.toList.map λ k=>(es.map (·.1)).getD k 0)=(order.toList.map λ k=>xs.getD k d).map λ x=>hf x.1:=by
   rw [map_map]
   refine List.map_congr_left λ k hk=>?_
   have hl:=olt k hk
   have hl2:k < es.size:=by omega
   have q:es[k]?=some (ent hf (xs.getD k d)):=by
    rw [hat,getD_eq_getElem?_getD,getElem?_eq_getElem hl]
    simp only [Option.map_some,Option.getD_some]
   rw [Array.getElem?_eq_getElem hl2] at q
   injection q with q
   simp only [Array.getD,size_map,hl2,dite_true,Array.getInternal_eq_getElem,Array.getElem_map,q,Function.comp]
  rw [<- this]
  exact e9
 exact ⟨t',order,_,e1,fm',pm,hz,hok,e2,e3,e4,e5⟩
theorem zz1 {Q:Unit->Shared->Prop} {wd:Nat} (S:SetIs prog w hf s.heap a o es ep t xs) (m1:SetTable.sizeAbove wd - 1 ∈ okM) (m2:xs.length * 5 < (SetTable.sizeAbove wd - 1) * 3) (m3:SetTable.sizeAbove wd<=2048)
    (h:∀ h' o' es' ep' t' xs',Heap.SameBut a s.heap h'->SetIs prog w hf h' a o' es' ep' t' xs'->xs'.Perm xs->t'.fill * 5 < t'.mask * 3->t'.mask=SetTable.sizeAbove wd - 1->t'.dummies = #[]->Q () { s with heap:=h' }) :
    wpAny (model prog w) A (setRelay a wd) Q E s:=by
 have sz:=S.size
 have mm:=ty0 _ m1
 have sl:SetTable.sizeAbove wd<=sizeLine:=by rw [sizeLine_eq]; omega
 obtain ⟨t',order,xs',e1,fm',pm,hz,hok,e2,e3,e4,e5⟩:=wi3 (fi:=t.finger) (mo:=t.movedTo (SetTable.sizeAbove wd - 1)) (le:=t.led) (pl:=t.plain) m1 (by omega) S.el
 have el:t.relaid (es.map (·.1)) wd=some (t',order):=e1
 have rm:t'.fill * 5 < t'.mask * 3:=by
  have h1:=hok.sz
  rw [length_map,pm.length_eq] at h1
  unfold SetTable.fill
  rw [h1,e3,e2]
  simpa using m2
 have hm:=ty0 _ hok.msk
 unfold setRelay
 refine wpAny_bind (wpAny_setState_of S.ho S.hd S.fits ?_)
 dsimp only
 rw [if_neg (by omega),el]
 refine zq4 (m':=if ((order.filterMap λ k=>es[k]?).size != es.size)=true then (unsupported "internal:set-table-lost-an-element" >>= λ (_:PUnit)=>pure ((order.filterMap λ k=>es[k]?),t')) else pure ((order.filterMap λ k=>es[k]?),t')) rfl ?_
 rw [hz]
 simp only [bne_self_eq_false,Bool.false_eq_true,if_false]
 refine wpAny_bind (wpAny_pure (wpAny_storeSet_of S.ho S.hd ?_ (by rw [hz,sz,sizeLine_eq]; omega)))
 exact h _ _ _ _ _ _ (Heap.SameBut.update _ a _) (S.store fm' (λ x hx=>S.ks x (pm.mem_iff.mp hx)) ((pm.map _).nodup_iff.mpr S.nd) hok (show t'.fill<=t'.mask by omega) (by rw [e5]; exact S.pl) (by rw [e4]; exact S.le)) pm rm e2 e3
theorem vl2 {Q:Unit->Shared->Prop} {n:Nat} (S:SetIs prog w hf s.heap a o es ep t xs) (hn:xs.length < 512) (en:n=xs.length)
    (h:∀ h' o' es' ep' t' xs',Heap.SameBut a s.heap h'->SetIs prog w hf h' a o' es' ep' t' xs'->xs'.Perm xs->t'.fill * 5 < t'.mask * 3->Q () { s with heap:=h' }) :
    wpAny (model prog w) A (setRelay a (n * 4)) Q E s:=by
 subst en
 obtain ⟨m1,m2,m3⟩:=sb1 _ hn
 exact zz1 S m1 m2 m3 λ h' o' es' ep' t' xs' q1 q2 q3 q4 _ _=>h h' o' es' ep' t' xs' q1 q2 q3 q4
def SetG (prog:Program) (w:World) (hf:T3->Int) (h:Heap) (a:Addr) (xs:List (T3 × Addr)):Prop:=∃ o es ep t,SetIs prog w hf h a o es ep t xs /\ t.fill * 5 < t.mask * 3
theorem tp4 {k:T3} {b:Addr} {Q:Bool->Shared->Prop} (hu:A.units < cLine) (S:SetG prog w hf s.heap a xs) (hk:TK prog w s.heap k b) (hn:xs.length + 1 < 512)
    (old:k ∈ xs.map (·.1)->Q false s)
    (new:k ∉ xs.map (·.1)->∀ h' xs',Heap.SameBut a s.heap h'->SetG prog w hf h' a xs'->xs'.Perm ((k,b) :: xs)->Q true { s with heap:=h' }):wpAny (model prog w) A (setAddHashed a (.ref b) (hf k)) Q E s:=by
 obtain ⟨o,es,ep,t,S,rm5⟩:=S
 have hm:=ty0 _ S.ok.msk
 have sz:=S.size
 unfold setAddHashed setAddHashedIn
 refine wpAny_holding (wpAny_bind (wpAny_setState_of S.ho S.hd S.fits ?_))
 dsimp only
 rw [vc3]
 simp only [Bool.false_eq_true,if_false]
 refine wpAny_bind (xc1 hu S hk (λ i b' e=>?_) λ sl wd nk ns rc wdd=>?_)
 ·exact wpAny_pure (old (List.mem_map.mpr ⟨_,mem_of_getElem? e,rfl⟩))
 ·dsimp only
  refine wpAny_bind (wpAny_setState_of S.ho S.hd S.fits ?_)
  dsimp only
  have ok':=S.ok.put ns rc
  have f1:=zm2 S.ok (x:=sl)
  have pl':(t.put sl).1.plain=true:=S.pl
  have mk':(t.put sl).1.mask=t.mask:=rfl
  rw [pl']
  simp only [if_true]
  refine wpAny_bind (vr2 hk ?_)
  simp only [if_true]
  have el':(SetTable.insertAt es (t.put sl).2 (hf k,Value.ref b)).toList=(insL xs (SetTable.below t.place sl) (k,b)).map (ent hf):=by
   rw [SetTable.toList_insertAt,um1,S.el]
   rfl
  have pm:(insL xs (SetTable.below t.place sl) (k,b)).Perm ((k,b) :: xs):=by
   unfold insL
   exact List.perm_middle.trans (List.Perm.cons _ (List.Perm.of_eq (take_append_drop _ _)))
  have sz':(SetTable.insertAt es (t.put sl).2 (hf k,Value.ref b)).size=xs.length + 1:=by rw [<- length_toList,el',length_map,xj0]
  have S':=S.store el' (λ x hx=>by
   rcases (tp0 _ _ _ _).mp hx with rfl | hx
   ·exact hk
   ·exact S.ks x hx) ((pm.map _).nodup_iff.mpr (List.nodup_cons.mpr ⟨nk,S.nd⟩)) (by rw [um1]; exact ok') (by rw [mk']; omega) pl' S.le
  refine wpAny_bind (wpAny_storeSet_of S.ho S.hd ?_ (by rw [sz',sizeLine_eq]; omega))
  have sb:=Heap.SameBut.update s.heap a (Obj.putSet (SetTable.insertAt es (t.put sl).2 (hf k,Value.ref b)) (t.put sl).1)
  split
  ·next c =>
   have gr:SetTable.grown (es.size + 1)=(xs.length + 1) * 4:=by unfold SetTable.grown; rw [if_neg (by omega),sz]
   rw [gr]
   refine wpAny_bind (vl2 S' (by rw [xj0]; omega) (by rw [xj0]) λ h' o' es' ep' t' xs' q1 q2 q3 q4=>wpAny_pure ?_)
   exact new nk h' xs' (sb.trans q1) ⟨_,_,_,_,q2,q4⟩ (q3.trans pm)
  ·next c =>
   refine wpAny_pure (new nk _ _ sb ⟨_,_,_,_,S',?_⟩ pm)
   cases wd with
   | true =>
    have f2:=tt1 S.ok (wdd rfl)
    rw [mk']
    omega
   | false =>
    simp only [Bool.not_false,Bool.true_and,SetTable.tooFull,decide_eq_true_eq] at c
    omega
end
def Got (P:Nat->Value->Prop) (ks:Nat->T3) (i:Nat) (xs:List (T3 × Addr)):Prop:=(∀ x ∈ xs,∃ j,j < i /\ P j (.ref x.2) /\ ks j=x.1) /\ ∀ j,j < i->ks j ∈ xs.map (·.1)
def KpH (h h':Heap):Prop:=∀ b o,h.get? b=some o->h'.get? b=some o
section
variable {prog:Program} {w:World} {A:Around} {E:Value->Shared->Prop} {R:Result->Shared->Prop} {s:Shared} {hf:T3->Int}
theorem SetG.nd {h:Heap} {a:Addr} {xs:List (T3 × Addr)} (S:SetG prog w hf h a xs):(xs.map (·.1)).Nodup:=by
 obtain ⟨o,es,ep,t,S,_⟩:=S
 exact S.nd
theorem SetG.keep {h h':Heap} {a:Addr} {xs:List (T3 × Addr)} (S:SetG prog w hf h a xs) (k1:∀ o,h.get? a=some o->h'.get? a=some o) (k2:∀ x ∈ xs,TK prog w h' x.1 x.2):SetG prog w hf h' a xs:=by
 obtain ⟨o,es,ep,t,S,q⟩:=S
 exact ⟨o,es,ep,t,⟨k1 o S.ho,S.ex,S.hd,S.el,k2,S.nd,S.ok,S.rm,S.pl,S.le⟩,q⟩
theorem Got.len {P:Nat->Value->Prop} {ks:Nat->T3} {i n:Nat} {xs:List (T3 × Addr)} (g:Got P ks i xs) (hi:i<=n) (nd:(xs.map (·.1)).Nodup) (B:∀ l:List T3,l.Nodup->(∀ x ∈ l,∃ j,j < n /\ ks j=x)->l.length < 511):xs.length < 511:=by
 have:=B _ nd λ x hx=>by
  obtain ⟨y,hy,rfl⟩:=List.mem_map.mp hx
  obtain ⟨j,h1,_,h2⟩:=g.1 y hy
  exact ⟨j,by omega,h2⟩
 rwa [length_map] at this
theorem wj1 {I S:Addr} {fp wr:List Addr} {n:Nat} {P:Nat->Value->Prop} {St:Nat->Heap->Prop} {h0:Heap} {ks:Nat->T3} (W:Walks prog w A.in1 I fp wr n P St) (hS:S ∉ fp) (ua:A.units + 1 < cLine)
    (low:∀ b ∈ S :: wr,h0.objs.size<=b) (hv:∀ i v,i < n->P i v->∃ b,v=.ref b /\ TK prog w h0 (ks i) b) (B:∀ l:List T3,l.Nodup->(∀ x ∈ l,∃ j,j < n /\ ks j=x)->l.length < 511) :
    ∀ (k i:Nat) (s:Shared) (xs:List (T3 × Addr)),n - i=k->i<=n->St i s.heap->KpH h0 s.heap->SetG prog w (hT prog w) s.heap S xs->Got P ks i xs ->
     (∀ h' tk xs',KpH h0 h'->SetG prog w (hT prog w) h' S xs'->Got P ks n xs'->R (.ok (.ret .none)) { s with heap:=h',toks:=tk }) ->
     codeAny (model prog w) A (.builtin "set.update.loop" ⟨[.ref S,.ref I],[]⟩) R s:=by
 have nw:S ∉ wr:=λ h=>hS (W.sub _ h)
 have nl:∀ {b:Addr} {o:Obj},h0.get? b=some o->b ∉ wr /\ b ≠ S:=λ {b o} e =>
  ⟨λ z=>absurd (Heap.lt_size e) (Nat.not_lt.mpr (low b (mem_cons_of_mem _ z))),λ z=>absurd (Heap.lt_size e) (Nat.not_lt.mpr (low b (by rw [z]; exact mem_cons_self ..)))⟩
 have tkk:∀ {i:Nat} {xs:List (T3 × Addr)} {h:Heap},i<=n->Got P ks i xs->KpH h0 h->∀ x ∈ xs,TK prog w h x.1 x.2:=λ {i xs h} hi g k x hx=>by
  obtain ⟨j,a1,a2,a3⟩:=g.1 x hx
  obtain ⟨b,e,t⟩:=hv j _ (by omega) a2
  cases e
  rw [<- a3]
  exact t.kept λ o e _=>k _ o e
 intro k
 induction k with
 | zero =>
  intro i s xs hk hi st kp sg g q
  have:i=n:=by omega
  subst this
  refine codeAny_builtin F.entry_set_update_loop ?_
  rw [Around.under_plainId F.plain_set_update_loop _]
  show wpAny _ A.in1 (pyNext (.ref I) >>= _) _ _ s
  refine wpAny_bind (W.done s _ _ st λ h1 tk km=>?_)
  show wpAny _ A.in1 (ret Value.none) _ _ _
  have kp1:KpH h0 h1:=λ b o e=>km b o (nl e).1 (kp b o e)
  exact wpAny_pure (q h1 tk xs kp1 (sg.keep (λ o e=>km S o nw e) (tkk hi g kp1)) g)
 | succ k ih =>
  intro i s xs hk hi st kp sg g q
  have lt:i < n:=by omega
  refine codeAny_builtin F.entry_set_update_loop ?_
  rw [Around.under_plainId F.plain_set_update_loop _]
  show wpAny _ A.in1 (pyNext (.ref I) >>= _) _ _ s
  refine wpAny_bind (W.item i s _ _ lt st λ v h1 tk hP st1 km=>?_)
  obtain ⟨b,rfl,tb0⟩:=hv i v lt hP
  have kp1:KpH h0 h1:=λ b o e=>km b o (nl e).1 (kp b o e)
  have tb:TK prog w h1 (ks i) b:=tb0.kept λ o e _=>kp1 b o e
  have sg1:SetG prog w (hT prog w) h1 S xs:=sg.keep (λ o e=>km S o nw e) (tkk hi g kp1)
  have ln:=g.len hi sg.nd B
  show wpAny _ A.in1 (holding [Value.ref b] (setAdd S (.ref b)) >>= _) _ _ _
  refine wpAny_bind (wpAny_holding ?_)
  unfold setAdd
  refine wpAny_holding ?_
  refine wpAny_bind (xj3 (s:={ s with heap:=h1,toks:=tk }) ua tb λ tk2=>?_)
  refine tp4 (hf:=hT prog w) (s:={ s with heap:=h1,toks:=tk2 }) ua sg1 tb (by omega) (λ old=>?_) (λ new h2 xs2 sb sg2 pm=>?_)
  ·refine wpAny_pure ⟨plainId_quiet F.plain_set_update_loop _,ih (i + 1) { s with heap:=h1,toks:=tk2 } xs (by omega) lt st1 kp1 sg1 ?_ λ h' tk' xs' a b c=>q h' tk' xs' a b c⟩
   refine ⟨λ x hx=>?_,λ j hj=>?_⟩
   ·obtain ⟨j,a1,a2⟩:=g.1 x hx
    exact ⟨j,by omega,a2⟩
   ·by_cases c:j < i
    ·exact g.2 j c
    ·have:j=i:=by omega
     rw [this]; exact old
  ·have kp2:KpH h0 h2:=λ b o e=>by rw [sb.2 b (nl e).2]; exact kp1 b o e
   refine wpAny_pure ⟨plainId_quiet F.plain_set_update_loop _,ih (i + 1) { s with heap:=h2,toks:=tk2 } xs2 (by omega) lt (W.frame _ h1 _ st1 λ b hb o e=>?_) kp2 sg2 ?_ λ h' tk' xs' a b c=>q h' tk' xs' a b c⟩
   ·rw [sb.2 b (λ z=>hS (by rw [<- z]; exact hb))]; exact e
   ·refine ⟨λ x hx=>?_,λ j hj=>?_⟩
    ·rcases List.mem_cons.mp (pm.mem_iff.mp hx) with rfl | hx
     ·exact ⟨i,by omega,hP,rfl⟩
     ·obtain ⟨j,a1,a2⟩:=g.1 x hx
      exact ⟨j,by omega,a2⟩
    ·refine (pm.map (·.1)).mem_iff.mpr ?_
     by_cases c:j < i
     ·exact mem_cons_of_mem _ (g.2 j c)
     ·have:j=i:=by omega
      rw [this]; exact mem_cons_self ..
def nset (b:Bool):Obj:={ cls:=.type "set",dict:=none,data:=.set #[] 0 (.fresh 0 0 b) }
theorem xy1 (v:Value) {Q1:Value->Shared->Prop} (h:Q1 (.ref s.heap.objs.size) { s with heap:=s.heap.push (nset (!bT prog w)) }):codeAny (model prog w) A (.call (.builtin "set.__new__") ⟨[.type "set",v],[]⟩) (wants Q1 E) s:=by
 refine codeAny_of_tree ?_
 show wpAny _ A.in1 (do checkBuiltinCall "set.__new__" ⟨[.type "set",v],[]⟩; again (.builtin "set.__new__" ⟨[.type "set",v],[]⟩)) _ _ s
 refine wpAny_bind (wpAny_of_eq (F.newCall_set_1 v) (wpAny_pure ⟨plainId_quiet F.plain_set_new _,codeAny_builtin F.entry_set_new ?_⟩))
 rw [Around.under_plainId F.plain_set_new _]; unfold Builtin.«set.__new__» Builtin.Frozenset.newClass
 have ss:=sub_set_self
 obtain ⟨hp,g,d,tk,os⟩:=s
 dsimp only; wp_walk
 refine wpAny_askSetting (wpAny_pure ?_); dsimp only; simp only [newObj]
 refine wpAny_bind (wpAny_alloc (wpAny_pure ?_)); exact wpAny_pure h
theorem set0 {h:Heap} {a:Addr} (e:h.get? a=some (nset (!bT prog w))):SetG prog w hf h a []:=by
 refine ⟨_,#[],0,.fresh 0 0 (!bT prog w),⟨e,?_,rfl,rfl,(λ x hx=>nomatch hx),List.nodup_nil,?_,(show 0<=7 by decide),rfl,rfl⟩,(show 0 * 5 < 7 * 3 by decide)⟩
 ·exact ⟨rfl,rfl,rfl⟩
 ·refine ⟨by simp [Rise,SetTable.fresh],by simp [Rise,SetTable.fresh],(λ j h=>by simp [SetTable.fresh] at h),(λ j h=>by simp [SetTable.fresh] at h),(λ j h=>by simp [SetTable.fresh] at h),(show 7 ∈ okM by decide),rfl,(λ i j h z=>by simp [SetTable.fresh] at z)⟩
theorem zt0:isSubtype (.type "tuple") (.type "set")=pure false:=by rw [isSubtype_type]; kernel_rfl
theorem yo0:isSubtype (.type "tuple") (.type "frozenset")=pure false:=by rw [isSubtype_type]; kernel_rfl
theorem wx0 {l:Addr} {items:Array Value} {ks:Nat->T3} {Q:Value->Shared->Prop} (hh:A.handled=none) (hu:A.units + 16 < cLine) (hl:s.heap.IsList l items)
    (hi:∀ i v,i < items.size->items[i]?=some v->∃ b,v=.ref b /\ TK prog w s.heap (ks i) b) (B:∀ l:List T3,l.Nodup->(∀ x ∈ l,∃ j,j < items.size /\ ks j=x)->l.length < 511)
    (h:∀ (h':Heap) (tk:Nat) xs,KpH s.heap h'->SetG prog w (hT prog w) h' s.heap.objs.size xs->Got (λ i v=>items[i]?=some v) ks items.size xs->Q (.ref s.heap.objs.size) { s with heap:=h',toks:=tk }) :
    wpAny (model prog w) A (call (.type "set") [.ref l]) Q E s:=by
 obtain ⟨c,tl,emro⟩:=F.called_set.mro
 have e0:=F.called_set.made
 have e1:=F.called_set.sub
 refine wpAny_call (codeAny_of_tree ?_); show wpAny _ _ (callAny (.type "set") _) _ _ _
 refine wpAny_pure ⟨Code.quiet_builtin _ (by decide +kernel),codeAny_builtin F.entry_type_call ?_⟩; rw [Around.under_plain (weight_type_call_type "set" [.ref l] []) rfl]
 have e2:=F.called_set.notType
 have e3:=F.called_set.canCreate
 have e4:=F.typeCall_set_1 (.ref l)
 repeat (any_goals (first | assumption | wp_step))
 refine codeAny_mono (xy1 (.ref l) (E:=E) (Q1:=λ obj s1=>obj=.ref s.heap.objs.size /\ s1={ s with heap:=s.heap.push (nset (!bT prog w)) }) ⟨rfl,rfl⟩) λ r s1 hr=>?_
 cases r with
 | error e=>exact hr
 | ok fl =>
  cases fl with
  | ret obj =>
   obtain ⟨rfl,rfl⟩:=hr
   have gS:(s.heap.push (nset (!bT prog w))).get? s.heap.objs.size=some (nset (!bT prog w)):=Heap.get?_push_size _ rfl
   have tS:Shared.TypeIs { s with heap:=s.heap.push (nset (!bT prog w)) } (.ref s.heap.objs.size) "set" := ⟨_,gS,rfl⟩
   have e5:=F.called_set.init.lookup
   have e6:=F.called_set.init.bind (.ref s.heap.objs.size)
   repeat (any_goals (first | assumption | wp_step))
   refine codeAny_mono (codeAny_call_builtin (R:=wants (λ r s2=>r=.none /\ ∃ h' tk xs,s2={ s with heap:=h',toks:=tk } /\ KpH s.heap h' /\ SetG prog w (hT prog w) h' s.heap.objs.size xs /\ Got (λ i v=>items[i]?=some v) ks items.size xs) E) F.called_set.init.plain F.entry_set_init (check_set_init_1 tS ?_)) λ r2 s2 hr2=>?_
   ·obtain ⟨ol,gl,cl,nl,dl⟩:=hl
    obtain ⟨ocls,odict,odata,oslots⟩:=ol
    simp only at cl dl
    subst cl; subst dl
    have gl':(s.heap.push (nset (!bT prog w))).get? l=some { cls:=.type "list",dict:=odict,data:=.seq items nl,slots:=oslots }:=Heap.get?_push_of_some _ gl
    have f1:=F.sub_list_set
    have f2:=F.sub_list_frozenset
    have f3:(Value.type "list" == Value.type "dict")=false:=by decide
    have il:(s.heap.push (nset (!bT prog w))).IsList l items:=⟨_,gl',rfl,nl,rfl⟩
    unfold Builtin.«set.__init__» noKeywords Builtin.Frozenset.updateFrom
    generalize hPI:pyIter=PI
    wp_walk
    subst hPI; refine wpAny_pyIter_list il ?_; refine wpAny_bind (wpAny_runValue ?_)
    have ls:l < s.heap.objs.size:=Heap.lt_size gl
    have z1:(s.heap.push (nset (!bT prog w))).objs.size=s.heap.objs.size + 1:=Heap.size_push ..
    have ni:l ≠ (s.heap.push (nset (!bT prog w))).objs.size:=by rw [z1]; exact Nat.ne_of_lt (Nat.lt_succ_of_lt ls)
    refine wj1 (A:=A.in1.in1) (h0:=s.heap) (ks:=ks) (Walks.list (show A.in1.in1.in1.handled=none by simp [hh]) _ l ni items) (S:=s.heap.objs.size) ?_ (show A.units + 1 + 1 + 1 < cLine by omega) ?_ (λ i v lt e=>hi i v lt e) B (items.size - 0) 0 _ [] (by omega) (Nat.zero_le _) ?_ ?_ ?_ ?_ ?_
    ·rw [z1]
     intro z
     rcases List.mem_cons.mp z with z | z
     ·exact Nat.ne_of_lt (Nat.lt_succ_self _) z
     ·rcases List.mem_cons.mp z with z | z
      ·exact Nat.ne_of_gt ls z
      ·cases z
    ·intro b hb
     rcases List.mem_cons.mp hb with rfl | hb
     ·exact Nat.le_refl _
     ·rcases List.mem_cons.mp hb with rfl | hb
      ·rw [z1]; exact Nat.le_succ _
      ·cases hb
    ·exact ⟨⟨_,Heap.get?_push_size _ rfl,rfl,rfl⟩,il.push _⟩
    ·exact λ b o e=>Heap.get?_push_of_some _ (Heap.get?_push_of_some _ e)
    ·exact set0 (Heap.get?_push_of_some _ gS)
    ·exact ⟨(λ x hx=>nomatch hx),λ j hj=>absurd hj (Nat.not_lt_zero _)⟩
    ·intro h' tk xs kp sg g
     show wpAny _ _ _ _ _ _
     refine wpAny_pure ?_
     show wpAny _ _ (ret Value.none) _ _ _
     exact wpAny_pure ⟨rfl,h',tk,xs,rfl,kp,sg,g⟩
   ·cases r2 with
    | error e=>exact hr2
    | ok fl2 =>
     cases fl2 with
     | ret r =>
      obtain ⟨rfl,h',tk,xs,rfl,kp,sg,g⟩:=hr2
      repeat (any_goals (first | assumption | wp_step))
      exact h _ _ _ kp sg g
     | _=>exact hr2.elim
  | _=>exact hr.elim
theorem sx1 {l:Addr} {items:Array Value} {ks:Nat->T3} {Q:Value->Shared->Prop} (hh:A.handled=none) (hu:A.units + 16 < cLine) (hl:s.heap.IsTuple l items)
    (hi:∀ i v,i < items.size->items[i]?=some v->∃ b,v=.ref b /\ TK prog w s.heap (ks i) b) (B:∀ l:List T3,l.Nodup->(∀ x ∈ l,∃ j,j < items.size /\ ks j=x)->l.length < 511)
    (h:∀ (h':Heap) (tk:Nat) xs,KpH s.heap h'->SetG prog w (hT prog w) h' s.heap.objs.size xs->Got (λ i v=>items[i]?=some v) ks items.size xs->Q (.ref s.heap.objs.size) { s with heap:=h',toks:=tk }) :
    wpAny (model prog w) A (call (.type "set") [.ref l]) Q E s:=by
 obtain ⟨c,tl,emro⟩:=F.called_set.mro
 have e0:=F.called_set.made
 have e1:=F.called_set.sub
 refine wpAny_call (codeAny_of_tree ?_); show wpAny _ _ (callAny (.type "set") _) _ _ _
 refine wpAny_pure ⟨Code.quiet_builtin _ (by decide +kernel),codeAny_builtin F.entry_type_call ?_⟩; rw [Around.under_plain (weight_type_call_type "set" [.ref l] []) rfl]
 have e2:=F.called_set.notType
 have e3:=F.called_set.canCreate
 have e4:=F.typeCall_set_1 (.ref l)
 repeat (any_goals (first | assumption | wp_step))
 refine codeAny_mono (xy1 (.ref l) (E:=E) (Q1:=λ obj s1=>obj=.ref s.heap.objs.size /\ s1={ s with heap:=s.heap.push (nset (!bT prog w)) }) ⟨rfl,rfl⟩) λ r s1 hr=>?_
 cases r with
 | error e=>exact hr
 | ok fl =>
  cases fl with
  | ret obj =>
   obtain ⟨rfl,rfl⟩:=hr
   have gS:(s.heap.push (nset (!bT prog w))).get? s.heap.objs.size=some (nset (!bT prog w)):=Heap.get?_push_size _ rfl
   have tS:Shared.TypeIs { s with heap:=s.heap.push (nset (!bT prog w)) } (.ref s.heap.objs.size) "set" := ⟨_,gS,rfl⟩
   have e5:=F.called_set.init.lookup
   have e6:=F.called_set.init.bind (.ref s.heap.objs.size)
   repeat (any_goals (first | assumption | wp_step))
   refine codeAny_mono (codeAny_call_builtin (R:=wants (λ r s2=>r=.none /\ ∃ h' tk xs,s2={ s with heap:=h',toks:=tk } /\ KpH s.heap h' /\ SetG prog w (hT prog w) h' s.heap.objs.size xs /\ Got (λ i v=>items[i]?=some v) ks items.size xs) E) F.called_set.init.plain F.entry_set_init (check_set_init_1 tS ?_)) λ r2 s2 hr2=>?_
   ·obtain ⟨ol,gl,cl,nl,dl⟩:=hl
    obtain ⟨ocls,odict,odata,oslots⟩:=ol
    simp only at cl dl
    subst cl; subst dl
    have gl':(s.heap.push (nset (!bT prog w))).get? l=some { cls:=.type "tuple",dict:=odict,data:=.seq items nl,slots:=oslots }:=Heap.get?_push_of_some _ gl
    have f1:=zt0
    have f2:=yo0
    have f3:(Value.type "tuple" == Value.type "dict")=false:=by decide
    have il:(s.heap.push (nset (!bT prog w))).IsTuple l items:=⟨_,gl',rfl,nl,rfl⟩
    unfold Builtin.«set.__init__» noKeywords Builtin.Frozenset.updateFrom
    generalize hPI:pyIter=PI
    wp_walk
    subst hPI; refine wpAny_pyIter_tuple il ?_; refine wpAny_bind (wpAny_runValue ?_)
    have ls:l < s.heap.objs.size:=Heap.lt_size gl
    have z1:(s.heap.push (nset (!bT prog w))).objs.size=s.heap.objs.size + 1:=Heap.size_push ..
    have ni:l ≠ (s.heap.push (nset (!bT prog w))).objs.size:=by rw [z1]; exact Nat.ne_of_lt (Nat.lt_succ_of_lt ls)
    refine wj1 (A:=A.in1.in1) (h0:=s.heap) (ks:=ks) (Walks.tuple (show A.in1.in1.in1.handled=none by simp [hh]) _ l ni items) (S:=s.heap.objs.size) ?_ (show A.units + 1 + 1 + 1 < cLine by omega) ?_ (λ i v lt e=>hi i v lt e) B (items.size - 0) 0 _ [] (by omega) (Nat.zero_le _) ?_ ?_ ?_ ?_ ?_
    ·rw [z1]
     intro z
     rcases List.mem_cons.mp z with z | z
     ·exact Nat.ne_of_lt (Nat.lt_succ_self _) z
     ·rcases List.mem_cons.mp z with z | z
      ·exact Nat.ne_of_gt ls z
      ·cases z
    ·intro b hb
     rcases List.mem_cons.mp hb with rfl | hb
     ·exact Nat.le_refl _
     ·rcases List.mem_cons.mp hb with rfl | hb
      ·rw [z1]; exact Nat.le_succ _
      ·cases hb
    ·exact ⟨⟨_,Heap.get?_push_size _ rfl,rfl,rfl⟩,il.push _⟩
    ·exact λ b o e=>Heap.get?_push_of_some _ (Heap.get?_push_of_some _ e)
    ·exact set0 (Heap.get?_push_of_some _ gS)
    ·exact ⟨(λ x hx=>nomatch hx),λ j hj=>absurd hj (Nat.not_lt_zero _)⟩
    ·intro h' tk xs kp sg g
     show wpAny _ _ _ _ _ _
     refine wpAny_pure ?_
     show wpAny _ _ (ret Value.none) _ _ _
     exact wpAny_pure ⟨rfl,h',tk,xs,rfl,kp,sg,g⟩
   ·cases r2 with
    | error e=>exact hr2
    | ok fl2 =>
     cases fl2 with
     | ret r =>
      obtain ⟨rfl,h',tk,xs,rfl,kp,sg,g⟩:=hr2
      repeat (any_goals (first | assumption | wp_step))
      exact h _ _ _ kp sg g
     | _=>exact hr2.elim
  | _=>exact hr.elim
end
theorem yn2 {α β:Type} {f:α->β} {l m:List β} (p:l.Perm m):∀ xs:List α,m=xs.map f->∃ ys:List α,ys.Perm xs /\ l=ys.map f:=by
 induction p with
 | nil=>intro xs e; cases xs with
  | nil=>exact ⟨[],.nil,rfl⟩
  | cons _ _=>cases e
 | cons a _ ih =>
  intro xs e
  cases xs with
  | nil=>cases e
  | cons x xs =>
   rw [map_cons] at e
   injection e with e1 e2
   obtain ⟨ys,p,q⟩:=ih xs e2
   exact ⟨x :: ys,p.cons x,by rw [map_cons,e1,q]⟩
 | swap a b l =>
  intro xs e
  match xs,e with
  | x :: y :: xs,e =>
   simp only [map_cons,List.cons.injEq] at e
   obtain ⟨e1,e2,e3⟩:=e
   exact ⟨y :: x :: xs,.swap x y xs,by rw [map_cons,map_cons,e1,e2,e3]⟩
 | trans _ _ i1 i2 =>
  intro xs e
  obtain ⟨ys,p,q⟩:=i2 xs e
  obtain ⟨zs,p',q'⟩:=i1 ys q
  exact ⟨zs,p'.trans p,q'⟩
theorem zn1 {α:Type}:∀ {l:List α} {i:Nat} (h:i < l.length),(l[i] :: l.eraseIdx i).Perm l
 | x :: l,0,_=>List.Perm.refl _
 | x :: l,i + 1,h=>(List.Perm.swap _ _ _).trans ((zn1 (l:=l) (i:=i) (by simpa using h)).cons x)
theorem wa2 {α:Type} (next:Nat->Nat):∀ (fuel k:Nat) (left:List α) (out:Array α),left.length<=fuel->(pickOrder.go next fuel k left out).toList.Perm (out.toList ++ left)
 | 0,k,left,out,h=>by
  have:left=[]:=List.length_eq_zero_iff.mp (by omega)
  subst this
  unfold pickOrder.go
  rw [append_nil]
 | fuel + 1,k,left,out,h=>by
  unfold pickOrder.go
  by_cases c:left=[]
  ·subst c
   simp
  ·have lt:next k % left.length < left.length:=Nat.mod_lt _ (List.length_pos_iff.mpr c)
   rw [getElem?_eq_getElem lt]
   dsimp only
   refine (wa2 next fuel (k + 1) _ _ (by rw [List.length_eraseIdx_of_lt lt]; omega)).trans ?_
   rw [toList_push,append_assoc]
   refine List.Perm.append_left _ ?_
   exact zn1 lt
theorem za2 {α:Type} (next:Nat->Nat) (xs:Array α):(pickOrder next xs).toList.Perm xs.toList:=by
 have:=wa2 next xs.size 0 xs.toList #[] (by simp)
 simpa [pickOrder] using this
theorem vp4 {xs:Array Nat} (h:Rise xs):SetTable.below xs 0=0:=by
 by_cases c:SetTable.below xs 0=0
 ·exact c
 ·have hl:=yn0 h 0
  have hz:0 < xs.size:=by omega
  have q:xs[0]?=some xs[0]:=Array.getElem?_eq_getElem hz
  have:=(uk0 h 0 q).mp (by omega)
  omega
theorem wp4 {xs:Array Nat} (h:Rise xs) {i j:Nat} (q:xs[i]?=some j):SetTable.below xs (j + 1)=i + 1:=by
 have h1:=(uk0 h (j + 1) q).mpr (by omega)
 have hl:=yn0 h (j + 1)
 by_cases c:i + 1 < SetTable.below xs (j + 1)
 ·have hz:i + 1 < xs.size:=by omega
  have q2:xs[i + 1]?=some xs[i + 1]:=Array.getElem?_eq_getElem hz
  have a:=(uk0 h (j + 1) q2).mp c
  have b:=un0 h q q2 (by omega)
  omega
 ·omega
theorem wb2:Manifest.owners.lookup (String.ofList "set_iterator".toList.reverse.reverse)=some Manifest.sig_set_iterator:=by kernel_rfl
theorem slot_sit:Slot "set_iterator" "__next__" "set_iterator.__next__" := by
 refine .of (owner := "set_iterator") (n := "__next__") ?_ ?_ ?_ ?_ ?_ ?_
 ·rw [typeLookup_type,builtinLookup_eq_fast]; kernel_rfl
 ·decide +kernel
 ·decide +kernel
 ·decide +kernel
 ·first | exact .inl (by decide +kernel) | exact .inr (by decide +kernel)
 ·rw [isSubtype_type]; kernel_rfl
theorem zk1:Slot "set_iterator" "__iter__" "set_iterator.__iter__" := by
 refine .of (owner := "set_iterator") (n := "__iter__") ?_ ?_ ?_ ?_ ?_ ?_
 ·rw [typeLookup_type,builtinLookup_eq_fast]; kernel_rfl
 ·decide +kernel
 ·decide +kernel
 ·decide +kernel
 ·first | exact .inl (by decide +kernel) | exact .inr (by decide +kernel)
 ·rw [isSubtype_type]; kernel_rfl
theorem ze1:entryFor table "set_iterator.__next__" = some Builtin.«set_iterator.__next__» := by exact entryFor_of_tree (by kernel_rfl)
theorem te2:entryFor table "set_iterator.__iter__" = some Builtin.«dict_keyiterator.__iter__» := by refine entryFor_alias (id' := "dict_keyiterator.__iter__") (by kernel_rfl) ?_ (by decide +kernel) (by kernel_rfl); first | rfl | decide +kernel | (unfold String.splitOn; simp +decide [String.splitOnAux])
theorem wo1 (a:Value):argsOk "set_iterator.__next__" ⟨[a],[]⟩:=by
 unfold argsOk
 rw [signature?_of (id := "set_iterator.__next__") (n := "__next__".toList.reverse) (o := "set_iterator".toList.reverse) (by kernel_rfl) wb2]
 kernel_rfl
theorem sr2 (a:Value):argsOk "set_iterator.__iter__" ⟨[a],[]⟩:=by
 unfold argsOk
 rw [signature?_of (id := "set_iterator.__iter__") (n := "__iter__".toList.reverse) (o := "set_iterator".toList.reverse) (by kernel_rfl) wb2]
 kernel_rfl
theorem xv1:entryFor table "set.__iter__" = some Builtin.«frozenset.__iter__» := by exact entryFor_alias (id' := "frozenset.__iter__") (by kernel_rfl) rfl (by decide +kernel) (by kernel_rfl)
def SIt (h:Heap) (it a:Addr) (sl i n ep:Nat):Prop:=∃ o,h.get? it=some o /\ o.cls=.type "set_iterator" /\ o.data=.fields #[rawInt sl,rawInt i,.ref a,rawInt n,rawInt ep]
theorem SIt.keep {h h':Heap} {it a:Addr} {sl i n ep:Nat} (x:SIt h it a sl i n ep) (k:∀ o,h.get? it=some o->h'.get? it=some o):SIt h' it a sl i n ep:=by
 obtain ⟨o,e1,e2⟩:=x
 exact ⟨o,k o e1,e2⟩
theorem SIt.ty {s:Shared} {it a:Addr} {sl i n ep:Nat} (x:SIt s.heap it a sl i n ep):s.TypeIs (.ref it) "set_iterator" := by
 obtain ⟨o,e1,e2,_⟩:=x
 exact ⟨o,e1,e2⟩
theorem ve2 {h:Heap} {it:Addr} {o:Obj} {vs:Array Value} {c:Value} (e1:h.get? it=some o) (e2:o.cls=c) (e3:o.data=.fields vs) (j:Nat) (x:Value) :
    ∃ o',(h.update it (Obj.mapFields (·.setIfInBounds j x))).get? it=some o' /\ o'.cls=c /\ o'.data=.fields (vs.setIfInBounds j x) :=
 ⟨_,Heap.get?_update_self _ e1 (Obj.isFreed_of_fields (Obj.data_mapFields e3 _)),(Obj.cls_mapFields ..).trans e2,Obj.data_mapFields e3 _⟩
structure SObj (prog:Program) (w:World) (h:Heap) (a:Addr) (o:Obj) (es:Array (Int × Value)) (ep:Nat) (t:SetTable):Prop where
 ho:h.get? a=some o
 ex:o.ExactSet
 hd:o.data=.set es ep t
 fits:t.fits es.size=true
 ris:Rise t.place
 sz:t.place.size=es.size
 pl:t.plain=true
 le:t.led = !bT prog w
theorem SObj.keep {prog:Program} {w:World} {h h':Heap} {a:Addr} {o:Obj} {es:Array (Int × Value)} {ep:Nat} {t:SetTable} (S:SObj prog w h a o es ep t) (k:∀ o,h.get? a=some o->h'.get? a=some o):SObj prog w h' a o es ep t :=
 ⟨k o S.ho,S.ex,S.hd,S.fits,S.ris,S.sz,S.pl,S.le⟩
theorem SetIs.obj {prog:Program} {w:World} {hf:T3->Int} {h:Heap} {a:Addr} {o:Obj} {es:Array (Int × Value)} {ep:Nat} {t:SetTable} {xs:List (T3 × Addr)} (S:SetIs prog w hf h a o es ep t xs):SObj prog w h a o es ep t :=
 ⟨S.ho,S.ex,S.hd,S.fits,S.ok.ris,by have h1:=S.ok.sz; have h2:=S.size; rw [length_map] at h1; omega,S.pl,S.le⟩
section
variable {prog:Program} {w:World} {A:Around} {E:Value->Shared->Prop} {s:Shared} {a it:Addr} {o:Obj} {es:Array (Int × Value)} {ep:Nat} {t:SetTable}
theorem uk2 {Q:Value->Shared->Prop} (S:SObj prog w s.heap a o es ep t)
    (q:Q (.ref s.heap.objs.size) { s with heap:=s.heap.push { cls:=.type "set_iterator",data:=.fields #[rawInt (0:Nat),rawInt (0:Nat),.ref a,rawInt es.size,rawInt ep] } }):wpAny (model prog w) A (pyIter (.ref a)) Q E s:=by
 have ty:s.TypeIs (.ref a) "set" := ⟨o,S.ho,S.ex.1⟩
 refine wpAny_pyIter_slot ty F.slot_set_iter (wpAny_call_entry F.slot_set_iter ty xv1 ?_ (F.args_set_iter_1 _))
 unfold Builtin.«frozenset.__iter__» Builtin.Frozenset.slot0 slotArgs
 simp only [List.isEmpty_nil,Bool.not_true,Bool.false_eq_true,↓reduceIte,bind_assoc,length_nil,bne_self_eq_false]
 unfold Builtin.Frozenset.addrOf Builtin.Frozenset.sizeOf
 refine wpAny_bind (wpAny_pure ?_)
 try dsimp only
 refine wpAny_bind (wpAny_pure ?_)
 refine wpAny_bind (wpAny_bind (wpAny_setEntries_of S.ho S.hd S.fits (wpAny_pure ?_)))
 have dr:wpAny (model prog w) A.in1 (setDrawn a) (λ b s'=>b=false /\ s'=s) E s:=by
  unfold setDrawn setsByText
  refine wpAny_bind (wpAny_setState_of S.ho S.hd S.fits ?_)
  dsimp only
  refine wpAny_bind (wpAny_bind (wpAny_askSetting (wpAny_pure (wpAny_pure ⟨?_,rfl⟩))))
  show (!_ && (!t.plain && _))=false
  rw [S.pl]
  simp
 refine wpAny_bind (wpAny_mono dr (λ b s' h=>?_) λ _ _ h=>h)
 obtain ⟨rfl,rfl⟩:=h
 simp only [Bool.false_eq_true,if_false]
 refine wpAny_bind (wpAny_pure ?_)
 refine wpAny_bind (wpAny_setEpoch_of S.ho S.hd S.fits ?_)
 refine wpAny_bind (wpAny_newObj_type (wpAny_pure ⟨_,rfl, "set_iterator",_,⟨_,Heap.get?_push_size _ rfl,rfl⟩,slot_sit.lookup,q⟩))
def ordS (prog:Program) (w:World) (a:Addr) (ep:Nat) (es:Array (Int × Value)):Array (Int × Value):=if bT prog w=true then pickOrder ((model prog w).w.params.setOrder a ep) es else es
theorem ul1:(ordS prog w a ep es).toList.Perm es.toList:=by
 unfold ordS
 split
 ·exact za2 _ _
 ·exact List.Perm.refl _
theorem zy0:(ordS prog w a ep es).size=es.size:=by
 have:=(ul1 (prog:=prog) (w:=w) (a:=a) (ep:=ep) (es:=es)).length_eq
 simpa using this
theorem wu0 {Q:Option (Value × Nat)->Shared->Prop} (S:SObj prog w s.heap a o es ep t) {sl i:Nat} (hb:bT prog w=false->SetTable.below t.place sl=i)
    (some':∀ e nx,(ordS prog w a ep es)[i]?=some e->(bT prog w=false->SetTable.below t.place nx=i + 1)->Q (some (e.2,nx)) s) (none':(ordS prog w a ep es)[i]?=none->Q none s) :
    wpAny (model prog w) A (setNext a sl i ep) Q E s:=by
 unfold setNext setsByText
 refine wpAny_bind (wpAny_setState_of S.ho S.hd S.fits ?_)
 dsimp only
 refine wpAny_bind (wpAny_bind (wpAny_askSetting (wpAny_pure ?_)))
 unfold ordS at some' none'
 by_cases c:bT prog w=true
 ·rw [if_pos (show (model prog w).w.params.followText "set-order" = true from c)]
  rw [if_pos c] at some' none'
  rw [if_neg (by simp)]
  refine wpAny_bind ?_
  unfold setWalk setsByText
  refine wpAny_bind (wpAny_setState_of S.ho S.hd S.fits ?_)
  dsimp only
  refine wpAny_bind (wpAny_bind (wpAny_askSetting (wpAny_pure ?_)))
  rw [if_pos (show (model prog w).w.params.followText "set-order" = true from c)]
  refine wpAny_bind (wpAny_askSetting (wpAny_pure (wpAny_pure ?_)))
  show Q (Option.map _ (pickOrder ((model prog w).w.params.setOrder a ep) es)[i]?) s
  cases e:(pickOrder ((model prog w).w.params.setOrder a ep) es)[i]? with
  | none=>exact none' e
  | some v=>exact some' v sl e (λ z=>by rw [c] at z; cases z)
 ·have cf:bT prog w=false:=by simpa using c
  rw [if_neg (show ¬ (model prog w).w.params.followText "set-order" = true from c)]
  rw [if_neg c] at some' none'
  split
  ·next dr =>
   have:(!t.plain && decide (es.size > 1))=true:=dr
   rw [S.pl] at this
   cases this
  ·refine wpAny_bind ?_
   show wpAny _ _ (ite (_=true) _ (pure PUnit.unit)) _ _ _
   rw [if_neg (by rw [S.le,cf]; simp)]
   refine wpAny_pure (wpAny_pure ?_)
   rw [hb cf]
   cases e:es[i]? with
   | none=>exact none' e
   | some v =>
    have hlt:i < t.place.size:=by
     have h1:=S.sz
     have:=(Array.getElem?_eq_some_iff.mp e).1
     omega
    have q:t.place[i]?=some t.place[i]:=Array.getElem?_eq_getElem hlt
    rw [q]
    exact some' v _ e (λ _=>wp4 S.ris q)
theorem vk2 {Q:Option Value->Shared->Prop} (S:SObj prog w s.heap a o es ep t) {sl i:Nat} (hi:SIt s.heap it a sl i es.size ep) (hb:bT prog w=false->SetTable.below t.place sl=i) (lt:i < es.size)
    (q:∀ h' e nx,(ordS prog w a ep es)[i]?=some e->SIt h' it a nx (i + 1) es.size ep->(bT prog w=false->SetTable.below t.place nx=i + 1)->Heap.SameBut it s.heap h'->Q (some e.2) { s with heap:=h' }):wpAny (model prog w) A (pyNext (.ref it)) Q E s:=by
 obtain ⟨oi,a1,a2,a3⟩:=id hi
 have ty:=hi.ty
 unfold pyNext
 refine wpAny_bind (wpAny_attempt (wpAny_callSpecial?_slot (name:=Str.ofString "__next__") ty slot_sit (wpAny_call_entry slot_sit ty ze1 ?a (wo1 _))))
 case a =>
  unfold Builtin.«set_iterator.__next__»
  refine wpAny_bind (m:=slotArgs "__next__" 0 _) (wpAny_pure ?_)
  refine wpAny_bind (wpAny_fieldsOf a1 a3 ?_)
  show wpAny _ _ (setEntries a >>= _) _ _ s
  refine wpAny_bind (wpAny_setEntries_of S.ho S.hd S.fits ?_)
  rw [if_neg (by simp)]
  show wpAny _ _ (setNext a sl i ep >>= _) _ _ s
  refine wpAny_bind (wu0 S hb (λ e nx e1 e2=>?_) λ e=>?_)
  ·show wpAny _ _ (setField (.ref it) 0 (rawInt nx) >>= _) _ _ s
   refine wpAny_bind (wpAny_setField a1 a3 (by simp) ?_)
   obtain ⟨o1,b1,b2,b3⟩:=ve2 a1 a2 a3 0 (rawInt nx)
   show wpAny _ _ (setField (.ref it) 1 (rawInt ((i:Int) + 1)) >>= _) _ _ _
   refine wpAny_bind (wpAny_setField b1 b3 (by simp) ?_)
   obtain ⟨o2,c1,c2,c3⟩:=ve2 b1 b2 b3 1 (rawInt ((i:Int) + 1))
   show wpAny _ _ (ret e.2) _ _ _
   exact wpAny_pure ⟨_,rfl,wpAny_pure (q _ e nx e1 ⟨o2,c1,c2,c3⟩ e2 ((Heap.SameBut.update ..).trans (Heap.SameBut.update ..)))⟩
  ·rw [Array.getElem?_eq_getElem (by rw [zy0]; exact lt)] at e
   cases e
theorem yc3 {Q:Option Value->Shared->Prop} (hh:A.handled=none) (S:SObj prog w s.heap a o es ep t) {sl:Nat} (hi:SIt s.heap it a sl es.size es.size ep) (hb:bT prog w=false->SetTable.below t.place sl=es.size)
    (q:∀ h',Heap.ExtBut it s.heap h'->Q none { s with heap:=h' }):wpAny (model prog w) A (pyNext (.ref it)) Q E s:=by
 obtain ⟨oi,a1,a2,a3⟩:=id hi
 have ty:=hi.ty
 unfold pyNext
 refine wpAny_bind (wpAny_attempt (wpAny_callSpecial?_slot (name:=Str.ofString "__next__") ty slot_sit (wpAny_call_entry slot_sit ty ze1 ?a (wo1 _))))
 case a =>
  unfold Builtin.«set_iterator.__next__»
  refine wpAny_bind (m:=slotArgs "__next__" 0 _) (wpAny_pure ?_)
  refine wpAny_bind (wpAny_fieldsOf a1 a3 ?_)
  show wpAny _ _ (setEntries a >>= _) _ _ s
  refine wpAny_bind (wpAny_setEntries_of S.ho S.hd S.fits ?_)
  rw [if_neg (by simp)]
  show wpAny _ _ (setNext a sl es.size ep >>= _) _ _ s
  refine wpAny_bind (wu0 S hb (λ e nx e1 e2=>?_) λ e=>?_)
  ·rw [getElem?_eq_none (by rw [zy0]; exact Nat.le_refl _)] at e1
   cases e1
  ·show wpAny _ _ (setField (.ref it) 2 .none >>= _) _ _ s; refine wpAny_bind (wpAny_setField a1 a3 (by simp) ?_)
   show wpAny _ _ (newExc (.type "StopIteration") [] >>= _) _ _ _; refine wpAny_bind ?_; simp only [newExc,newTuple]
   refine wpAny_bind (wpAny_newObj_type (wpAny_bind (m:=firstArgMember _ _) (wpAny_of_eq (a:=Value.none) (by first | rfl | (simp only [firstArgMember]; rfl)) (wpAny_newObj_type ?_ (by size_fits)))) (by size_fits))
   simp only [raiseNew]; refine wpAny_bind (wpAny_handled ?_); rw [show A.in1.handled=none from hh]
   refine wpAny_bind (wpAny_pure (wpAny_throw ?_)); refine wpAny_bind (wpAny_isInstance (T := "StopIteration") (b:=true) ⟨_,Heap.get?_push_size _ rfl,rfl⟩ isSubtype_stop ?_)
   exact wpAny_pure (q _ (((Heap.SameBut.update ..).extBut.push _).push _))
theorem wk2 {Q:Value->Shared->Prop} {sl i n:Nat} (hi:SIt s.heap it a sl i n ep) (h:Q (.ref it) s):wpAny (model prog w) A (pyIter (.ref it)) Q E s:=by
 have ty:=hi.ty
 refine wpAny_pyIter_slot ty zk1 (wpAny_call_entry zk1 ty te2 ?_ (sr2 _))
 show wpAny _ _ (ret (.ref it)) _ _ s
 exact wpAny_pure ⟨_,rfl, "set_iterator",_,ty,slot_sit.lookup,h⟩
theorem yq2 {Q:Bool->Shared->Prop} (ty:s.TypeIs (.ref a) "set") (h:Q false s):wpAny (model prog w) A (Builtin.List.listLengthHint (.ref a)) Q E s:=by
 unfold Builtin.List.listLengthHint
 refine wpAny_bind (wpAny_specialOf ty PySem.F.slot_set_len.lookup ?_); generalize hid:("set.__len__" : String)=id0; wp_delta
 rw [show splitId id0=some ("set", "__len__") from by subst hid; decide +kernel]; subst hid
 refine wpAny_bind (wpAny_isInstance (T := "set") (b:=true) ty (by rw [isSubtype_type]; kernel_rfl) ?_)
 refine wpAny_ite_split (λ c=>absurd c (by decide)) (λ _=>?_); refine wpAny_ite_split (λ _=>?_) (λ c=>absurd (by decide +kernel) c)
 exact wpAny_bind (wpAny_typeOf ty (wpAny_pure h))
theorem tx1 (hh:A.handled=none) (I a:Addr) (ne:a ≠ I):Walks prog w A I [I,a] [I] es.size (λ i v=>∃ e,(ordS prog w a ep es)[i]?=some e /\ v=e.2)
    (λ i h=>∃ sl,SIt h I a sl i es.size ep /\ (bT prog w=false->SetTable.below t.place sl=i) /\ SObj prog w h a o es ep t) where
 sub:=λ b hb=>by simp at hb; simp [hb]
 frame:=λ _ _ _ z hk=>by
  obtain ⟨sl,z1,z2,z3⟩:=z
  exact ⟨sl,z1.keep λ o e=>hk I (by simp) o e,z2,z3.keep λ o e=>hk a (by simp) o e⟩
 item:=λ i s Q E hi z q=>by
  obtain ⟨sl,z1,z2,z3⟩:=z
  refine vk2 z3 z1 z2 hi λ h' e nx a1 a2 a3 a4=>?_
  exact q _ h' s.toks ⟨e,a1,rfl⟩ ⟨nx,a2,a3,z3.keep λ o e=>a4.extBut a o ne e⟩ λ b o hb e=>a4.extBut b o (λ y=>hb (by simp [y])) e
 done:=λ s Q E z q=>by
  obtain ⟨sl,z1,z2,z3⟩:=z
  exact yc3 hh z3 z1 z2 λ h' k=>q h' s.toks λ b o hb e=>k b o (λ y=>hb (by simp [y])) e
 self:=λ _ _ _ _ z q=>by
  obtain ⟨sl,z1,_⟩:=z
  exact wk2 z1 q
theorem zc3:KdlSrc prog w "set" a a es.size (λ i v=>∃ e,(ordS prog w a ep es)[i]?=some e /\ v=e.2) (λ h=>SObj prog w h a o es ep t) where
 type:=λ _ x=>⟨o,x.ho,x.ex.1⟩
 there:=λ _ x=>⟨Heap.lt_size x.ho,Heap.lt_size x.ho⟩
 keep:=λ _ _ x k=>x.keep λ o e=>k a (.inl rfl) o e
 notList:=by decide
 notTuple:=by decide
 hint:=λ _ _ _ _ x q=>yq2 ⟨o,x.ho,x.ex.1⟩ q
 iter:=λ _ s hh x=>by
  have hl:=Heap.lt_size x.ho
  exact ⟨_,_,(λ _ _ q=>uk2 x q),tx1 hh _ a (Nat.ne_of_lt hl),⟨0,⟨_,Heap.get?_push_size _ rfl,rfl,rfl⟩,(λ _=>vp4 x.ris),x.keep λ o e=>Heap.get?_push_of_some _ e⟩⟩
theorem yd2 {acc:Array Value} (h:ItemsOf (λ i v=>∃ e,(ordS prog w a ep es)[i]?=some e /\ v=e.2) acc es.size):acc.toList=(ordS prog w a ep es).toList.map (·.2):=by
 obtain ⟨h1,h2⟩:=h
 have h3:=zy0 (prog:=prog) (w:=w) (a:=a) (ep:=ep) (es:=es)
 apply ext_getElem?
 intro i
 rw [getElem?_map,getElem?_toList,getElem?_toList]
 by_cases c:i < es.size
 ·obtain ⟨e,e1,e2⟩:=h2 i (acc[i]'(by omega)) (by simp)
  rw [e1,Array.getElem?_eq_getElem (by omega),e2]
  rfl
 ·rw [getElem?_eq_none (by omega),getElem?_eq_none (by omega)]
  rfl
theorem tu2:∀ {h:Heap} {ys:List (T3 × Addr)},(∀ x ∈ ys,TK prog w h x.1 x.2)->T3s h (ys.map λ x=>Value.ref x.2) (ys.map (·.1))
 | _,[],_=>trivial
 | _,x :: ys,k=>⟨(k x (mem_cons_self ..)).t3,tu2 λ y hy=>k y (mem_cons_of_mem _ hy)⟩
theorem xp1 {xs:List (T3 × Addr)} {hf:T3->Int} {Q:Value->Shared->Prop} (hh:A.handled=none) (S:SetG prog w hf s.heap a xs) (h64:xs.length < 512)
    (h:∀ (ys:List (T3 × Addr)) (p:Array Nat) (h1 h':Heap) (c tk:Nat),ys.Perm xs->p.Perm (List.toArray (List.range ys.length))->Ms.Up (ltI (ys.map (·.1))) p ys.length->(∀ b o,s.heap.get? b=some o->h1.get? b=some o)->(∀ b o,h1.get? b=some o->h'.get? b=some o) ->
     h'.get? h1.objs.size=some (seqObj "list" (outV (ys.map λ x=>Value.ref x.2) p).toArray c)->Q (.ref h1.objs.size) { s with heap:=h',toks:=tk }) :
    wpAny (model prog w) A (call (.builtin "sorted") [.ref a]) Q E s:=by
 obtain ⟨o,es,ep,t,S,_⟩:=S
 have zs:=S.size
 have hz:es.size<=sizeLine:=by rw [sizeLine_eq]; omega
 obtain ⟨ys,py,ey⟩:=yn2 (f:=ent hf) (ul1 (prog:=prog) (w:=w) (a:=a) (ep:=ep) (es:=es)) xs S.el
 refine Calls.call_function_entry kind_sorted plain_sorted entry_sorted (args_sorted1 _) ?_
 unfold Builtin.«sorted»
 refine wpAny_bind (m:=checkCount "sorted" 1 1 _) (wpAny_pure (wpAny_bind (kdu_collect (zc3 (o:=o) (t:=t)) hh S.obj hz λ h1 tk acc k1 ia=>?_)))
 rw [yd2 ia,ey,map_map,show ((λ x:Int × Value=>x.2) ∘ ent hf)=(λ x:T3 × Addr=>Value.ref x.2) from rfl]
 have l0:=py.length_eq
 have l1:(ys.map λ x=>Value.ref x.2).length=ys.length:=length_map _
 refine wpAny_bind (wpAny_newList ?_ (by rw [l1,l0,<- zs]; exact hz))
 have k2:∀ b o,s.heap.get? b=some o->(h1.push (seqObj "list" (ys.map λ x=>Value.ref x.2).toArray 0)).get? b=some o:=λ b o q=>Heap.get?_push_of_some _ (k1 b o q)
 have zo:(h1.push (seqObj "list" (ys.map λ x=>Value.ref x.2).toArray 0)).get? h1.objs.size=some (seqObj "list" (ys.map λ x=>Value.ref x.2).toArray 0):=Heap.get?_push_size _ rfl
 have tt:=T3s.kept (λ b o e _=>k2 b o e) (tu2 (prog:=prog) (w:=w) (h:=s.heap) (ys:=ys) λ x hx=>S.ks x (py.mem_iff.mp hx))
 show wpAny _ _ _ _ _ { s with heap:=h1.push (seqObj "list" (ys.map λ x=>Value.ref x.2).toArray 0),toks:=tk }
 refine wpAny_bind (wpAny_holding (wpAny_call_entry slot_list_sort ⟨_,zo,rfl⟩ entry_list_sort (vo2 (s:={ s with heap:=h1.push (seqObj "list" (ys.map λ x=>Value.ref x.2).toArray 0),toks:=tk }) zo tt (by rw [l1,l0,sizeLine_eq]; omega) λ p h' c a1 a2 a3 a4=>⟨_,rfl,?_⟩) (args_list_sort _)))
 rw [l1] at a1 a2
 exact wpAny_pure ⟨_,rfl,h ys p h1 h' c tk py a1 a2 k1 (λ b o q=>a3 b o (Nat.ne_of_lt (Heap.lt_size q)) (Heap.get?_push_of_some _ q)) a4⟩
end
abbrev vT (t:T3):List V:=[.int t.1,.int t.2.1,.int t.2.2]
def SB (ts:List T3):Prop:=∀ l:List T3,l.Nodup->(∀ x ∈ l,x ∈ ts)->l.length < 511
abbrev TSt:=L2.St->Hp->(List (T3 × Addr)->Hp->Prop)->Prop
def SE (X:Cx) (pins:List (Addr × Obj)) (σ:L2.St) (R:List (T3 × Addr)->Hp->Prop) (u:Value) (s':Shared):Prop :=
 ∃ a xs H',u=.ref a /\ Inv X pins σ H' s' /\ FpOk X pins H' a /\ SetG X.prog X.w (hT X.prog X.w) s'.heap a xs /\ (∀ x ∈ xs,H' x.2=some (.tup (vT x.1))) /\ xs.length < 511 /\ R xs H'
def PSt (X:Cx) (e:Expr) (t:TSt):Prop :=
 ∀ (pins:List (Addr × Obj)) (s:Shared) (σ:L2.St) (H:Hp) (R:List (T3 × Addr)->Hp->Prop),Inv X pins σ H s->t σ H R->wpAny (model X.prog X.w) X.A (eval e X.env) (SE X pins σ R) X.xe s
theorem su2 {prog:Program} {w:World} {h:Heap}:∀ {us:List Value} {ts:List T3} {i:Nat} {v:Value},T3s h us ts->us[i]?=some v->i < ts.length /\ ∃ b,v=.ref b /\ TK prog w h (ts.getD i (0,0,0)) b
 | [],[],i,v,_,e=>by simp at e
 | [],_ :: _,_,_,z,_=>z.elim
 | _ :: _,[],_,_,z,_=>z.elim
 | u :: us,t :: ts,0,v,z,e=>by
  simp only [List.getElem?_cons_zero,Option.some.injEq] at e
  subst e
  obtain ⟨a,o,t1,t2,t3,n,rfl,e2⟩:=id z.1
  exact ⟨by simp,a,rfl,(show TK prog w h t a from IsT3.key z.1)⟩
 | u :: us,t :: ts,i + 1,v,z,e=>by
  simp only [getElem?_cons_succ] at e
  obtain ⟨h1,b,h2,h3⟩:=su2 (prog:=prog) (w:=w) z.2 e
  exact ⟨by simp only [length_cons]; omega,b,h2,h3⟩
theorem vu2 {K:Fg} {H:Hp}:∀ {vs:List V} {ts:List T3} {us:List Value} {i:Nat} {b:Addr},V3s K H vs ts->Vals vs us->us[i]?=some (.ref b)->H b=some (.tup (vT (ts.getD i (0,0,0))))
 | [],[],_,i,b,_,.nil,e=>by simp at e
 | [],_ :: _,_,_,_,z,_,_=>z.elim
 | _ :: _,[],_,_,_,z,_,_=>z.elim
 | v :: vs,t :: ts,_,0,b,z,.cons r rs,e=>by
  simp only [List.getElem?_cons_zero,Option.some.injEq] at e
  subst e
  obtain ⟨⟨a,rfl,hq⟩,_⟩:=z
  cases r
  exact hq
 | v :: vs,t :: ts,_,i + 1,b,z,.cons r rs,e=>by
  simp only [getElem?_cons_succ] at e
  exact (show H b=some (.tup (vT (ts.getD i (0,0,0)))) from vu2 z.2 rs e)
section
variable {X:Cx} {e:Expr} {p p2 pos pos2:Pos}
def uq4 (K:Fg) (ta:TA):TSt:=λ σ H R=>ta σ H λ xs H1=>∃ p vs ts,xs=[.ref p] /\ (SqL K H1 p vs \/ SqT K H1 p vs) /\ V3s K H1 vs ts /\ SB ts ∧
 ∀ ys:List (T3 × Addr),(ys.map (·.1)).Nodup->(∀ t,t ∈ ys.map (·.1) ↔ t ∈ ts)->(∀ y ∈ ys,H1 y.2=some (.tup (vT y.1)))->R ys H1
theorem yj3 {items:List Value} {ts:List T3} {ys:List (T3 × Addr)} {Pr:Nat->Value->Prop} (hl:items.length=ts.length) (g:Got Pr (λ i=>ts.getD i (0,0,0)) items.length ys) (t:T3):t ∈ ys.map (·.1) ↔ t ∈ ts:=by
 constructor
 ·intro h
  obtain ⟨y,hy,rfl⟩:=List.mem_map.mp h
  obtain ⟨j,h1,_,h2⟩:=g.1 y hy
  have h2:ts.getD j (0,0,0)=y.1:=h2
  rw [<- h2,getD_eq_getElem?_getD,getElem?_eq_getElem (by omega)]
  exact getElem_mem _
 ·intro h
  obtain ⟨j,hj,e⟩:=List.getElem_of_mem h
  have:ts.getD j (0,0,0) ∈ _:=g.2 j (by omega)
  rwa [getD_eq_getElem?_getD,getElem?_eq_getElem hj,Option.getD_some,e] at this
theorem sz1 {ta:TA} (hc:X.calm=true) (hu:X.A.units + 64 < cLine) (hg:Gl X "set") (hm:X.mg "set" = none) (ha:PA X [e] ta) (hs:starEach [e] X.env=[(false,eval e X.env)]:=by rfl) :
    PSt X (.Call (.Name "set" p) [e] [] pos) (uq4 X.K ta):=by
 intro pins s σ H R I h
 refine Call_ (zr0 I hg hm zp4 (PyProof.Rows.callWith_type1 (thn (ha pos pins s σ H _ I h) λ us s1 ⟨vs,H1,I1,r1,q1⟩=>?_) hs rfl))
 obtain ⟨a,ws,ts,e1,hq,h3,hB,k⟩:=q1
 subst e1
 cases r1 with
 | cons r rr =>
  cases rr
  cases r
  have key:∀ {its:List Value},Vals ws its->(∀ l:List T3,l.Nodup->(∀ x ∈ l,∃ j,j < its.toArray.size /\ ts.getD j (0,0,0)=x)->l.length < 511) ∧
      (∀ i v,i < its.toArray.size->its.toArray[i]?=some v->∃ b,v=.ref b /\ TK X.prog X.w s1.heap (ts.getD i (0,0,0)) b) ∧
      ∀ (h':Heap) (tk:Nat) xs,KpH s1.heap h'->SetG X.prog X.w (hT X.prog X.w) h' s1.heap.objs.size xs->Got (λ i v=>its.toArray[i]?=some v) (λ i=>ts.getD i (0,0,0)) its.toArray.size xs->SE X pins σ R (.ref s1.heap.objs.size) { s1 with heap:=h',toks:=tk }:=λ {its} rv=>by
   have l1:=h3.len
   have l2:=rv.length
   have l3:its.toArray.size=its.length:=size_toArray
   have B:∀ l:List T3,l.Nodup->(∀ x ∈ l,∃ j,j < its.toArray.size /\ ts.getD j (0,0,0)=x)->l.length < 511:=λ l nd hl=>hB l nd λ x hx=>by
    obtain ⟨j,h1,h2⟩:=hl x hx
    rw [<- h2,getD_eq_getElem?_getD,getElem?_eq_getElem (by omega)]
    exact getElem_mem _
   refine ⟨B,λ i v lt e=>(su2 (zj1 I1 h3 rv) (by simpa using e)).2,λ h' tk xs kp sg g=>?_⟩
   have sq:∀ x ∈ xs,H1 x.2=some (.tup (vT x.1)):=λ x hx=>?_
   ·exact ⟨_,xs,H1,rfl,I1.kept kp,I1.fpOk (Nat.le_refl _) (I1.hok.fresh (Nat.le_refl _)),sg,sq,g.len (Nat.le_refl _) sg.nd B,k xs sg.nd (yj3 (items:=its) (by omega) (by rw [<- l3]; exact g)) sq⟩
   obtain ⟨j,_,h2,h3'⟩:=g.1 x hx
   have h3':ts.getD j (0,0,0)=x.1:=h3'
   have:=vu2 h3 rv (i:=j) (b:=x.2) (by simpa using h2)
   rwa [h3'] at this
  rcases hq with hq | hq
  ·obtain ⟨its,rv,pl,hz⟩:=I1.list hq
   obtain ⟨k1,k2,k3⟩:=key rv
   exact wx0 (I1.ok.hd hc) (by omega) pl.isList k2 k1 k3
  ·obtain ⟨its,rv,pl,hz⟩:=I1.tuple hq
   obtain ⟨k1,k2,k3⟩:=key rv
   exact sx1 (I1.ok.hd hc) (by omega) pl k2 k1 k3
def vq4 (K:Fg) (ts:TSt):TE:=λ σ H Q=>ts σ H λ xs H1=>∀ (ys:List (T3 × Addr)),ys.Perm xs->∀ q:Array Nat,q.Perm (List.toArray (List.range ys.length))->Ms.Up (ltI (ys.map (·.1))) q ys.length->V3s K H1 (ys.map λ x=>V.ref x.2) (ys.map (·.1)) ->
 ∀ r,H1 r=none->Q (.ref r) (upd H1 r (.lst (q.toList.map λ i=>(ys.map λ x=>V.ref x.2).getD i .non)))
theorem wu2 {K:Fg} {H:Hp}:∀ {ys:List (T3 × Addr)},(∀ x ∈ ys,H x.2=some (.tup (vT x.1)))->V3s K H (ys.map λ x=>V.ref x.2) (ys.map (·.1))
 | [],_=>trivial
 | y :: ys,h=>⟨⟨_,rfl,h y (mem_cons_self ..)⟩,wu2 λ x hx=>h x (mem_cons_of_mem _ hx)⟩
theorem uv1:∀ (ys:List (T3 × Addr)),Vals (ys.map λ x=>V.ref x.2) (ys.map λ x=>Value.ref x.2)
 | []=>.nil
 | y :: ys=>.cons rfl (uv1 ys)
theorem tf3 {ts:TSt} (hc:X.calm=true) (hg:Gl X "sorted") (hm:X.mg "sorted" = none) (hp:PSt X e ts) (hs:starEach [e] X.env=[(false,eval e X.env)]:=by rfl):PE X (.Call (.Name "sorted" p) [e] [] pos) (vq4 X.K ts):=by
 intro pins s σ H Q I h
 refine Call_ (zr0 I hg hm tg2 (PyProof.Rows.callWith_builtin1 ?_ hs rfl))
 rw [hs]
 show wpAny _ _ (spliced ((false,eval e X.env) :: backTo pos (starEach [] X.env))) _ _ s
 refine Calls.spliced_cons ?_
 refine thn (hp pins s σ H _ I h) λ u s1 q=>?_
 obtain ⟨a,xs,H1,rfl,I1,fp,sg,sq,ln,k⟩:=q
 refine Calls.spliced_nil ?_
 refine xp1 (I1.ok.hd hc) sg (by omega) λ ys q h1 h' c tk py a1 a2 a3 a4 a5=>?_
 have I2:Inv X pins σ H1 { s1 with heap:=h1,toks:=tk }:=I1.kept a3
 have sz:q.toList.length=ys.length:=by have:=a1.size_eq; simpa using this
 have l0:=py.length_eq
 have lt':∀ i ∈ q.toList,i < (ys.map λ x=>V.ref x.2).length:=λ i hi=>by
  have e:i ∈ List.toArray (List.range ys.length):=a1.mem_iff.mp (by simpa using hi)
  rw [length_map]
  simpa using e
 refine ⟨.ref _,_,I2.laid (t':=tk) a4 (Nat.le_refl _) (show ObjOk X.prog X.w _ h' _ (.lst (q.toList.map λ i=>(ys.map λ x=>V.ref x.2).getD i .non)) from ⟨by rw [length_map,sz,sizeLine_eq]; omega,_,c,yb1 (uv1 ys) _ lt',a5⟩),rfl,?_⟩
 exact k ys py q a1 a2 (wu2 λ x hx=>sq x (py.mem_iff.mp hx)) _ (I2.hok.fresh (Nat.le_refl _))
end
abbrev TSt3:=St3->Mu->(List T3->Mu->Prop)->Prop
def RdSt (K:Fg) (tv:TSt) (t:TSt3):Prop:=∀ σ H R ρ μ R3,RSt K H ρ σ->RelM K μ H->t ρ μ R3->(∀ xs μ' H',R3 (xs.map (·.1)) μ'->(xs.map (·.1)).Nodup->(∀ x ∈ xs,H' x.2=some (.tup (vT x.1)))->Kp H H'->RelM K μ' H'->R xs H')->tv σ H R
def REs (X:Cx) (e:Expr) (t:TSt3):Prop:=∃ tv,PSt X e tv /\ RdSt X.K tv t
def vw1 (t:TA3):TSt3:=λ ρ μ R=>t ρ μ λ ds μ1=>∃ ts,(match ds with
 | [.ref p]=>μ1 p=some (.lst (ts.map encT))
 | [.tup l]=>l=ts.map encT
 | _=>False) /\ SB ts /\ ∀ ks:List T3,ks.Nodup->(∀ x,x ∈ ks ↔ x ∈ ts)->R ks μ1
def uw1 (t:TSt3):TE3:=λ ρ μ Q=>t ρ μ λ ks μ1=>∀ us:List T3,us.Perm ks->us.Pairwise le3->∀ r,μ1 r=none->Q (.ref r) (updM μ1 r (.lst (us.map encT)))
section
variable {X:Cx} {e:Expr} {p p2 pos pos2:Pos} {t:TE3}
theorem tg1 (he:RE X e t) (hm:X.mg "set" = none) (hu:X.A.units + 64 < cLine) (hc:X.calm=true:=by rfl) (hg:Gl X "set" := by rfl) (hs:starEach [e] X.env=[(false,eval e X.env)]:=by rfl):REs X (.Call (.Name "set" p) [e] [] pos) (vw1 (cons3 t nil3)):=by
 obtain ⟨va,pa,ra⟩:=xa0 he va0 hs
 refine ⟨_,sz1 hc hu hg hm pa hs,λ σ H R ρ μ R3 s m h k=>ra σ H _ ρ μ _ s m h λ ds μ1 vs H1 h1 k1 r1 m1=>?_⟩
 obtain ⟨ts,hd,hB,q⟩:=h1
 cases r1 with
 | nil=>exact hd.elim
 | cons r1 r2 =>
  cases r2 with
  | cons _ _=>cases r1 <;> exact hd.elim
  | nil =>
   cases r1 with
   | ref a =>
    obtain ⟨us,hv,rv⟩:=m1 a _ hd
    exact ⟨a,us,ts,rfl,.inl (SqL.of hv),sv1 rv,hB,λ ys nd al sq=>k ys μ1 H1 (q _ nd al) nd sq k1 m1⟩
   | tup hq rv =>
    have hd:_=ts.map encT:=hd
    subst hd
    exact ⟨_,_,ts,rfl,.inr (SqT.of hq),sv1 rv,hB,λ ys nd al sq=>k ys μ1 H1 (q _ nd al) nd sq k1 m1⟩
   | _=>exact hd.elim
theorem xh1 {ts:TSt3} (he:REs X e ts) (hm:X.mg "sorted" = none) (hc:X.calm=true:=by rfl) (hg:Gl X "sorted" := by rfl) (hs:starEach [e] X.env=[(false,eval e X.env)]:=by rfl):RE X (.Call (.Name "sorted" p) [e] [] pos) (uw1 ts):=by
 obtain ⟨va,pa,ra⟩:=he
 refine ⟨_,tf3 hc hg hm pa hs,λ σ H Q ρ μ Q3 s m h k=>ra σ H _ ρ μ _ s m h λ xs μ1 H1 h1 nd1 sq1 k1 m1=>?_⟩
 intro ys py q a1 a2 v3 r hr
 have l1:(ys.map (·.1)).length=ys.length:=length_map _
 rw [<- l1] at a1 a2
 have lt':∀ i ∈ q.toList,i < (ys.map λ x=>V.ref x.2).length:=λ i hi=>by
  have e:i ∈ List.toArray (List.range (ys.map (·.1)).length):=a1.mem_iff.mp (by simpa using hi)
  rw [length_map] at e ⊢
  simpa using e
 exact k _ _ _ _ (h1 _ ((wx1 a1).trans (py.map _)) (sb3 a1 a2) r (m1.free hr)) (k1.trans (Kp.new hr)) (.ref r) (m1.newL hr (su0 (sk1 v3) _ lt'))
end
section
variable {X:Cx} {o e:Expr} {es:List Expr} {to:TE3} {t:TA3} {apos cpos:Pos}
end
section
variable {X:Cx} {o e:Expr} {es:List Expr} {to:TE3} {t:TA3} {apos cpos pos p2:Pos}
end
section
variable {X:Cx} {pins:List (Addr × Obj)} {σ:L2.St} {H:Hp} {s:Shared}
end
end Pv
namespace Pv
open PySem PySem.Spec PyProof.Rows L2
section
variable {X:Cx} {NN:List Str} {scope:Scope} {cl:List (Str × Addr)} {js:List (Option Nat)}
theorem zk3 {elt target iter:Expr} {ifs:List Expr} {pos:Pos} {wi:TI} {g:TG} {tc:TT} {te:TE} (hc:X.calm=true) (S:CompSc X NN scope cl js) (hi:PI X target iter wi)
    (hg:∀ C fp s₀ H₀ pn,PG (vd0 X NN scope cl C fp s₀ H₀ pn) target g) (ht:∀ C fp s₀ H₀ pn,PTs (vd0 X NN scope cl C fp s₀ H₀ pn) ifs tc) (he:∀ C fp s₀ H₀ pn,PE (vd0 X NN scope cl C fp s₀ H₀ pn) elt te)
    (hs:∀ x,foldedSetIterable iter X.env x=pure x) {use:Option (Value->Sem Unit)} {Q':Value->Shared->Prop} {pins:List (Addr × Obj)} {s:Shared} {σ:L2.St} {H:Hp} {Q:VK} (I:Inv X pins σ H s) (h:ww1 js wi g tc te σ H Q)
    (hu:∀ (p0 C:Addr) (H':Hp) (s':Shared) (m':Str->Option Value),Inv X pins σ H' s'->s'.heap.Ns C m'->H' C=none->C ≠ X.env.locals->X.s₀.heap.objs.size<=C->(∀ x c,X.env.cells.lookup x=some c->c ≠ C)->(∀ p ∈ X.pn ++ pins,p.1 ≠ C)->Q (.ref p0) H' ->
     compPost (model X.prog X.w) X.A X.xe use Q' (.ref p0) C (.ok .next) s') :
    wpAny (model X.prog X.w) X.A (comprehension (.ListComp elt [⟨target,iter,ifs,0⟩] scope pos) scope X.env (firstIterPos [⟨target,iter,ifs,0⟩] pos) (newList []) (firstAsync [⟨target,iter,ifs,0⟩]) (firstIter [⟨target,iter,ifs,0⟩] X.env) use) Q' X.xe s:=by
 refine wpAny_comprehension_free (use:=use) rfl hs S.clos S.kind S.names (thn (hi pins s σ H _ I h) λ xv s1 h1=>thn h1 λ itv s2 h2=>?_)
 obtain ⟨it,fp,tn,J,H2,rfl,I2,T,st2,f2,hW⟩:=h2
 refine wpAny_newObj_type (wpAny_newFunctionEnv S.cell (by intro y hy; simp at hy) (λ h₁ hns₁ hsb₁=>?_) S.kind)
 dsimp only at hns₁ hsb₁ ⊢
 have hD:H2 s2.heap.objs.size=none:=I2.hok.fresh (Nat.le_refl _)
 have I3:Inv X pins σ (upd H2 s2.heap.objs.size (.lst [])) { s2 with heap:=s2.heap.push { cls:=.type "list",dict:=none,data:=.seq ([]:List Value).toArray } } :=
  I2.lnew (t':=s2.toks) (its:=[]) .nil (by rw [sizeLine_eq]; decide)
 generalize hsD:({ s2 with heap:=s2.heap.push { cls:=.type "list",dict:=none,data:=.seq ([]:List Value).toArray } }:Shared)=sD at I3
 have eh:sD.heap=s2.heap.push { cls:=.type "list",dict:=none,data:=.seq ([]:List Value).toArray }:=by rw [<- hsD]
 have es:∀ (h:Heap) (tk:Nat),({ s2 with heap:=h,toks:=tk }:Shared)={ sD with heap:=h,toks:=tk }:=λ h tk=>by rw [<- hsD]
 have hsz:s2.heap.objs.size < sD.heap.objs.size:=by rw [eh,Heap.size_push]; exact Nat.lt_succ_self _
 rw [<- eh] at hns₁ hsb₁ ⊢
 generalize hp0:s2.heap.objs.size=p0 at *
 have up:∀ b u,s2.heap.get? b=some u->sD.heap.get? b=some u:=λ b u e=>by rw [eh]; exact Heap.get?_push_of_some _ e
 have k:∀ b u,sD.heap.get? b=some u->h₁.get? b=some u:=λ b u e=>hsb₁.extBut b u (Nat.ne_of_lt (Heap.lt_size e)) (Heap.get?_push_of_some _ e)
 have f3:∀ b ∈ fp,FpOk X pins (upd H2 p0 (.lst [])) b /\ b < sD.heap.objs.size:=λ b hb=>by
  obtain ⟨o,ho,_⟩:=T.obj 0 _ st2 b hb
  have hlt:b < p0:=by rw [<- hp0]; exact Heap.lt_size ho
  refine ⟨⟨?_,(f2 b hb).2⟩,Nat.lt_trans hlt hsz⟩
  rw [tc0 (Nat.ne_of_lt hlt)]; exact (f2 b hb).1
 obtain ⟨W,⟨m0,w0⟩,turn⟩:=hW p0 hD
 have I4:=ue1 (tk:=s2.toks + ([]:List (Str × Value)).length) hc S I3 f3 hns₁ k
 have st4:tn 0 h₁:=T.keep 0 _ _ st2 λ b _ o e=>k b o (up b o e)
 rw [es]
 generalize hX':vd0 X NN scope cl sD.heap.objs.size fp sD (upd H2 p0 (.lst [])) (X.pn ++ pins)=X' at I4
 have a1:X'.env=compEnvC scope cl sD.heap.objs.size X.env:=by rw [<- hX']
 have a2:X'.prog=X.prog:=by rw [<- hX']
 have a3:X'.w=X.w:=by rw [<- hX']
 have a4:X'.A=X.A:=by rw [<- hX']
 have a5:X'.K=X.K:=by rw [<- hX']
 have a6:X'.calm=true:=by rw [<- hX']; exact hc
 have a7:X'.xe=λ _ _=>False:=by rw [<- hX']
 have a8:X'.ex=fp:=by rw [<- hX']
 have T':Turn X'.prog X'.w X'.K target J fp it tn:=by rw [a2,a3,a5]; exact T
 have hg':PG X' target g:=by rw [<- hX']; exact hg _ _ _ _ _
 have ht':PTs X' ifs tc:=by rw [<- hX']; exact ht _ _ _ _ _
 have he':PE X' elt te:=by rw [<- hX']; exact he _ _ _ _ _
 have fin:∀ {σ':L2.St} {H':Hp} {s':Shared},Inv X' [] σ' H' s'->Q (.ref p0) H'->compPost (model X.prog X.w) X.A X.xe use Q' (.ref p0) sD.heap.objs.size (.ok .next) s':=λ {σ' H' s'} I' q=>by
  obtain ⟨m',hn',_⟩:=I'.loc
  rw [a1] at hn'
  have u:Un (frs X.stack) fp (upd H2 p0 (.lst [])) H' sD.heap s'.heap:=by
   have:=I'.base
   rw [<- hX'] at this
   exact this
  have hch:∀ b ∈ fp,(b ∈ X.ex \/ X.s₀.heap.objs.size<=b) /\ b ≠ X.env.locals /\ (∀ x c,X.env.cells.lookup x=some c->c ≠ b) /\ ∀ p ∈ X.pn ++ pins,p.1 ≠ b:=λ b hb=>by
   obtain ⟨_,z1,_,z3,z4,z5⟩:=(f3 b hb).1
   exact ⟨z3,z1,z4,z5⟩
  have os':s'.os=sD.os:=by
   have:=I'.os
   rw [<- hX'] at this
   exact this
  have hok':HOk X.prog X.w H' s'.heap:=by
   have:=I'.hok
   rw [<- hX'] at this
   exact this
  have I5:Inv X pins σ H' s':=I3.call' os' u hok' I'.bare hch
  have hC:H' sD.heap.objs.size=none:=by
   have:=I'.free
   rw [a1] at this
   exact this
  refine hu p0 _ H' s' m' I5 hn' hC (Nat.ne_of_gt I3.lt) I3.sz (λ x c e=>?_) (λ p hp=>?_) q
  ·obtain ⟨v,o,ho,_⟩:=I3.cell x c e
   exact Nat.ne_of_lt (Heap.lt_size ho)
  ·exact Nat.ne_of_lt (Heap.lt_size (I3.pin p hp).1)
 have fp4:∀ {H':Hp},(∀ b ∈ fp,H' b=none)->∀ b ∈ fp,FpOk X' [] H' b:=λ hn b hb=>by
  obtain ⟨_,z1,z2,z3,z4,z5⟩:=(f3 b hb).1
  rw [<- hX']
  refine ⟨hn b hb,Nat.ne_of_lt (f3 b hb).2,λ z=>?_,.inl hb,λ x c e=>z4 x c (S.sub x c e),λ p hp=>z5 p (by simpa using hp)⟩
  rcases List.mem_cons.mp (I3.stkSub _ z) with z | z
  ·exact z1 z
  ·exact z2 z
 have loop:∀ s₃:Shared,Inv X' [] (wo0 js σ) (upd H2 p0 (.lst [])) s₃->tn 0 s₃.heap ->
     codeAny (model X.prog X.w) X.A (.compLoop (.ListComp elt [⟨target,iter,ifs,0⟩] scope pos) 0 (.ref it) (.ref p0) (compEnvC scope cl sD.heap.objs.size X.env)) (compPost (model X.prog X.w) X.A X.xe use Q' (.ref p0) sD.heap.objs.size) s₃:=by
  intro s₃ I₃ st₃
  refine codeAny_loop rfl (λ n s'=>∃ i σ' H',Inv X' [] σ' H' s' /\ tn i s'.heap /\ (∀ b ∈ fp,H' b=none) /\ W i n σ' H') (λ n s' hI=>?_) m0 ⟨0,wo0 js σ,_,I₃,st₃,λ b hb=>(f3 b hb).1.1,w0⟩
  obtain ⟨i,σ3,H3,J3,st3,fr3,w3⟩:=hI
  have tr:=turn i n σ3 H3 w3
  show wpAny _ X.A ((compTurn (.ListComp elt [⟨target,iter,ifs,0⟩] scope pos) 0 (.ref it) (.ref p0) (compEnvC scope cl sD.heap.objs.size X.env)).onRaise (λ x=>do noteFrame x (compEnvC scope cl sD.heap.objs.size X.env); theTreesLotGoes x)) _ _ s'
  refine wpAny_noted ?_
  rw [compTurn_list,<- a1,<- a2,<- a3,<- a4]
  have nof:∀ {α:Type} {t:Sem α} {Q':α->Shared->Prop} {s'':Shared} {E:Value->Shared->Prop},wpAny (model X'.prog X'.w) X'.A t Q' X'.xe s''->wpAny (model X'.prog X'.w) X'.A t Q' E s'':=λ h=>wpAny_mono h (λ _ _ q=>q) λ _ _ z=>by rw [a7] at z; exact z.elim
  rcases tr with ⟨stop,qn⟩ | ⟨go,step⟩
  ·refine wpAny_bind (wpAny_standAt (wpAny_bind (nof (thn (T'.done X' rfl rfl rfl a6 i [] s' σ3 H3 X'.xe J3 (fp4 fr3) st3 stop) λ r s4 ⟨hr,J4⟩=>?_))))
   subst hr
   refine wpAny_pure ?_
   show compPost (model X'.prog X'.w) X'.A X.xe use Q' (.ref p0) sD.heap.objs.size (.ok .next) s4
   rw [a2,a3,a4]
   exact fin J4 qn
  ·refine wpAny_bind (wpAny_standAt (wpAny_bind (nof (thn (T'.item X' rfl rfl rfl a6 i [] s' σ3 H3 X'.xe J3 (fp4 fr3) st3 go) λ r s4 ⟨u,hr,h4⟩=>?_))))
   subst hr
   refine wpAny_bind (nof (thn h4 λ _ s5 ⟨x,H5,I5,r5,y5,st5,fr5⟩=>?_))
   have I5':=I5.pinned (fp4 fr5) (T.obj _ _ st5)
   refine wpAny_bind (nof (thn (hg' _ s5 σ3 H5 x u _ I5' r5 (step x H5 y5)) λ _ s6 ⟨σ6,H6,I6,q6⟩=>?_))
   refine wpAny_bind (nof (thn (ht' _ s6 σ6 H6 _ I6 q6) λ ok s7 ⟨H7,I7,q7⟩=>?_))
   have again:∀ {s8:Shared} {σ8:L2.St} {H8:Hp},Inv X' ([] ++ yv0 fp s5.heap) σ8 H8 s8->(∃ m',m' < n /\ W (i + 1) m' σ8 H8)->∃ m,m < n /\ ∃ i σ' H',Inv X' [] σ' H' s8 /\ tn i s8.heap /\ (∀ b ∈ fp,H' b=none) /\ W i m σ' H':=λ {s8 σ8 H8} I8 ⟨m',hm,w8⟩=>by
    refine ⟨m',hm,i + 1,σ8,H8,I8.unpinned,T.keep _ _ _ st5 λ b hb o e=>(I8.pin (b,o) (mem_append_right _ (mem_append_right _ (zh0 hb e)))).1,λ b hb=>?_,w8⟩
    obtain ⟨o,e,d⟩:=T.obj _ _ st5 b hb
    exact (I8.pin (b,o) (mem_append_right _ (mem_append_right _ (zh0 hb e)))).2.1
   cases ok with
   | false=>exact wpAny_pure ⟨rfl,again I7 q7⟩
   | true =>
    refine wpAny_bind (wpAny_bind (nof (thn (he' _ s7 σ6 H7 _ I7 q7) λ xv s8 ⟨y,H8,I8,r8,ys,q8,hlen,q9⟩=>wpAny_bind (nof ?_))))
    refine thn (xr0 (X:=X') _ s8 σ6 H8 (.ref p0) [y] (.ref p0) [xv] (λ v H9=>v=.non /\ H9=upd H8 p0 (.lst (ys ++ [y]))) I8 rfl (.cons r8 .nil) ⟨p0,ys,y,rfl,rfl,q8,hlen,rfl,rfl⟩) λ rv s9 ⟨v9,H9,I9,_,_,e9⟩=>?_
    subst e9
    exact wpAny_pure (wpAny_pure ⟨rfl,again I9 q9⟩)
 exact codeAny_compStart_list (loop _ I4 st4) (T.self X.A 0 _ _ _ st4 (loop _ I4 st4))
theorem ue3 {i:Nat} {x:Str} {px apos:Pos} {elt target iter:Expr} {ifs:List Expr} {pos:Pos} {wi:TI} {g:TG} {tc:TT} {te:TE} (hN:X.N.Nodup) (hi':X.N[i]?=some x) (hl:X.env.scope.names.lookup x=some .local) (hc:X.calm=true) (S:CompSc X NN scope cl js) (hi:PI X target iter wi)
    (hg:∀ C fp s₀ H₀ pn,PG (vd0 X NN scope cl C fp s₀ H₀ pn) target g) (ht:∀ C fp s₀ H₀ pn,PTs (vd0 X NN scope cl C fp s₀ H₀ pn) ifs tc) (he:∀ C fp s₀ H₀ pn,PE (vd0 X NN scope cl C fp s₀ H₀ pn) elt te)
    (hs:∀ x,foldedSetIterable iter X.env x=pure x) (hw:swapsWith (.ListComp elt [⟨target,iter,ifs,0⟩] scope pos) (some (.Name x px)) apos.line X.env=pure true) :
    PS X (.Assign [.Name x px] (.ListComp elt [⟨target,iter,ifs,0⟩] scope pos) apos) (tAsg (ww1 js wi g tc te) (zj3 i)):=by
 intro pins s σ H D I h
 rw [exec_Assign_Name_used _ _ _ _ hw]
 refine wpAny_bind (wpAny_standAt (wpAny_bind ?_))
 show wpAny _ _ (comprehension (.ListComp elt [⟨target,iter,ifs,0⟩] scope pos) scope X.env (firstIterPos [⟨target,iter,ifs,0⟩] pos) (newList []) (firstAsync [⟨target,iter,ifs,0⟩]) (firstIter [⟨target,iter,ifs,0⟩] X.env) (some (assign (.Name x px) X.env)) >>= λ _=>pure ()) _ _ s
 refine wpAny_bind (wpAny_mono (zk3 (use:=some (assign (.Name x px) X.env)) (Q':=λ _ s'=>SP X pins D .next s') hc S hi hg ht he hs I h λ p0 C H' s' m' I5 hn hC n1 n2 n3 n4 q=>?_) (λ _ s' hq=>wpAny_pure (wpAny_pure hq)) λ _ _ e=>e)
 show wpAny _ _ (assign (.Name x px) X.env (.ref p0)) _ _ s'
 refine wpAny_assign_Name (wb1 I5 hN hi' (.inl hl) (v:=.ref p0) rfl (λ s2 I6 ⟨b,sb,hb⟩=>?_) (.inr hl))
 have nb:C ≠ b:=by
  rcases hb with hb | hb
  ·rw [hb]; exact n1
  ·exact Ne.symm (n3 x b hb)
 exact ⟨m',hn.sameBut sb nb,λ h' sb'=>⟨_,H',I6.turned (t':=s2.toks) (λ b o hb e=>sb'.extBut b o hb e) hC n1 (.inr n2) n3 n4,q⟩⟩
end
section
variable {X:Cx} {elt target iter:Expr} {ifs:List Expr} {pos:Pos} {ti:TI3} {g:TG3} {tc:TT3} {te:TE3} {NN:List Str} {scope:Scope} {cl:List (Str × Addr)} {js:List (Option Nat)}
theorem xl2 {i:Nat} {x:Str} {px apos:Pos} (hN:X.N.Nodup) (hc:X.calm=true) (S:CompSc X NN scope cl js) (hi:RI X target iter ti) (hg:∀ C fp s₀ H₀ pn,RG (vd0 X NN scope cl C fp s₀ H₀ pn) target g)
    (ht:∀ C fp s₀ H₀ pn,RTs (vd0 X NN scope cl C fp s₀ H₀ pn) ifs tc) (he:∀ C fp s₀ H₀ pn,RE (vd0 X NN scope cl C fp s₀ H₀ pn) elt te)
    (hs:∀ x,foldedSetIterable iter X.env x=pure x) (hi':X.N[i]?=some x:=by rfl) (hl:X.env.scope.names.lookup x=some .local:=by rfl)
    (hw:swapsWith (.ListComp elt [⟨target,iter,ifs,0⟩] scope pos) (some (.Name x px)) apos.line X.env=pure true:=by rfl):RS X (.Assign [.Name x px] (.ListComp elt [⟨target,iter,ifs,0⟩] scope pos) apos) (set3 i (comp3 js ti g tc te)):=by
 obtain ⟨wi,pi,ri⟩:=hi
 let gU:TG:=λ v σ H Q=>∀ (r:TG3),r=g->∃ d ρ μ Q3,RSt X.K H ρ σ /\ RelM X.K μ H /\ RelD X.K H d v /\ g d ρ μ Q3 /\ (∀ ρ' μ' σ' H',Q3 ρ' μ'->Kp H H'->RSt X.K H' ρ' σ'->RelM X.K μ' H'->Q σ' H')
 let tU:TT:=λ σ H Q=>∃ ρ μ Q3,RSt X.K H ρ σ /\ RelM X.K μ H /\ tc ρ μ Q3 /\ (∀ b μ' H',Q3 b μ'->Kp H H'->RelM X.K μ' H'->Q b H')
 let eU:TE:=λ σ H Q=>∃ ρ μ Q3,RSt X.K H ρ σ /\ RelM X.K μ H /\ te ρ μ Q3 /\ Ks X.K H Q3 Q
 have hg':∀ C fp s₀ H₀ pn,PG (vd0 X NN scope cl C fp s₀ H₀ pn) target gU:=λ C fp s₀ H₀ pn=>by
  obtain ⟨tv,p,r⟩:=hg C fp s₀ H₀ pn
  intro pins s σ H v u Q I rv h
  obtain ⟨d,ρ,μ,Q3,a1,a2,a3,a4,a5⟩:=h g rfl
  exact p pins s σ H v u Q I rv (r v d σ H Q ρ μ Q3 a1 a2 a3 a4 a5)
 have ht':∀ C fp s₀ H₀ pn,PTs (vd0 X NN scope cl C fp s₀ H₀ pn) ifs tU:=λ C fp s₀ H₀ pn=>by
  obtain ⟨tv,p,r⟩:=ht C fp s₀ H₀ pn
  intro pins s σ H Q I h
  obtain ⟨ρ,μ,Q3,a1,a2,a3,a4⟩:=h
  exact p pins s σ H Q I (r σ H Q ρ μ Q3 a1 a2 a3 a4)
 have he':∀ C fp s₀ H₀ pn,PE (vd0 X NN scope cl C fp s₀ H₀ pn) elt eU:=λ C fp s₀ H₀ pn=>by
  obtain ⟨tv,p,r⟩:=he C fp s₀ H₀ pn
  intro pins s σ H Q I h
  obtain ⟨ρ,μ,Q3,a1,a2,a3,a4⟩:=h
  exact p pins s σ H Q I (r σ H Q ρ μ Q3 a1 a2 a3 a4)
 have rd:RdE X.K (ww1 js wi gU tU eU) (comp3 js ti g tc te):=RdE.comp ri (λ v d σ H Q ρ μ Q3 a1 a2 a3 a4 a5 _ _=>⟨d,ρ,μ,Q3,a1,a2,a3,a4,a5⟩) (λ σ H Q ρ μ Q3 a1 a2 a3 a4=>⟨ρ,μ,Q3,a1,a2,a3,a4⟩) (λ σ H Q ρ μ Q3 a1 a2 a3 a4=>⟨ρ,μ,Q3,a1,a2,a3,a4⟩)
 exact ⟨_,ue3 hN hi' hl hc S pi hg' ht' he' hs hw,λ σ H D ρ μ D3 s m h k=>rd σ H _ ρ μ _ s m h λ d μ1 v H1 h1 k1 r1 m1=>k.nx _ _ _ _ h1 k1 ((s.mono k1).set i r1) m1⟩
end
def fdvR:R3:=int2 yq4 λ i j=>.int (i.fdiv j)
theorem ug4 {X:Cx}:RO X (binaryOp .FloorDiv) fdvR:=⟨_,sn2,RdO.i2 λ _ _ _=>.int _⟩
def keyI:D->Option (List Int)
 | .tup l=>ints? l
 | _=>none
def valL (kvs:List (List Int × D)) (k:List Int):Option D:=(kvs.find? λ kv=>decide (kv.1=k)).map (·.2)
def putL (kvs:List (List Int × D)) (k:List Int) (y:D):List (List Int × D):=if (kvs.any λ kv=>decide (kv.1=k))=true then kvs.map (λ kv=>if kv.1=k then (kv.1,y) else kv) else kvs ++ [(k,y)]
def dnl3:TE3:=λ _ μ Q=>∀ p,μ p=none->Q (.ref p) (updM μ p (.dcl []))
def dgR:R3:=λ x y μ Q=>match x,keyI y with
 | .ref p,some k=>match μ p with
  | some (.dcl kvs)=>match valL kvs k with
   | some v=>Q v μ
   | none=>False
  | _=>False
 | _,_=>False
def dinR (neg:Bool):R3:=λ y x μ Q=>match x,keyI y with
 | .ref p,some k=>match μ p with
  | some (.dcl kvs)=>Q (.bl (if neg then !(valL kvs k).isSome else (valL kvs k).isSome)) μ
  | _=>False
 | _,_=>False
def sj3 (to ti tv:TE3):TS3:=λ D' ρ μ=>tv ρ μ λ v μ1=>to ρ μ1 λ x μ2=>ti ρ μ2 λ y μ3=>match x,keyI y with
 | .ref p,some k=>match μ3 p with
  | some (.dcl kvs)=>kvs.length < 1000 /\ D'.nx ρ (updM μ3 p (.dcl (putL kvs k v)))
  | _=>False
 | _,_=>False
theorem RelM.newC {K:Fg} {μ:Mu} {H:Hp} {p:Addr} (h:H p=none) (m:RelM K μ H):RelM K (updM μ p (.dcl [])) (upd H p (.dT [])):=by
 have m':=m.newT (o:=.dT []) h
 refine ⟨λ q ys e=>?_,λ q c fs e=>?_,λ q kvs e=>?_,λ q kvs e=>?_⟩
 ·by_cases z:q=p
  ·subst z; rw [ta0] at e; cases e
  ·rw [ub0 z] at e; exact m'.lst q ys e
 ·by_cases z:q=p
  ·subst z; rw [ta0] at e; cases e
  ·rw [ub0 z] at e; exact m'.ins q c fs e
 ·by_cases z:q=p
  ·subst z; rw [ta0] at e; cases e
  ·rw [ub0 z] at e; exact m'.dct q kvs e
 ·by_cases z:q=p
  ·subst z; rw [ta0] at e; cases e; exact ⟨[],yf0,.nil⟩
  ·rw [ub0 z] at e; exact m'.dcl q kvs e
theorem RelM.wrC {K:Fg} {μ:Mu} {H:Hp} {p:Addr} {kvs:List (List Int × D)} {vs ws:List (List Key × V)} (h:H p=some (.dT ws)) (r:RelKl K H kvs vs) (m:RelM K μ H):RelM K (updM μ p (.dcl kvs)) (upd H p (.dT vs)):=by
 refine ⟨λ q ys e=>?_,λ q c fs e=>?_,λ q ks e=>?_,λ q ks e=>?_⟩
 ·by_cases z:q=p
  ·subst z; rw [ta0] at e; cases e
  ·rw [ub0 z] at e
   obtain ⟨us,q1,r1⟩:=m.lst q ys e
   exact ⟨us,by rw [tc0 z]; exact q1,r1.mono (Kp.wrD h)⟩
 ·by_cases z:q=p
  ·subst z; rw [ta0] at e; cases e
  ·rw [ub0 z] at e
   obtain ⟨C,dx,us,n,q1,q2,r1⟩:=m.ins q c fs e
   refine ⟨C,dx,us,n,by rw [tc0 z]; exact q1,?_,r1.mono (Kp.wrD h)⟩
   rw [tc0]
   ·exact q2
   ·intro y; subst y; rw [h] at q2; cases q2
 ·by_cases z:q=p
  ·subst z; rw [ta0] at e; cases e
  ·rw [ub0 z] at e
   obtain ⟨us,q1,r1⟩:=m.dct q ks e
   exact ⟨us,by rw [tc0 z]; exact q1,r1.mono (Kp.wrD h)⟩
 ·by_cases z:q=p
  ·subst z; rw [ta0] at e; cases e; exact ⟨vs,yf0,r.mono (Kp.wrD h)⟩
  ·rw [ub0 z] at e
   obtain ⟨us,q1,r1⟩:=m.dcl q ks e
   exact ⟨us,by rw [tc0 z]; exact q1,r1.mono (Kp.wrD h)⟩
theorem zm1:∀ {a b:List Int},kL a=kL b->a=b
 | [],[],_=>rfl
 | [],_ :: _,h=>by cases h
 | _ :: _,[],h=>by cases h
 | x :: a,y :: b,h=>by
  have h':(Sum.inl x:Key) :: kL a=Sum.inl y :: kL b:=h
  injection h' with h1 h2
  cases h1
  rw [zm1 h2]
theorem RelKl.len {K:Fg} {H:Hp} {l:List (List Int × D)} {vs:List (List Key × V)} (r:RelKl K H l vs):l.length=vs.length:=by
 induction r with
 | nil=>rfl
 | cons _ _ ih=>rw [length_cons,length_cons,ih]
theorem RelKl.any {K:Fg} {H:Hp} {t:List Int} {l:List (List Int × D)} {vs:List (List Key × V)} (r:RelKl K H l vs):(vs.any λ kv=>decide (kv.1=kL t))=l.any λ kv=>decide (kv.1=t):=by
 induction r with
 | nil=>rfl
 | cons _ _ ih =>
  rw [any_cons,any_cons,ih]
  congr 1
  rw [decide_eq_decide]
  exact ⟨zm1,λ h=>congrArg kL h⟩
theorem RelKl.val {K:Fg} {H:Hp} {t:List Int} {l:List (List Int × D)} {vs:List (List Key × V)} (r:RelKl K H l vs):(valL l t=none /\ valV vs (kL t)=none) \/ ∃ d v,valL l t=some d /\ valV vs (kL t)=some v /\ RelD K H d v:=by
 induction r with
 | nil=>exact .inl ⟨rfl,rfl⟩
 | cons h _ ih =>
  rename_i t' d' v' l' vs' _
  by_cases c:t'=t
  ·subst c
   exact .inr ⟨d',v',by simp [valL],so0 rfl,h⟩
  ·have e1:valL ((t',d') :: l') t=valL l' t:=by simp [valL,c]
   rw [e1,xp0 (p:=(kL t',v')) (λ z=>c (zm1 z))]
   exact ih
theorem RelKl.rep {K:Fg} {H:Hp} {t:List Int} {y:D} {v:V} (ry:RelD K H y v) {l:List (List Int × D)} {vs:List (List Key × V)} (r:RelKl K H l vs):RelKl K H (l.map λ kv=>if kv.1=t then (kv.1,y) else kv) (vs.map λ kv=>if kv.1=kL t then (kv.1,v) else kv):=by
 induction r with
 | nil=>exact .nil
 | cons h _ ih =>
  rename_i t' d' v' l' vs' _
  rw [map_cons,map_cons]
  by_cases c:t'=t
  ·rw [if_pos c,if_pos (by rw [c])]; exact .cons ry ih
  ·rw [if_neg c,if_neg (λ z=>c (zm1 z))]; exact .cons h ih
theorem RelKl.snoc {K:Fg} {H:Hp} {t:List Int} {y:D} {v:V} (ry:RelD K H y v) {l:List (List Int × D)} {vs:List (List Key × V)} (r:RelKl K H l vs):RelKl K H (l ++ [(t,y)]) (vs ++ [(kL t,v)]):=by
 induction r with
 | nil=>exact .cons ry .nil
 | cons h _ ih=>exact .cons h ih
theorem RelKl.put {K:Fg} {H:Hp} {t:List Int} {y:D} {v:V} (ry:RelD K H y v) {l:List (List Int × D)} {vs:List (List Key × V)} (r:RelKl K H l vs):RelKl K H (putL l t y) (putK vs (kL t) v):=by
 unfold putL putK
 rw [r.any]
 split
 ·exact r.rep ry
 ·exact r.snoc ry
theorem vm1 {K:Fg} {H:Hp}:∀ {l:List D} {vs:List V} {k:List Int},RelDs K H l vs->ints? l=some k->vs=(kL k).map kV
 | _,_,k,.nil,e=>by simp [ints?] at e; subst e; rfl
 | _,_,k,.cons h r,e=>by
  cases h with
  | int x =>
   simp only [ints?] at e
   split at e
   ·next ys e1 =>
    simp only [Option.some.injEq] at e
    subst e
    rw [vm1 r e1]; rfl
   ·cases e
  | _=>simp [ints?] at e
theorem sy0 {K:Fg} {H:Hp} {y:D} {v:V} {k:List Int} (r:RelD K H y v) (e:keyI y=some k):∃ b,v=.ref b /\ H b=some (.tup ((kL k).map kV)):=by
 cases r with
 | tup hq rs=>exact ⟨_,rfl,by rw [<- vm1 rs e]; exact hq⟩
 | _=>simp [keyI] at e
section
variable {X:Cx} {pos pos':Pos}
theorem vb4:RE X (.Dict [] [] pos) dnl3:=⟨_,vn2,λ σ H Q ρ μ Q3 s m h k p hp=>k _ _ _ _ (h p (m.free hp)) (Kp.new hp) (.ref p) (m.newC hp)⟩
theorem zu4 {o i:Expr} {to ti:TE3} (hu:X.A.units + 64 < cLine) (ho:RE X o to) (hi:RE X i ti) (hs:NoSl i:=by intro _ _; rfl):RE X (.Subscript o i pos) (o3 dgR to ti):=by
 obtain ⟨vo,po,ro⟩:=ho
 obtain ⟨vi,pi,ri⟩:=hi
 refine ⟨_,xg3 (by omega) po pi hs,λ σ H Q ρ μ Q3 s m h k=>ro σ H _ ρ μ _ s m h λ x μ1 a H1 h1 k1 r1 m1=>ri σ H1 _ ρ μ1 _ (s.mono k1) m1 h1 λ y μ2 b H2 h2 k2 r2 m2=>?_⟩
 unfold dgR at h2
 split at h2
 ·next p kk ek =>
  split at h2
  ·next kvs e =>
   split at h2
   ·next v ev =>
    cases r1
    obtain ⟨ws,hw,rk⟩:=m2.dcl p kvs e
    obtain ⟨b',rfl,hb⟩:=sy0 r2 ek
    rcases rk.val (t:=kk) with ⟨z,_⟩ | ⟨d,w,z1,z2,rd⟩
    ·rw [ev] at z; cases z
    ·rw [ev] at z1
     cases z1
     have g:=DGet.t (k:=kL kk) hw hb
     rw [z2] at g
     exact ⟨p,w,rfl,g,k _ _ _ _ h2 (k1.trans k2) rd m2⟩
   ·exact h2.elim
  ·exact h2.elim
 ·exact h2.elim
theorem zw4 (neg:Bool) (hu:X.A.units + 64 < cLine):RO X (compareOp (if neg then .NotIn else .In)) (dinR neg):=by
 refine ⟨λ y x H Q=>∃ a o,x=.ref a /\ DGet H a y o /\ Q (.bl (if neg then !o.isSome else o.isSome)) H,?_,λ y x b a H Q μ Q3 m ry rx h k=>?_⟩
 ·intro pins s σ H y x u v Q I ry rx h
  obtain ⟨a,o,rfl,g,q⟩:=h
  cases rx
  cases neg with
  | true=>exact xk3 (by omega) I g ry λ s' I'=>⟨.bl (!o.isSome),H,I',rfl,q⟩
  | false=>exact d_in (by omega) I g ry λ s' I'=>⟨.bl o.isSome,H,I',rfl,q⟩
 ·unfold dinR at h
  split at h
  ·next p kk ek =>
   split at h
   ·next kvs e =>
    cases rx
    obtain ⟨ws,hw,rk⟩:=m.dcl p kvs e
    obtain ⟨b',rfl,hb⟩:=sy0 ry ek
    refine ⟨p,_,rfl,DGet.t (k:=kL kk) hw hb,?_⟩
    have es:(valV ws (kL kk)).isSome=(valL kvs kk).isSome:=by
     rcases rk.val (t:=kk) with ⟨z1,z2⟩ | ⟨d,w,z1,z2,_⟩ <;> rw [z1,z2] <;> rfl
    rw [es]
    exact k _ _ _ _ h (Kp.refl _) (.bl _) m
   ·exact h.elim
  ·exact h.elim
theorem tg4 (hu:X.A.units + 64 < cLine):RO X (compareOp .In) (dinR false):=zw4 false hu
theorem sc3 {o i value:Expr} {to ti tv:TE3} (hu:X.A.units + 64 < cLine) (ho:RE X o to) (hi:RE X i ti) (hv:RE X value tv) (hs:swapsWith value (some (.Subscript o i pos')) pos.line X.env=pure false:=by rfl) :
    RS X (.Assign [.Subscript o i pos'] value pos) (sj3 to ti tv):=by
 obtain ⟨vo,po,ro⟩:=ho
 obtain ⟨vi,pi,ri⟩:=hi
 obtain ⟨vv,pv,rv⟩:=hv
 refine ⟨_,xf3 (by omega) po pi pv hs,λ σ H D ρ μ D3 s m h k=>rv σ H _ ρ μ _ s m h λ y μ1 v H1 h1 k1 r1 m1=>ro σ H1 _ ρ μ1 _ (s.mono k1) m1 h1 λ d μ2 x H2 h2 k2 r2 m2 =>
  ri σ H2 _ ρ μ2 _ (s.mono (k1.trans k2)) m2 h2 λ kd μ3 b H3 h3 k3 r3 m3=>?_⟩
 split at h3
 ·next p kk ek =>
  split at h3
  ·next kvs e =>
   cases r2
   obtain ⟨ws,hw,rk⟩:=m3.dcl p kvs e
   obtain ⟨b',rfl,hb⟩:=sy0 r3 ek
   have hl:=rk.len
   have hz:(1000:Nat) < sizeLine:=by decide
   refine ⟨p,_,rfl,DPut.t (k:=kL kk) hw hb (by omega),?_⟩
   exact k.nx _ _ _ _ h3.2 (k1.trans (k2.trans (k3.trans (Kp.wrD hw)))) (s.mono (k1.trans (k2.trans (k3.trans (Kp.wrD hw))))) (m3.wrC hw (rk.put (r1.mono (k2.trans k3))))
  ·exact h3.elim
 ·exact h3.elim
end
section
variable {X:Cx}
variable {o e:Expr} {es:List Expr} {to:TE3} {t:TA3} {apos cpos:Pos}
end
section
variable {X:Cx} {tg:Expr}
end
def gdf3 (to:TE3) (t:TA3):TE3:=λ ρ μ Q=>to ρ μ λ x μ1=>match x with
 | .ref p=>match μ1 p with
  | some (.dcl _)=>t ρ μ1 λ ds μ2=>match ds with
   | [y,d]=>match keyI y,μ2 p with
    | some k,some (.dcl kvs)=>(match valL kvs k with
     | some v=>Q v μ2
     | none=>Q d μ2)
    | _,_=>False
   | _=>False
  | _=>False
 | _=>False
def rGd:V->List V->Hp->VK->Prop:=λ x vs H Q=>∃ a kvs k b v,x=.ref a /\ vs=[.ref b,v] /\ H a=some (.dT kvs) /\ H b=some (.tup (k.map kV)) ∧
 (∀ u,valV kvs k=some u->Q u H) /\ (valV kvs k=none->Q v H)
section
variable {X:Cx}
theorem uy4 (hu:X.A.units + 1 < cLine):MtM X "dict.get" rGd:=by
 intro pins s σ H x vs v us Q I rx rv h
 obtain ⟨d,kvs,k,b,v0,rfl,rfl,e,eb,q1,q2⟩:=h
 cases rx
 cases rv with
 | cons r1 r2 =>
 cases r2 with
 | cons r2 r3 =>
 cases r3
 rename_i u1 u2
 cases (show u1=Value.ref b from r1)
 refine to4 hu I (DGet.t e eb) rfl r2 λ w' s' I' rw'=>?_
 cases ev:valV kvs k with
 | none=>exact ⟨v0,H,I',by rw [ev] at rw'; exact rw',q2 ev⟩
 | some w''=>exact ⟨w'',H,I',by rw [ev] at rw'; exact rw',q1 _ ev⟩
variable {o e:Expr} {es:List Expr} {to:TE3} {t:TA3} {apos cpos:Pos}
theorem yu4 (hu:X.A.units + 64 < cLine) (ho:RE X o to) (ha:RA X (e :: es) t) (hbase:attributeBase o "get" X.env (eval o X.env)=eval o X.env:=by rfl)
    (hfew:((backTo cpos (starEach (e :: es) X.env)).all (λ x=>!x.1) && (backToKw cpos (keywordEach [] X.env)).all (λ x=>x.1.isSome)
     && decide ((e :: es).length + ([]:List Keyword).length + (if ([]:List Keyword).isEmpty then 0 else 1) < 30))=true:=by rfl)
    (hline:(apos.endLine == cpos.line)=true:=by rfl) (hs:starEach (e :: es) X.env=(false,eval e X.env) :: starEach es X.env:=by rfl) (hplain:(backTo cpos (starEach es X.env)).any (·.1)=false:=by rfl) :
    RE X (.Call (.Attribute o "get" apos) (e :: es) [] cpos) (gdf3 to t):=by
 obtain ⟨va,pa,ra⟩:=ho
 obtain ⟨vb,pb,rb⟩:=ha
 refine ⟨_,tj4 PySem.F.plainAttrs_dict slot_dict_get PySem.F.type_dict_get (uy4 (by omega)) pa pb hbase hfew hline hs hplain,λ σ H Q ρ μ Q3 s m h k=>ra σ H _ ρ μ _ s m h λ x μ1 v H1 h1 k1 r1 m1=>?_⟩
 split at h1
 ·next p =>
  split at h1
  ·next kvs0 e0 =>
   cases r1
   obtain ⟨ws0,hw0,_⟩:=m1.dcl p kvs0 e0
   refine ⟨.inr (.inr (.inl ⟨rfl,.inr ⟨ws0,hw0⟩⟩)),rb σ H1 _ ρ μ1 _ (s.mono k1) m1 h1 λ ds μ2 vs H2 h2 k2 r2 m2=>?_⟩
   split at h2
   ·next y d =>
    cases r2 with
    | cons ry r2 =>
    cases r2 with
    | cons rd r2 =>
    cases r2
    split at h2
    ·next kk kvs ek e =>
     obtain ⟨ws,hw,rk⟩:=m2.dcl p kvs e
     obtain ⟨b,rfl,hb⟩:=sy0 ry ek
     refine ⟨p,ws,kL kk,b,_,rfl,rfl,hw,hb,λ u eu=>?_,λ eu=>?_⟩
     ·rcases rk.val (t:=kk) with ⟨_,z2⟩ | ⟨d',w',z1,z2,rd'⟩
      ·rw [eu] at z2; cases z2
      ·rw [eu] at z2; cases z2; rw [z1] at h2; exact k _ _ _ _ h2 (k1.trans k2) rd' m2
     ·rcases rk.val (t:=kk) with ⟨z1,_⟩ | ⟨d',w',_,z2,_⟩
      ·rw [z1] at h2; exact k _ _ _ _ h2 (k1.trans k2) rd m2
      ·rw [eu] at z2; cases z2
    ·exact h2.elim
   ·exact h2.elim
  ·exact h1.elim
 ·exact h1.elim
end
end Pv
namespace Mw
abbrev Pen:=Int × Int × Int
def cs (h:Int):Int:=if h=0 then 1 else if h=2 then -1 else 0
def sn (h:Int):Int:=if h=1 then 1 else if h=3 then -1 else 0
def led (p q:Pen):Pen:=(p.1 + q.1 * cs p.2.2 - q.2.1 * sn p.2.2,p.2.1 + q.1 * sn p.2.2 + q.2.1 * cs p.2.2,(p.2.2 + q.2.2) % 4)
def st:Pen:=(0,0,0)
def Hd (p:Pen):Prop:=p.2.2=0 \/ p.2.2=1 \/ p.2.2=2 \/ p.2.2=3
theorem vd1:Hd st:=.inl rfl
theorem sv0 (p q:Pen):Hd (led p q):=by
 unfold Hd led
 have h1:=Int.emod_nonneg (p.2.2 + q.2.2) (show (4:Int) ≠ 0 by decide)
 have h2:=Int.emod_lt_of_pos (p.2.2 + q.2.2) (show (0:Int) < 4 by decide)
 dsimp only
 omega
theorem tm0 {p:Pen} (h:Hd p):led p st=p:=by
 obtain ⟨x,y,k⟩:=p
 unfold Hd at h
 dsimp only at h
 rcases h with rfl | rfl | rfl | rfl <;> simp [led,st,cs,sn]
theorem tt0 {p:Pen} (h:Hd p):led st p=p:=by
 obtain ⟨x,y,k⟩:=p
 unfold Hd at h
 dsimp only at h
 rcases h with rfl | rfl | rfl | rfl <;> simp [led,st,cs,sn]
theorem so4 {a b:Int} (h:a=0 \/ a=1 \/ a=2 \/ a=3) (h':b=0 \/ b=1 \/ b=2 \/ b=3):cs ((a + b) % 4)=cs a * cs b - sn a * sn b:=by
 rcases h with rfl | rfl | rfl | rfl <;> rcases h' with rfl | rfl | rfl | rfl <;> rfl
theorem ss3 {a b:Int} (h:a=0 \/ a=1 \/ a=2 \/ a=3) (h':b=0 \/ b=1 \/ b=2 \/ b=3):sn ((a + b) % 4)=sn a * cs b + cs a * sn b:=by
 rcases h with rfl | rfl | rfl | rfl <;> rcases h' with rfl | rfl | rfl | rfl <;> rfl
theorem tj0 {p q:Pen} (r:Pen) (h:Hd p) (h':Hd q):led (led p q) r=led p (led q r):=by
 have e1:=so4 h h'
 have e2:=ss3 h h'
 have e3:∀ a b c:Int,((a + b) % 4 + c) % 4=(a + (b + c) % 4) % 4:=λ a b c=>by rw [Int.emod_add_emod,Int.add_emod_emod,Int.add_assoc]
 refine Prod.ext ?_ (Prod.ext ?_ (e3 _ _ _))
 ·show p.1 + q.1 * cs p.2.2 - q.2.1 * sn p.2.2 + r.1 * cs ((p.2.2 + q.2.2) % 4) - r.2.1 * sn ((p.2.2 + q.2.2) % 4)=p.1 + (q.1 + r.1 * cs q.2.2 - r.2.1 * sn q.2.2) * cs p.2.2 - (q.2.1 + r.1 * sn q.2.2 + r.2.1 * cs q.2.2) * sn p.2.2
  rw [e1,e2]
  grind
 ·show p.2.1 + q.1 * sn p.2.2 + q.2.1 * cs p.2.2 + r.1 * sn ((p.2.2 + q.2.2) % 4) + r.2.1 * cs ((p.2.2 + q.2.2) % 4)=p.2.1 + (q.1 + r.1 * cs q.2.2 - r.2.1 * sn q.2.2) * sn p.2.2 + (q.2.1 + r.1 * sn q.2.2 + r.2.1 * cs q.2.2) * cs p.2.2
  rw [e1,e2]
  grind
def pw (p:Pen):Nat->Pen
 | 0=>st
 | n + 1=>led (pw p n) p
theorem vt0 (p:Pen):∀ n,Hd (pw p n)
 | 0=>vd1
 | n + 1=>sv0 _ _
theorem vl1 {p:Pen} (h:Hd p) (m:Nat):∀ n,pw p (m + n)=led (pw p m) (pw p n)
 | 0=>(tm0 (vt0 p m)).symm
 | n + 1=>by
  show led (pw p (m + n)) p=led (pw p m) (led (pw p n) p)
  rw [vl1 h m n,tj0 p (vt0 p m) (vt0 p n)]
theorem yh4 {p:Pen} (h:Hd p):pw p 1=p:=tt0 h
theorem wv2 {p:Pen} (h:Hd p) (m:Nat):∀ n,pw p (m * n)=pw (pw p m) n
 | 0=>rfl
 | n + 1=>by
  rw [Nat.mul_succ,vl1 h,wv2 h m n]
  rfl
theorem td3 {p:Pen} (h:Hd p) (h0:p.2.2 ≠ 0):pw p 4=st:=by
 obtain ⟨x,y,k⟩:=p
 unfold Hd at h
 dsimp only at h h0
 rcases h with rfl | rfl | rfl | rfl
 ·exact absurd rfl h0
 all_goals (simp [pw,led,st,cs,sn] <;> omega)
theorem tz1 {p:Pen} (h0:p.2.2=0):∀ n:Nat,pw p n=(p.1 * n,p.2.1 * n,0)
 | 0=>by simp [pw,st]
 | n + 1=>by
  show led (pw p n) p=_
  rw [tz1 h0 n]
  obtain ⟨x,y,k⟩:=p
  dsimp only at h0
  subst h0
  simp [led,cs,sn,Int.mul_add]
def rep (p:Pen) (n:Int):Pen:=if p.2.2=0 then (p.1 * n,p.2.1 * n,0) else pw p (n % 4).toNat
theorem zh4 {p:Pen} (h:Hd p) (h0:p.2.2 ≠ 0) (n:Nat):pw p n=pw p (n % 4):=by
 have e:n=4 * (n / 4) + n % 4:=by omega
 have z:∀ k,pw st k=st:=λ k=>by
  induction k with
  | zero=>rfl
  | succ k ih=>show led (pw st k) st=st; rw [ih]; exact tm0 vd1
 conv=>lhs; rw [e]
 rw [vl1 h,wv2 h,td3 h h0,z,tt0 (vt0 _ _)]
theorem yv2 {p:Pen} (h:Hd p) {n:Int} (hn:0<=n):rep p n=pw p n.toNat:=by
 unfold rep
 by_cases h0:p.2.2=0
 ·rw [if_pos h0,tz1 h0,Int.toNat_of_nonneg hn]
 ·rw [if_neg h0,zh4 h h0 n.toNat]
  congr 1
  omega
theorem vn4 {p:Pen} (h:Hd p) {n:Int} (hn:0<=n):Hd (rep p n):=by rw [yv2 h hn]; exact vt0 _ _
inductive Dd where
 | go (n:Int) | jump (n:Int) | turn (n:Int) | times (n:Int) (w:List Dd)
mutual
def cnt:Dd->Nat
 | .times _ w=>1 + cnts w
 | _=>1
def cnts:List Dd->Nat
 | []=>0
 | d :: r=>cnt d + cnts r
end
mutual
def dep:Dd->Nat
 | .times _ w=>1 + deps w
 | _=>0
def deps:List Dd->Nat
 | []=>0
 | d :: r=>max (dep d) (deps r)
end
def G:Int:=99999999999999999999
mutual
def okd:Dd->Prop
 | .go n=>0<=n /\ n<=G
 | .jump n=>-G<=n /\ n<=G
 | .turn n=>-G<=n /\ n<=G
 | .times n w=>(0<=n /\ n<=G) /\ oks w
def oks:List Dd->Prop
 | []=>True
 | d :: r=>okd d /\ oks r
end
mutual
def sk:Dd->Int
 | .go n=>n
 | .times n w=>n * sks w
 | _=>0
def sks:List Dd->Int
 | []=>0
 | d :: r=>sk d + sks r
end
mutual
def dn:Dd->Int
 | .times n w=>n * dns w
 | _=>1
def dns:List Dd->Int
 | []=>0
 | d :: r=>dn d + dns r
end
mutual
def pd:Dd->Pen
 | .go n=>(n,0,0)
 | .jump n=>(n,0,0)
 | .turn n=>(0,0,n % 4)
 | .times n w=>rep (pb w) n
def pb:List Dd->Pen
 | []=>st
 | d :: r=>led (pd d) (pb r)
end
theorem yj0:∀ a b,deps (a ++ b)=max (deps a) (deps b)
 | [],b=>by simp [deps]
 | d :: r,b=>by simp only [cons_append,deps,yj0 r b,Nat.max_assoc]
theorem tf0:∀ a b,oks (a ++ b) ↔ oks a /\ oks b
 | [],b=>by simp [oks]
 | d :: r,b=>by simp only [cons_append,oks,tf0 r b,and_assoc]
theorem vn0:∀ a b,sks (a ++ b)=sks a + sks b
 | [],b=>by simp [sks]
 | d :: r,b=>by simp only [cons_append,sks,vn0 r b]; omega
theorem ui0:∀ a,a.length<=cnts a
 | []=>Nat.le_refl _
 | d :: r=>by
  have h:=ui0 r
  have h1:1<=cnt d:=by cases d <;> simp only [cnt] <;> omega
  simp only [length_cons,cnts]
  omega
mutual
theorem yz0:∀ d,okd d->Hd (pd d)
 | .go n,_=>.inl rfl
 | .jump n,_=>.inl rfl
 | .turn n,_=>by
  unfold Hd pd
  have h1:=Int.emod_nonneg n (show (4:Int) ≠ 0 by decide)
  have h2:=Int.emod_lt_of_pos n (show (0:Int) < 4 by decide)
  dsimp only
  omega
 | .times n w,h=>by
  simp only [pd]
  simp only [okd] at h
  exact vn4 (ur0 w) h.1.1
theorem ur0:∀ w,Hd (pb w)
 | []=>by simp only [pb]; exact vd1
 | d :: r=>by simp only [pb]; exact sv0 _ _
end
theorem wm0:∀ a b,oks a->pb (a ++ b)=led (pb a) (pb b)
 | [],b,_=>by simp only [nil_append,pb]; exact (tt0 (ur0 b)).symm
 | d :: r,b,h=>by
  simp only [oks] at h
  simp only [cons_append,pb]
  rw [wm0 r b h.2,tj0 _ (yz0 d h.1) (ur0 r)]
theorem sp4:(0:Int) < G:=by decide
theorem wi2 (e:Nat):(0:Int)<=G ^ e:=Int.pow_nonneg (Int.le_of_lt sp4)
theorem xo3 (e:Nat):G ^ e<=G ^ (e + 1):=by
 rw [Int.pow_succ]
 have h:=wi2 e
 have h1:(1:Int)<=G:=by decide
 calc G ^ e=G ^ e * 1:=(Int.mul_one _).symm
  _<=G ^ e * G:=Int.mul_le_mul_of_nonneg_left h1 h
theorem ua1 {a b:Nat} (h:a<=b):G ^ a<=G ^ b:=by
 induction b with
 | zero =>
  have:a=0:=by omega
  subst this; exact Int.le_refl _
 | succ b ih =>
  by_cases hab:a=b + 1
  ·subst hab; exact Int.le_refl _
  ·exact Int.le_trans (ih (by omega)) (xo3 b)
def bd (c e:Nat):Int:=(c:Int) * G ^ (e + 1)
theorem ux2 {c c' e e':Nat}:bd c e + bd c' e'<=bd (c + c') (max e e'):=by
 unfold bd
 have h1:(c:Int) * G ^ (e + 1)<=(c:Int) * G ^ (max e e' + 1):=Int.mul_le_mul_of_nonneg_left (ua1 (by omega)) (by omega)
 have h2:(c':Int) * G ^ (e' + 1)<=(c':Int) * G ^ (max e e' + 1):=Int.mul_le_mul_of_nonneg_left (ua1 (by omega)) (by omega)
 have e3:((c + c':Nat):Int) * G ^ (max e e' + 1)=(c:Int) * G ^ (max e e' + 1) + (c':Int) * G ^ (max e e' + 1):=by
  rw [Int.natCast_add,Int.add_mul]
 omega
theorem yo1 {c e:Nat} {n x:Int} (hn:0<=n) (hn':n<=G) (hx:0<=x) (h:x<=bd c e):n * x<=bd (1 + c) (1 + e):=by
 have h1:n * x<=G * x:=Int.mul_le_mul_of_nonneg_right hn' hx
 have h2:G * x<=G * bd c e:=Int.mul_le_mul_of_nonneg_left h (Int.le_of_lt sp4)
 have h3:G * bd c e=(c:Int) * G ^ (1 + e + 1):=by
  unfold bd
  rw [Int.mul_left_comm,show 1 + e + 1=(e + 1) + 1 by omega,Int.pow_succ G (e + 1),Int.mul_comm G]
 have h4:(c:Int) * G ^ (1 + e + 1)<=((1 + c:Nat):Int) * G ^ (1 + e + 1):=Int.mul_le_mul_of_nonneg_right (by omega) (wi2 _)
 unfold bd
 omega
theorem vs0 {c e:Nat} (h:1<=c):G<=bd c e:=by
 unfold bd
 have h1:(1:Int) * G ^ 1<=(c:Int) * G ^ (e + 1):=Int.le_trans (Int.mul_le_mul_of_nonneg_right (by omega) (wi2 1)) (Int.mul_le_mul_of_nonneg_left (ua1 (by omega)) (by omega))
 have h2:(1:Int) * G ^ 1=G:=by rw [Int.one_mul,Int.pow_succ,Int.pow_zero,Int.one_mul]
 omega
theorem tr2 (c e:Nat):0<=bd c e:=Int.mul_nonneg (by omega) (wi2 _)
mutual
theorem ys4:∀ d,okd d->0<=sk d /\ sk d<=bd (cnt d) (dep d)
 | .go n,h=>by
  simp only [okd] at h
  simp only [sk,cnt,dep]
  have:=vs0 (c:=1) (e:=0) (Nat.le_refl _)
  omega
 | .jump n,h=>by simp only [sk,cnt,dep]; exact ⟨Int.le_refl _,tr2 _ _⟩
 | .turn n,h=>by simp only [sk,cnt,dep]; exact ⟨Int.le_refl _,tr2 _ _⟩
 | .times n w,h=>by
  simp only [okd] at h
  simp only [sk,cnt,dep]
  obtain ⟨a,b⟩:=ux1 w h.2
  exact ⟨Int.mul_nonneg h.1.1 a,yo1 h.1.1 h.1.2 a b⟩
theorem ux1:∀ w,oks w->0<=sks w /\ sks w<=bd (cnts w) (deps w)
 | [],h=>by simp only [sks,cnts,deps]; exact ⟨Int.le_refl _,tr2 _ _⟩
 | d :: r,h=>by
  simp only [oks] at h
  simp only [sks,cnts,deps]
  obtain ⟨a,b⟩:=ys4 d h.1
  obtain ⟨a',b'⟩:=ux1 r h.2
  have:=ux2 (c:=cnt d) (c':=cnts r) (e:=dep d) (e':=deps r)
  omega
end
mutual
theorem tz4:∀ d,okd d->0<=dn d /\ dn d<=bd (cnt d) (dep d)
 | .go n,h=>by
  simp only [dn,cnt,dep]
  have:=vs0 (c:=1) (e:=0) (Nat.le_refl _)
  have h1:(1:Int)<=G:=by decide
  omega
 | .jump n,h=>by
  simp only [dn,cnt,dep]
  have:=vs0 (c:=1) (e:=0) (Nat.le_refl _)
  have h1:(1:Int)<=G:=by decide
  omega
 | .turn n,h=>by
  simp only [dn,cnt,dep]
  have:=vs0 (c:=1) (e:=0) (Nat.le_refl _)
  have h1:(1:Int)<=G:=by decide
  omega
 | .times n w,h=>by
  simp only [okd] at h
  simp only [dn,cnt,dep]
  obtain ⟨a,b⟩:=wn1 w h.2
  exact ⟨Int.mul_nonneg h.1.1 a,yo1 h.1.1 h.1.2 a b⟩
theorem wn1:∀ w,oks w->0<=dns w /\ dns w<=bd (cnts w) (deps w)
 | [],h=>by simp only [dns,cnts,deps]; exact ⟨Int.le_refl _,tr2 _ _⟩
 | d :: r,h=>by
  simp only [oks] at h
  simp only [dns,cnts,deps]
  obtain ⟨a,b⟩:=tz4 d h.1
  obtain ⟨a',b'⟩:=wn1 r h.2
  have:=ux2 (c:=cnt d) (c':=cnts r) (e:=dep d) (e':=deps r)
  omega
end
theorem vk3 {c c' e e':Nat} (hc:c<=c') (he:e<=e'):bd c e<=bd c' e' :=
 Int.le_trans (Int.mul_le_mul_of_nonneg_right (by omega) (wi2 _)) (Int.mul_le_mul_of_nonneg_left (ua1 (by omega)) (by omega))
theorem up4:bd 100 10 < 2 ^ 1000:=by decide +kernel
theorem sq0 {x:Int} {c e:Nat} (h0:0<=x) (h:x<=bd c e) (hc:c<=100) (he:e<=10):x.natAbs < 2 ^ 1000:=by
 have h1:=Int.le_trans h (vk3 hc he)
 have h2:=up4
 have h3:((x.natAbs:Nat):Int) < ((2 ^ 1000:Nat):Int):=by
  rw [Int.natAbs_of_nonneg h0]
  exact Int.lt_of_le_of_lt h1 (by rw [Int.natCast_pow]; exact h2)
 exact Int.ofNat_lt.mp h3
end Mw
namespace Mw
def ab (x:Int):Int:=if x < 0 then -x else x
def pm (p:Pen):Int:=max (ab p.1) (ab p.2.1)
theorem vc1 {p:Pen} {b:Int}:pm p<=b ↔ (-b<=p.1 /\ p.1<=b) /\ (-b<=p.2.1 /\ p.2.1<=b):=by
 unfold pm ab
 split <;> split <;> omega
theorem tw4 (p:Pen):0<=pm p:=by unfold pm ab; split <;> split <;> omega
theorem ya2 {p q:Pen} (h:Hd p) {a b:Int} (ha:pm p<=a) (hb:pm q<=b):pm (led p q)<=a + b:=by
 rw [vc1] at ha hb ⊢
 obtain ⟨x,y,k⟩:=p
 obtain ⟨x',y',k'⟩:=q
 unfold Hd at h
 dsimp only at h ha hb
 rcases h with rfl | rfl | rfl | rfl <;> simp [led,cs,sn] <;> omega
theorem zi4 {p:Pen} {b:Int} (hb:pm p<=b):∀ n:Nat,pm (pw p n)<=n * b
 | 0=>by simp [pw,st,pm,ab]
 | n + 1=>by
  have:=ya2 (vt0 p n) (zi4 hb n) hb
  show pm (led (pw p n) p)<=_
  rw [Int.natCast_add,Int.add_mul]
  omega
theorem yi4 {p:Pen} (h:Hd p) {n b:Int} (hn:0<=n) (hb:pm p<=b):pm (rep p n)<=(n + 3) * b:=by
 have h0:=Int.le_trans (tw4 p) hb
 unfold rep
 split
 ·rw [vc1] at hb ⊢
  dsimp only
  have e:(n + 3) * b=n * b + 3 * b:=Int.add_mul ..
  have a1:p.1 * n<=b * n:=Int.mul_le_mul_of_nonneg_right hb.1.2 hn
  have a2 : -b * n<=p.1 * n:=Int.mul_le_mul_of_nonneg_right hb.1.1 hn
  have a3:p.2.1 * n<=b * n:=Int.mul_le_mul_of_nonneg_right hb.2.2 hn
  have a4 : -b * n<=p.2.1 * n:=Int.mul_le_mul_of_nonneg_right hb.2.1 hn
  have e2:b * n=n * b:=Int.mul_comm ..
  have e3 : -b * n = -(b * n):=Int.neg_mul ..
  omega
 ·have h1:=zi4 hb (n % 4).toNat
  have h2:(((n % 4).toNat:Nat):Int) * b<=(n + 3) * b:=Int.mul_le_mul_of_nonneg_right (by omega) h0
  omega
def G2:Int:=200000000000000000000
def pbd (c e:Nat):Int:=(c:Int) * G2 ^ (e + 1)
theorem vi2 (e:Nat):(0:Int)<=G2 ^ e:=Int.pow_nonneg (by decide)
theorem tt2 {a b:Nat} (h:a<=b):G2 ^ a<=G2 ^ b:=by
 induction b with
 | zero =>
  have:a=0:=by omega
  subst this; exact Int.le_refl _
 | succ b ih =>
  by_cases hab:a=b + 1
  ·subst hab; exact Int.le_refl _
  ·refine Int.le_trans (ih (by omega)) ?_
   rw [Int.pow_succ]
   calc G2 ^ b=G2 ^ b * 1:=(Int.mul_one _).symm
    _<=G2 ^ b * G2:=Int.mul_le_mul_of_nonneg_left (by decide) (vi2 b)
theorem zb2 (c e:Nat):0<=pbd c e:=Int.mul_nonneg (by omega) (vi2 _)
theorem up0 {c c' e e':Nat} (hc:c<=c') (he:e<=e'):pbd c e<=pbd c' e' :=
 Int.le_trans (Int.mul_le_mul_of_nonneg_right (by omega) (vi2 _)) (Int.mul_le_mul_of_nonneg_left (tt2 (by omega)) (by omega))
theorem tg3 {c c' e e':Nat}:pbd c e + pbd c' e'<=pbd (c + c') (max e e'):=by
 have h1:pbd c e<=pbd c (max e e'):=up0 (Nat.le_refl _) (by omega)
 have h2:pbd c' e'<=pbd c' (max e e'):=up0 (Nat.le_refl _) (by omega)
 have e3:pbd (c + c') (max e e')=pbd c (max e e') + pbd c' (max e e'):=by
  unfold pbd
  rw [Int.natCast_add,Int.add_mul]
 omega
theorem yb2:G<=pbd 1 0:=by decide
mutual
theorem uw4:∀ d,okd d->pm (pd d)<=pbd (cnt d) (dep d)
 | .go n,h=>by
  simp only [okd] at h
  simp only [pd,cnt,dep]
  have:=yb2
  rw [vc1]; dsimp only; omega
 | .jump n,h=>by
  simp only [okd] at h
  simp only [pd,cnt,dep]
  have:=yb2
  rw [vc1]; dsimp only; omega
 | .turn n,h=>by
  simp only [pd,cnt,dep]
  have:=zb2 1 0
  rw [vc1]; dsimp only; omega
 | .times n w,h=>by
  simp only [okd] at h
  simp only [pd,cnt,dep]
  have h1:=yi4 (ur0 w) h.1.1 (wf3 w h.2)
  have h2:(n + 3) * pbd (cnts w) (deps w)<=G2 * pbd (cnts w) (deps w):=Int.mul_le_mul_of_nonneg_right (by have:=h.1.2; unfold G at this; unfold G2; omega) (zb2 _ _)
  have h3:G2 * pbd (cnts w) (deps w)=pbd (cnts w) (1 + deps w):=by
   unfold pbd
   rw [Int.mul_left_comm,show 1 + deps w + 1=(deps w + 1) + 1 by omega,Int.pow_succ G2 (deps w + 1),Int.mul_comm G2]
  have h4:pbd (cnts w) (1 + deps w)<=pbd (1 + cnts w) (1 + deps w):=up0 (by omega) (Nat.le_refl _)
  omega
theorem wf3:∀ w,oks w->pm (pb w)<=pbd (cnts w) (deps w)
 | [],h=>by simp only [pb,cnts,deps]; exact Int.le_trans (by decide) (zb2 _ _)
 | d :: r,h=>by
  simp only [oks] at h
  simp only [pb,cnts,deps]
  have:=ya2 (yz0 d h.1) (uw4 d h.1) (wf3 r h.2)
  have:=tg3 (c:=cnt d) (c':=cnts r) (e:=dep d) (e':=deps r)
  omega
end
theorem ug3:pbd 100 8 < 2 ^ 1000:=by decide +kernel
theorem wi4 {p:Pen} {c e:Nat} (h:pm p<=pbd c e) (hc:c<=100) (he:e<=8):p.1.natAbs < 2 ^ 1000 /\ p.2.1.natAbs < 2 ^ 1000:=by
 have h1:=Int.le_trans h (up0 hc he)
 have h2:=ug3
 rw [vc1] at h1
 have key:∀ x:Int,-(pbd 100 8)<=x->x<=pbd 100 8->x.natAbs < 2 ^ 1000:=λ x a b=>by
  have h3:((x.natAbs:Nat):Int) < ((2 ^ 1000:Nat):Int):=by
   have:((x.natAbs:Nat):Int)<=pbd 100 8:=by omega
   exact Int.lt_of_le_of_lt this (by rw [Int.natCast_pow]; exact h2)
  exact Int.ofNat_lt.mp h3
 exact ⟨key _ h1.1.1 h1.1.2,key _ h1.2.1 h1.2.2⟩
end Mw
namespace Pv
open PySem
abbrev sj0:D:=.int 30
abbrev wl0:D:=.int 4
abbrev xg0:D:=.int 99999999999999999999
abbrev zf0:D:=.int 400
abbrev ti0:D:=.ktp [.str "go",.str "jump",.str "turn"]
abbrev se0:D:=.ktp [.str "go",.str "times"]
abbrev ze0:D:=.ktp [.int 0,.int 0,.int 0]
abbrev xk0:D:=.ktp [.ktp [.int 1,.int 0],.ktp [.int 0,.int 1],.ktp [.int (-1),.int 0],.ktp [.int 0,.int (-1)]]
abbrev yd1:D:=.ktp [.int 0,.int 1]
abbrev si0:D:=.int 60
def zt2:List Str:=["word"]
def xa3 (sp_q16:Sp3):TS3 :=
 (drop3 (call3 sp_q16 (cons3 (v3 0) (cons3 (c3 (.int 0)) nil3))))
def yt2:List Str:=["word", "depth", "count", "deed"]
def sz2 (sp_q17:Sp3):TS3 :=
 (seq3 (ifs3 (not3 (b3 (call3 isiR (cons3 (v3 0) (cons3 (c3 (.ty "tuple")) nil3))))) never3 next3) (seq3 (ifs3 (b3 (o3 gtR (v3 1) (c3 wl0))) never3 next3) (seq3 (set3 2 (c3 (.int 0))) (seq3 (for3 (is3 (v3 0)) (gn3 3) (seq3 (set3 2 (o3 addR (v3 2) (call3 sp_q17 (cons3 (v3 3) (cons3 (v3 1) nil3))))) (ifs3 (b3 (o3 gtR (v3 2) (c3 sj0))) never3 next3))) (ret3 (v3 2))))))
def tn3:List Str:=["deed", "depth"]
def tr3 (sp_q12 sp_q16:Sp3):TS3 :=
 (seq3 (ifs3 (not3 (b3 (call3 isiR (cons3 (v3 0) (cons3 (c3 (.ty "tuple")) nil3))))) never3 next3) (seq3 (ifs3 (and3 (b3 (o3 eqR (call3 lenR (cons3 (v3 0) nil3)) (c3 (.int 2)))) (b3 (o3 (inR false) (o3 ixR (v3 0) (c3 (.int 0))) (c3 ti0)))) (seq3 (drop3 (call3 sp_q12 (cons3 (o3 ixR (v3 0) (c3 (.int 0))) (cons3 (o3 ixR (v3 0) (c3 (.int 1))) nil3)))) (ret3 (c3 (.int 1)))) next3) (seq3 (ifs3 (and3 (b3 (o3 eqR (call3 lenR (cons3 (v3 0) nil3)) (c3 (.int 3)))) (b3 (o3 eqR (o3 ixR (v3 0) (c3 (.int 0))) (c3 (.str "times"))))) (seq3 (drop3 (call3 sp_q12 (cons3 (o3 ixR (v3 0) (c3 (.int 0))) (cons3 (o3 ixR (v3 0) (c3 (.int 1))) nil3)))) (ret3 (o3 addR (c3 (.int 1)) (call3 sp_q16 (cons3 (o3 ixR (v3 0) (c3 (.int 2))) (cons3 (o3 addR (v3 1) (c3 (.int 1))) nil3)))))) next3) never3)))
def wt2:List Str:=["kind", "number"]
def ya3:TS3 :=
 (seq3 (ifs3 (not3 (b3 (call3 isiR (cons3 (v3 1) (cons3 (c3 (.ty "int")) nil3))))) never3 next3) (seq3 (ifs3 (b3 (o3 gtR (call3 absR (cons3 (v3 1) nil3)) (c3 xg0))) never3 next3) (ifs3 (and3 (b3 (o3 ltR (v3 1) (c3 (.int 0)))) (b3 (o3 (inR false) (v3 0) (c3 se0)))) never3 next3)))
def zm3:List Str:=["pen", "part", "ahead", "x", "y"]
def wq3:TS3 :=
 (seq3 (set3 2 (o3 ixR (c3 xk0) (o3 ixR (v3 0) (c3 (.int 2))))) (seq3 (set3 3 (o3 subR (o3 addR (o3 ixR (v3 0) (c3 (.int 0))) (o3 mulR (o3 ixR (v3 1) (c3 (.int 0))) (o3 ixR (v3 2) (c3 (.int 0))))) (o3 mulR (o3 ixR (v3 1) (c3 (.int 1))) (o3 ixR (v3 2) (c3 (.int 1)))))) (seq3 (set3 4 (o3 addR (o3 addR (o3 ixR (v3 0) (c3 (.int 1))) (o3 mulR (o3 ixR (v3 1) (c3 (.int 0))) (o3 ixR (v3 2) (c3 (.int 1))))) (o3 mulR (o3 ixR (v3 1) (c3 (.int 1))) (o3 ixR (v3 2) (c3 (.int 0)))))) (ret3 (tup3 (cons3 (v3 3) (cons3 (v3 4) (cons3 (o3 modR (o3 addR (o3 ixR (v3 0) (c3 (.int 2))) (o3 ixR (v3 1) (c3 (.int 2)))) (c3 (.int 4))) nil3))))))))
def xm3:List Str:=["word", "pen", "deed"]
def yq3 (sp_q32 sp_q35:Sp3):TS3 :=
 (seq3 (set3 1 (c3 ze0)) (seq3 (for3 (is3 (v3 0)) (gn3 2) (set3 1 (call3 sp_q32 (cons3 (v3 1) (cons3 (call3 sp_q35 (cons3 (v3 2) nil3)) nil3))))) (ret3 (v3 1))))
def tl3:List Str:=["deed"]
def xq3 (sp_q34 sp_q36:Sp3):TS3 :=
 (seq3 (ifs3 (b3 (o3 eqR (o3 ixR (v3 0) (c3 (.int 0))) (c3 (.str "turn")))) (ret3 (tup3 (cons3 (c3 (.int 0)) (cons3 (c3 (.int 0)) (cons3 (o3 modR (o3 ixR (v3 0) (c3 (.int 1))) (c3 (.int 4))) nil3))))) next3) (seq3 (ifs3 (b3 (o3 eqR (o3 ixR (v3 0) (c3 (.int 0))) (c3 (.str "times")))) (ret3 (call3 sp_q36 (cons3 (call3 sp_q34 (cons3 (o3 ixR (v3 0) (c3 (.int 2))) nil3)) (cons3 (o3 ixR (v3 0) (c3 (.int 1))) nil3)))) next3) (ret3 (tup3 (cons3 (o3 ixR (v3 0) (c3 (.int 1))) (cons3 (c3 (.int 0)) (cons3 (c3 (.int 0)) nil3)))))))
def ul3:List Str:=["part", "number", "pen", "doing"]
def sp3 (sp_q32:Sp3):TS3 :=
 (seq3 (ifs3 (b3 (o3 eqR (o3 ixR (v3 0) (c3 (.int 2))) (c3 (.int 0)))) (ret3 (tup3 (cons3 (o3 mulR (o3 ixR (v3 0) (c3 (.int 0))) (v3 1)) (cons3 (o3 mulR (o3 ixR (v3 0) (c3 (.int 1))) (v3 1)) (cons3 (c3 (.int 0)) nil3))))) next3) (seq3 (set3 2 (c3 ze0)) (seq3 (for3 (ir3 (cons3 (o3 modR (v3 1) (c3 (.int 4))) nil3)) (gn3 3) (set3 2 (call3 sp_q32 (cons3 (v3 2) (cons3 (v3 0) nil3))))) (ret3 (v3 2)))))
def zs2:List Str:=["word"]
def xz2 (sp_q15 sp_q20:Sp3):TS3 :=
 (seq3 (drop3 (call3 sp_q15 (cons3 (v3 0) nil3))) (ret3 (call3 sp_q20 (cons3 (v3 0) nil3))))
def ss2:List Str:=["word"]
def uz2 (sp_q21:Sp3):TS3 :=
 (ret3 (call3 sumR (cons3 (comp3 [none] (is3 (v3 0)) (gn3 0) tt3 (call3 sp_q21 (cons3 (v3 0) nil3))) nil3)))
def wn3:List Str:=["deed"]
def vr3 (sp_q20:Sp3):TS3 :=
 (seq3 (ifs3 (b3 (o3 eqR (o3 ixR (v3 0) (c3 (.int 0))) (c3 (.str "go")))) (ret3 (o3 ixR (v3 0) (c3 (.int 1)))) next3) (seq3 (ifs3 (b3 (o3 eqR (o3 ixR (v3 0) (c3 (.int 0))) (c3 (.str "times")))) (ret3 (o3 mulR (o3 ixR (v3 0) (c3 (.int 1))) (call3 sp_q20 (cons3 (o3 ixR (v3 0) (c3 (.int 2))) nil3)))) next3) (ret3 (c3 (.int 0)))))
def ts2:List Str:=["word"]
def vz2 (sp_q15 sp_q18:Sp3):TS3 :=
 (seq3 (drop3 (call3 sp_q15 (cons3 (v3 0) nil3))) (ret3 (call3 sp_q18 (cons3 (v3 0) nil3))))
def xt2:List Str:=["word"]
def tz2 (sp_q19:Sp3):TS3 :=
 (ret3 (call3 sumR (cons3 (comp3 [none] (is3 (v3 0)) (gn3 0) tt3 (call3 sp_q19 (cons3 (v3 0) nil3))) nil3)))
def vn3:List Str:=["deed"]
def ur3 (sp_q18:Sp3):TS3 :=
 (seq3 (ifs3 (b3 (o3 eqR (o3 ixR (v3 0) (c3 (.int 0))) (c3 (.str "times")))) (ret3 (o3 mulR (o3 ixR (v3 0) (c3 (.int 1))) (call3 sp_q18 (cons3 (o3 ixR (v3 0) (c3 (.int 2))) nil3)))) next3) (ret3 (c3 (.int 1))))
def us2:List Str:=["word"]
def wz2 (sp_q22 sp_q43:Sp3):TS3 :=
 (ret3 (andV3 (o3 leR (call3 sp_q43 (cons3 (v3 0) nil3)) (c3 zf0)) (o3 leR (call3 sp_q22 (cons3 (v3 0) nil3)) (c3 zf0))))
def zi2:List Str:=["stroke"]
def ti2:TS3 :=
 (ifs3 (or3 (b3 (o3 neR (call3 lenR (cons3 (v3 0) nil3)) (c3 (.int 3)))) (b3 (o3 (inR true) (o3 ixR (v3 0) (c3 (.int 2))) (c3 yd1)))) never3 next3)
def vs2:List Str:=["point", "other", "low"]
def zz2:TS3 :=
 (seq3 (set3 2 (call3 mnR (cons3 (v3 0) (cons3 (v3 1) nil3)))) (ret3 (tup3 (cons3 (o3 ixR (v3 2) (c3 (.int 0))) (cons3 (o3 ixR (v3 2) (c3 (.int 1))) (cons3 (if3 (b3 (o3 eqR (o3 ixR (v3 0) (c3 (.int 1))) (o3 ixR (v3 1) (c3 (.int 1))))) (c3 (.int 0)) (c3 (.int 1))) nil3))))))
def ws2:List Str:=["points"]
def yz2 (sp_q41:Sp3):TS3 :=
 (ret3 (comp3 [none,some 0] (ir23 (cons3 (c3 (.int 1)) (cons3 (call3 lenR (cons3 (v3 0) nil3)) nil3))) (gn3 0) tt3 (call3 sp_q41 (cons3 (o3 ixR (v3 1) (o3 subR (v3 0) (c3 (.int 1)))) (cons3 (o3 ixR (v3 1) (v3 0)) nil3)))))
def wl3:List Str:=["strokes"]
def up3:TS3 :=
 (ret3 (call3 tupR (cons3 (uw1 (vw1 (cons3 (v3 0) nil3))) nil3)))
def xl3:List Str:=["pen", "word", "strokes", "here", "deed"]
def zp3 (sp_q32 sp_q35 sp_q39 sp_q45:Sp3):TS3 :=
 (seq3 (set3 2 (lst3 nil3)) (seq3 (set3 3 (v3 0)) (seq3 (for3 (is3 (call3 sp_q39 (cons3 (v3 1) nil3))) (gn3 4) (seq3 (ifs3 (b3 (o3 eqR (o3 ixR (v3 4) (c3 (.int 0))) (c3 (.str "go")))) (drop3 (mt3 extR (v3 2) (cons3 (call3 sp_q45 (cons3 (v3 3) (cons3 (o3 ixR (v3 4) (c3 (.int 1))) nil3))) nil3))) next3) (set3 3 (call3 sp_q32 (cons3 (v3 3) (cons3 (call3 sp_q35 (cons3 (v3 4) nil3)) nil3)))))) (ret3 (v3 2)))))
def zl3:List Str:=["word", "deeds", "deed"]
def vp3 (sp_q19 sp_q39:Sp3):TS3 :=
 (seq3 (set3 1 (lst3 nil3)) (seq3 (for3 (is3 (v3 0)) (gn3 2) (ifs3 (b3 (o3 neR (o3 ixR (v3 2) (c3 (.int 0))) (c3 (.str "times")))) (drop3 (mt3 appR (v3 1) (cons3 (v3 2) nil3))) (ifs3 (b3 (o3 gtR (call3 sp_q19 (cons3 (v3 2) nil3)) (c3 (.int 0)))) (drop3 (mt3 extR (v3 1) (cons3 (o3 mulR (call3 sp_q39 (cons3 (o3 ixR (v3 2) (c3 (.int 2))) nil3)) (o3 ixR (v3 2) (c3 (.int 1)))) nil3))) next3))) (ret3 (v3 1))))
def sk3:List Str:=["pen", "number", "ahead", "points"]
def yp3 (sp_q42:Sp3):TS3 :=
 (seq3 (set3 2 (o3 ixR (c3 xk0) (o3 ixR (v3 0) (c3 (.int 2))))) (seq3 (set3 3 (comp3 [none,some 0,some 2] (ir3 (cons3 (o3 addR (v3 1) (c3 (.int 1))) nil3)) (gn3 0) tt3 (tup3 (cons3 (o3 addR (o3 ixR (v3 1) (c3 (.int 0))) (o3 mulR (o3 ixR (v3 2) (c3 (.int 0))) (v3 0))) (cons3 (o3 addR (o3 ixR (v3 1) (c3 (.int 1))) (o3 mulR (o3 ixR (v3 2) (c3 (.int 1))) (v3 0))) nil3))))) (ret3 (call3 sp_q42 (cons3 (v3 3) nil3)))))
def ym3:List Str:=["stroke", "x", "y"]
def zq3:TS3 :=
 (ret3 (tup3 (cons3 (o3 addR (o3 ixR (v3 0) (c3 (.int 0))) (v3 1)) (cons3 (o3 addR (o3 ixR (v3 0) (c3 (.int 1))) (v3 2)) (cons3 (o3 ixR (v3 0) (c3 (.int 2))) nil3)))))
def sn3:List Str:=["word"]
def sr3 (sp_q28 sp_q40:Sp3):TS3 :=
 (ifs3 (or3 (not3 (b3 (call3 sp_q28 (cons3 (v3 0) nil3)))) (b3 (o3 gtR (call3 sp_q40 (cons3 (v3 0) nil3)) (c3 si0)))) never3 next3)
def yl3:List Str:=["word"]
def wp3 (sp_q39:Sp3):TS3 :=
 (ret3 (call3 sumR (cons3 (comp3 [none] (is3 (call3 sp_q39 (cons3 (v3 0) nil3))) (gn3 0) (b3 (o3 neR (o3 ixR (v3 0) (c3 (.int 0))) (c3 (.str "turn")))) (call3 absR (cons3 (o3 ixR (v3 0) (c3 (.int 1))) nil3))) nil3)))
def xn3:List Str:=["word"]
def yr3 (sp_q13 sp_q23:Sp3):TS3 :=
 (seq3 (drop3 (call3 sp_q13 (cons3 (v3 0) nil3))) (ret3 (call3 sp_q23 (cons3 (v3 0) nil3))))
def zn3:List Str:=["word", "pen"]
def wr3 (sp_q20 sp_q34 sp_q37 sp_q38 sp_q44:Sp3):TS3 :=
 (seq3 (set3 1 (call3 sp_q34 (cons3 (v3 0) nil3))) (seq3 (ifs3 (or3 (b3 (o3 neR (o3 ixR (v3 1) (c3 (.int 2))) (c3 (.int 0)))) (or3 (b3 (o3 eqR (v3 1) (c3 ze0))) (b3 (o3 eqR (call3 sp_q20 (cons3 (v3 0) nil3)) (c3 (.int 0)))))) (ret3 (tup3 (cons3 (call3 sp_q37 (cons3 (v3 0) (cons3 (v3 1) nil3))) (cons3 (c3 .non) nil3)))) next3) (ret3 (tup3 (cons3 (call3 sp_q38 (cons3 (call3 sp_q44 (cons3 (c3 ze0) (cons3 (v3 0) nil3))) nil3)) (cons3 (tup3 (cons3 (o3 ixR (v3 1) (c3 (.int 0))) (cons3 (o3 ixR (v3 1) (c3 (.int 1))) nil3))) nil3))))))
def vl3:List Str:=["word", "part", "strokes", "pen", "doing"]
def tp3 (sp_q32 sp_q38 sp_q44:Sp3):TS3 :=
 (seq3 (set3 2 (lst3 nil3)) (seq3 (set3 3 (c3 ze0)) (seq3 (for3 (ir3 (cons3 (c3 (.int 4)) nil3)) (gn3 4) (seq3 (drop3 (mt3 extR (v3 2) (cons3 (call3 sp_q44 (cons3 (v3 3) (cons3 (v3 0) nil3))) nil3))) (set3 3 (call3 sp_q32 (cons3 (v3 3) (cons3 (v3 1) nil3)))))) (ret3 (call3 sp_q38 (cons3 (v3 2) nil3))))))
def yn3:List Str:=["word", "stroke"]
def zr3 (sp_q13 sp_q14 sp_q26:Sp3):TS3 :=
 (seq3 (drop3 (call3 sp_q13 (cons3 (v3 0) nil3))) (seq3 (drop3 (call3 sp_q14 (cons3 (v3 1) nil3))) (ret3 (call3 sp_q26 (cons3 (v3 0) (cons3 (v3 1) nil3))))))
def sm3:List Str:=["word", "stroke", "ever"]
def xr3 (sp_q23 sp_q27 sp_q30:Sp3):TS3 :=
 (seq3 (set3 2 (call3 sp_q23 (cons3 (v3 0) nil3))) (ret3 (call3 sp_q27 (cons3 (call3 sp_q30 (cons3 (v3 2) nil3)) (cons3 (o3 ixR (v3 2) (c3 (.int 1))) (cons3 (v3 1) nil3))))))
def um3:List Str:=["stroke", "shift", "number"]
def tq3 (sp_q33:Sp3):TS3 :=
 (seq3 (ifs3 (b3 (o3 (isNR false) (v3 1) (c3 .non))) (ret3 (tup3 (cons3 (v3 0) (cons3 (c3 (.int 0)) nil3)))) next3) (seq3 (set3 2 (if3 (b3 (o3 neR (o3 ixR (v3 1) (c3 (.int 0))) (c3 (.int 0)))) (o3 fdvR (o3 ixR (v3 0) (c3 (.int 0))) (o3 ixR (v3 1) (c3 (.int 0)))) (o3 fdvR (o3 ixR (v3 0) (c3 (.int 1))) (o3 ixR (v3 1) (c3 (.int 1)))))) (ret3 (tup3 (cons3 (call3 sp_q33 (cons3 (v3 0) (cons3 (o3 mulR (un3 negR (v3 2)) (o3 ixR (v3 1) (c3 (.int 0)))) (cons3 (o3 mulR (un3 negR (v3 2)) (o3 ixR (v3 1) (c3 (.int 1)))) nil3)))) (cons3 (v3 2) nil3))))))
def vm3:List Str:=["ever", "lanes", "stroke", "place"]
def uq3 (sp_q29:Sp3):TS3 :=
 (seq3 (set3 1 dnl3) (seq3 (for3 (is3 (o3 ixR (v3 0) (c3 (.int 0)))) (gn3 2) (seq3 (set3 3 (call3 sp_q29 (cons3 (v3 2) (cons3 (o3 ixR (v3 0) (c3 (.int 1))) nil3)))) (sj3 (v3 1) (o3 ixR (v3 3) (c3 (.int 0))) (call3 wo2 (cons3 (o3 ixR (v3 3) (c3 (.int 1))) (cons3 (gdf3 (v3 1) (cons3 (o3 ixR (v3 3) (c3 (.int 0))) (cons3 (o3 ixR (v3 3) (c3 (.int 1))) nil3))) nil3)))))) (ret3 (v3 1))))
def tm3:List Str:=["lanes", "shift", "stroke", "place"]
def sq3 (sp_q29:Sp3):TS3 :=
 (seq3 (set3 3 (call3 sp_q29 (cons3 (v3 2) (cons3 (v3 1) nil3)))) (ret3 (andV3 (o3 (dinR false) (o3 ixR (v3 3) (c3 (.int 0))) (v3 0)) (o3 leR (o3 dgR (v3 0) (o3 ixR (v3 3) (c3 (.int 0)))) (o3 ixR (v3 3) (c3 (.int 1)))))))
def N_q9:List Str:=["script", "k", "cell"]
def t_q9:TS3 :=
 (seq3 (set3 2 (c3 (.int 0))) (seq3 (ifs3 (b3 (o3 ltR (v3 1) (call3 lenR (cons3 (v3 0) nil3)))) (set3 2 (o3 ixR (v3 0) (v3 1))) next3) (seq3 (ifs3 (b3 (o3 geR (v3 2) (o3 powR (c3 (.int 10)) (c3 (.int 18))))) (ret3 (lst3 (cons3 (o3 subR (v3 2) (o3 powR (c3 (.int 10)) (c3 (.int 18)))) (cons3 (c3 (.int 1)) nil3)))) next3) (ret3 (lst3 (cons3 (o3 modR (o3 addR (v3 2) (o3 mulR (c3 (.int 7919)) (v3 1))) (c3 (.int 2147483647))) (cons3 (c3 (.int 0)) nil3)))))))
def ut2:List Str:=["state", "many", "found", "mixed"]
def wa3:TS3 :=
 (seq3 (ifs3 (and3 (b3 (o3 eqR (o3 ixR (v3 0) (c3 (.int 1))) (c3 (.int 1)))) (b3 (o3 gtR (o3 ixR (v3 0) (c3 (.int 0))) (c3 (.int 0))))) (seq3 (set3 2 (o3 modR (o3 ixR (v3 0) (c3 (.int 0))) (v3 1))) (seq3 (asg3 (o3 fdivR (o3 ixR (v3 0) (c3 (.int 0))) (v3 1)) (sub3 (v3 0) (c3 (.int 0)))) (ret3 (v3 2)))) next3) (seq3 (asg3 (c3 (.int 0)) (sub3 (v3 0) (c3 (.int 1)))) (seq3 (asg3 (o3 modR (o3 addR (o3 mulR (o3 ixR (v3 0) (c3 (.int 0))) (c3 (.int 48271))) (c3 (.int 69621))) (c3 (.int 2147483647))) (sub3 (v3 0) (c3 (.int 0)))) (seq3 (set3 3 (o3 modR (o3 addR (o3 mulR (o3 ixR (v3 0) (c3 (.int 0))) (o3 ixR (v3 0) (c3 (.int 0)))) (o3 mulR (c3 (.int 16807)) (o3 ixR (v3 0) (c3 (.int 0))))) (c3 (.int 2147483629)))) (seq3 (set3 3 (o3 modR (o3 addR (o3 mulR (v3 3) (v3 3)) (o3 mulR (c3 (.int 39373)) (v3 3))) (c3 (.int 2147483587)))) (ret3 (o3 modR (o3 fdivR (v3 3) (c3 (.int 8))) (v3 1))))))))
def vt2:List Str:=["found"]
def za3:TS3 :=
 (ret3 (andV3 (call3 isiR (cons3 (v3 0) (cons3 (c3 (.ty "int")) nil3))) (notV3 (call3 isiR (cons3 (v3 0) (cons3 (c3 (.ty "bool")) nil3))))))
def N_q0:List Str:=["state", "deep", "kind"]
def t_q0 (sp_q1 sp_q10:Sp3):TS3 :=
 (seq3 (set3 2 (call3 sp_q10 (cons3 (v3 0) (cons3 (o3 addR (c3 (.int 4)) (call3 intR (cons3 (o3 gtR (v3 1) (c3 (.int 0))) nil3))) nil3)))) (seq3 (ifs3 (b3 (o3 eqR (v3 2) (c3 (.int 0)))) (ret3 (tup3 (cons3 (c3 (.str "turn")) (cons3 (o3 subR (call3 sp_q10 (cons3 (v3 0) (cons3 (c3 (.int 9)) nil3))) (c3 (.int 4))) nil3)))) next3) (seq3 (ifs3 (b3 (o3 eqR (v3 2) (c3 (.int 1)))) (ret3 (tup3 (cons3 (c3 (.str "jump")) (cons3 (o3 subR (call3 sp_q10 (cons3 (v3 0) (cons3 (c3 (.int 5)) nil3))) (c3 (.int 2))) nil3)))) next3) (seq3 (ifs3 (b3 (o3 ltR (v3 2) (c3 (.int 4)))) (ret3 (tup3 (cons3 (c3 (.str "go")) (cons3 (call3 sp_q10 (cons3 (v3 0) (cons3 (c3 (.int 3)) nil3))) nil3)))) next3) (ret3 (tup3 (cons3 (c3 (.str "times")) (cons3 (call3 sp_q10 (cons3 (v3 0) (cons3 (c3 (.int 4)) nil3))) (cons3 (call3 sp_q1 (cons3 (v3 0) (cons3 (o3 subR (v3 1) (c3 (.int 1))) (cons3 (call3 sp_q10 (cons3 (v3 0) (cons3 (c3 (.int 3)) nil3))) nil3)))) nil3)))))))))
def N_q1:List Str:=["state", "deep", "many"]
def t_q1 (sp_q0:Sp3):TS3 :=
 (ret3 (call3 tupR (cons3 (comp3 [none,some 0,some 1] (ir3 (cons3 (v3 2) nil3)) (gn3 0) tt3 (call3 sp_q0 (cons3 (v3 1) (cons3 (v3 2) nil3)))) nil3)))
def N_q6:List Str:=["deeds", "found", "deed", "k"]
def t_q6 (sp_q6:Sp3):TS3 :=
 (seq3 (set3 1 (lst3 nil3)) (seq3 (for3 (is3 (v3 0)) (gn3 2) (ifs3 (b3 (o3 eqR (o3 ixR (v3 2) (c3 (.int 0))) (c3 (.str "times")))) (for3 (ir3 (cons3 (o3 ixR (v3 2) (c3 (.int 1))) nil3)) (gn3 3) (drop3 (mt3 extR (v3 1) (cons3 (call3 sp_q6 (cons3 (o3 ixR (v3 2) (c3 (.int 2))) nil3)) nil3)))) (drop3 (mt3 appR (v3 1) (cons3 (v3 2) nil3))))) (ret3 (v3 1))))
def N_q7:List Str:=["deeds", "pen", "x", "y", "heading", "drawn", "kind", "number", "ahead", "k"]
def t_q7 (sp_q6:Sp3):TS3 :=
 (seq3 (asg3 (v3 1) (gtup3 3 (gcons3 (gn3 2) (gcons3 (gn3 3) (gcons3 (gn3 4) gnil3))))) (seq3 (set3 5 (lst3 nil3)) (seq3 (for3 (is3 (call3 sp_q6 (cons3 (v3 0) nil3))) (gtup3 2 (gcons3 (gn3 6) (gcons3 (gn3 7) gnil3))) (seq3 (set3 8 (o3 ixR (lst3 (cons3 (tup3 (cons3 (c3 (.int 1)) (cons3 (c3 (.int 0)) nil3))) (cons3 (tup3 (cons3 (c3 (.int 0)) (cons3 (c3 (.int 1)) nil3))) (cons3 (tup3 (cons3 (un3 negR (c3 (.int 1))) (cons3 (c3 (.int 0)) nil3))) (cons3 (tup3 (cons3 (c3 (.int 0)) (cons3 (un3 negR (c3 (.int 1))) nil3))) nil3))))) (v3 4))) (ifs3 (b3 (o3 eqR (v3 6) (c3 (.str "turn")))) (set3 4 (o3 modR (o3 addR (v3 4) (v3 7)) (c3 (.int 4)))) (ifs3 (b3 (o3 eqR (v3 6) (c3 (.str "jump")))) (seq3 (set3 2 (o3 addR (v3 2) (o3 mulR (v3 7) (o3 ixR (v3 8) (c3 (.int 0)))))) (set3 3 (o3 addR (v3 3) (o3 mulR (v3 7) (o3 ixR (v3 8) (c3 (.int 1))))))) (for3 (ir3 (cons3 (v3 7) nil3)) (gn3 9) (seq3 (drop3 (mt3 appR (v3 5) (cons3 (tup3 (cons3 (o3 addR (v3 2) (call3 mnR (cons3 (c3 (.int 0)) (cons3 (o3 ixR (v3 8) (c3 (.int 0))) nil3)))) (cons3 (o3 addR (v3 3) (call3 mnR (cons3 (c3 (.int 0)) (cons3 (o3 ixR (v3 8) (c3 (.int 1))) nil3)))) (cons3 (o3 modR (v3 4) (c3 (.int 2))) nil3)))) nil3))) (seq3 (set3 2 (o3 addR (v3 2) (o3 ixR (v3 8) (c3 (.int 0))))) (set3 3 (o3 addR (v3 3) (o3 ixR (v3 8) (c3 (.int 1)))))))))))) (ret3 (tup3 (cons3 (v3 5) (cons3 (tup3 (cons3 (v3 2) (cons3 (v3 3) (cons3 (v3 4) nil3)))) nil3)))))))
def N_q8:List Str:=["state", "most", "deeds"]
def t_q8 (sp_q1 sp_q3 sp_q10:Sp3):TS3 :=
 (seq3 (set3 2 (call3 sp_q1 (cons3 (v3 0) (cons3 (c3 (.int 1)) (cons3 (o3 addR (c3 (.int 1)) (call3 sp_q10 (cons3 (v3 0) (cons3 (c3 (.int 3)) nil3)))) nil3))))) (seq3 (zu2 (b3 (o3 gtR (call3 sp_q3 (cons3 (v3 2) nil3)) (v3 1))) (set3 2 (sl3 slR (v3 2) np3 (pt3 (un3 negR (c3 (.int 1))))))) (ret3 (v3 2))))
def N_q3:List Str:=["deeds"]
def t_q3 (sp_q6:Sp3):TS3 :=
 (ret3 (call3 sumR (cons3 (comp3 [none,none] (is3 (call3 sp_q6 (cons3 (v3 0) nil3))) (gtup3 2 (gcons3 (gn3 0) (gcons3 (gn3 1) gnil3))) (b3 (o3 neR (v3 0) (c3 (.str "turn")))) (call3 absR (cons3 (v3 1) nil3))) nil3)))
def N_q2:List Str:=["deeds", "once", "pen"]
def t_q2 (sp_q7:Sp3):TS3 :=
 (seq3 (asg3 (call3 sp_q7 (cons3 (v3 0) (cons3 (tup3 (cons3 (c3 (.int 0)) (cons3 (c3 (.int 0)) (cons3 (c3 (.int 0)) nil3)))) nil3))) (gtup3 2 (gcons3 (gn3 1) (gcons3 (gn3 2) gnil3)))) (seq3 (ifs3 (and3 (b3 (o3 eqR (o3 ixR (v3 2) (c3 (.int 2))) (c3 (.int 0)))) (and3 (b3 (o3 neR (v3 2) (tup3 (cons3 (c3 (.int 0)) (cons3 (c3 (.int 0)) (cons3 (c3 (.int 0)) nil3)))))) (b3 (o3 neR (v3 1) (lst3 nil3))))) (ret3 (tup3 (cons3 (call3 tupR (cons3 (uw1 (vw1 (cons3 (v3 1) nil3))) nil3)) (cons3 (sl3 slR (v3 2) np3 (pt3 (c3 (.int 2)))) nil3)))) next3) (ret3 (tup3 (cons3 (call3 tupR (cons3 (uw1 (vw1 (cons3 (o3 ixR (call3 sp_q7 (cons3 (o3 mulR (v3 0) (c3 (.int 4))) (cons3 (tup3 (cons3 (c3 (.int 0)) (cons3 (c3 (.int 0)) (cons3 (c3 (.int 0)) nil3)))) nil3))) (c3 (.int 0))) nil3))) nil3)) (cons3 (c3 .non) nil3))))))
def N_q4:List Str:=["told", "line", "strokes", "shift", "x", "y", "kind", "across", "along", "step", "length"]
def t_q4:TS3 :=
 (seq3 (asg3 (v3 0) (gtup3 2 (gcons3 (gn3 2) (gcons3 (gn3 3) gnil3)))) (seq3 (ifs3 (b3 (o3 (isNR false) (v3 3) (c3 .non))) (ret3 (o3 (inR false) (v3 1) (v3 2))) next3) (seq3 (for3 (is3 (v3 2)) (gtup3 3 (gcons3 (gn3 4) (gcons3 (gn3 5) (gcons3 (gn3 6) gnil3)))) (seq3 (set3 7 (o3 subR (o3 ixR (v3 1) (c3 (.int 0))) (v3 4))) (seq3 (set3 8 (o3 subR (o3 ixR (v3 1) (c3 (.int 1))) (v3 5))) (ifs3 (and3 (b3 (o3 eqR (v3 6) (o3 ixR (v3 1) (c3 (.int 2))))) (b3 (o3 eqR (o3 mulR (v3 7) (o3 ixR (v3 3) (c3 (.int 1)))) (o3 mulR (v3 8) (o3 ixR (v3 3) (c3 (.int 0))))))) (seq3 (set3 9 (o3 ixR (v3 3) (call3 intR (cons3 (o3 eqR (o3 ixR (v3 3) (c3 (.int 0))) (c3 (.int 0))) nil3)))) (seq3 (set3 10 (o3 ixR (lst3 (cons3 (v3 7) (cons3 (v3 8) nil3))) (call3 intR (cons3 (o3 eqR (o3 ixR (v3 3) (c3 (.int 0))) (c3 (.int 0))) nil3)))) (ifs3 (and3 (b3 (o3 eqR (o3 modR (v3 10) (call3 absR (cons3 (v3 9) nil3))) (c3 (.int 0)))) (b3 (o3 geR (o3 mulR (v3 10) (v3 9)) (c3 (.int 0))))) (ret3 (c3 (.bl true))) next3))) next3)))) (ret3 (c3 (.bl false))))))
def N_q5:List Str:=["found", "due", "line"]
def t_q5 (sp_q11:Sp3):TS3 :=
 (seq3 (ifs3 (or3 (not3 (b3 (call3 isiR (cons3 (v3 0) (cons3 (c3 (.ty "tuple")) nil3))))) (or3 (b3 (o3 neR (v3 0) (v3 1))) (not3 (b3 (call3 isiR (cons3 (o3 ixR (v3 0) (c3 (.int 0))) (cons3 (c3 (.ty "tuple")) nil3))))))) (ret3 (c3 (.bl false))) next3) (seq3 (for3 (is3 (o3 ixR (v3 0) (c3 (.int 0)))) (gn3 2) (ifs3 (or3 (not3 (b3 (call3 isiR (cons3 (v3 2) (cons3 (c3 (.ty "tuple")) nil3))))) (not3 (b3 (call3 allR (cons3 (comp3 [none] (is3 (v3 2)) (gn3 0) tt3 (call3 sp_q11 (cons3 (v3 0) nil3))) nil3))))) (ret3 (c3 (.bl false))) next3)) (ret3 (orV3 (o3 (isNR false) (o3 ixR (v3 0) (c3 (.int 1))) (c3 .non)) (andV3 (call3 isiR (cons3 (o3 ixR (v3 0) (c3 (.int 1))) (cons3 (c3 (.ty "tuple")) nil3))) (call3 allR (cons3 (comp3 [none] (is3 (o3 ixR (v3 0) (c3 (.int 1)))) (gn3 0) tt3 (call3 sp_q11 (cons3 (v3 0) nil3))) nil3)))))))
def wm3:List Str:=["script", "state", "deeds", "due", "k", "turn", "line", "found"]
def si2 (sp_q2 sp_q4 sp_q5 sp_q8 sp_q9 sp_q10 sp_q24 sp_q25:Sp3):TS3 :=
 (ret3 (c3 (.bl true)))
def xj2 (sp_q2 sp_q4 sp_q5 sp_q8 sp_q9 sp_q10 sp_q24 sp_q25:Sp3):TS3 :=
 (seq3 (for3 (ir3 (cons3 (c3 (.int 4)) nil3)) (gn3 4) (seq3 (set3 5 (o3 ixR (lst3 (cons3 (o3 subR (call3 sp_q10 (cons3 (v3 1) (cons3 (c3 (.int 9)) nil3))) (c3 (.int 1))) (cons3 (call3 sp_q10 (cons3 (v3 1) (cons3 (o3 ixR (lst3 (cons3 (o3 powR (c3 (.int 10)) (c3 (.int 4))) (cons3 (o3 powR (c3 (.int 10)) (c3 (.int 18))) nil3))) (o3 fdivR (v3 4) (c3 (.int 3)))) nil3))) nil3))) (o3 fdivR (v3 4) (c3 (.int 2))))) (seq3 (set3 6 (tup3 (cons3 (o3 subR (call3 sp_q10 (cons3 (v3 1) (cons3 (c3 (.int 15)) nil3))) (c3 (.int 7))) (cons3 (o3 subR (call3 sp_q10 (cons3 (v3 1) (cons3 (c3 (.int 15)) nil3))) (c3 (.int 7))) (cons3 (call3 sp_q10 (cons3 (v3 1) (cons3 (c3 (.int 2)) nil3))) nil3))))) (seq3 (ifs3 (and3 (b3 (o3 neR (o3 ixR (v3 3) (c3 (.int 0))) (tup3 nil3))) (b3 (o3 gtR (call3 sp_q10 (cons3 (v3 1) (cons3 (c3 (.int 3)) nil3))) (c3 (.int 0))))) (set3 6 (o3 ixR (o3 ixR (v3 3) (c3 (.int 0))) (call3 sp_q10 (cons3 (v3 1) (cons3 (call3 lenR (cons3 (o3 ixR (v3 3) (c3 (.int 0))) nil3)) nil3))))) next3) (seq3 (ifs3 (b3 (o3 (isNR true) (o3 ixR (v3 3) (c3 (.int 1))) (c3 .non))) (set3 6 (tup3 (cons3 (o3 addR (o3 ixR (v3 6) (c3 (.int 0))) (o3 mulR (v3 5) (o3 ixR (o3 ixR (v3 3) (c3 (.int 1))) (c3 (.int 0))))) (cons3 (o3 addR (o3 ixR (v3 6) (c3 (.int 1))) (o3 mulR (v3 5) (o3 ixR (o3 ixR (v3 3) (c3 (.int 1))) (c3 (.int 1))))) (cons3 (o3 ixR (v3 6) (c3 (.int 2))) nil3))))) next3) (seq3 (set3 7 (call3 sp_q24 (cons3 (v3 2) (cons3 (v3 6) nil3)))) (ifs3 (or3 (not3 (b3 (call3 isiR (cons3 (v3 7) (cons3 (c3 (.ty "bool")) nil3))))) (b3 (o3 neR (v3 7) (call3 sp_q4 (cons3 (v3 3) (cons3 (v3 6) nil3)))))) (ret3 (c3 (.bl false))) next3))))))) (si2 sp_q2 sp_q4 sp_q5 sp_q8 sp_q9 sp_q10 sp_q24 sp_q25))
def yj2 (sp_q2 sp_q4 sp_q5 sp_q8 sp_q9 sp_q10 sp_q24 sp_q25:Sp3):TS3 :=
 (seq3 (ifs3 (not3 (b3 (call3 sp_q5 (cons3 (call3 sp_q25 (cons3 (v3 2) nil3)) (cons3 (v3 3) nil3))))) (ret3 (c3 (.bl false))) next3) (xj2 sp_q2 sp_q4 sp_q5 sp_q8 sp_q9 sp_q10 sp_q24 sp_q25))
def zj2 (sp_q2 sp_q4 sp_q5 sp_q8 sp_q9 sp_q10 sp_q24 sp_q25:Sp3):TS3 :=
 (seq3 (set3 3 (call3 sp_q2 (cons3 (v3 2) nil3))) (yj2 sp_q2 sp_q4 sp_q5 sp_q8 sp_q9 sp_q10 sp_q24 sp_q25))
def wj2 (sp_q2 sp_q4 sp_q5 sp_q8 sp_q9 sp_q10 sp_q24 sp_q25:Sp3):TS3 :=
 (seq3 (set3 2 (call3 sp_q8 (cons3 (v3 1) (cons3 (c3 (.int 24)) nil3)))) (zj2 sp_q2 sp_q4 sp_q5 sp_q8 sp_q9 sp_q10 sp_q24 sp_q25))
def vq3 (sp_q2 sp_q4 sp_q5 sp_q8 sp_q9 sp_q10 sp_q24 sp_q25:Sp3):TS3 :=
 (seq3 (set3 1 (call3 sp_q9 (cons3 (v3 0) (cons3 (c3 (.int 0)) nil3)))) (wj2 sp_q2 sp_q4 sp_q5 sp_q8 sp_q9 sp_q10 sp_q24 sp_q25))
end Pv
namespace Pv
open PySem Mw
theorem kn_go_jump:((("go" : Str)=("jump" : Str))=False):=eq_false (by decide)
theorem kn_go_turn:((("go" : Str)=("turn" : Str))=False):=eq_false (by decide)
theorem kn_go_times:((("go" : Str)=("times" : Str))=False):=eq_false (by decide)
theorem kn_jump_go:((("jump" : Str)=("go" : Str))=False):=eq_false (by decide)
theorem kn_jump_turn:((("jump" : Str)=("turn" : Str))=False):=eq_false (by decide)
theorem kn_jump_times:((("jump" : Str)=("times" : Str))=False):=eq_false (by decide)
theorem kn_turn_go:((("turn" : Str)=("go" : Str))=False):=eq_false (by decide)
theorem kn_turn_jump:((("turn" : Str)=("jump" : Str))=False):=eq_false (by decide)
theorem kn_turn_times:((("turn" : Str)=("times" : Str))=False):=eq_false (by decide)
theorem kn_times_go:((("times" : Str)=("go" : Str))=False):=eq_false (by decide)
theorem kn_times_jump:((("times" : Str)=("jump" : Str))=False):=eq_false (by decide)
theorem kn_times_turn:((("times" : Str)=("turn" : Str))=False):=eq_false (by decide)
theorem kp_go:(["go", "jump", "turn"]:List Str).contains "go" = true:=by decide
theorem kp_jump:(["go", "jump", "turn"]:List Str).contains "jump" = true:=by decide
theorem kp_turn:(["go", "jump", "turn"]:List Str).contains "turn" = true:=by decide
theorem kp_times:(["go", "jump", "turn"]:List Str).contains "times" = false:=by decide
theorem kz_go:(["go", "times"]:List Str).contains "go" = true:=by decide
theorem kz_jump:(["go", "times"]:List Str).contains "jump" = false:=by decide
theorem kz_turn:(["go", "times"]:List Str).contains "turn" = false:=by decide
theorem kz_times:(["go", "times"]:List Str).contains "times" = true:=by decide
theorem cst0:((0:Nat):Int)=0:=rfl
theorem cst1:((1:Nat):Int)=1:=rfl
theorem cst2:((2:Nat):Int)=2:=rfl
theorem cst3:((3:Nat):Int)=3:=rfl
mutual
def enc:Dd->D
 | .go n=>.tup [.str "go",.int n]
 | .jump n=>.tup [.str "jump",.int n]
 | .turn n=>.tup [.str "turn",.int n]
 | .times n w=>.tup [.str "times",.int n,.tup (encs w)]
def encs:List Dd->List D
 | []=>[]
 | d :: r=>enc d :: encs r
end
def yb3:Sp3:=λ ds μ Q=>∃ (kind:Str) (n:Int),ds=[.str kind,.int n] /\ -G<=n /\ n<=G /\ ((kind = "go" \/ kind = "times")->0<=n) /\ Q .non μ
theorem xg4 (ds:List D) (μ:Mu) (Q:VK3) (h:yb3 ds μ Q):ya3 { nx:=λ _ μ'=>Q .non μ',rt:=Q } (start3 wt2 ds) μ:=by
 obtain ⟨kind,n,rfl,h1,h2,h3,q⟩:=h
 unfold G at h1 h2
 simp only [ya3,seq3,ifs3,not3,b3,call3,cons3,v3,start3,map_cons,map_nil,wt2,length_cons,length_nil,Nat.zero_add,Nat.reduceAdd,Nat.reduceSub,List.replicate,cons_append,nil_append,getI,c3,nil3,isiR,tyN,isIn,and_true,if_true,Bool.not_true,Bool.false_eq_true,never3,next3,o3,absR,gtR,int20,decide_eq_true_eq,and3,ltR,inR,strs?,if_false]
 rw [if_neg (by omega)]
 split
 ·split
  ·next h5 =>
   have h6:kind = "go" \/ kind = "times" := by simpa using h5
   have:=h3 h6
   omega
  ·exact q
 ·exact q
def yk1 (j:Nat):Sp3:=λ ds μ Q=>∃ (d:Dd) (k:Int),ds=[enc d,.int k] /\ okd d /\ dep d < j /\ k + dep d<=4 /\ cnt d<=30 /\ Q (.int (cnt d)) μ
def xx0 (j:Nat):Sp3:=λ ds μ Q=>∃ (w:List Dd) (k:Int),ds=[.tup (encs w),.int k] /\ oks w /\ deps w < j /\ k + deps w<=4 /\ cnts w<=30 /\ Q (.int (cnts w)) μ
theorem wf4 (j:Nat) (ds:List D) (μ:Mu) (Q:VK3) (h:yk1 (j + 1) ds μ Q):tr3 yb3 (xx0 j) { nx:=λ _ μ'=>Q .non μ',rt:=Q } (start3 tn3 ds) μ:=by
 obtain ⟨d,k,rfl,h1,h2,h3,h4,q⟩:=h
 cases d
 case go n=>simp only [okd] at h1; exact ⟨_,n,rfl,by omega,by omega,λ _=>h1.1,q⟩
 case jump n=>simp only [okd] at h1; exact ⟨_,n,rfl,by omega,by omega,by simp only [Pv.kn_go_jump,Pv.kn_go_turn,Pv.kn_go_times,Pv.kn_jump_go,Pv.kn_jump_turn,Pv.kn_jump_times,Pv.kn_turn_go,Pv.kn_turn_jump,Pv.kn_turn_times,Pv.kn_times_go,Pv.kn_times_jump,Pv.kn_times_turn,Pv.kp_go,Pv.kp_jump,Pv.kp_turn,Pv.kp_times,Pv.kz_go,Pv.kz_jump,Pv.kz_turn,Pv.kz_times]; simp,q⟩
 case turn n=>simp only [okd] at h1; exact ⟨_,n,rfl,by omega,by omega,by simp only [Pv.kn_go_jump,Pv.kn_go_turn,Pv.kn_go_times,Pv.kn_jump_go,Pv.kn_jump_turn,Pv.kn_jump_times,Pv.kn_turn_go,Pv.kn_turn_jump,Pv.kn_turn_times,Pv.kn_times_go,Pv.kn_times_jump,Pv.kn_times_turn,Pv.kp_go,Pv.kp_jump,Pv.kp_turn,Pv.kp_times,Pv.kz_go,Pv.kz_jump,Pv.kz_turn,Pv.kz_times]; simp,q⟩
 case times n w =>
  simp only [okd,dep,cnt] at h1 h2 h3 h4 q
  refine ⟨_,n,rfl,by omega,by omega,λ _=>h1.1.1,w,k + 1,rfl,h1.2,by omega,by omega,by omega,?_⟩
  have e:((1 + cnts w:Nat):Int)=1 + (cnts w:Int):=by omega
  rw [e] at q
  exact q
theorem vf4 (j:Nat) (ds:List D) (μ:Mu) (Q:VK3) (h:xx0 j ds μ Q):sz2 (yk1 j) { nx:=λ _ μ'=>Q .non μ',rt:=Q } (start3 yt2 ds) μ:=by
 obtain ⟨w,k,rfl,h1,h2,h3,h4,q⟩:=h
 simp only [sz2,seq3,ifs3,not3,b3,call3,cons3,v3,start3,map_cons,map_nil,yt2,length_cons,length_nil,Nat.zero_add,Nat.reduceAdd,Nat.reduceSub,List.replicate,cons_append,nil_append,getI,c3,nil3,isiR,tyN,isIn,if_true,Bool.not_true,Bool.false_eq_true,never3,next3,o3,gtR,int20,decide_eq_true_eq,set3,for3,is3,set_cons_succ,set_cons_zero,if_false]
 rw [if_neg (by omega)]
 refine wf0 (λ l ρ μ'=>μ'=μ /\ ∃ (r:List Dd) (c:Nat) (dd:Option D),l=encs r /\ ρ=[some (.tup (encs w)),some (.int k),some (.int c),dd] /\ oks r /\ deps r<=deps w /\ c + cnts r=cnts w) ?_ (λ _ _ _ _=>trivial) ?_ ?_
 ·exact ⟨rfl,w,0,none,rfl,rfl,h1,Nat.le_refl _,by omega⟩
 ·rintro ρ μ' ⟨rfl,r,c,dd,e,rfl,_,_,e2⟩
  cases r with
  | nil =>
   simp only [cnts] at e2
   simp only [ret3,v3,getI]
   have e3:c=cnts w:=by omega
   rw [e3]
   exact q
  | cons _ _=>simp [encs] at e
 ·rintro x rest ρ μ' ⟨rfl,r,c,dd,e,rfl,o,dp,e2⟩
  cases r with
  | nil=>simp [encs] at e
  | cons d r =>
   simp only [encs,List.cons.injEq] at e
   obtain ⟨rfl,rfl⟩:=e
   simp only [oks,deps,cnts] at o dp e2
   refine ⟨d,k,rfl,o.1,by omega,by omega,by omega,?_⟩
   simp only [addR,ifs3,b3,o3,v3,set_cons_succ,set_cons_zero,getI,c3,int20,decide_eq_true_eq,never3,next3,true_and]
   rw [if_neg (by omega)]
   exact ⟨r,c + cnt d,some (enc d),rfl,by simp,o.2,by omega,by omega⟩
def Wd (w:List Dd):Prop:=oks w /\ deps w<=4 /\ cnts w<=30
def zk2:Sp3:=λ ds μ Q=>∃ w,ds=[.tup (encs w)] /\ Wd w /\ Q .non μ
theorem uf4 (ds:List D) (μ:Mu) (Q:VK3) (h:zk2 ds μ Q):xa3 (xx0 5) { nx:=λ _ μ'=>Q .non μ',rt:=Q } (start3 zt2 ds) μ:=by
 obtain ⟨w,rfl,⟨h1,h2,h3⟩,q⟩:=h
 simp only [xa3,drop3,call3,cons3,v3,start3,map_cons,map_nil,zt2,length_cons,length_nil,Nat.zero_add,Nat.reduceSub,List.replicate,cons_append,nil_append,getI,c3,nil3]
 exact ⟨w,0,rfl,h1,by omega,by omega,h3,q⟩
theorem uc0:∀ a,(encs a).length=a.length
 | []=>by simp [encs]
 | d :: r=>by simp only [encs,length_cons,uc0 r]
theorem uy0:∀ {w:List Dd} {x:D},x ∈ encs w->∃ d,d ∈ w /\ x=enc d
 | [],x,h=>by simp [encs] at h
 | d :: r,x,h=>by
  simp only [encs,mem_cons] at h
  rcases h with rfl | h
  ·exact ⟨d,mem_cons_self,rfl⟩
  ·obtain ⟨e,h1,h2⟩:=uy0 h
   exact ⟨e,mem_cons_of_mem _ h1,h2⟩
theorem zo0:∀ {w:List Dd} {d:Dd},d ∈ w->oks w->dep d<=deps w /\ cnt d<=cnts w /\ okd d
 | [],d,h,_=>by simp at h
 | e :: r,d,h,o=>by
  simp only [oks] at o
  simp only [deps,cnts]
  rcases List.mem_cons.mp h with rfl | h
  ·exact ⟨by omega,by omega,o.1⟩
  ·obtain ⟨h1,h2,h3⟩:=zo0 h o.2
   exact ⟨by omega,by omega,h3⟩
mutual
def dec:D->Dd
 | .tup [.str k,.int n]=>if k = "go" then .go n else if k = "jump" then .jump n else .turn n
 | .tup [.str _,.int n,.tup w]=>.times n (decs w)
 | _=>.go 0
def decs:List D->List Dd
 | []=>[]
 | d :: r=>dec d :: decs r
end
mutual
theorem xa1:∀ d,dec (enc d)=d
 | .go n=>by simp [enc,dec]
 | .jump n=>by simp only [enc,dec,Pv.kn_go_jump,Pv.kn_go_turn,Pv.kn_go_times,Pv.kn_jump_go,Pv.kn_jump_turn,Pv.kn_jump_times,Pv.kn_turn_go,Pv.kn_turn_jump,Pv.kn_turn_times,Pv.kn_times_go,Pv.kn_times_jump,Pv.kn_times_turn,Pv.kp_go,Pv.kp_jump,Pv.kp_turn,Pv.kp_times,Pv.kz_go,Pv.kz_jump,Pv.kz_turn,Pv.kz_times,if_false,if_true]
 | .turn n=>by simp only [enc,dec,Pv.kn_go_jump,Pv.kn_go_turn,Pv.kn_go_times,Pv.kn_jump_go,Pv.kn_jump_turn,Pv.kn_jump_times,Pv.kn_turn_go,Pv.kn_turn_jump,Pv.kn_turn_times,Pv.kn_times_go,Pv.kn_times_jump,Pv.kn_times_turn,Pv.kp_go,Pv.kp_jump,Pv.kp_turn,Pv.kp_times,Pv.kz_go,Pv.kz_jump,Pv.kz_turn,Pv.kz_times,if_false]
 | .times n w=>by simp only [enc,dec,we1 w]
theorem we1:∀ w,decs (encs w)=w
 | []=>by simp only [encs,decs]
 | d :: r=>by simp only [encs,decs,xa1 d,we1 r]
end
theorem th1 (f:Dd->Int):∀ w,(encs w).map (λ d=>D.int (f (dec d)))=w.map λ d=>D.int (f d)
 | []=>by simp [encs]
 | d :: r=>by simp only [encs,map_cons,xa1,th1 f r]
def encP (p:Pen):D:=.tup [.int p.1,.int p.2.1,.int p.2.2]
def encK (p:Pen):D:=.ktp [.int p.1,.int p.2.1,.int p.2.2]
def isP (d:D) (p:Pen):Prop:=d=encP p \/ d=encK p
theorem va1 {h:Int} (hd:h=0 \/ h=1 \/ h=2 \/ h=3):atI [D.ktp [D.int 1,D.int 0],D.ktp [D.int 0,D.int 1],D.ktp [D.int (-1),D.int 0],D.ktp [D.int 0,D.int (-1)]] h=some (.ktp [.int (cs h),.int (sn h)]):=by
 rcases hd with rfl | rfl | rfl | rfl <;> rfl
theorem xn0 (h:Int) : -(2 ^ 64) < cs h /\ cs h < 2 ^ 64:=by unfold cs; split <;> (try split) <;> decide
theorem tl0 (h:Int) : -(2 ^ 64) < sn h /\ sn h < 2 ^ 64:=by unfold sn; split <;> (try split) <;> decide
theorem yi1 {l:List D} {i:Int} {d:D} {μ:Mu} {Q:VK3} (e:atI l i=some d) (h:Q d μ):ixR (.ktp l) (.int i) μ Q:=by
 unfold ixR
 simp only [e]
 exact h
def wg1:Sp3:=λ ds μ Q=>∃ d e p q,ds=[d,e] /\ isP d p /\ isP e q /\ Hd p /\ Q (encP (led p q)) μ
theorem vd4 (ds:List D) (μ:Mu) (Q:VK3) (h:wg1 ds μ Q):wq3 { nx:=λ _ μ'=>Q .non μ',rt:=Q } (start3 zm3 ds) μ:=by
 obtain ⟨d,e,p,q,rfl,h1,h2,hp,k⟩:=h
 have c1:CMul q.1 (cs p.2.2):=.inl (.inr (xn0 _))
 have c2:CMul q.2.1 (sn p.2.2):=.inl (.inr (tl0 _))
 have c3:CMul q.1 (sn p.2.2):=.inl (.inr (tl0 _))
 have c4:CMul q.2.1 (cs p.2.2):=.inl (.inr (xn0 _))
 have d1:(0:Int) < 4:=by decide
 have d2:3<=sizeLine:=by decide
 rcases h1 with rfl | rfl <;> rcases h2 with rfl | rfl <;>
 ·show ixR xk0 (.int p.2.2) μ (λ d μ1=>_)
  refine yi1 (va1 hp) ?_
  exact And.intro c1 (And.intro c2 (And.intro c3 (And.intro c4 (And.intro d1 (And.intro d2 k)))))
def xb3:Sp3:=λ ds μ Q=>∃ d p n,ds=[d,.int n] /\ isP d p /\ Hd p /\ 0<=n /\ n<=G /\ p.1.natAbs < 2 ^ 1000 /\ p.2.1.natAbs < 2 ^ 1000 /\ ∀ e,isP e (rep p n)->Q e μ
theorem xq4 {n:Int} (h0:0<=n) (h1:n<=G):n.natAbs < Big :=
 sq0 h0 (Int.le_trans h1 (vs0 (c:=1) (e:=0) (Nat.le_refl _))) (by omega) (by omega)
theorem xd4 (ds:List D) (μ:Mu) (Q:VK3) (h:xb3 ds μ Q):sp3 wg1 { nx:=λ _ μ'=>Q .non μ',rt:=Q } (start3 ul3 ds) μ:=by
 obtain ⟨d,p,n,rfl,hd,hp,h0,h1,b1,b2,k⟩:=h
 have key:∀ d,(d=encP p \/ d=encK p)->p.2.2 ≠ 0->ye2 (λ _=>True) (gn3 3) (set3 2 (call3 wg1 (cons3 (v3 2) (cons3 (v3 0) nil3)))) { nx:=ret3 (v3 2) { nx:=λ _ μ'=>Q .non μ',rt:=Q },rt:=Q } (rngD 0 (n % 4).toNat) [some d,some (.int n),some ze0,none] μ:=λ d hd e=>by
  refine wf0 (λ l ρ μ'=>μ'=μ /\ ∃ (i:Nat) (x:D) (dd:Option D),isP x (pw p i) /\ ρ=[some d,some (.int n),some x,dd] /\ i + l.length=(n % 4).toNat) ?_ (λ _ _ _ _=>trivial) ?_ ?_
  ·refine ⟨rfl,0,ze0,none,.inr rfl,rfl,?_⟩
   simp [rngD]
  ·rintro ρ μ' ⟨rfl,i,x,dd,hx,rfl,e2⟩
   have e3:i=(n % 4).toNat:=by simpa using e2
   rw [rep,if_neg e] at k
   rw [e3] at hx
   exact k x hx
  ·rintro y rest ρ μ' ⟨rfl,i,x,dd,hx,rfl,e2⟩
   rw [length_cons] at e2
   exact ⟨x,d,pw p i,p,rfl,hx,hd,vt0 p i,rfl,i + 1,_,some y,.inl rfl,rfl,by omega⟩
 have hm:0<=n % 4 /\ n % 4 < 4:=⟨by omega,by omega⟩
 by_cases e:p.2.2=0
 ·rw [rep,if_pos e] at k
  rcases hd with rfl | rfl <;>
  ·show if (decide (p.2.2=(0:Int)))=true then _ else _
   rw [if_pos (decide_eq_true e)]
   exact ⟨.inr ⟨b1,xq4 h0 h1⟩,.inr ⟨b2,xq4 h0 h1⟩,show 3<=sizeLine by decide,k _ (.inl rfl)⟩
 ·rcases hd with rfl | rfl
  ·show if (decide (p.2.2=(0:Int)))=true then _ else _
   rw [if_neg (λ h=>e (of_decide_eq_true h))]
   exact ⟨show (0:Int) < 4 by decide,⟨by omega,by omega⟩,key _ (.inl rfl) e⟩
  ·show if (decide (p.2.2=(0:Int)))=true then _ else _
   rw [if_neg (λ h=>e (of_decide_eq_true h))]
   exact ⟨show (0:Int) < 4 by decide,⟨by omega,by omega⟩,key _ (.inr rfl) e⟩
def spPb (j:Nat):Sp3:=λ ds μ Q=>∃ w,ds=[.tup (encs w)] /\ deps w < j /\ deps w<=5 /\ cnts w<=60 /\ oks w /\ ∀ e,isP e (pb w)->Q e μ
def spPd (j:Nat):Sp3:=λ ds μ Q=>∃ d,ds=[enc d] /\ dep d < j /\ dep d<=5 /\ cnt d<=60 /\ okd d /\ ∀ e,isP e (pd d)->Q e μ
theorem yd4 (j:Nat) (ds:List D) (μ:Mu) (Q:VK3) (h:spPd (j + 1) ds μ Q):xq3 (spPb j) xb3 { nx:=λ _ μ'=>Q .non μ',rt:=Q } (start3 tl3 ds) μ:=by
 obtain ⟨d,rfl,h1,h2,h2',h3,q⟩:=h
 cases d
 case go n=>exact And.intro Z0 (q _ (.inl rfl))
 case jump n=>exact And.intro Z0 (q _ (.inl rfl))
 case turn n=>exact And.intro (show (0:Int) < 4 by decide) (And.intro Z0 (q _ (.inl rfl)))
 case times n w =>
  simp only [okd,dep,cnt,pd] at h1 h2 h2' h3 q
  obtain ⟨b1,b2⟩:=wi4 (wf3 w h3.2) (by omega) (by omega)
  exact ⟨w,rfl,by omega,by omega,by omega,h3.2,λ e he=>⟨e,pb w,n,rfl,he,ur0 w,h3.1.1,h3.1.2,b1,b2,q⟩⟩
theorem zd4 (j:Nat) (ds:List D) (μ:Mu) (Q:VK3) (h:spPb j ds μ Q):yq3 wg1 (spPd j) { nx:=λ _ μ'=>Q .non μ',rt:=Q } (start3 xm3 ds) μ:=by
 obtain ⟨w,rfl,h1,h2,h2',h3,q⟩:=h
 refine wf0 (λ l ρ μ'=>μ'=μ /\ ∃ (r:List Dd) (p:Pen) (x:D) (dd:Option D),l=encs r /\ isP x p /\ ρ=[some (.tup (encs w)),some x,dd] /\ oks r /\ deps r<=deps w /\ cnts r<=cnts w /\ Hd p /\ led p (pb r)=pb w) ?_ (λ _ _ _ _=>trivial) ?_ ?_
 ·exact ⟨rfl,w,st,ze0,none,rfl,.inr rfl,rfl,h3,Nat.le_refl _,Nat.le_refl _,vd1,tt0 (ur0 w)⟩
 ·rintro ρ μ' ⟨rfl,r,p,x,dd,e,hx,rfl,_,_,_,hp,e2⟩
  cases r with
  | nil =>
   simp only [pb] at e2
   rw [tm0 hp] at e2
   rw [e2] at hx
   exact q x hx
  | cons _ _=>simp [encs] at e
 ·rintro y rest ρ μ' ⟨rfl,r,p,x,dd,e,hx,rfl,o,dp,cn,hp,e2⟩
  cases r with
  | nil=>simp [encs] at e
  | cons d r =>
   simp only [encs,List.cons.injEq] at e
   obtain ⟨rfl,rfl⟩:=e
   simp only [oks,deps,cnts,pb] at o dp cn e2
   refine ⟨d,rfl,by omega,by omega,by omega,o.1,λ e he=>⟨x,e,p,pd d,rfl,hx,he,hp,rfl,r,led p (pd d),encP (led p (pd d)),some (enc d),rfl,.inl rfl,rfl,o.2,by omega,by omega,sv0 _ _,?_⟩⟩
   rw [tj0 _ hp (yz0 d o.1)]
   exact e2
def spSk (j:Nat):Sp3:=λ ds μ Q=>∃ w,ds=[.tup (encs w)] /\ deps w < j /\ deps w<=5 /\ cnts w<=60 /\ oks w /\ ∀ μ',Ext μ μ'->Q (.int (sks w)) μ'
def vj2 (j:Nat):Sp3:=λ ds μ Q=>∃ d,ds=[enc d] /\ dep d < j /\ dep d<=5 /\ cnt d<=60 /\ okd d /\ ∀ μ',Ext μ μ'->Q (.int (sk d)) μ'
theorem se4 (j:Nat) (ds:List D) (μ:Mu) (Q:VK3) (h:vj2 (j + 1) ds μ Q):vr3 (spSk j) { nx:=λ _ μ'=>Q .non μ',rt:=Q } (start3 wn3 ds) μ:=by
 obtain ⟨d,rfl,h1,h2,h2',h3,q⟩:=h
 cases d
 case go n=>exact q _ (Ext.refl _)
 case jump n=>exact q _ (Ext.refl _)
 case turn n=>exact q _ (Ext.refl _)
 case times n w =>
  simp only [okd,dep,cnt,sk] at h1 h2 h2' h3 q
  refine ⟨w,rfl,by omega,by omega,by omega,h3.2,λ μ' e=>?_⟩
  obtain ⟨a,b⟩:=ux1 w h3.2
  have hn:n<=bd 1 0:=Int.le_trans h3.1.2 (vs0 (Nat.le_refl _))
  exact ⟨.inr ⟨sq0 h3.1.1 hn (by omega) (by omega),sq0 a b (by omega) (by omega)⟩,q μ' e⟩
theorem vr0:∀ (f:Dd->Int) (r:List Dd),ints? (r.map λ d=>D.int (f d))=some (r.map f)
 | f,[]=>rfl
 | f,d :: r=>by simp only [map_cons,ints?,vr0 f r]
theorem vx1:∀ w,(w.map sk).sum=sks w
 | []=>by simp [sks]
 | d :: r=>by simp only [map_cons,sum_cons,sks,vx1 r]
theorem xf4 (j:Nat) (ds:List D) (μ:Mu) (Q:VK3) (h:spSk j ds μ Q):uz2 (vj2 j) { nx:=λ _ μ'=>Q .non μ',rt:=Q } (start3 ss2 ds) μ:=by
 obtain ⟨w,rfl,h1,h2,h2',h3,q⟩:=h
 simp only [uz2,ret3,call3,cons3,comp3,is3,v3,start3,map_cons,map_nil,ss2,length_cons,length_nil,Nat.zero_add,Nat.reduceSub,List.replicate,cons_append,nil_append,getI,nil3,sumR,Option.bind_none]
 intro p hp
 have hl:=ui0 w
 have hz:(100:Nat) < sizeLine:=by decide
 refine vk0 (rest:=[]) (λ d=>D.int (sk (dec d))) hp (by rw [uc0]; omega) (λ _ _=>trivial) (λ x hx μ' R e k=>?_) λ μ' e e2=>?_
 ·obtain ⟨d,hd,rfl⟩:=uy0 hx
  obtain ⟨d1,d2,d3⟩:=zo0 hd h3
  simp only [call3,cons3,v3,getI,nil3]
  refine ⟨d,rfl,by omega,by omega,by omega,d3,λ μ2 e2=>?_⟩
  rw [xa1] at k
  exact k μ2 e2
 ·simp only [e2,th1,vr0,vx1]
  exact q μ' e
def sa3:Sp3:=λ ds μ Q=>∃ w,ds=[.tup (encs w)] /\ Wd w /\ ∀ μ',Ext μ μ'->Q (.int (sks w)) μ'
theorem yc4 (ds:List D) (μ:Mu) (Q:VK3) (h:sa3 ds μ Q):xz2 zk2 (spSk 5) { nx:=λ _ μ'=>Q .non μ',rt:=Q } (start3 zs2 ds) μ:=by
 obtain ⟨w,rfl,h,q⟩:=h
 simp only [xz2,seq3,drop3,call3,cons3,v3,start3,map_cons,map_nil,zs2,length_cons,length_nil,Nat.zero_add,Nat.reduceSub,List.replicate,cons_append,nil_append,getI,nil3,ret3]
 exact ⟨w,rfl,h,w,rfl,by have:=h.2.1; omega,by have:=h.2.1; omega,by have:=h.2.2; omega,h.1,q⟩
def spDn (j:Nat):Sp3:=λ ds μ Q=>∃ w,ds=[.tup (encs w)] /\ deps w < j /\ deps w<=5 /\ cnts w<=60 /\ oks w /\ ∀ μ',Ext μ μ'->Q (.int (dns w)) μ'
def yx1 (j:Nat):Sp3:=λ ds μ Q=>∃ d,ds=[enc d] /\ dep d < j /\ dep d<=5 /\ cnt d<=60 /\ okd d /\ ∀ μ',Ext μ μ'->Q (.int (dn d)) μ'
theorem yf4 (j:Nat) (ds:List D) (μ:Mu) (Q:VK3) (h:yx1 (j + 1) ds μ Q):ur3 (spDn j) { nx:=λ _ μ'=>Q .non μ',rt:=Q } (start3 vn3 ds) μ:=by
 obtain ⟨d,rfl,h1,h2,h2',h3,q⟩:=h
 cases d
 case go n=>exact q _ (Ext.refl _)
 case jump n=>exact q _ (Ext.refl _)
 case turn n=>exact q _ (Ext.refl _)
 case times n w =>
  simp only [okd,dep,cnt,dn] at h1 h2 h2' h3 q
  refine ⟨w,rfl,by omega,by omega,by omega,h3.2,λ μ' e=>?_⟩
  obtain ⟨a,b⟩:=wn1 w h3.2
  have hn:n<=bd 1 0:=Int.le_trans h3.1.2 (vs0 (Nat.le_refl _))
  exact ⟨.inr ⟨sq0 h3.1.1 hn (by omega) (by omega),sq0 a b (by omega) (by omega)⟩,q μ' e⟩
theorem yf2:∀ w,(w.map dn).sum=dns w
 | []=>by simp [dns]
 | d :: r=>by simp only [map_cons,sum_cons,dns,yf2 r]
theorem zf4 (j:Nat) (ds:List D) (μ:Mu) (Q:VK3) (h:spDn j ds μ Q):tz2 (yx1 j) { nx:=λ _ μ'=>Q .non μ',rt:=Q } (start3 xt2 ds) μ:=by
 obtain ⟨w,rfl,h1,h2,h2',h3,q⟩:=h
 simp only [tz2,ret3,call3,cons3,comp3,is3,v3,start3,map_cons,map_nil,xt2,length_cons,length_nil,Nat.zero_add,Nat.reduceSub,List.replicate,cons_append,nil_append,getI,nil3,sumR,Option.bind_none]
 intro p hp
 have hl:=ui0 w
 have hz:(100:Nat) < sizeLine:=by decide
 refine vk0 (rest:=[]) (λ d=>D.int (dn (dec d))) hp (by rw [uc0]; omega) (λ _ _=>trivial) (λ x hx μ' R e k=>?_) λ μ' e e2=>?_
 ·obtain ⟨d,hd,rfl⟩:=uy0 hx
  obtain ⟨d1,d2,d3⟩:=zo0 hd h3
  simp only [call3,cons3,v3,getI,nil3]
  refine ⟨d,rfl,by omega,by omega,by omega,d3,λ μ2 e2=>?_⟩
  rw [xa1] at k
  exact k μ2 e2
 ·simp only [e2,th1,vr0,yf2]
  exact q μ' e
def ub3:Sp3:=λ ds μ Q=>∃ w,ds=[.tup (encs w)] /\ Wd w /\ ∀ μ',Ext μ μ'->Q (.int (dns w)) μ'
theorem te4 (ds:List D) (μ:Mu) (Q:VK3) (h:ub3 ds μ Q):vz2 zk2 (spDn 5) { nx:=λ _ μ'=>Q .non μ',rt:=Q } (start3 ts2 ds) μ:=by
 obtain ⟨w,rfl,h,q⟩:=h
 simp only [vz2,seq3,drop3,call3,cons3,v3,start3,map_cons,map_nil,ts2,length_cons,length_nil,Nat.zero_add,Nat.reduceSub,List.replicate,cons_append,nil_append,getI,nil3,ret3]
 exact ⟨w,rfl,h,w,rfl,by have:=h.2.1; omega,by have:=h.2.1; omega,by have:=h.2.2; omega,h.1,q⟩
def yg1:Sp3:=λ ds μ Q=>∃ w,ds=[.tup (encs w)] /\ Wd w /\ ∀ μ',Ext μ μ'->Q (.bl (decide (sks w<=400 /\ dns w<=400))) μ'
theorem xe4 (ds:List D) (μ:Mu) (Q:VK3) (h:yg1 ds μ Q):wz2 ub3 sa3 { nx:=λ _ μ'=>Q .non μ',rt:=Q } (start3 us2 ds) μ:=by
 obtain ⟨w,rfl,h,q⟩:=h
 simp only [wz2,ret3,andV3,o3,call3,cons3,v3,start3,map_cons,map_nil,us2,length_cons,length_nil,Nat.zero_add,Nat.reduceSub,List.replicate,cons_append,nil_append,getI,nil3,c3,leR,int20,decide_eq_true_eq]
 refine ⟨w,rfl,h,λ μ1 e1=>?_⟩
 simp only []
 split
 ·next h1 =>
  refine ⟨w,rfl,h,λ μ2 e2=>?_⟩
  have z:=q μ2 (e1.trans e2)
  simpa only [h1,true_and,Pv.seq3,Pv.next3,Pv.never3,Pv.brk3,Pv.cnt3,Pv.drop3,Pv.ret3,Pv.retN3,Pv.ifs3,Pv.gn3,Pv.gnil3,Pv.gcons3,Pv.gtup3,Pv.set3,Pv.asg3,Pv.par3,Pv.sub3,Pv.for3,Pv.is3,Pv.ir3,Pv.ir23,Pv.v3,Pv.c3,Pv.o3,Pv.un3,Pv.b3,Pv.and3,Pv.or3,Pv.not3,Pv.andV3,Pv.orV3,Pv.notV3,Pv.if3,Pv.nil3,Pv.cons3,Pv.tup3,Pv.lst3,Pv.call3,Pv.mt3,Pv.comp3,Pv.tt3,Pv.getI,set_cons_zero,set_cons_succ,Pv.int2,Pv.int20,Pv.subR,Pv.mulR,Pv.intR,Pv.sl3,Pv.np3,Pv.pt3,Pv.slR,Pv.modR,Pv.fdivR,Pv.powR,Pv.ltR,Pv.leR,Pv.gtR,Pv.geR,Pv.negR,Pv.addR,Pv.eqR_ii,Pv.eqR_ss,Pv.eqR_bb,Pv.eqR_is,Pv.neR_ii,Pv.neR_ss,Pv.neR_bb,Pv.inR,Pv.ixR,Pv.lenR,Pv.absR,Pv.tupR,Pv.sumR,Pv.tyN,Pv.isIn,Pv.isiR,Pv.appR,Pv.extR,Pv.smt3,Pv.joinR,Pv.splitR,Pv.startsR,Pv.pop3,Pv.lrev3,Pv.strR,Pv.start3,map_cons,map_nil,cons_append,nil_append,length_cons,length_nil,List.replicate,Pv.atI0,Pv.atI1,Pv.atI2,Nat.reduceAdd,Nat.reduceSub,Nat.zero_add,reduceIte,Pv.strs?,Bool.not_true,Bool.not_false,Bool.false_eq_true,if_false,if_true,decide_eq_true_eq,Bool.not_eq_true',decide_eq_false_iff_not,Pv.ixN0,Pv.ixN1,Pv.ixN2,true_and,and_true,Pv.cst0,Pv.cst1,Pv.cst2,Pv.cst3,Int.reduceEq,Option.bind_none,Option.bind_some,Pv.kn_go_jump,Pv.kn_go_turn,Pv.kn_go_times,Pv.kn_jump_go,Pv.kn_jump_turn,Pv.kn_jump_times,Pv.kn_turn_go,Pv.kn_turn_jump,Pv.kn_turn_times,Pv.kn_times_go,Pv.kn_times_jump,Pv.kn_times_turn,Pv.kp_go,Pv.kp_jump,Pv.kp_turn,Pv.kp_times,Pv.kz_go,Pv.kz_jump,Pv.kz_turn,Pv.kz_times] using z
 ·next h1 =>
  have z:=q μ1 e1
  simpa only [h1,false_and,decide_false] using z
theorem xf0:∀ a b,encs (a ++ b)=encs a ++ encs b
 | [],b=>by simp [encs]
 | d :: r,b=>by simp only [cons_append,encs,xf0 r b]
mutual
def unr:Dd->List Dd
 | .times n w=>(List.replicate n.toNat (unrs w)).flatten
 | .go n=>[.go n]
 | .jump n=>[.jump n]
 | .turn n=>[.turn n]
def unrs:List Dd->List Dd
 | []=>[]
 | d :: r=>unr d ++ unrs r
end
def plns (w:List Dd):Prop:=∀ d ∈ w,∃ n,d=.go n \/ d=.jump n \/ d=.turn n
theorem yz1 {α:Type} {x:α} {w:List α}:∀ {k:Nat},x ∈ (List.replicate k w).flatten->x ∈ w
 | 0,h=>by simp at h
 | k + 1,h=>by
  rw [replicate_succ,flatten_cons,mem_append] at h
  rcases h with h | h
  ·exact h
  ·exact yz1 h
mutual
theorem wy2:∀ d,plns (unr d)
 | .go n=>by intro e h; simp only [unr,mem_singleton] at h; exact ⟨n,.inl h⟩
 | .jump n=>by intro e h; simp only [unr,mem_singleton] at h; exact ⟨n,.inr (.inl h)⟩
 | .turn n=>by intro e h; simp only [unr,mem_singleton] at h; exact ⟨n,.inr (.inr h)⟩
 | .times n w=>by intro e h; simp only [unr] at h; exact yg0 w e (yz1 h)
theorem yg0:∀ w,plns (unrs w)
 | []=>by intro e h; simp [unrs] at h
 | d :: r=>by
  intro e h
  simp only [unrs,mem_append] at h
  rcases h with h | h
  ·exact wy2 d e h
  ·exact yg0 r e h
end
theorem yy0 (w:List Dd) (h:oks w):∀ k:Nat,oks (List.replicate k w).flatten /\ pb (List.replicate k w).flatten=pw (pb w) k
 | 0=>by simp [oks,pb,pw]
 | k + 1=>by
  obtain ⟨a1,a2⟩:=yy0 w h k
  rw [replicate_succ,flatten_cons]
  refine ⟨(tf0 _ _).mpr ⟨h,a1⟩,?_⟩
  rw [wm0 _ _ h,a2]
  have:=vl1 (p:=pb w) (ur0 w) 1 k
  rw [yh4 (ur0 w),Nat.add_comm] at this
  exact this.symm
mutual
theorem vo3:∀ d,okd d->oks (unr d) /\ pb (unr d)=pd d
 | .go n,h=>by simp only [unr,oks,pb,and_true]; exact ⟨h,tm0 (yz0 _ h)⟩
 | .jump n,h=>by simp only [unr,oks,pb,and_true]; exact ⟨h,tm0 (yz0 _ h)⟩
 | .turn n,h=>by simp only [unr,oks,pb,and_true]; exact ⟨h,tm0 (yz0 _ h)⟩
 | .times n w,h=>by
  simp only [okd] at h
  obtain ⟨a,b⟩:=uh0 w h.2
  obtain ⟨a1,a2⟩:=yy0 _ a n.toNat
  simp only [unr,pd]
  exact ⟨a1,by rw [a2,b,yv2 (ur0 w) h.1.1]⟩
theorem uh0:∀ w,oks w->oks (unrs w) /\ pb (unrs w)=pb w
 | [],h=>by simp only [unrs,oks,pb,and_self]
 | d :: r,h=>by
  simp only [oks] at h
  obtain ⟨a1,a2⟩:=vo3 d h.1
  obtain ⟨b1,b2⟩:=uh0 r h.2
  simp only [unrs,pb]
  exact ⟨(tf0 _ _).mpr ⟨a1,b1⟩,by rw [wm0 _ _ a1,a2,b2]⟩
end
theorem um0 {α:Type} (w:List α):∀ k:Nat,(List.replicate k w).flatten.length=k * w.length
 | 0=>by simp
 | k + 1=>by rw [replicate_succ,flatten_cons,length_append,um0 w k,Nat.add_mul]; omega
theorem sm0 (w:List Dd):∀ k:Nat,encs (List.replicate k w).flatten=(List.replicate k (encs w)).flatten
 | 0=>by simp [encs]
 | k + 1=>by rw [replicate_succ,flatten_cons,xf0,sm0 w k,replicate_succ,flatten_cons]
theorem z2:2<=sizeLine:=by decide
theorem z3:3<=sizeLine:=by decide
def encQ (p:Int × Int):D:=.tup [.int p.1,.int p.2]
def mnP (p q:Int × Int):Int × Int:=if ltP q.1 q.2 p.1 p.2=true then q else p
def btw (p q:Int × Int):T3:=((mnP p q).1,(mnP p q).2,if p.2=q.2 then 0 else 1)
def tb3:Sp3:=λ ds μ Q=>∃ p q,ds=[encQ p,encQ q] /\ Q (encT (btw p q)) μ
theorem ty4 (p q:Int × Int) (μ:Mu) (K:VK3):mnR [.tup [.int p.1,.int p.2],.tup [.int q.1,.int q.2]] μ K=K (encQ (mnP p q)) μ:=by
 rw [vl4]
 unfold mnP
 split <;> rfl
theorem wc4 (ds:List D) (μ:Mu) (Q:VK3) (h:tb3 ds μ Q):zz2 { nx:=λ _ μ'=>Q .non μ',rt:=Q } (start3 vs2 ds) μ:=by
 obtain ⟨p,q,rfl,k⟩:=h
 unfold btw at k
 simp only [zz2,seq3,set3,call3,cons3,v3,start3,encQ,map_cons,map_nil,vs2,length_cons,length_nil,Nat.zero_add,Nat.reduceAdd,Nat.reduceSub,List.replicate,cons_append,nil_append,getI,nil3,ret3,tup3,o3,set_cons_succ,set_cons_zero,c3,ixR,if3,b3,atI1,eqR_ii,decide_eq_true_eq,ty4,atI0]
 by_cases c:p.2=q.2
 ·rw [if_pos c] at k ⊢; exact ⟨z3,k⟩
 ·rw [if_neg c] at k ⊢; exact ⟨z3,k⟩
theorem wq4 {p:Addr} {l:List D} {μ:Mu} {Q:VK3} (h:μ p=some (.lst l)) (k:Q (.tup l) μ):tupR [.ref p] μ Q:=by
 unfold tupR
 simp only [h]
 exact k
theorem vo0 {p:Addr} {l:List D} {i:Int} {d:D} {μ:Mu} {K:VK3} (h:μ p=some (.lst l)) (e:atI l i=some d) (k:K d μ):ixR (.ref p) (.int i) μ K:=by
 unfold ixR
 simp only [h,e]
 exact k
abbrev Pt:=Int × Int
def gp (t:List Pt) (i:Nat):Pt:=t.getD i (0,0)
theorem at_q {t:List Pt} {i:Int} (h0:0<=i) (h1:i < t.length):atI (t.map encQ) i=some (encQ (gp t i.toNat)):=by
 have h2:i.toNat < t.length:=by omega
 unfold atI ixN gp
 rw [if_pos h0,if_pos (by rw [length_map]; omega)]
 simp [getElem?_eq_getElem h2]
theorem vy0 {lo:Int} {n:Nat} {x:D} (h:x ∈ rngD lo n):∃ i:Nat,i < n /\ x=.int (lo + i):=by
 unfold rngD at h
 obtain ⟨i,hi,rfl⟩:=List.mem_map.mp h
 exact ⟨i,List.mem_range.mp hi,rfl⟩
def gI (g:Pt->Pt->D) (t:List Pt) (d:D):D:=match d with
 | .int i=>g (gp t (i - 1).toNat) (gp t i.toNat)
 | _=>.non
theorem un4 (g:Pt->Pt->D) (t:List Pt) (n:Nat):(rngD 1 n).map (gI g t)=(List.range n).map λ i=>g (gp t i) (gp t (i + 1)):=by
 unfold rngD
 rw [map_map]
 apply List.map_congr_left
 intro i _
 show g (gp t (1 + (i:Int) - 1).toNat) (gp t (1 + (i:Int)).toNat)=_
 rw [show (1 + (i:Int) - 1).toNat=i by omega,show (1 + (i:Int)).toNat=i + 1 by omega]
theorem xr2 {sp:Sp3} {p q:Addr} {t:List Pt} {μ:Mu} {Q:VK3} {o:Option D} (g:Pt->Pt->D) (hq:μ q=some (.lst (t.map encQ))) (hl:t.length < 1000) (hp:μ p=none)
    (hx:∀ a b μ' (R:VK3),R (g a b) μ'->sp [encQ a,encQ b] μ' R) (hQ:∀ μ',Ext μ μ'->μ' p=some (.lst ((List.range (t.length - 1)).map λ i=>g (gp t i) (gp t (i + 1))))->Q (.ref p) μ') :
    wk3 (λ _=>True) p (gn3 0) tt3 (call3 sp (cons3 (o3 ixR (v3 1) (o3 subR (v3 0) (c3 (.int 1)))) (cons3 (o3 ixR (v3 1) (v3 0)) nil3))) Q (rngD 1 (((t.map encQ).length:Int) - 1).toNat) [o,some (.ref q)] (updM μ p (.lst [])):=by
 have z:(1000:Nat) < sizeLine:=by decide
 have en:(((t.map encQ).length:Int) - 1).toNat=t.length - 1:=by rw [length_map]; omega
 rw [en]
 refine vk0 (rest:=[some (.ref q)]) (gI g t) hp (by rw [wp0]; omega) (λ _ _=>trivial) ?_ ?_
 ·intro x hx0 μ2 R ex kk
  obtain ⟨i,hi,rfl⟩:=vy0 hx0
  show ixR (.ref q) (.int (1 + (i:Int) - 1)) μ2 (λ d μ1=>ixR (.ref q) (.int (1 + (i:Int))) μ1 (λ e μ3=>sp [d,e] μ3 R))
  refine vo0 (ex _ _ hq) (at_q (i:=1 + (i:Int) - 1) (by omega) (by omega)) ?_
  refine vo0 (ex _ _ hq) (at_q (i:=1 + (i:Int)) (by omega) (by omega)) ?_
  exact hx _ _ _ _ (kk μ2 (Ext.refl _))
 ·intro μ2 ex ep
  rw [un4] at ep
  exact hQ μ2 ex ep
def ys2 (t:List Pt):List T3:=(List.range (t.length - 1)).map λ i=>btw (gp t i) (gp t (i + 1))
def spAl:Sp3:=λ ds μ Q=>∃ (q:Addr) (t:List Pt),ds=[.ref q] /\ μ q=some (.lst (t.map encQ)) /\ t.length < 1000 /\ ∀ r μ',Ext μ μ'->μ r=none->μ' r=some (.lst ((ys2 t).map encT))->Q (.ref r) μ'
theorem zc4 (ds:List D) (μ:Mu) (Q:VK3) (h:spAl ds μ Q):yz2 tb3 { nx:=λ _ μ'=>Q .non μ',rt:=Q } (start3 ws2 ds) μ:=by
 obtain ⟨q,t,rfl,hq,hl,k⟩:=h
 simp only [yz2,ret3,comp3,ir23,cons3,c3,call3,v3,start3,map_cons,map_nil,ws2,length_cons,length_nil,Nat.zero_add,Nat.reduceSub,List.replicate,cons_append,nil_append,getI,nil3,lenR,hq,subR,Option.bind_none,Option.bind_some]
 refine ⟨⟨by decide,by decide,by rw [length_map]; omega,by rw [length_map]; omega⟩,λ p hp=>?_⟩
 refine xr2 (λ a b=>encT (btw a b)) hq hl hp (λ a b μ' R r=>⟨a,b,rfl,r⟩) λ μ' ex ep=>?_
 exact k p μ' ex hp (by rw [ep]; unfold ys2; rw [map_map]; rfl)
theorem to2 {a b:T3} (h:le3 a b) (k:le3 b a):a=b:=by
 obtain ⟨x1,x2,x3⟩:=a
 obtain ⟨y1,y2,y3⟩:=b
 simp only [le3,lt3,Bool.or_eq_false_iff,Bool.and_eq_false_iff,decide_eq_false_iff_not,beq_eq_false_iff_ne,ne_eq] at h k
 simp only [Prod.mk.injEq]
 omega
theorem uniq {us vs:List T3} (a1:us.Perm vs) (a2:us.Pairwise le3) (a3:vs.Pairwise le3):us=vs:=List.Perm.eq_of_pairwise (λ a b _ _ h k=>to2 h k) a2 a3 a1
def pt (p:Pen) (i:Nat):Pt:=(p.1 + cs p.2.2 * (i:Int),p.2.1 + sn p.2.2 * (i:Int))
def ln (p:Pen) (n:Nat):List T3:=(List.range n).map λ i=>btw (pt p i) (pt p (i + 1))
theorem vo1 (p:Pen) (n:Nat):ys2 ((List.range (n + 1)).map (pt p))=ln p n:=by
 unfold ys2 ln
 rw [length_map,length_range,Nat.add_sub_cancel]
 apply List.map_congr_left
 intro i hi
 have hi':=List.mem_range.mp hi
 unfold gp
 rw [getD_eq_getElem?_getD,getD_eq_getElem?_getD,getElem?_map,getElem?_map,List.getElem?_range (by omega),List.getElem?_range (by omega)]
 rfl
theorem sc1 (p:Pen) (n:Nat):(ln p n).length=n:=by simp [ln]
def fP (p:Pen) (d:D):D:=match d with
 | .int i=>encQ (p.1 + cs p.2.2 * i,p.2.1 + sn p.2.2 * i)
 | _=>.non
theorem xx2 (p:Pen) (n:Nat):(rngD 0 n).map (fP p)=((List.range n).map (pt p)).map encQ:=by
 unfold rngD
 rw [map_map,map_map]
 apply List.map_congr_left
 intro i _
 show encQ (p.1 + cs p.2.2 * (0 + (i:Int)),p.2.1 + sn p.2.2 * (0 + (i:Int)))=encQ (pt p i)
 rw [Int.zero_add]
 rfl
def spGo:Sp3:=λ ds μ Q=>∃ (x:D) (p:Pen) (n:Int),ds=[x,.int n] /\ isP x p /\ Hd p /\ 0<=n /\ n<=400 /\ ∀ r μ',Ext μ μ'->μ r=none->μ' r=some (.lst ((ln p n.toNat).map encT))->Q (.ref r) μ'
theorem tb4 (ds:List D) (μ:Mu) (Q:VK3) (h:spGo ds μ Q):yp3 spAl { nx:=λ _ μ'=>Q .non μ',rt:=Q } (start3 sk3 ds) μ:=by
 obtain ⟨x,p,n,rfl,hx,hp,h0,h1,q⟩:=h
 have hz:(1000:Nat) < sizeLine:=by decide
 rcases hx with rfl | rfl
 ·show ixR xk0 (.int p.2.2) μ _
  refine yi1 (va1 hp) ?_
  refine ⟨⟨by omega,by omega⟩,λ r hr=>?_⟩
  refine vk0 (rest:=[some (encP p),some (.ktp [.int (cs p.2.2),.int (sn p.2.2)])]) (fP p) hr (by rw [wp0]; omega) (λ _ _=>trivial) ?_ ?_
  ·intro x hx μ2 R ex kk
   obtain ⟨i,hi,rfl⟩:=vy0 hx
   exact ⟨.inl (.inl (xn0 _)),.inl (.inl (tl0 _)),z2,kk μ2 (Ext.refl _)⟩
  ·intro μ2 ex ep
   rw [xx2,show (n + 1).toNat=n.toNat + 1 by omega] at ep
   refine ⟨r,_,rfl,ep,by rw [length_map,length_range]; omega,λ g μ3 ex3 hg eg=>?_⟩
   rw [vo1] at eg
   exact q g μ3 (ex.trans ex3) (ex.free hg) eg
 ·show ixR xk0 (.int p.2.2) μ _
  refine yi1 (va1 hp) ?_
  refine ⟨⟨by omega,by omega⟩,λ r hr=>?_⟩
  refine vk0 (rest:=[some (encK p),some (.ktp [.int (cs p.2.2),.int (sn p.2.2)])]) (fP p) hr (by rw [wp0]; omega) (λ _ _=>trivial) ?_ ?_
  ·intro x hx μ2 R ex kk
   obtain ⟨i,hi,rfl⟩:=vy0 hx
   exact ⟨.inl (.inl (xn0 _)),.inl (.inl (tl0 _)),z2,kk μ2 (Ext.refl _)⟩
  ·intro μ2 ex ep
   rw [xx2,show (n + 1).toNat=n.toNat + 1 by omega] at ep
   refine ⟨r,_,rfl,ep,by rw [length_map,length_range]; omega,λ g μ3 ex3 hg eg=>?_⟩
   rw [vo1] at eg
   exact q g μ3 (ex.trans ex3) (ex.free hg) eg
mutual
theorem uu2:∀ d,okd d->((unr d).length:Int)=dn d
 | .go n,_=>by simp [unr,dn]
 | .jump n,_=>by simp [unr,dn]
 | .turn n,_=>by simp [unr,dn]
 | .times n w,h=>by
  have h':(0<=n /\ n<=G) /\ oks w:=by simpa [okd] using h
  have i:=wk0 w h'.2
  simp only [unr,dn,um0]
  rw [Int.natCast_mul,i,Int.toNat_of_nonneg h'.1.1]
theorem wk0:∀ w,oks w->((unrs w).length:Int)=dns w
 | [],_=>by simp [unrs,dns]
 | d :: r,h=>by
  have h':okd d /\ oks r:=by simpa [oks] using h
  simp only [unrs,dns,length_append]
  rw [Int.natCast_add,uu2 d h'.1,wk0 r h'.2]
end
theorem wk1 (w:List Dd):∀ k:Nat,sks (List.replicate k w).flatten=(k:Int) * sks w
 | 0=>by simp [sks]
 | k + 1=>by
  rw [replicate_succ,flatten_cons,vn0,wk1 w k,Int.natCast_add,Int.add_mul]
  omega
mutual
theorem wo3:∀ d,okd d->sks (unr d)=sk d
 | .go n,_=>by simp [unr,sks,sk]
 | .jump n,_=>by simp [unr,sks,sk]
 | .turn n,_=>by simp [unr,sks,sk]
 | .times n w,h=>by
  have h':(0<=n /\ n<=G) /\ oks w:=by simpa [okd] using h
  simp only [unr,sk]
  rw [wk1,zk0 w h'.2,Int.toNat_of_nonneg h'.1.1]
theorem zk0:∀ w,oks w->sks (unrs w)=sks w
 | [],_=>by simp [unrs]
 | d :: r,h=>by
  have h':okd d /\ oks r:=by simpa [oks] using h
  simp only [unrs,sks]
  rw [vn0,wo3 d h'.1,zk0 r h'.2]
end
def spPl (j:Nat):Sp3:=λ ds μ Q=>∃ (w:List Dd),ds=[.tup (encs w)] /\ deps w < j /\ deps w < 5 /\ cnts w<=60 /\ oks w /\ dns w<=400 /\ ∀ p μ',Ext μ μ'->μ p=none->μ' p=some (.lst (encs (unrs w)))->Q (.ref p) μ'
theorem xa5 {p:Addr} {l:List D} {d:D} {μ:Mu} {Q:VK3} (h1:μ p=some (.lst l)) (hl:l.length < sizeLine) (k:Q .non (updM μ p (.lst (l ++ [d])))):appR (.ref p) [d] μ Q:=by
 unfold appR
 simp only [h1]
 exact ⟨hl,k⟩
theorem wo4 (w:List Dd) (h:oks w):0<=dns w:=(wn1 w h).1
theorem uc4 (j:Nat) (ds:List D) (μ:Mu) (Q:VK3) (h:spPl (j + 1) ds μ Q):vp3 (yx1 5) (spPl j) { nx:=λ _ μ'=>Q .non μ',rt:=Q } (start3 zl3 ds) μ:=by
 obtain ⟨w,rfl,h1,h2,h3,h4,h5,q⟩:=h
 have hz:(1000:Nat) < sizeLine:=by decide
 have lw:=wk0 w h4
 refine ⟨Nat.zero_le _,λ f hf=>?_⟩
 refine wf0 (λ l ρ μ'=>∃ (r acc:List Dd) (o:Option D),l=encs r /\ ρ=[some (.tup (encs w)),some (.ref f),o] /\ Ext μ μ' /\ μ' f=some (.lst (encs acc)) /\ acc ++ unrs r=unrs w /\ deps r<=deps w /\ cnts r<=cnts w /\ oks r) ?_ (λ _ _ _ _=>trivial) ?_ ?_
 ·exact ⟨w,[],none,rfl,rfl,Ext.new hf,by rw [ta0]; simp [encs],by simp,Nat.le_refl _,Nat.le_refl _,h4⟩
 ·rintro ρ μ' ⟨r,acc,o,e,rfl,ex,ef,ea,_⟩
  cases r with
  | nil =>
   simp only [unrs,append_nil] at ea
   subst ea
   exact q f μ' ex hf ef
  | cons _ _=>simp [encs] at e
 ·rintro x rest ρ μ' ⟨r,acc,o,e,rfl,ex,ef,ea,r1,r2,r3⟩
  cases r with
  | nil=>simp [encs] at e
  | cons d r =>
   simp only [encs,List.cons.injEq] at e
   obtain ⟨rfl,rfl⟩:=e
   simp only [deps,cnts,oks,unrs] at r1 r2 r3 ea
   have la:acc.length + (unr d).length<=400:=by
    have:=congrArg List.length ea
    simp only [length_append] at this
    omega
   have exu:∀ {μ2:Mu} {v:MO},Ext μ μ2->Ext μ (updM μ2 f v):=λ e g o hg=>by
    rw [ub0 (td0 hg hf)]; exact e g o hg
   have plain:unr d=[d]->appR (.ref f) [enc d] μ' (λ _ μ2=>∃ (r' acc':List Dd) (o':Option D),encs r=encs r' /\ [some (.tup (encs w)),some (.ref f),some (enc d)]=[some (.tup (encs w)),some (.ref f),o'] /\ Ext μ μ2 /\ μ2 f=some (.lst (encs acc')) /\ acc' ++ unrs r'=unrs w /\ deps r'<=deps w /\ cnts r'<=cnts w /\ oks r'):=λ hu=>by
    refine xa5 ef (by rw [uc0]; omega) ⟨r,acc ++ [d],_,rfl,rfl,exu ex,?_,?_,by omega,by omega,r3.2⟩
    ·rw [ta0,xf0]; simp only [encs]
    ·rw [<- ea,hu]; simp
   cases d with
   | go n => conv=>whnf
             rw [ef]
             exact plain (by simp only [unr])
   | jump n => conv=>whnf
               rw [ef]
               exact plain (by simp only [unr])
   | turn n => conv=>whnf
               rw [ef]
               exact plain (by simp only [unr])
   | times n v =>
    have r1':=r1
    simp only [okd,dep,cnt] at r1 r2 r3
    refine ⟨.times n v,rfl,by simp only [dep]; omega,by simp only [dep]; omega,by simp only [cnt]; omega,by simp only [okd]; exact r3.1,λ μ2 ex2=>?_⟩
    have ld:=uu2 (.times n v) (by simp only [okd]; exact r3.1)
    have lv:=wk0 v r3.1.2
    by_cases c:0 < dn (.times n v)
    ·show if (decide (0 < dn (.times n v)))=true then _ else _
     rw [if_pos (decide_eq_true c)]
     simp only [dn] at c ld
     have vn:=wo4 v r3.1.2
     have n1:1<=n:=by
      rcases Int.lt_or_le 0 n with z | z
      ·omega
      ·exfalso
       have:n * dns v<=0:=Int.mul_nonpos_of_nonpos_of_nonneg z vn
       omega
     have v1:1<=dns v:=by
      rcases Int.lt_or_le 0 (dns v) with z | z
      ·omega
      ·exfalso
       have z0:dns v=0:=by omega
       rw [z0,Int.mul_zero] at c
       omega
     have nv:n * dns v<=400:=by omega
     have n4:n<=400:=Int.le_trans (by have:=Int.mul_le_mul_of_nonneg_left v1 (show 0<=n by omega); omega) nv
     have v4:dns v<=400:=Int.le_trans (by have:=Int.mul_le_mul_of_nonneg_right n1 vn; omega) nv
     have ef2:=ex2 _ _ ef
     conv=>whnf
     rw [ef2]
     refine ⟨v,rfl,by omega,by omega,by omega,r3.1.2,v4,λ g μ3 ex3 hg eg=>?_⟩
     conv=>whnf
     rw [eg]
     refine ⟨⟨⟨by omega,by omega⟩,?_⟩,λ t ht=>?_⟩
     ·have:(encs (unrs v)).length * n.toNat<=400 * 400:=Nat.mul_le_mul (by rw [uc0]; omega) (by omega)
      omega
     have ef3:=ex3 _ _ ef2
     have hft:f ≠ t:=td0 ef3 ht
     have e4:updM μ3 t (.lst (List.replicate n.toNat (encs (unrs v))).flatten) f=some (.lst (encs acc)):=by rw [ub0 hft]; exact ef3
     have e5:updM μ3 t (.lst (List.replicate n.toNat (encs (unrs v))).flatten) t=some (.lst (List.replicate n.toNat (encs (unrs v))).flatten):=ta0
     have x4:Ext μ (updM μ3 t (.lst (List.replicate n.toNat (encs (unrs v))).flatten)):=(ex.trans ex2).trans (ex3.trans (Ext.new ht))
     generalize updM μ3 t (.lst (List.replicate n.toNat (encs (unrs v))).flatten)=μ4 at e4 e5 x4
     conv=>whnf
     rw [e4,e5]
     refine ⟨?_,r,acc ++ unr (.times n v),_,rfl,rfl,exu x4,?_,by rw [<- ea]; simp,by omega,by omega,r3.2⟩
     ·rw [<- sm0,uc0,uc0]
      simp only [unr] at la
      omega
     ·rw [ta0,xf0,<- sm0]; simp only [unr]
    ·show if (decide (0 < dn (.times n v)))=true then _ else _
     rw [if_neg (λ e=>c (of_decide_eq_true e))]
     have u0:unr (.times n v)=[]:=eq_nil_of_length_eq_zero (by omega)
     rw [u0,nil_append] at ea
     exact ⟨r,acc,_,rfl,rfl,ex.trans ex2,ex2 _ _ ef,ea,by omega,by omega,r3.2⟩
def sg (p:Pen):Dd->List T3
 | .go n=>ln p n.toNat
 | _=>[]
def wk:Pen->List Dd->List T3
 | _,[]=>[]
 | p,d :: r=>sg p d ++ wk (led p (pd d)) r
theorem wv1:∀ (w:List Dd) (p:Pen),plns w->oks w->((wk p w).length:Int)=sks w
 | [],p,_,_=>by simp [wk,sks]
 | d :: r,p,h,o=>by
  have o':okd d /\ oks r:=by simpa [oks] using o
  have i:=wv1 r (led p (pd d)) (λ x hx=>h x (mem_cons_of_mem _ hx)) o'.2
  simp only [wk,sks,length_append]
  rw [Int.natCast_add,i]
  obtain ⟨n,e⟩:=h d (mem_cons_self ..)
  rcases e with rfl | rfl | rfl
  ·have:0<=n:=by have:=o'.1; simp only [okd] at this; exact this.1
   simp only [sg,sk,sc1]
   omega
  ·simp [sg,sk]
  ·simp [sg,sk]
def spSf:Sp3:=λ ds μ Q=>∃ (x0:D) (p:Pen) (w:List Dd),ds=[x0,.tup (encs w)] /\ isP x0 p /\ Hd p /\ Wd w /\ dns w<=400 /\ sks w<=400 /\ ∀ g μ',Ext μ μ'->μ g=none->μ' g=some (.lst ((wk p (unrs w)).map encT))->Q (.ref g) μ'
theorem xc4 (ds:List D) (μ:Mu) (Q:VK3) (h:spSf ds μ Q):zp3 wg1 (spPd 5) (spPl 5) spGo { nx:=λ _ μ'=>Q .non μ',rt:=Q } (start3 xl3 ds) μ:=by
 obtain ⟨x0,p,w,rfl,hx0,hp0,hw,hd,hs,q⟩:=h
 have hz:(1000:Nat) < sizeLine:=by decide
 refine ⟨Nat.zero_le _,λ g hg=>?_⟩
 refine ⟨w,rfl,by have:=hw.2.1; omega,by have:=hw.2.1; omega,by have:=hw.2.2; omega,hw.1,hd,λ f μ1 ex1 hf ef=>?_⟩
 have gf:f ≠ g:=λ z=>by subst z; rw [ta0] at hf; cases hf
 have ou:=(uh0 w hw.1).1
 have pu:=yg0 w
 have tot:((wk p (unrs w)).length:Int)<=400:=by rw [wv1 _ _ pu ou,zk0 w hw.1]; exact hs
 conv=>whnf
 rw [ef]
 refine wf0 (λ l ρ μ'=>∃ (r:List Dd) (c:Pen) (y:D) (L:List T3) (o:Option D),l=encs r /\ isP y c /\ ρ=[some x0,some (.tup (encs w)),some (.ref g),some y,o] /\ Ext μ μ' /\ μ' f=some (.lst (encs (unrs w))) /\ μ' g=some (.lst (L.map encT)) /\ L ++ wk c r=wk p (unrs w) /\ plns r /\ oks r /\ Hd c) ?_ ?_ ?_ ?_
 ·exact ⟨unrs w,p,x0,[],none,rfl,hx0,rfl,(Ext.new hg).trans ex1,ef,ex1 _ _ ta0,by simp,pu,ou,hp0⟩
 ·rintro l ρ μ' ⟨r,c,y,L,o,_,_,_,_,ef',_⟩
  exact ef'
 ·rintro ρ μ' ⟨r,c,y,L,o,e,hy,rfl,ex,ef',eg,ea,_⟩
  cases r with
  | nil =>
   simp only [wk,append_nil] at ea
   subst ea
   exact q g μ' ex hg eg
  | cons _ _=>simp [encs] at e
 ·rintro x rest ρ μ' ⟨r,c,y,L,o,e,hy,rfl,ex,ef',eg,ea,pr,oo,hc⟩
  cases r with
  | nil=>simp [encs] at e
  | cons d r =>
   simp only [encs,List.cons.injEq] at e
   obtain ⟨rfl,rfl⟩:=e
   simp only [oks] at oo
   have pr':plns r:=λ x hx=>pr x (mem_cons_of_mem _ hx)
   have ll:L.length + (sg c d).length<=400:=by
    have:=congrArg List.length ea
    simp only [wk,length_append] at this
    omega
   have nxt:∀ (L':List T3) μ2,L'=L ++ sg c d->Ext μ μ2->μ2 f=some (.lst (encs (unrs w)))->μ2 g=some (.lst (L'.map encT))->∃ (r':List Dd) (c':Pen) (y':D) (L':List T3) (o':Option D),encs r=encs r' /\ isP y' c' /\ [some x0,some (.tup (encs w)),some (.ref g),some (encP (led c (pd d))),some (enc d)]=[some x0,some (.tup (encs w)),some (.ref g),some y',o'] /\ Ext μ μ2 /\ μ2 f=some (.lst (encs (unrs w))) /\ μ2 g=some (.lst (L'.map encT)) /\ L' ++ wk c' r'=wk p (unrs w) /\ plns r' /\ oks r' /\ Hd c':=by
    intro L' μ2 eL e1 e2 e3
    exact ⟨r,led c (pd d),_,L',_,rfl,.inl rfl,rfl,e1,e2,e3,by rw [eL,<- ea]; simp only [wk,append_assoc],pr',oo.2,sv0 _ _⟩
   obtain ⟨n,hn⟩:=pr d (mem_cons_self ..)
   have dd:dep d=0 /\ cnt d=1:=by rcases hn with rfl | rfl | rfl <;> exact ⟨by simp only [dep],by simp only [cnt]⟩
   rcases hn with rfl | rfl | rfl
   ·have n0:0<=n:=by have:=oo.1; simp only [okd] at this; exact this.1
    simp only [sg,sc1] at ll
    conv=>whnf
    rw [eg]
    refine ⟨y,c,n,rfl,hy,hc,n0,by omega,λ t μ2 ex2 ht et=>?_⟩
    have eg2:=ex2 _ _ eg
    have ef2:=ex2 _ _ ef'
    conv=>whnf
    rw [eg2,et]
    refine ⟨by rw [length_map,length_map,sc1]; omega,?_⟩
    refine ⟨.go n,rfl,by omega,by omega,by omega,oo.1,λ e he=>?_⟩
    refine ⟨y,e,c,_,rfl,hy,he,hc,nxt (L ++ ln c n.toNat) _ rfl ?_ ?_ ?_⟩
    ·intro a b hab
     rw [ub0 (td0 hab hg)]
     exact ex2 _ _ (ex _ _ hab)
    ·rw [ub0 gf]; exact ef2
    ·rw [ta0,map_append]
   ·refine ⟨.jump n,rfl,by omega,by omega,by omega,oo.1,λ e he=>⟨y,e,c,_,rfl,hy,he,hc,nxt L _ (by simp [sg]) ex ef' eg⟩⟩
   ·refine ⟨.turn n,rfl,by omega,by omega,by omega,oo.1,λ e he=>⟨y,e,c,_,rfl,hy,he,hc,nxt L _ (by simp [sg]) ex ef' eg⟩⟩
def IsPic (L us:List T3):Prop:=us.Nodup /\ us.Pairwise le3 /\ ∀ x,x ∈ us ↔ x ∈ L
theorem IsPic.one {L us vs:List T3} (h:IsPic L us) (k:IsPic L vs):us=vs :=
 uniq ((List.perm_ext_iff_of_nodup h.1 k.1).mpr λ x=>(h.2.2 x).trans (k.2.2 x).symm) h.2.1 k.2.1
theorem IsPic.len {L us:List T3} (h:IsPic L us):us.length<=L.length:=List.Nodup.length_le_of_subset h.1 λ x hx=>(h.2.2 x).mp hx
theorem va2 {ks L us:List T3} (nd:ks.Nodup) (mk:∀ x,x ∈ ks ↔ x ∈ L) (pm:us.Perm ks) (up:us.Pairwise le3):IsPic L us :=
 ⟨pm.nodup_iff.mpr nd,up,λ x=>(pm.mem_iff).trans (mk x)⟩
def spPw:Sp3:=λ ds μ Q=>∃ (g:Addr) (L:List T3),ds=[.ref g] /\ μ g=some (.lst (L.map encT)) /\ SB L /\ ∀ (us:List T3) μ',Ext μ μ'->IsPic L us->Q (.tup (us.map encT)) μ'
theorem tc4 (ds:List D) (μ:Mu) (Q:VK3) (h:spPw ds μ Q):up3 { nx:=λ _ μ'=>Q .non μ',rt:=Q } (start3 wl3 ds) μ:=by
 obtain ⟨g,L,rfl,hg,hl,q⟩:=h
 refine ⟨L,hg,hl,λ ks nd mk us pm up r hr=>?_⟩
 exact wq4 ta0 (q us _ (Ext.new hr) (va2 nd mk pm up))
def pg:Dd->Int
 | .go n=>if n < 0 then -n else n
 | .jump n=>if n < 0 then -n else n
 | _=>0
def pgs:List Dd->Int
 | []=>0
 | d :: r=>pg d + pgs r
theorem vv2:∀ w,plns w->oks w->pm (pb w)<=pgs w
 | [],_,_=>by simp only [pb,pgs]; decide
 | d :: r,h,o=>by
  simp only [oks] at o
  have i:=vv2 r (λ x hx=>h x (mem_cons_of_mem _ hx)) o.2
  have a:pm (pd d)<=pg d:=by
   obtain ⟨n,e⟩:=h d (mem_cons_self ..)
   rw [vc1]
   rcases e with rfl | rfl | rfl <;> simp only [pd,pg] <;> (try split) <;> omega
  simp only [pb,pgs]
  exact ya2 (yz0 d o.1) a i
theorem vg1:∀ w,plns w->oks w->sks w<=pgs w
 | [],_,_=>by simp [sks,pgs]
 | d :: r,h,o=>by
  simp only [oks] at o
  have i:=vg1 r (λ x hx=>h x (mem_cons_of_mem _ hx)) o.2
  have a:sk d<=pg d:=by
   obtain ⟨n,e⟩:=h d (mem_cons_self ..)
   rcases e with rfl | rfl | rfl <;> simp only [sk,pg] <;> (try split) <;> omega
  simp only [sks,pgs]
  omega
def Short (w:List Dd):Prop:=(sks w<=400 /\ dns w<=400) /\ pgs (unrs w)<=60
theorem Short.few {w:List Dd} (h:Short w) (o:oks w):sks w<=60:=by
 have a:=vg1 (unrs w) (yg0 w) (uh0 w o).1
 rw [zk0 w o] at a
 have:=h.2
 omega
theorem Short.pen {w:List Dd} (h:Short w) (o:oks w):pm (pb w)<=60:=by
 have a:=vv2 (unrs w) (yg0 w) (uh0 w o).1
 rw [(uh0 w o).2] at a
 have:=h.2
 omega
def tr0 (w:List Dd):List T3:=(List.range 4).flatMap λ j=>wk (pw (pb w) j) (unrs w)
theorem ta1 {w:List Dd} (o:oks w) (c:Pen):((wk c (unrs w)).length:Int)=sks w:=by
 have:=wv1 (unrs w) c (yg0 w) (uh0 w o).1
 rw [zk0 w o] at this
 exact this
theorem sp0 {w:List Dd} (o:oks w) (h:sks w<=60) (f:Nat->Pen):∀ n,((List.range n).flatMap λ j=>wk (f j) (unrs w)).length<=60 * n
 | 0=>by simp
 | n + 1=>by
  have i:=sp0 o h f n
  have l:=ta1 o (f n)
  rw [range_succ,List.flatMap_append,length_append]
  simp only [List.flatMap_cons,List.flatMap_nil,append_nil]
  omega
def spPg:Sp3:=λ ds μ Q=>∃ w,ds=[.tup (encs w)] /\ Wd w /\ (sks w<=400 /\ dns w<=400) /\ ∀ μ',Ext μ μ'->Q (.int (pgs (unrs w))) μ'
theorem wd2:∀ (l:List Int),ints? (l.map D.int)=some l
 | []=>rfl
 | n :: r=>by simp only [map_cons,ints?,wd2 r]
def gds2:List Dd->List Int
 | []=>[]
 | .turn _ :: r=>gds2 r
 | d :: r=>pg d :: gds2 r
theorem wz0:∀ w,plns w->(gds2 w).sum=pgs w
 | [],_=>rfl
 | d :: r,h=>by
  have i:=wz0 r λ x hx=>h x (mem_cons_of_mem _ hx)
  obtain ⟨n,e⟩:=h d (mem_cons_self ..)
  rcases e with rfl | rfl | rfl
  ·simp only [gds2,pgs,sum_cons,i]
  ·simp only [gds2,pgs,sum_cons,i]
  ·simp only [gds2,pgs,pg,i]; omega
theorem vs3 {p:Addr} {l:List Int} {μ:Mu} {Q:VK3} (h:μ p=some (.lst (l.map D.int))) (k:Q (.int l.sum) μ):sumR [.ref p] μ Q:=by
 unfold sumR
 simp only [h,wd2]
 exact k
def WPg (μ1:Mu) (r:Addr) (w:List Dd) (l ys:List D) (ρ:St3) (μ':Mu):Prop:=Ext μ1 μ' /\ μ' r=some (.lst ys) /\ (∃ o,ρ=[o]) /\ ∃ (R:List Dd) (A:List Int),l=encs R /\ plns R /\ ys=A.map D.int /\ A ++ gds2 R=gds2 (unrs w) /\ A.length + R.length<=(unrs w).length
theorem vc4 (ds:List D) (μ:Mu) (Q:VK3) (h:spPg ds μ Q):wp3 (spPl 5) { nx:=λ _ μ'=>Q .non μ',rt:=Q } (start3 yl3 ds) μ:=by
 obtain ⟨w,rfl,hw,hs,q⟩:=h
 have hz:(1000:Nat) < sizeLine:=by decide
 have ul:=wk0 w hw.1
 refine ⟨w,rfl,by have:=hw.2.1; omega,by have:=hw.2.1; omega,by have:=hw.2.2; omega,hw.1,hs.2,λ f μ1 ex1 hf ef=>?_⟩
 have pu:=yg0 w
 conv=>whnf
 rw [ef]
 intro r hr
 refine ⟨WPg μ1 r w,?_,?_,?_,?_⟩
 ·exact ⟨Ext.new hr,ta0,⟨_,rfl⟩,unrs w,[],rfl,pu,rfl,rfl,by simp⟩
 ·rintro l ys ρ μ' ⟨h1,h2,_⟩
  exact ⟨h1 _ _ ef,h2⟩
 ·rintro ys ρ μ' ⟨h1,h2,_,R,A,e,_,rfl,e2,_⟩
  cases R with
  | cons _ _=>simp [encs] at e
  | nil =>
   simp only [gds2,append_nil] at e2
   subst e2
   refine vs3 h2 ?_
   rw [wz0 _ pu]
   exact q μ' (ex1.trans h1)
 ·rintro x l ys ρ μ' ⟨h1,h2,⟨o,rfl⟩,R,A,e,pr,rfl,e2,e3⟩
  cases R with
  | nil=>simp [encs] at e
  | cons d R =>
   simp only [encs,List.cons.injEq] at e
   obtain ⟨rfl,rfl⟩:=e
   have pr':plns R:=λ x hx=>pr x (mem_cons_of_mem _ hx)
   rw [length_cons] at e3
   refine ⟨by rw [length_map]; omega,?_⟩
   have nx:∀ v,gds2 (d :: R)=v :: gds2 R->(μ' r=some (.lst (A.map D.int)) /\ WPg μ1 r w (encs R) (A.map D.int ++ [D.int v]) ([some (enc d)]:St3) (updM μ' r (.lst (A.map D.int ++ [D.int v])))):=λ v hv=>by
    refine ⟨h2,λ b u hb=>?_,ta0,⟨_,rfl⟩,R,A ++ [v],rfl,pr',by rw [map_append]; rfl,by rw [<- e2,hv]; simp,by rw [length_append]; simp only [length_cons,length_nil]; omega⟩
    rw [ub0 (td0 hb hr)]
    exact h1 _ _ hb
   obtain ⟨n,hn⟩:=pr d (mem_cons_self ..)
   rcases hn with rfl | rfl | rfl
   ·exact nx _ rfl
   ·exact nx _ rfl
   ·refine ⟨h1,h2,⟨_,rfl⟩,R,A,rfl,pr',rfl,by rw [<- e2]; rfl,by omega⟩
theorem vq2 {x:D} {p:Pen} (h:isP x p) {μ:Mu} {K:VK3} (k:K (.bl (decide (p=st))) μ):eqR x ze0 μ K:=by
 have e:(PyData.tuple [.int p.1,.int p.2.1,.int p.2.2]).eqv (PyData.tuple [.int 0,.int 0,.int 0])=decide (p=st):=by
  obtain ⟨x,y,w⟩:=p
  rw [Bool.eq_iff_iff]
  simp [PyData.eqv,PyData.eqvAll,st,Prod.mk.injEq]
 rcases h with rfl | rfl
 ·rw [show encP p=.tup [.int p.1,.int p.2.1,.int p.2.2] from rfl,ue2 (p:=.tuple [.int p.1,.int p.2.1,.int p.2.2]) (q:=.tuple [.int 0,.int 0,.int 0]) rfl (by simp only [datM,dat,dats]) (by simp only [datM,dat,dats]) (by simp [PyData.depth,PyData.depthAll]) (by simp [PyData.depth,PyData.depthAll]),e]
  exact k
 ·rw [show encK p=.ktp [.int p.1,.int p.2.1,.int p.2.2] from rfl,ue2 (p:=.tuple [.int p.1,.int p.2.1,.int p.2.2]) (q:=.tuple [.int 0,.int 0,.int 0]) rfl (by simp only [datM,dat,dats]) (by simp only [datM,dat,dats]) (by simp [PyData.depth,PyData.depthAll]) (by simp [PyData.depth,PyData.depthAll]),e]
  exact k
theorem tn2 {x:D} {p:Pen} (h:isP x p) {ρ:St3} {μ:Mu} {t:TT3} {K:Bool->Mu->Prop} (e:getI ρ 1=some x) (k1:p=st->K true μ) (k2:p ≠ st->t ρ μ K):or3 (b3 (o3 eqR (v3 1) (c3 ze0))) t ρ μ K:=by
 unfold or3 b3 o3 v3 c3
 rw [e]
 dsimp only
 refine vq2 h ?_
 by_cases c:p=st
 ·rw [decide_eq_true c]
  exact k1 c
 ·rw [decide_eq_false c]
  exact k2 c
def spMs:Sp3:=λ ds μ Q=>∃ (t:T3) (x y:Int),ds=[encT t,.int x,.int y] /\ Q (encT (t.1 + x,t.2.1 + y,t.2.2)) μ
theorem wd4 (ds:List D) (μ:Mu) (Q:VK3) (h:spMs ds μ Q):zq3 { nx:=λ _ μ'=>Q .non μ',rt:=Q } (start3 ym3 ds) μ:=by
 obtain ⟨t,x,y,rfl,q⟩:=h
 exact ⟨z3,q⟩
theorem wm2 (kvs:List (List Int × D)) (k:List Int) (y:D):(putL kvs k y).length<=kvs.length + 1:=by
 unfold putL
 split
 ·rw [length_map]; omega
 ·rw [length_append]; simp
theorem sb4 {ts:List T3} (h:ts.length<=510):SB ts:=λ l nd hl=>by
 have:=List.Nodup.length_le_of_subset nd hl
 omega
def spCs:Sp3:=λ ds μ Q=>∃ w,ds=[.tup (encs w)] /\ Wd w /\ Short w /\ ∀ μ',Ext μ μ'->Q .non μ'
theorem sf4 (ds:List D) (μ:Mu) (Q:VK3) (h:spCs ds μ Q):sr3 yg1 spPg { nx:=λ _ μ'=>Q .non μ',rt:=Q } (start3 sn3 ds) μ:=by
 obtain ⟨w,rfl,hw,hs,q⟩:=h
 refine ⟨w,rfl,hw,λ μ1 e1=>?_⟩
 show if (!decide (sks w<=400 /\ dns w<=400))=true then _ else _
 rw [decide_eq_true hs.1]
 refine ⟨w,rfl,hw,hs.1,λ μ2 e2=>?_⟩
 show if (decide ((60:Int) < pgs (unrs w)))=true then _ else _
 rw [if_neg (λ h=>by have:=of_decide_eq_true h; have:=hs.2; omega)]
 exact q μ2 (e1.trans e2)
abbrev Sf:=Option (Int × Int)
def yh0:Sf->D
 | none=>.non
 | some p=>.tup [.int p.1,.int p.2]
def ShOk:Sf->Prop
 | none=>True
 | some p=>(p.1.natAbs<=60 /\ p.2.natAbs<=60) /\ ¬ (p.1=0 /\ p.2=0)
def Mvs (w:List Dd):Prop:=(pb w).2.2=0 /\ pb w ≠ st /\ sks w ≠ 0
def Ev (w:List Dd) (us:List T3) (sh:Sf):Prop:=(Mvs w /\ IsPic (wk st (unrs w)) us /\ sh=some ((pb w).1,(pb w).2.1)) \/ (¬ Mvs w /\ IsPic (tr0 w) us /\ sh=none)
theorem Ev.len {w:List Dd} {us:List T3} {sh:Sf} (h:Ev w us sh) (hw:Wd w) (hs:Short w):us.length<=240:=by
 have few:=hs.few hw.1
 rcases h with ⟨_,ip,_⟩ | ⟨_,ip,_⟩
 ·have a:=ip.len
  have b:=ta1 hw.1 st
  omega
 ·have a:=ip.len
  have b:=sp0 hw.1 few (λ j=>pw (pb w) j) 4
  unfold tr0 at a
  omega
theorem Ev.sh {w:List Dd} {us:List T3} {sh:Sf} (h:Ev w us sh) (hw:Wd w) (hs:Short w):ShOk sh:=by
 have pn:=hs.pen hw.1
 rw [vc1] at pn
 rcases h with ⟨m,_,rfl⟩ | ⟨_,_,rfl⟩
 ·refine ⟨⟨by dsimp only; omega,by dsimp only; omega⟩,λ h=>m.2.1 ?_⟩
  dsimp only at h
  have:pb w=((pb w).1,(pb w).2.1,(pb w).2.2):=rfl
  rw [this,h.1,h.2,m.1]
  rfl
 ·exact trivial
def xk1:Sp3:=λ ds μ Q=>∃ w x,ds=[.tup (encs w),x] /\ Wd w /\ Short w /\ isP x (pb w) /\ ∀ (us:List T3) μ',Ext μ μ'->IsPic (tr0 w) us->Q (.tup (us.map encT)) μ'
theorem sc4 (ds:List D) (μ:Mu) (Q:VK3) (h:xk1 ds μ Q):tp3 wg1 spPw spSf { nx:=λ _ μ'=>Q .non μ',rt:=Q } (start3 vl3 ds) μ:=by
 obtain ⟨w,x,rfl,hw,hs,hx,q⟩:=h
 have hz:(1000:Nat) < sizeLine:=by decide
 have few:=hs.few hw.1
 have fl:=sp0 hw.1 few (λ j=>pw (pb w) j)
 refine ⟨Nat.zero_le _,λ g hg=>?_⟩
 refine ⟨⟨by decide,by decide⟩,?_⟩
 refine wf0 (λ l ρ μ'=>Ext μ μ' /\ ∃ (n:Nat) (y:D) (o:Option D),isP y (pw (pb w) n) /\ ρ=[some (.tup (encs w)),some x,some (.ref g),some y,o] /\ μ' g=some (.lst (((List.range n).flatMap λ j=>wk (pw (pb w) j) (unrs w)).map encT)) /\ n + l.length=4) ?_ (λ _ _ _ _=>trivial) ?_ ?_
 ·exact ⟨Ext.new hg,0,ze0,none,.inr rfl,rfl,ta0,by decide⟩
 ·rintro ρ μ' ⟨ex,n,y,o,hy,rfl,eg,le⟩
  have e4:n=4:=by simpa using le
  subst e4
  have f4:=fl 4
  exact ⟨g,tr0 w,rfl,eg,sb4 (by unfold tr0; omega),λ us μ2 e2 ip=>q us μ2 (ex.trans e2) ip⟩
 ·rintro z rest ρ μ' ⟨ex,n,y,o,hy,rfl,eg,le⟩
  rw [length_cons] at le
  have fn:=fl n
  have lw:=ta1 hw.1 (pw (pb w) n)
  conv=>whnf
  rw [eg]
  refine ⟨y,pw (pb w) n,w,rfl,hy,vt0 _ _,hw,hs.1.2,hs.1.1,λ t μ2 ex2 ht et=>?_⟩
  have eg2:=ex2 _ _ eg
  conv=>whnf
  rw [eg2,et]
  refine ⟨by rw [length_map,length_map]; omega,?_⟩
  refine ⟨y,x,pw (pb w) n,pb w,rfl,hy,hx,vt0 _ _,?_,n + 1,_,_,.inl rfl,rfl,?_,by omega⟩
  ·intro a b hab
   rw [ub0 (td0 hab hg)]
   exact ex2 _ _ (ex _ _ hab)
  ·rw [ta0,range_succ,List.flatMap_append,map_append]
   simp only [List.flatMap_cons,List.flatMap_nil,append_nil]
def yk2:Sp3:=λ ds μ Q=>∃ w,ds=[.tup (encs w)] /\ Wd w /\ Short w /\ ∀ us sh μ',Ext μ μ'->Ev w us sh->Q (.tup [.tup (us.map encT),yh0 sh]) μ'
theorem ue4 (ds:List D) (μ:Mu) (Q:VK3) (h:yk2 ds μ Q):wr3 (spSk 5) (spPb 5) xk1 spPw spSf { nx:=λ _ μ'=>Q .non μ',rt:=Q } (start3 zn3 ds) μ:=by
 obtain ⟨w,rfl,hw,hs,q⟩:=h
 have few:=hs.few hw.1
 have four:∀ x,isP x (pb w)->¬ Mvs w->∀ μ1,Ext μ μ1->xk1 [.tup (encs w),x] μ1 (λ d μ2=>2<=sizeLine /\ Q (.tup [d,.non]) μ2):=λ x hx hc μ1 e1=>⟨w,x,rfl,hw,hs,hx,λ us μ2 e2 lu=>⟨z2,q us none μ2 (e1.trans e2) (.inr ⟨hc,lu,rfl⟩)⟩⟩
 refine ⟨w,rfl,by have:=hw.2.1; omega,by have:=hw.2.1; omega,by have:=hw.2.2; omega,hw.1,λ x hx=>?_⟩
 have hx':=hx
 rcases hx with rfl | rfl <;>
 ·by_cases c1:(pb w).2.2=0
  ·show if (!decide ((pb w).2.2=(0:Int)))=true then _ else _
   rw [decide_eq_true c1,if_neg (show ¬ ((!true)=true) by decide)]
   refine tn2 hx' rfl (λ c2=>?_) (λ c2=>?_)
   ·exact four _ hx' (λ h=>h.2.1 c2) μ (Ext.refl _)
   ·refine ⟨w,rfl,by have:=hw.2.1; omega,by have:=hw.2.1; omega,by have:=hw.2.2; omega,hw.1,λ μ1 e1=>?_⟩
    by_cases c3':sks w=0
    ·show if (decide (sks w=(0:Int)))=true then _ else _
     rw [if_pos (decide_eq_true c3')]
     exact four _ hx' (λ h=>h.2.2 c3') μ1 e1
    ·show if (decide (sks w=(0:Int)))=true then _ else _
     rw [if_neg (λ h=>c3' (of_decide_eq_true h))]
     refine ⟨ze0,st,w,rfl,.inr rfl,vd1,hw,hs.1.2,hs.1.1,λ g μ2 e2 hg eg=>?_⟩
     have lw:=ta1 hw.1 st
     refine ⟨g,_,rfl,eg,sb4 (by omega),λ us μ3 e3 ip=>?_⟩
     exact ⟨z2,z2,q us (some ((pb w).1,(pb w).2.1)) μ3 ((e1.trans e2).trans e3) (.inl ⟨⟨c1,c2,c3'⟩,ip,rfl⟩)⟩
  ·show if (!decide ((pb w).2.2=(0:Int)))=true then _ else _
   rw [decide_eq_false c1]
   exact four _ hx' (λ h=>c1 h.1) μ (Ext.refl _)
def num:Sf->T3->Int
 | none,_=>0
 | some p,t=>if p.1=0 then t.2.1.fdiv p.2 else t.1.fdiv p.1
def lane:Sf->T3->T3
 | none,t=>t
 | some p,t=>(t.1 + -(num (some p) t) * p.1,t.2.1 + -(num (some p) t) * p.2,t.2.2)
def xk2:Sp3:=λ ds μ Q=>∃ (t:T3) (sh:Sf),ds=[encT t,yh0 sh] /\ ShOk sh /\ Q (.tup [encT (lane sh t),.int (num sh t)]) μ
theorem sd4 (ds:List D) (μ:Mu) (Q:VK3) (h:xk2 ds μ Q):tq3 spMs { nx:=λ _ μ'=>Q .non μ',rt:=Q } (start3 um3 ds) μ:=by
 obtain ⟨t,sh,rfl,hs,q⟩:=h
 cases sh with
 | none=>exact ⟨z2,q⟩
 | some p =>
  obtain ⟨a,b⟩:=p
  obtain ⟨⟨ha,hb⟩,ne⟩:=hs
  dsimp only at ha hb ne
  have ma : -(2 ^ 64) < a /\ a < 2 ^ 64:=by omega
  have mb : -(2 ^ 64) < b /\ b < 2 ^ 64:=by omega
  by_cases c:a=0
  ·show if (!decide (a=(0:Int)))=true then _ else _
   rw [decide_eq_true c]
   have e:num (some (a,b)) t=t.2.1.fdiv b:=if_pos c
   simp only [lane,e] at q
   exact ⟨⟨λ h=>ne ⟨c,h⟩,by omega⟩,.inl (.inr ma),.inl (.inr mb),t,_,_,rfl,z2,q⟩
  ·show if (!decide (a=(0:Int)))=true then _ else _
   rw [decide_eq_false c]
   have e:num (some (a,b)) t=t.1.fdiv a:=if_neg c
   simp only [lane,e] at q
   exact ⟨⟨c,by omega⟩,.inl (.inr ma),.inl (.inr mb),t,_,_,rfl,z2,q⟩
def Drn (us:List T3) (sh:Sf) (t:T3):Prop:=match sh with
 | none=>t ∈ us
 | some p=>∃ u ∈ us,∃ k:Int,0<=k /\ t=(u.1 + k * p.1,u.2.1 + k * p.2,u.2.2)
theorem zi3 {p:Int × Int} (h:¬ (p.1=0 /\ p.2=0)) (u:T3) (k:Int):num (some p) (u.1 + k * p.1,u.2.1 + k * p.2,u.2.2)=num (some p) u + k /\ lane (some p) (u.1 + k * p.1,u.2.1 + k * p.2,u.2.2)=lane (some p) u:=by
 have e:num (some p) (u.1 + k * p.1,u.2.1 + k * p.2,u.2.2)=num (some p) u + k:=by
  simp only [num]
  by_cases c:p.1=0
  ·rw [if_pos c,if_pos c]
   exact Int.add_mul_fdiv_right _ _ (λ z=>h ⟨c,z⟩)
  ·rw [if_neg c,if_neg c]
   exact Int.add_mul_fdiv_right _ _ c
 refine ⟨e,?_⟩
 simp only [lane,e]
 refine Prod.ext ?_ (Prod.ext ?_ rfl)
 ·show u.1 + k * p.1 + -(num (some p) u + k) * p.1=u.1 + -num (some p) u * p.1
  grind
 ·show u.2.1 + k * p.2 + -(num (some p) u + k) * p.2=u.2.1 + -num (some p) u * p.2
  grind
theorem tq2 {us:List T3} {sh:Sf} {t:T3} (hs:ShOk sh):Drn us sh t ↔ ∃ u ∈ us,lane sh u=lane sh t /\ num sh u<=num sh t:=by
 cases sh with
 | none =>
  constructor
  ·intro h; exact ⟨t,h,rfl,Int.le_refl _⟩
  ·rintro ⟨u,hu,e,_⟩; have e':u=t:=e; subst e'; exact hu
 | some p =>
  constructor
  ·rintro ⟨u,hu,k,hk,rfl⟩
   obtain ⟨a,b⟩:=zi3 hs.2 u k
   exact ⟨u,hu,b.symm,by rw [a]; omega⟩
  ·rintro ⟨u,hu,e,hn⟩
   refine ⟨u,hu,num (some p) t - num (some p) u,by omega,?_⟩
   simp only [lane,Prod.mk.injEq] at e
   obtain ⟨e1,e2,e3⟩:=e
   refine Prod.ext ?_ (Prod.ext ?_ e3.symm)
   ·show t.1=u.1 + (num (some p) t - num (some p) u) * p.1
    grind
   ·show t.2.1=u.2.1 + (num (some p) t - num (some p) u) * p.2
    grind
def kTi (t:T3):List Int:=[t.1,t.2.1,t.2.2]
theorem ui3 {a b:T3} (h:kTi a=kTi b):a=b:=by
 simp only [kTi,List.cons.injEq,and_true] at h
 exact Prod.ext h.1 (Prod.ext h.2.1 h.2.2)
theorem ui2 (kvs:List (List Int × D)) (k:List Int) (y:D) (k':List Int):valL (putL kvs k y) k'=if k=k' then some y else valL kvs k':=by
 unfold putL
 by_cases c:(kvs.any λ kv=>decide (kv.1=k))=true
 ·rw [if_pos c]
  induction kvs with
  | nil=>simp at c
  | cons x r ih =>
   unfold valL at ih ⊢
   rw [map_cons,find?_cons,find?_cons]
   by_cases e:x.1=k
   ·rw [if_pos e]
    by_cases e2:x.1=k'
    ·simp [e2,show k=k' from e ▸ e2]
    ·have ne:¬ k=k':=λ z=>e2 (e.trans z)
     simp only [e2,decide_false,ne,if_false]
     have id:(List.map (λ kv:List Int × D=>if kv.1=k then (kv.1,y) else kv) r).find? (λ kv=>decide (kv.1=k'))=r.find? (λ kv=>decide (kv.1=k')):=by
      clear ih c
      induction r with
      | nil=>rfl
      | cons z r ih2 =>
       rw [map_cons,find?_cons,find?_cons,ih2]
       by_cases ez:z.1=k
       ·rw [if_pos ez]; simp [show ¬ z.1=k' from λ w=>ne (ez ▸ w)]
       ·rw [if_neg ez]
     rw [id]
   ·rw [if_neg e]
    have c':(r.any λ kv=>decide (kv.1=k))=true:=by simpa [e] using c
    by_cases e2:x.1=k'
    ·have ne:¬ k=k':=λ z=>e (e2.trans z.symm)
     simp [e2,ne]
    ·simp only [e2,decide_false]
     exact ih c'
 ·rw [if_neg c]
  unfold valL
  rw [List.find?_append]
  have nn:∀ x ∈ kvs,¬ x.1=k:=λ x hx e=>c (List.any_eq_true.mpr ⟨x,hx,by simp [e]⟩)
  by_cases e:k=k'
  ·subst e
   rw [if_pos rfl,List.find?_eq_none.mpr (λ x hx=>by simp [nn x hx])]
   simp
  ·rw [if_neg e]
   cases h:kvs.find? λ kv=>decide (kv.1=k') with
   | none=>simp [e]
   | some v=>simp
def LnI (sh:Sf) (us:List T3) (kvs:List (List Int × D)):Prop:=∀ l:T3,(valL kvs (kTi l)=none /\ ∀ u ∈ us,lane sh u ≠ l) \/ ∃ i:Int,valL kvs (kTi l)=some (.int i) /\ (∃ u ∈ us,lane sh u=l /\ num sh u=i) /\ ∀ u ∈ us,lane sh u=l->i<=num sh u
theorem LnI.step {sh:Sf} {us:List T3} {kvs:List (List Int × D)} (h:LnI sh us kvs) (t:T3) (i:Int) (hi:(valL kvs (kTi (lane sh t))=none /\ i=num sh t) \/ valL kvs (kTi (lane sh t))=some (.int i)):LnI sh (us ++ [t]) (putL kvs (kTi (lane sh t)) (.int (if i < num sh t then i else num sh t))):=by
 intro l
 rw [ui2]
 by_cases e:lane sh t=l
 ·subst e
  rw [if_pos rfl]
  refine .inr ⟨_,rfl,?_,?_⟩
  ·rcases h (lane sh t) with ⟨z,zz⟩ | ⟨j,z,⟨u,hu,hl,hn⟩,zz⟩
   ·rcases hi with ⟨_,rfl⟩ | hi
    ·exact ⟨t,by simp,rfl,by simp⟩
    ·rw [z] at hi; cases hi
   ·rcases hi with ⟨hi,_⟩ | hi
    ·rw [z] at hi; cases hi
    ·rw [z] at hi; cases hi
     by_cases c:num sh u < num sh t
     ·exact ⟨u,by simp [hu],hl,by rw [hn,if_pos (hn ▸ c)]⟩
     ·exact ⟨t,by simp,rfl,by rw [if_neg (hn ▸ c)]⟩
  ·intro u hu hl
   rcases List.mem_append.mp hu with hu | hu
   ·rcases h (lane sh t) with ⟨_,zz⟩ | ⟨j,z,_,zz⟩
    ·exact absurd hl (zz u hu)
    ·rcases hi with ⟨hi,_⟩ | hi
     ·rw [z] at hi; cases hi
     ·rw [z] at hi; cases hi
      have:=zz u hu hl
      split <;> omega
   ·rw [mem_singleton] at hu; subst hu; split <;> omega
 ·rw [if_neg (λ z=>e (ui3 z))]
  rcases h l with ⟨z,zz⟩ | ⟨j,z,⟨u,hu,hl,hn⟩,zz⟩
  ·refine .inl ⟨z,λ u hu=>?_⟩
   rcases List.mem_append.mp hu with hu | hu
   ·exact zz u hu
   ·rw [mem_singleton] at hu; subst hu; exact e
  ·refine .inr ⟨j,z,⟨u,by simp [hu],hl,hn⟩,λ v hv hvl=>?_⟩
   rcases List.mem_append.mp hv with hv | hv
   ·exact zz v hv hvl
   ·rw [mem_singleton] at hv; subst hv; exact absurd hvl e
theorem wz4 {p:Addr} {kvs:List (List Int × D)} {u:T3} {n:Int} {ρ:St3} {μ:Mu} {K:VK3} (e1:getI ρ 1=some (.ref p)) (e3:getI ρ 3=some (.tup [encT u,.int n])) (hm:μ p=some (.dcl kvs)) {i:Int} (hi:(valL kvs (kTi u)=none /\ i=n) \/ valL kvs (kTi u)=some (.int i)) (k:K (.int i) μ) :
    gdf3 (v3 1) (cons3 (o3 ixR (v3 3) (c3 (.int 0))) (cons3 (o3 ixR (v3 3) (c3 (.int 1))) nil3)) ρ μ K:=by
 unfold gdf3 cons3 o3 v3 c3 nil3
 rw [e1,e3]
 dsimp only
 rw [hm]
 dsimp only
 simp only [ixR,atI0,atI1,show keyI (encT u)=some (kTi u) from rfl,hm]
 rcases hi with ⟨e,rfl⟩ | e
 ·rw [e]; exact k
 ·rw [e]; exact k
theorem uu1 {p:Addr} {kvs:List (List Int × D)} {u:T3} {n:Int} {D':Ends3} {a0 a2:Option D} {μ:Mu} (hm:μ p=some (.dcl kvs)) {i:Int} (hi:(valL kvs (kTi u)=none /\ i=n) \/ valL kvs (kTi u)=some (.int i)) (hl:kvs.length < 1000) (k:D'.nx [a0,some (.ref p),a2,some (.tup [encT u,.int n])] (updM μ p (.dcl (putL kvs (kTi u) (.int (if i < n then i else n)))))) :
    (sj3 (v3 1) (o3 ixR (v3 3) (c3 (.int 0))) (call3 wo2 (cons3 (o3 ixR (v3 3) (c3 (.int 1))) (cons3 (gdf3 (v3 1) (cons3 (o3 ixR (v3 3) (c3 (.int 0))) (cons3 (o3 ixR (v3 3) (c3 (.int 1))) nil3))) nil3)))) D' [a0,some (.ref p),a2,some (.tup [encT u,.int n])] μ:=by
 have h:=wz4 (ρ:=[a0,some (.ref p),a2,some (.tup [encT u,.int n])]) (u:=u) (n:=n) (μ:=μ) (K:=λ d2 μ2=>wo2 [.int n,d2] μ2 λ v μ3=>match μ3 p with
  | some (.dcl kvs)=>kvs.length < 1000 /\ D'.nx [a0,some (.ref p),a2,some (.tup [encT u,.int n])] (updM μ3 p (.dcl (putL kvs [u.1,u.2.1,u.2.2] v)))
  | _=>False) rfl rfl hm hi (by
   show (match μ p with
    | some (.dcl kvs)=>kvs.length < 1000 /\ D'.nx [a0,some (.ref p),a2,some (.tup [encT u,.int n])] (updM μ p (.dcl (putL kvs [u.1,u.2.1,u.2.2] (.int (if i < n then i else n)))))
    | _=>False)
   rw [hm]
   exact ⟨hl,k⟩)
 exact h
theorem LnI.val {sh:Sf} {us:List T3} {kvs:List (List Int × D)} (h:LnI sh us kvs) (l:T3) (n:Int):∃ i:Int,(valL kvs (kTi l)=none /\ i=n) \/ valL kvs (kTi l)=some (.int i):=by
 rcases h l with ⟨z,_⟩ | ⟨i,z,_⟩
 ·exact ⟨n,.inl ⟨z,rfl⟩⟩
 ·exact ⟨i,.inr z⟩
def spLo:Sp3:=λ ds μ Q=>∃ us sh,ds=[.tup [.tup (us.map encT),yh0 sh]] /\ us.length<=400 /\ ShOk sh /\ ∀ p kvs μ',Ext μ μ'->μ' p=some (.dcl kvs)->LnI sh us kvs->Q (.ref p) μ'
theorem td4 (ds:List D) (μ:Mu) (Q:VK3) (h:spLo ds μ Q):uq3 xk2 { nx:=λ _ μ'=>Q .non μ',rt:=Q } (start3 vm3 ds) μ:=by
 obtain ⟨us,sh,rfl,lu,hs,q⟩:=h
 intro p hp
 refine wf0 (λ l ρ μ'=>Ext μ μ' /\ ∃ (a0 r:List T3) (kvs:List (List Int × D)) (a b:Option D),l=r.map encT /\ ρ=[some (.tup [.tup (us.map encT),yh0 sh]),some (.ref p),a,b] /\ μ' p=some (.dcl kvs) /\ LnI sh a0 kvs /\ a0 ++ r=us /\ kvs.length + r.length<=400) ?_ (λ _ _ _ _=>trivial) ?_ ?_
 ·exact ⟨Ext.new hp,[],us,[],none,none,rfl,rfl,ta0,λ l=>.inl ⟨rfl,λ u h=>(nomatch h)⟩,rfl,by simpa using lu⟩
 ·rintro ρ μ' ⟨ex,a0,r,kvs,a,b,e,rfl,hm,hi,e2,_⟩
  have r0:r=[]:=by simpa using e.symm
  subst r0
  rw [append_nil] at e2
  subst e2
  exact q p kvs μ' ex hm hi
 ·rintro x rest ρ μ' ⟨ex,a0,r,kvs,a,b,e,rfl,hm,hi,e2,hl⟩
  cases r with
  | nil=>simp at e
  | cons t r =>
   simp only [map_cons,List.cons.injEq] at e
   obtain ⟨rfl,rfl⟩:=e
   rw [length_cons] at hl
   refine ⟨t,sh,rfl,hs,?_⟩
   obtain ⟨i,hv⟩:=hi.val (lane sh t) (num sh t)
   refine uu1 (D':={ nx:=_,rt:=_,bk:=_,ct:=_ }) hm hv (by omega) ⟨λ c o hc=>?_,a0 ++ [t],r,_,_,_,rfl,rfl,ta0,hi.step t i hv,by simpa using e2,?_⟩
   ·rw [ub0 (td0 hc hp)]
    exact ex _ _ hc
   ·have:=wm2 kvs (kTi (lane sh t)) (.int (if i < num sh t then i else num sh t))
    omega
def vb3:Sp3:=λ ds μ Q=>∃ (p:Addr) (sh:Sf) (t:T3) (us:List T3) (kvs:List (List Int × D)),ds=[.ref p,yh0 sh,encT t] /\ ShOk sh /\ μ p=some (.dcl kvs) /\ LnI sh us kvs /\ ∀ b,(b=true ↔ Drn us sh t)->Q (.bl b) μ
theorem le_d {p:Addr} {kvs:List (List Int × D)} {u:T3} {n i:Int} {ρ:St3} {μ:Mu} {K:VK3} (e0:getI ρ 0=some (.ref p)) (e3:getI ρ 3=some (.tup [encT u,.int n])) (hm:μ p=some (.dcl kvs)) (ev:valL kvs (kTi u)=some (.int i)) (k:K (.bl (decide (i<=n))) μ) :
    o3 leR (o3 dgR (v3 0) (o3 ixR (v3 3) (c3 (.int 0)))) (o3 ixR (v3 3) (c3 (.int 1))) ρ μ K:=by
 unfold o3 v3 c3
 rw [e0,e3]
 simp only [ixR,atI0,atI1,dgR,show keyI (encT u)=some (kTi u) from rfl,hm,ev,leR,int20]
 exact k
theorem ye4 (ds:List D) (μ:Mu) (Q:VK3) (h:vb3 ds μ Q):sq3 xk2 { nx:=λ _ μ'=>Q .non μ',rt:=Q } (start3 tm3 ds) μ:=by
 obtain ⟨p,sh,t,us,kvs,rfl,hs,hm,hi,q⟩:=h
 refine ⟨t,sh,rfl,hs,?_⟩
 conv=>whnf
 rw [hm]
 show if ((valL kvs (kTi (lane sh t))).isSome)=true then _ else _
 have dl:=tq2 (us:=us) (t:=t) hs
 rcases hi (lane sh t) with ⟨z,zz⟩ | ⟨i,z,⟨u,hu,hl,hn⟩,zz⟩
 ·rw [z]
  refine q false ⟨λ h=>(nomatch h),λ h=>?_⟩
  obtain ⟨u,hu,e,_⟩:=dl.mp h
  exact absurd e (zz u hu)
 ·rw [z]
  refine le_d (ρ:=[some (.ref p),some (yh0 sh),some (encT t),some (.tup [encT (lane sh t),.int (num sh t)])]) rfl rfl hm z (q _ ?_)
  rw [decide_eq_true_iff,dl]
  constructor
  ·intro h
   exact ⟨u,hu,hl,by omega⟩
  ·rintro ⟨v,hv,e,h⟩
   have:=zz v hv e
   omega
def DrnW (w:List Dd) (t:T3):Prop:=(Mvs w /\ ∃ u ∈ wk st (unrs w),∃ k:Int,0<=k /\ t=(u.1 + k * (pb w).1,u.2.1 + k * (pb w).2.1,u.2.2)) \/ (¬ Mvs w /\ t ∈ tr0 w)
theorem Ev.drn {w:List Dd} {us:List T3} {sh:Sf} (h:Ev w us sh) (t:T3):Drn us sh t ↔ DrnW w t:=by
 rcases h with ⟨m,ip,rfl⟩ | ⟨m,ip,rfl⟩
 ·constructor
  ·rintro ⟨u,hu,k,hk,e⟩
   exact .inl ⟨m,u,(ip.2.2 u).mp hu,k,hk,e⟩
  ·rintro (⟨_,u,hu,k,hk,e⟩ | ⟨n,_⟩)
   ·exact ⟨u,(ip.2.2 u).mpr hu,k,hk,e⟩
   ·exact absurd m n
 ·constructor
  ·intro h
   exact .inr ⟨m,(ip.2.2 t).mp h⟩
  ·rintro (⟨n,_⟩ | ⟨_,h⟩)
   ·exact absurd n m
   ·exact (ip.2.2 t).mpr h
theorem Ev.one {w:List Dd} {us us':List T3} {sh sh':Sf} (h:Ev w us sh) (k:Ev w us' sh'):us=us' /\ sh=sh':=by
 rcases h with ⟨m,ip,rfl⟩ | ⟨m,ip,rfl⟩
 ·rcases k with ⟨_,jp,rfl⟩ | ⟨n,_⟩
  ·exact ⟨ip.one jp,rfl⟩
  ·exact absurd m n
 ·rcases k with ⟨n,_⟩ | ⟨_,jp,rfl⟩
  ·exact absurd n m
  ·exact ⟨ip.one jp,rfl⟩
def wb3:Sp3:=λ ds μ Q=>∃ (w:List Dd) (t:T3),ds=[.tup (encs w),encT t] /\ Wd w /\ Short w /\ ∀ b μ',Ext μ μ'->(b=true ↔ DrnW w t)->Q (.bl b) μ'
theorem ze4 (ds:List D) (μ:Mu) (Q:VK3) (h:wb3 ds μ Q):xr3 yk2 vb3 spLo { nx:=λ _ μ'=>Q .non μ',rt:=Q } (start3 sm3 ds) μ:=by
 obtain ⟨w,t,rfl,hw,hs,q⟩:=h
 refine ⟨w,rfl,hw,hs,λ us sh μ1 e1 ev=>?_⟩
 have lu:=ev.len hw hs
 have ok:=ev.sh hw hs
 exact ⟨us,sh,rfl,by omega,ok,λ p kvs μ2 e2 hm hi=>⟨p,sh,t,us,kvs,rfl,ok,hm,hi,λ b hb=>q b μ2 (e1.trans e2) (hb.trans (ev.drn t))⟩⟩
def wyT (t:T3):Prop:=t.2.2=0 \/ t.2.2=1
def zx1:Sp3:=λ ds μ Q=>∃ s:T3,ds=[encT s] /\ wyT s /\ Q .non μ
theorem tf4 (ds:List D) (μ:Mu) (Q:VK3) (h:zx1 ds μ Q):ti2 { nx:=λ _ μ'=>Q .non μ',rt:=Q } (start3 zi2 ds) μ:=by
 obtain ⟨⟨x,y,w⟩,rfl,hw,q⟩:=h
 rcases hw with e | e
 ·dsimp only at e; subst e
  simp only [ti2,ifs3,or3,b3,o3,call3,cons3,v3,start3,encT,map_cons,map_nil,zi2,length_cons,length_nil,Nat.zero_add,Nat.reduceSub,List.replicate,cons_append,nil_append,getI,nil3,lenR,c3,Nat.reduceAdd,cst3,never3,next3,if_true,ixR,atI2,inR,yd1,neR_ii,Bool.not_eq_true',decide_eq_false_iff_not]
  simp [inD,datM,dat,dats,PyData.eqv,PyData.depth,PyData.depthAll]
  exact q
 ·dsimp only at e; subst e
  simp only [ti2,ifs3,or3,b3,o3,call3,cons3,v3,start3,encT,map_cons,map_nil,zi2,length_cons,length_nil,Nat.zero_add,Nat.reduceSub,List.replicate,cons_append,nil_append,getI,nil3,lenR,c3,Nat.reduceAdd,cst3,never3,next3,if_true,ixR,atI2,inR,yd1,neR_ii,Bool.not_eq_true',decide_eq_false_iff_not]
  simp [inD,datM,dat,dats,PyData.eqv,PyData.depth,PyData.depthAll]
  exact q
def spEo:Sp3:=λ ds μ Q=>∃ w,ds=[.tup (encs w)] /\ Wd w /\ Short w /\ ∀ us sh μ',Ext μ μ'->Ev w us sh->Q (.tup [.tup (us.map encT),yh0 sh]) μ'
theorem we4 (ds:List D) (μ:Mu) (Q:VK3) (h:spEo ds μ Q):yr3 spCs yk2 { nx:=λ _ μ'=>Q .non μ',rt:=Q } (start3 xn3 ds) μ:=by
 obtain ⟨w,rfl,hw,hs,q⟩:=h
 exact ⟨w,rfl,hw,hs,λ μ1 e1=>⟨w,rfl,hw,hs,λ us sh μ2 e2 ev=>q us sh μ2 (e1.trans e2) ev⟩⟩
def spEd:Sp3:=λ ds μ Q=>∃ (w:List Dd) (t:T3),ds=[.tup (encs w),encT t] /\ Wd w /\ Short w /\ wyT t /\ ∀ b μ',Ext μ μ'->(b=true ↔ DrnW w t)->Q (.bl b) μ'
theorem ve4 (ds:List D) (μ:Mu) (Q:VK3) (h:spEd ds μ Q):zr3 spCs zx1 wb3 { nx:=λ _ μ'=>Q .non μ',rt:=Q } (start3 yn3 ds) μ:=by
 obtain ⟨w,t,rfl,hw,hs,ht,q⟩:=h
 exact ⟨w,rfl,hw,hs,λ μ1 e1=>⟨t,rfl,ht,w,t,rfl,hw,hs,λ b μ2 e2 hb=>q b μ2 (e1.trans e2) hb⟩⟩
mutual
def sq:Dd->Prop
 | .go n=>0<=n /\ n<=2
 | .jump n=>-2<=n /\ n<=2
 | .turn n=>-4<=n /\ n<=4
 | .times n w=>(0<=n /\ n<=3) /\ w.length<=2 /\ sqs w
def sqs:List Dd->Prop
 | []=>True
 | d :: r=>sq d /\ sqs r
end
theorem wn0:∀ a b,sqs (a ++ b) ↔ sqs a /\ sqs b
 | [],b=>by simp [sqs]
 | d :: r,b=>by simp only [cons_append,sqs,wn0 r b,and_assoc]
theorem zx0 {a b:Nat} (h:a<=b):6 ^ a<=6 ^ b:=Nat.pow_le_pow_right (by decide) h
theorem vw0 {a b:Nat} (h:a<=b):2 ^ a<=2 ^ b:=Nat.pow_le_pow_right (by decide) h
mutual
theorem xs4:∀ d,sq d->okd d /\ (unr d).length<=6 ^ dep d /\ cnt d + 1<=2 * 2 ^ dep d
 | .go n,h=>by
  simp only [sq] at h
  simp only [okd,G,unr,dep,cnt,length_cons,length_nil]
  omega
 | .jump n,h=>by
  simp only [sq] at h
  simp only [okd,G,unr,dep,cnt,length_cons,length_nil]
  omega
 | .turn n,h=>by
  simp only [sq] at h
  simp only [okd,G,unr,dep,cnt,length_cons,length_nil]
  omega
 | .times n w,h=>by
  simp only [sq] at h
  obtain ⟨h1,h2,h3⟩:=h
  obtain ⟨a1,a3,a4⟩:=tw1 w h3
  simp only [okd,G,unr,dep,cnt]
  rw [um0,Nat.add_comm 1 (deps w),Nat.pow_succ,Nat.pow_succ]
  have b2:w.length * 6 ^ deps w<=2 * 6 ^ deps w:=Nat.mul_le_mul_right _ h2
  have c2:n.toNat * (unrs w).length<=3 * (2 * 6 ^ deps w):=Nat.mul_le_mul (by omega) (Nat.le_trans a3 b2)
  have c3:w.length=0 \/ w.length=1 \/ w.length=2:=by omega
  have c4:1<=2 ^ deps w:=Nat.pow_pos (by decide)
  refine ⟨⟨by omega,a1⟩,by omega,?_⟩
  rcases c3 with e | e | e <;> rw [e] at a4 <;> omega
theorem tw1:∀ w,sqs w->oks w /\ (unrs w).length<=w.length * 6 ^ deps w /\ cnts w + w.length<=w.length * (2 * 2 ^ deps w)
 | [],h=>by simp [oks,unrs,cnts]
 | d :: r,h=>by
  simp only [sqs] at h
  obtain ⟨a1,a3,a4⟩:=xs4 d h.1
  obtain ⟨b1,b3,b4⟩:=tw1 r h.2
  simp only [oks,unrs,cnts,deps,length_append,length_cons,Nat.add_mul,Nat.one_mul]
  have c1:6 ^ dep d<=6 ^ max (dep d) (deps r):=zx0 (by omega)
  have c2:6 ^ deps r<=6 ^ max (dep d) (deps r):=zx0 (by omega)
  have c3:2 ^ dep d<=2 ^ max (dep d) (deps r):=vw0 (by omega)
  have c4:2 ^ deps r<=2 ^ max (dep d) (deps r):=vw0 (by omega)
  have e2:r.length * 6 ^ deps r<=r.length * 6 ^ max (dep d) (deps r):=Nat.mul_le_mul_left _ c2
  have e3:r.length * (2 * 2 ^ deps r)<=r.length * (2 * 2 ^ max (dep d) (deps r)):=Nat.mul_le_mul_left _ (by omega)
  exact ⟨⟨a1,b1⟩,by omega,by omega⟩
end
def Dw (w:List Dd):Prop:=sqs w /\ deps w<=1 /\ w.length<=3
theorem Dw.top {w:List Dd} (h:Dw w):Wd w /\ (unrs w).length<=18 /\ cnts w<=9:=by
 obtain ⟨h,hd,hl⟩:=h
 obtain ⟨a1,a3,a4⟩:=tw1 w h
 have c2:6 ^ deps w<=6 ^ 1:=zx0 hd
 have c4:2 ^ deps w<=2 ^ 1:=vw0 hd
 have b2:w.length * 6 ^ deps w<=3 * 6 ^ 1:=Nat.mul_le_mul hl c2
 have b3:w.length * (2 * 2 ^ deps w)<=w.length * (2 * 2 ^ 1):=Nat.mul_le_mul_left _ (by omega)
 exact ⟨⟨a1,by omega,by omega⟩,by omega,by omega⟩
theorem Dw.cut {w:List Dd} (h:Dw w):Dw w.dropLast:=by
 rcases List.eq_nil_or_concat w with rfl | ⟨a,d,rfl⟩
 ·exact h
 ·simp only [List.concat_eq_append] at h
  obtain ⟨h1,h2,h3⟩:=h
  rw [wn0] at h1
  rw [yj0] at h2
  rw [length_append] at h3
  simp only [List.concat_eq_append,List.dropLast_concat]
  exact ⟨h1.1,by omega,by omega⟩
def sw0:Sp3:=λ ds μ Q=>∃ (ns:List Int) (k:Int),ds=[.fls (ns.map D.int),.int k] /\ 0<=k /\ ∀ a b p,0<=a->μ p=none->Q (.ref p) (updM μ p (.lst [.int a,.int b]))
theorem wu4 (ds:List D) (μ:Mu) (Q:VK3) (h:sw0 ds μ Q):t_q9 { nx:=λ _ μ'=>Q .non μ',rt:=Q } (start3 N_q9 ds) μ:=by
 obtain ⟨ns,k,rfl,hk,q⟩:=h
 have e:((10:Int) ^ (18:Int).toNat)=1000000000000000000:=by decide
 have c:CPow 10 18:=⟨by decide,by decide,by decide⟩
 simp only [t_q9,seq3,set3,c3,ifs3,b3,o3,v3,start3,map_cons,map_nil,N_q9,length_cons,length_nil,Nat.zero_add,Nat.reduceAdd,Nat.reduceSub,List.replicate,cons_append,nil_append,set_cons_succ,set_cons_zero,getI,call3,cons3,nil3,lenR,ltR,int20,decide_eq_true_eq,ixR,powR,int2,c,geR,e,ret3,lst3,subR,true_and,next3,mulR,addR,modR]
 have key:∀ i:Int,(if 1000000000000000000<=i then 2<=sizeLine /\ ∀ p,μ p=none->Q (.ref p) (updM μ p (.lst [.int (i - 1000000000000000000),.int 1]))
     else CMul 7919 k /\ (0:Int) < 2147483647 /\ 2<=sizeLine /\ ∀ p,μ p=none->Q (.ref p) (updM μ p (.lst [.int ((i + 7919 * k) % 2147483647),.int 0]))):=by
  intro i
  split
  ·exact ⟨by decide,λ p hp=>q _ _ p (by omega) hp⟩
  ·exact ⟨.inl (.inl (by decide)),by decide,by decide,λ p hp=>q _ _ p (Int.emod_nonneg _ (by decide)) hp⟩
 split
 ·next h1 =>
  obtain ⟨d,hd,e⟩:=sx2 (l:=ns.map D.int) hk h1
  obtain ⟨i,_,rfl⟩:=List.mem_map.mp hd
  simp only [e]
  exact key i
 ·exact key 0
def zq0:Sp3:=λ ds μ Q=>∃ (p:Addr) (m a b:Int),ds=[.ref p,.int m] /\ 0 < m /\ m < 2 ^ 80 /\ μ p=some (.lst [.int a,.int b]) /\ 0<=a ∧
 ∀ r a' b',0<=r->r < m->0<=a'->Q (.int r) (updM μ p (.lst [.int a',.int b']))
theorem zg4 (ds:List D) (μ:Mu) (Q:VK3) (h:zq0 ds μ Q):wa3 { nx:=λ _ μ'=>Q .non μ',rt:=Q } (start3 ut2 ds) μ:=by
 obtain ⟨p,m,a,b,rfl,h1,h2,h3,h4,q⟩:=h
 simp only [wa3,seq3,ifs3,and3,b3,o3,v3,start3,map_cons,map_nil,ut2,length_cons,length_nil,Nat.zero_add,Nat.reduceAdd,Nat.reduceSub,List.replicate,cons_append,nil_append,getI,c3,ixR,h3,atI1,gtR,int20,decide_eq_true_eq,set3,modR,int2,asg3,set_cons_succ,set_cons_zero,fdivR,sub3,ret3,next3,mulR,addR,Bool.false_eq_true,if_false,eqR_ii,atI0,ixN0,ixN1]
 have main:CMul a 48271 /\ (0:Int) < 2147483647 /\ (∀ c:Int,c=(a * 48271 + 69621) % 2147483647->CMul c c /\ CMul 16807 c /\ (0:Int) < 2147483629 /\ ∀ e:Int,e=(c * c + 16807 * c) % 2147483629->CMul e e /\ CMul 39373 e /\ (0:Int) < 2147483587 /\ ((0:Int) < 8 /\ (8:Int) < 2 ^ 120) /\ 0 < m ∧
     Q (.int ((e * e + 39373 * e) % 2147483587 / 8 % m)) (updM μ p (.lst [.int c,.int 0]))):=by
  refine ⟨.inl (.inr (by decide)),by decide,λ c hc=>?_⟩
  have n1:0<=c:=by rw [hc]; exact Int.emod_nonneg _ (by decide)
  have n2:c < 2147483647:=by rw [hc]; exact Int.emod_lt_of_pos _ (by decide)
  refine ⟨.inl (.inl (by omega)),.inl (.inl (by decide)),by decide,λ e he=>?_⟩
  have n3:0<=e:=by rw [he]; exact Int.emod_nonneg _ (by decide)
  have n4:e < 2147483629:=by rw [he]; exact Int.emod_lt_of_pos _ (by decide)
  exact ⟨.inl (.inl (by omega)),.inl (.inl (by decide)),by decide,⟨by decide,by decide⟩,h1,q _ _ _ (Int.emod_nonneg _ (by omega)) (Int.emod_lt_of_pos _ h1) n1⟩
 obtain ⟨m1,m2,m3⟩:=main
 obtain ⟨m4,m5,m6,m7⟩:=m3 _ rfl
 obtain ⟨m8,m9,m10,m11,m12,m13⟩:=m7 _ rfl
 split
 ·split
  ·refine ⟨h1,⟨h1,by omega⟩,?_⟩
   exact q _ _ _ (Int.emod_nonneg _ (by omega)) (Int.emod_lt_of_pos _ h1) (Int.ediv_nonneg h4 (by omega))
  ·simp only [ta0,atI0,length_cons,length_nil,Nat.zero_add,Nat.reduceAdd,ixN0,set_cons_zero,vh0]
   exact ⟨m1,m2,m4,m5,m6,m8,m9,m10,m11,m12,m13⟩
 ·simp only [ta0,atI0,length_cons,length_nil,Nat.zero_add,Nat.reduceAdd,ixN0,set_cons_zero,vh0]
  exact ⟨m1,m2,m4,m5,m6,m8,m9,m10,m11,m12,m13⟩
def tj2 (j:Nat):Sp3:=λ ds μ Q=>∃ (p:Addr) (deep m:Int),ds=[.ref p,.int deep,.int m] /\ deep < j /\ 0<=deep /\ 0<=m /\ m<=1000 /\ ∃ a b,μ p=some (.lst [.int a,.int b]) /\ 0<=a ∧
 ∀ w a' b' μ',ExtB p μ μ'->μ' p=some (.lst [.int a',.int b'])->0<=a'->sqs w->(deps w:Int)<=deep->(w.length:Int)=m->Q (.tup (encs w)) μ'
def spLd (j:Nat):Sp3:=λ ds μ Q=>∃ (p:Addr) (deep:Int),ds=[.ref p,.int deep] /\ deep < j /\ 0<=deep /\ ∃ a b,μ p=some (.lst [.int a,.int b]) /\ 0<=a ∧
 ∀ d a' b' μ',ExtB p μ μ'->μ' p=some (.lst [.int a',.int b'])->0<=a'->sq d->(dep d:Int)<=deep->Q (enc d) μ'
theorem vv4 (j:Nat) (ds:List D) (μ:Mu) (Q:VK3) (h:spLd (j + 1) ds μ Q):t_q0 (tj2 j) zq0 { nx:=λ _ μ'=>Q .non μ',rt:=Q } (start3 N_q0 ds) μ:=by
 obtain ⟨p,deep,rfl,h1,h2,a,b,h3,h4,q⟩:=h
 simp only [t_q0,seq3,set3,call3,cons3,v3,start3,map_cons,map_nil,N_q0,length_cons,length_nil,Nat.zero_add,Nat.reduceAdd,Nat.reduceSub,List.replicate,cons_append,nil_append,getI,o3,c3,gtR,int20,nil3,intR,addR,decide_eq_true_eq,ifs3,b3,set_cons_succ,set_cons_zero,ret3,tup3,subR,next3,ltR]
 refine ⟨p,_,a,b,rfl,by split <;> omega,by split <;> omega,h3,h4,λ k a1 b1 k1 k2 k3=>?_⟩
 have ex:∀ o,ExtB p μ (updM μ p o):=λ o=>ExtB.upd
 simp only [eqR_ii,decide_eq_true_eq]
 split
 ·refine ⟨p,9,a1,b1,rfl,by decide,by decide,ta0,k3,λ n a2 b2 n1 n2 n3=>?_⟩
  simp only [vh0]
  exact ⟨by decide,q (.turn (n - 4)) a2 b2 _ (ex _) ta0 n3 (by simp only [sq]; omega) (by simp only [dep]; omega)⟩
 ·split
  ·refine ⟨p,5,a1,b1,rfl,by decide,by decide,ta0,k3,λ n a2 b2 n1 n2 n3=>?_⟩
   simp only [vh0]
   exact ⟨by decide,q (.jump (n - 2)) a2 b2 _ (ex _) ta0 n3 (by simp only [sq]; omega) (by simp only [dep]; omega)⟩
  ·split
   ·refine ⟨p,3,a1,b1,rfl,by decide,by decide,ta0,k3,λ n a2 b2 n1 n2 n3=>?_⟩
    simp only [vh0]
    exact ⟨by decide,q (.go n) a2 b2 _ (ex _) ta0 n3 (by simp only [sq]; omega) (by simp only [dep]; omega)⟩
   ·next g1 g2 g3 =>
    have hd:0 < deep:=by
     by_cases hd:0 < deep
     ·exact hd
     ·simp [hd] at k2; omega
    refine ⟨p,4,a1,b1,rfl,by decide,by decide,ta0,k3,λ n a2 b2 n1 n2 n3=>?_⟩
    simp only [vh0]
    refine ⟨p,3,a2,b2,rfl,by decide,by decide,ta0,n3,λ m a3 b3 x1 x2 x3=>?_⟩
    simp only [vh0]
    refine ⟨p,deep - 1,m,rfl,by omega,by omega,x1,by omega,a3,b3,ta0,x3,λ w a4 b4 μ4 y1 y2 y3 y4 y5 y6=>?_⟩
    exact ⟨by decide,q (.times n w) a4 b4 μ4 ((ex _).trans y1) y2 y3 (by simp only [sq]; exact ⟨by omega,by omega,y4⟩) (by simp only [dep]; omega)⟩
theorem wv4 (j:Nat) (ds:List D) (μ:Mu) (Q:VK3) (h:tj2 j ds μ Q):t_q1 (spLd j) { nx:=λ _ μ'=>Q .non μ',rt:=Q } (start3 N_q1 ds) μ:=by
 obtain ⟨p,deep,m,rfl,h1,h2,m0,m1,a,b,h3,h4,q⟩:=h
 have hz:(100000:Nat) < sizeLine:=by decide
 simp only [t_q1,ret3,call3,cons3,comp3,ir3,v3,start3,map_cons,map_nil,N_q1,length_cons,length_nil,Nat.zero_add,Nat.reduceAdd,Nat.reduceSub,List.replicate,cons_append,nil_append,getI,nil3,tupR,Option.bind_none,Option.bind_some]
 refine ⟨⟨by omega,by omega⟩,λ r hr=>?_⟩
 have hpr:p ≠ r:=td0 h3 hr
 refine ⟨λ l ys ρ μ'=>ExtB p μ μ' /\ μ' r=some (.lst ys) /\ (∃ a b,μ' p=some (.lst [.int a,.int b]) /\ 0<=a) /\ (∃ o,ρ=[o,some (.ref p),some (.int deep)]) /\ ∃ w,ys=encs w /\ sqs w /\ (deps w:Int)<=deep /\ (l.length:Int) + w.length=m,?_,?_,?_,?_⟩
 ·refine ⟨λ c o hc hq=>by rw [ub0 (td0 hq hr)]; exact hq,ta0,⟨a,b,by rw [ub0 hpr]; exact h3,h4⟩,⟨_,rfl⟩,[],by simp only [encs],by simp only [sqs],by simp only [deps]; omega,?_⟩
  simp only [rngD,length_map,length_range,length_nil]
  omega
 ·rintro l ys ρ μ' ⟨_,e,_⟩
  exact ⟨trivial,e⟩
 ·rintro ys ρ μ' ⟨ex,e,⟨a',b',e2,e3⟩,_,w,rfl,w1,w2,w3⟩
  simp only [e]
  exact q w a' b' μ' ex e2 e3 w1 w2 (by simpa using w3)
 ·rintro x l ys ρ μ' ⟨ex,e,⟨a',b',e2,e3⟩,⟨o,rfl⟩,w,rfl,w1,w2,w3⟩
  rw [length_cons] at w3
  refine ⟨by rw [uc0]; omega,?_⟩
  simp only [gn3,tt3,call3,cons3,v3,set_cons_zero,getI,nil3,if_true]
  refine ⟨p,deep,rfl,h1,h2,a',b',e2,e3,λ d a2 b2 μ2 y1 y2 y3 y4 y5=>?_⟩
  have er:μ2 r=some (.lst (encs w)):=y1 r _ (Ne.symm hpr) e
  refine ⟨er,λ c o hc hq=>?_,ta0,⟨a2,b2,by rw [ub0 hpr]; exact y2,y3⟩,⟨_,rfl⟩,w ++ [d],?_,?_,?_,?_⟩
  ·rw [ub0 (td0 hq hr)]; exact y1 c o hc (ex c o hc hq)
  ·rw [xf0]; simp only [encs]
  ·rw [wn0]; simp only [sqs]; exact ⟨w1,y4,trivial⟩
  ·rw [yj0]; simp only [deps]; omega
  ·rw [length_append]; simp only [length_cons,length_nil]; omega
mutual
def t9:Dd->Prop
 | .times n w=>n<=9 /\ t9s w
 | _=>True
def t9s:List Dd->Prop
 | []=>True
 | d :: r=>t9 d /\ t9s r
end
mutual
theorem sr4:∀ d,sq d->t9 d
 | .go n,h=>by simp only [t9]
 | .jump n,h=>by simp only [t9]
 | .turn n,h=>by simp only [t9]
 | .times n w,h=>by simp only [sq] at h; simp only [t9]; exact ⟨by omega,sj1 w h.2.2⟩
theorem sj1:∀ w,sqs w->t9s w
 | [],_=>by simp only [t9s]
 | d :: r,h=>by simp only [sqs] at h; simp only [t9s]; exact ⟨sr4 d h.1,sj1 r h.2⟩
end
def spRo (j:Nat):Sp3:=λ ds μ Q=>∃ w,ds=[.tup (encs w)] /\ deps w < j /\ (unrs w).length<=1000 /\ oks w /\ t9s w /\ ∀ p μ',Ext μ μ'->μ p=none->μ' p=some (.lst (encs (unrs w)))->Q (.ref p) μ'
def WRo (w:List Dd) (f:Addr) (μ:Mu) (l:List D) (ρ:St3) (μ':Mu):Prop:=∃ (r acc:List Dd) (a b:Option D),l=encs r /\ ρ=[some (.tup (encs w)),some (.ref f),a,b] /\ Ext μ μ' /\ μ' f=some (.lst (encs acc)) ∧
 acc ++ unrs r=unrs w /\ deps r<=deps w /\ oks r /\ t9s r
theorem tu4 (j:Nat) (ds:List D) (μ:Mu) (Q:VK3) (h:spRo (j + 1) ds μ Q):t_q6 (spRo j) { nx:=λ _ μ'=>Q .non μ',rt:=Q } (start3 N_q6 ds) μ:=by
 obtain ⟨w,rfl,h1,h2,h3,h4,q⟩:=h
 have hz:(100000:Nat) < sizeLine:=by decide
 refine ⟨Nat.zero_le _,λ f hf=>?_⟩
 refine wf0 (WRo w f μ) ?_ (λ _ _ _ _=>trivial) ?_ ?_
 ·exact ⟨w,[],none,none,rfl,rfl,Ext.new hf,by rw [ta0]; simp [encs],by simp,Nat.le_refl _,h3,h4⟩
 ·rintro ρ μ' ⟨r,acc,a,b,e,rfl,ex,ef,ea,_⟩
  cases r with
  | nil =>
   simp only [unrs,append_nil] at ea
   rw [ea] at ef
   exact q f μ' ex hf ef
  | cons _ _=>simp [encs] at e
 ·rintro x rest ρ μ' ⟨r,acc,a,b,e,rfl,ex,ef,ea,r1,r3,r4⟩
  cases r with
  | nil=>simp [encs] at e
  | cons d r =>
   simp only [encs,List.cons.injEq] at e
   obtain ⟨rfl,rfl⟩:=e
   simp only [deps,oks,t9s,unrs] at r1 r3 r4 ea
   have hlen:=congrArg List.length ea
   simp only [length_append] at hlen
   have plain:∀ (d':Dd),d'=d->unr d=[d']->WRo w f μ (encs r) [some (.tup (encs w)),some (.ref f),some (enc d),b] (updM μ' f (.lst (encs acc ++ [enc d]))):=λ d' hd hu=>by
    refine ⟨r,acc ++ [d'],_,_,rfl,rfl,λ g o hg=>?_,?_,?_,by omega,r3.2,r4.2⟩
    ·rw [ub0 (td0 hg hf)]; exact ex g o hg
    ·rw [ta0,xf0,hd]; simp only [encs]
    ·rw [<- ea,hu]; simp
   cases d
   case go n =>
    conv=>whnf
    rw [ef]
    conv=>whnf
    rw [ef]
    exact ⟨by rw [uc0]; omega,plain _ rfl (by simp only [unr])⟩
   case jump n =>
    conv=>whnf
    rw [ef]
    conv=>whnf
    rw [ef]
    exact ⟨by rw [uc0]; omega,plain _ rfl (by simp only [unr])⟩
   case turn n =>
    conv=>whnf
    rw [ef]
    conv=>whnf
    rw [ef]
    exact ⟨by rw [uc0]; omega,plain _ rfl (by simp only [unr])⟩
   case times n v =>
    simp only [okd,dep,t9] at r1 r3 r4
    have eu:unr (.times n v)=(List.replicate n.toNat (unrs v)).flatten:=by simp only [unr]
    rw [eu,um0] at hlen
    refine ⟨⟨by omega,by omega⟩,?_⟩
    refine wf0 (λ l2 ρ2 μ3=>∃ (i:Nat) (kk:Option D),ρ2=[some (.tup (encs w)),some (.ref f),some (enc (.times n v)),kk] /\ Ext μ μ3 /\ μ3 f=some (.lst (encs (acc ++ (List.replicate i (unrs v)).flatten))) /\ i + l2.length=n.toNat) ?_ (λ _ _ _ _=>trivial) ?_ ?_
    ·exact ⟨0,b,rfl,ex,by rw [ef]; simp,by simp [rngD]⟩
    ·rintro ρ2 μ3 ⟨i,kk,rfl,e1,e3,e5⟩
     have hi:i=n.toNat:=by simpa using e5
     rw [hi,<- eu] at e3
     exact ⟨r,acc ++ unr (.times n v),_,_,rfl,rfl,e1,e3,by rw [<- ea]; simp,by omega,r3.2,r4.2⟩
    ·rintro y rest2 ρ2 μ3 ⟨i,kk,rfl,e1,e3,e5⟩
     rw [length_cons] at e5
     conv=>whnf
     rw [e3]
     have hz2:(i + 1) * (unrs v).length<=n.toNat * (unrs v).length:=Nat.mul_le_mul_right _ (by omega)
     rw [Nat.add_mul] at hz2
     refine ⟨v,rfl,by omega,by omega,r3.1.2,r4.1.2,λ g μ4 ex4 hg eg=>?_⟩
     have e6:=ex4 _ _ e3
     conv=>whnf
     rw [e6,eg]
     refine ⟨?_,i + 1,some y,rfl,λ c o hc=>?_,?_,by omega⟩
     ·rw [uc0,uc0,length_append,um0]; omega
     ·rw [ub0 (td0 hc hf)]; exact ex4 _ _ (e1 _ _ hc)
     ·rw [ta0,<- xf0,append_assoc,List.replicate_succ']; simp
theorem yo3 {c:Pen} (h:Hd c) (i:Nat):btw (pt c i) (pt c (i + 1))=((mnP (pt c i) (pt c (i + 1))).1,(mnP (pt c i) (pt c (i + 1))).2,c.2.2 % 2):=by
 unfold btw
 refine Prod.ext rfl (Prod.ext rfl ?_)
 obtain ⟨x,y,k⟩:=c
 unfold Hd at h
 dsimp only at h
 rcases h with rfl | rfl | rfl | rfl <;> simp [pt,sn] <;> omega
theorem xi3 (c:Pen) (i:Nat):ln c (i + 1)=ln c i ++ [btw (pt c i) (pt c (i + 1))]:=by
 unfold ln
 rw [range_succ,map_append]
 rfl
theorem ww2 (p:Pen) (n:Int) (h:Hd p):led p (n,0,0)=(p.1 + cs p.2.2 * n,p.2.1 + sn p.2.2 * n,p.2.2):=by
 obtain ⟨x,y,k⟩:=p
 unfold Hd at h
 dsimp only at h
 rcases h with rfl | rfl | rfl | rfl <;> simp [led,cs,sn]
theorem uo2 (p:Pen) (n:Int):led p (0,0,n % 4)=(p.1,p.2.1,(p.2.2 + n) % 4):=by
 obtain ⟨x,y,k⟩:=p
 simp [led]
theorem ul0:∀ (a b:List Dd) (p:Pen),Hd p->oks a->wk p (a ++ b)=wk p a ++ wk (led p (pb a)) b
 | [],b,p,hp,_=>by simp only [nil_append,wk,pb]; rw [tm0 hp]
 | d :: r,b,p,hp,h=>by
  simp only [oks] at h
  simp only [cons_append,wk,pb]
  rw [ul0 r b _ (sv0 _ _) h.2,tj0 _ hp (yz0 d h.1),append_assoc]
theorem sh2 {h:Int} (hd:h=0 \/ h=1 \/ h=2 \/ h=3):atI [D.tup [D.int 1,D.int 0],D.tup [D.int 0,D.int 1],D.tup [D.int (-1),D.int 0],D.tup [D.int 0,D.int (-1)]] h=some (.tup [.int (cs h),.int (sn h)]):=by
 rcases hd with rfl | rfl | rfl | rfl <;> rfl
theorem ta3 {c:Pen} (h:Hd c) (i:Nat):encT (btw (pt c i) (pt c (i + 1)))=.tup [.int (c.1 + cs c.2.2 * i + (if cs c.2.2 < 0 then cs c.2.2 else 0)),.int (c.2.1 + sn c.2.2 * i + (if sn c.2.2 < 0 then sn c.2.2 else 0)),.int (c.2.2 % 2)]:=by
 rw [yo3 h]
 obtain ⟨x,y,k⟩:=c
 unfold Hd at h
 dsimp only at h
 rcases h with rfl | rfl | rfl | rfl <;> simp [encT,mnP,ltP,pt,cs,sn] <;> (try (split <;> simp <;> omega)) <;> (try omega)
def uj2:Sp3:=λ ds μ Q=>∃ w p,ds=[.tup (encs w),encP p] /\ Hd p /\ deps w<=4 /\ (unrs w).length<=1000 /\ (wk p (unrs w)).length<=1000 /\ oks w /\ t9s w ∧
 ∀ f μ',Ext μ μ'->μ f=none->μ' f=some (.lst ((wk p (unrs w)).map encT))->Q (.tup [.ref f,encP (led p (pb w))]) μ'
def WRun (w:List Dd) (p:Pen) (f g:Addr) (μ:Mu) (l:List D) (ρ:St3) (μ':Mu):Prop:=Ext μ μ' /\ μ' g=some (.lst (encs (unrs w))) /\ ∃ (r pre:List Dd) (c:Pen) (o1 o2 o3 o4:Option D),l=encs r /\ pre ++ r=unrs w /\ c=led p (pb pre) ∧
 ρ=[some (.tup (encs w)),some (encP p),some (.int c.1),some (.int c.2.1),some (.int c.2.2),some (.ref f),o1,o2,o3,o4] /\ μ' f=some (.lst ((wk p pre).map encT))
theorem yq0 {w:List Dd} {p:Pen} {f g:Addr} {μ μ2:Mu} {r pre:List Dd} {d:Dd} (hp:Hd p) (ho:oks (pre ++ d :: r)) (e:pre ++ d :: r=unrs w) (ex:Ext μ μ2) (eg:μ2 g=some (.lst (encs (unrs w))))
    (ef:μ2 f=some (.lst ((wk p pre).map encT ++ (sg (led p (pb pre)) d).map encT))) {x y k:Int} (hc:led (led p (pb pre)) (pd d)=(x,y,k)) (o1 o2 o3 o4:Option D) :
    WRun w p f g μ (encs r) [some (.tup (encs w)),some (encP p),some (.int x),some (.int y),some (.int k),some (.ref f),o1,o2,o3,o4] μ2:=by
 have ho1:=(tf0 _ _).mp ho
 simp only [oks] at ho1
 have e1:led p (pb (pre ++ [d]))=(x,y,k):=by
  rw [wm0 _ _ ho1.1,<- hc]
  simp only [pb]
  rw [tm0 (yz0 d ho1.2.1),tj0 _ hp (ur0 _)]
 refine ⟨ex,eg,r,pre ++ [d],(x,y,k),o1,o2,o3,o4,rfl,by rw [<- e]; simp,e1.symm,rfl,?_⟩
 rw [ef,ul0 _ _ p hp ho1.1]
 simp only [wk,append_nil,map_append]
theorem uu4 (ds:List D) (μ:Mu) (Q:VK3) (h:uj2 ds μ Q):t_q7 (spRo 5) { nx:=λ _ μ'=>Q .non μ',rt:=Q } (start3 N_q7 ds) μ:=by
 obtain ⟨w,p,rfl,hp,h1,h2,h2',h3,h4,q⟩:=h
 have hz:(100000:Nat) < sizeLine:=by decide
 have z2':2<=sizeLine:=by decide
 obtain ⟨a1,a2⟩:=uh0 w h3
 have apl:=yg0 w
 refine ⟨rfl,Nat.zero_le _,λ f hf=>?_⟩
 refine ⟨w,rfl,by omega,h2,h3,h4,λ g μ1 ex1 hg eg=>?_⟩
 have hgf:f ≠ g:=td0 ta0 hg
 conv=>whnf
 rw [eg]
 refine wf0 (WRun w p f g μ) ?_ ?_ ?_ ?_
 ·refine ⟨(Ext.new hf).trans ex1,eg,unrs w,[],p,none,none,none,none,rfl,rfl,by simp only [pb]; exact (tm0 hp).symm,rfl,?_⟩
  rw [ex1 f _ ta0]; simp [wk]
 ·rintro l ρ μ' ⟨_,e,_⟩
  exact e
 ·rintro ρ μ' ⟨ex,_,r,pre,c,o1,o2,o3,o4,e,epr,ec,rfl,ef⟩
  cases r with
  | nil =>
   rw [append_nil] at epr
   subst epr
   have:=q f μ' ex hf ef
   rw [<- a2,<- ec] at this
   exact ⟨z3,z2',this⟩
  | cons _ _=>simp [encs] at e
 ·rintro x rest ρ μ' ⟨ex,eg',r,pre,c,o1,o2,o3,o4,e,epr,ec,rfl,ef⟩
  cases r with
  | nil=>simp [encs] at e
  | cons d r =>
   simp only [encs,List.cons.injEq] at e
   obtain ⟨rfl,rfl⟩:=e
   have hc:Hd c:=by rw [ec]; exact sv0 _ _
   have ho:oks (pre ++ d :: r):=by rw [epr]; exact a1
   have hslen:(wk p pre).length + (sg c d).length<=1000:=by
    have e0:=h2'
    rw [<- epr,ul0 _ _ p hp ((tf0 _ _).mp ho).1] at e0
    simp only [wk,length_append,<- ec] at e0
    omega
   have fresh:∀ (t:Addr) (o:MO),μ' t=none->Ext μ (updM μ' t o) /\ updM μ' t o g=some (.lst (encs (unrs w))) /\ updM μ' t o f=some (.lst ((wk p pre).map encT)):=λ t o ht=>by
    refine ⟨λ c' o' h'=>?_,?_,?_⟩
    ·have z:=ex c' o' h'; rw [ub0 (td0 z ht)]; exact z
    ·rw [ub0 (td0 eg' ht)]; exact eg'
    ·rw [ub0 (td0 ef ht)]; exact ef
   obtain ⟨m,hm⟩:=apl d (by rw [<- epr]; simp)
   rcases hm with rfl | rfl | rfl
   ·have hm0:0<=m:=by
      have:=((tf0 _ _).mp ho).2
      simp only [oks,okd] at this
      exact this.1.1
    simp only [sg,sc1] at hslen
    refine ⟨rfl,z2',z2',z2',z2',show 4<=sizeLine by decide,λ t ht=>?_⟩
    obtain ⟨f1,f2,f3⟩:=fresh t (.lst [.tup [.int 1,.int 0],.tup [.int 0,.int 1],.tup [.int (-1),.int 0],.tup [.int 0,.int (-1)]]) ht
    refine vo0 ta0 (sh2 hc) ?_
    refine ⟨⟨by omega,by omega⟩,?_⟩
    generalize updM μ' t _=ν at f1 f2 f3 ⊢
    refine wf0 (λ l2 ρ2 μ3=>Ext μ μ3 /\ μ3 g=some (.lst (encs (unrs w))) /\ ∃ (i:Nat) (kk:Option D),i + l2.length=m.toNat ∧
     ρ2=[some (.tup (encs w)),some (encP p),some (.int (c.1 + cs c.2.2 * i)),some (.int (c.2.1 + sn c.2.2 * i)),some (.int c.2.2),some (.ref f),some (.str "go"),some (.int m),some (.tup [.int (cs c.2.2),.int (sn c.2.2)]),kk] ∧
     μ3 f=some (.lst ((wk p pre).map encT ++ (ln c i).map encT))) ?_ (λ _ _ _ _=>trivial) ?_ ?_
    ·exact ⟨f1,f2,0,o4,by simp [rngD],by simp [encP],by rw [f3]; simp [ln]⟩
    ·rintro ρ2 μ3 ⟨e1,e2,i,kk,e3,rfl,e4⟩
     have hi:i=m.toNat:=by simpa using e3
     have hi2:((i:Nat):Int)=m:=by omega
     refine yq0 hp ho epr e1 e2 ?_ (x:=c.1 + cs c.2.2 * i) (y:=c.2.1 + sn c.2.2 * i) (k:=c.2.2) ?_ _ _ _ _
     ·rw [e4,hi,<- ec]; simp only [sg]
     ·rw [<- ec]; simp only [pd]; rw [ww2 c m hc,hi2]
    ·rintro y rest2 ρ2 μ3 ⟨e1,e2,i,kk,e3,rfl,e4⟩
     rw [length_cons] at e3
     have hl:((wk p pre).map encT ++ (ln c i).map encT).length < sizeLine:=by
      simp only [length_append,length_map,sc1]; omega
     conv=>whnf
     rw [e4]
     refine ⟨show (0:Int) < 2 by decide,z3,?_⟩
     conv=>whnf
     rw [e4]
     refine ⟨hl,λ c' o' h'=>?_,?_,i + 1,some y,by omega,?_,?_⟩
     ·have z:=e1 c' o' h'; rw [ub0 (td0 h' hf)]; exact z
     ·rw [ub0 (Ne.symm hgf)]; exact e2
     ·have w1:c.1 + cs c.2.2 * (i:Int) + cs c.2.2=c.1 + cs c.2.2 * ((i + 1:Nat):Int):=by rw [show ((i + 1:Nat):Int)=(i:Int) + 1 by omega,Int.mul_add]; omega
      have w2:c.2.1 + sn c.2.2 * (i:Int) + sn c.2.2=c.2.1 + sn c.2.2 * ((i + 1:Nat):Int):=by rw [show ((i + 1:Nat):Int)=(i:Int) + 1 by omega,Int.mul_add]; omega
      rw [<- w1,<- w2]
      rfl
     ·rw [ta0,xi3,map_append,append_assoc]
      simp only [map_cons,map_nil]
      rw [ta3 hc]
   ·refine ⟨rfl,z2',z2',z2',z2',show 4<=sizeLine by decide,λ t ht=>?_⟩
    obtain ⟨f1,f2,f3⟩:=fresh t (.lst [.tup [.int 1,.int 0],.tup [.int 0,.int 1],.tup [.int (-1),.int 0],.tup [.int 0,.int (-1)]]) ht
    refine vo0 ta0 (sh2 hc) ?_
    refine ⟨.inl (.inr (xn0 _)),.inl (.inr (tl0 _)),?_⟩
    refine yq0 hp ho epr f1 f2 ?_ ?_ _ _ _ _
    ·rw [f3]; simp [sg]
    ·rw [<- ec]; simp only [pd]; rw [ww2 c m hc,Int.mul_comm m,Int.mul_comm m]
   ·refine ⟨rfl,z2',z2',z2',z2',show 4<=sizeLine by decide,λ t ht=>?_⟩
    obtain ⟨f1,f2,f3⟩:=fresh t (.lst [.tup [.int 1,.int 0],.tup [.int 0,.int 1],.tup [.int (-1),.int 0],.tup [.int 0,.int (-1)]]) ht
    refine vo0 ta0 (sh2 hc) ?_
    refine ⟨show (0:Int) < 4 by decide,?_⟩
    refine yq0 hp ho epr f1 f2 ?_ ?_ _ _ _ _
    ·rw [f3]; simp [sg]
    ·rw [<- ec]; simp only [pd]; rw [uo2]
def pT (s:T3):PyData:=.tuple [.int s.1,.int s.2.1,.int s.2.2]
theorem ve1:∀ L:List T3,dats (L.map encT)=some (L.map pT)
 | []=>rfl
 | t :: r=>by simp only [map_cons,dats,encT,dat,ve1 r,pT]
theorem ui1:∀ L:List T3,PyData.depthAll (L.map pT)<=2
 | []=>by simp [PyData.depthAll]
 | t :: r=>by
  have:=ui1 r
  simp only [map_cons,PyData.depthAll,pT,PyData.depth]
  omega
theorem sz0 (L:List T3):(PyData.tuple (L.map pT)).depth<=64:=by
 have:=ui1 L
 simp only [PyData.depth]
 omega
theorem tn4:∀ L:List T3,PyData.eqvAll (L.map pT) (L.map pT)=true
 | []=>by simp [PyData.eqvAll]
 | t :: r=>by
  simp only [map_cons,PyData.eqvAll,tn4 r,pT]
  simp [PyData.eqv,PyData.eqvAll]
theorem xl0:∀ a b,unrs (a ++ b)=unrs a ++ unrs b
 | [],b=>by simp [unrs]
 | d :: r,b=>by simp only [cons_append,unrs,xl0 r b,append_assoc]
theorem ut0:∀ a b,t9s (a ++ b) ↔ t9s a /\ t9s b
 | [],b=>by simp [t9s]
 | d :: r,b=>by simp only [cons_append,t9s,ut0 r b,and_assoc]
theorem yu2 {u:List Dd} (h:oks u):∀ n,wk st (List.replicate n u).flatten=(List.range n).flatMap λ j=>wk (pw (pb u) j) u
 | 0=>by simp [wk]
 | n + 1=>by
  rw [List.replicate_succ',List.flatten_append,ul0 _ _ st vd1 (yy0 u h n).1,yu2 h n,(yy0 u h n).2,tt0 (vt0 _ _),range_succ,List.flatMap_append]
  simp
def w4 (w:List Dd):List Dd:=(List.replicate 4 w).flatten
theorem vv1 (w:List Dd):w4 w=w ++ (w ++ (w ++ w)):=by simp [w4,List.replicate]
theorem zo3 {w:List Dd} (h:oks w):wk st (unrs (w4 w))=tr0 w:=by
 have e:unrs (w4 w)=(List.replicate 4 (unrs w)).flatten:=by
  rw [vv1]; simp [xl0,List.replicate]
 rw [e,yu2 (uh0 w h).1,(uh0 w h).2]
 rfl
def WGo (μ1:Mu) (r:Addr) (w:List Dd) (l ys:List D) (ρ:St3) (μ':Mu):Prop:=Ext μ1 μ' /\ μ' r=some (.lst ys) /\ (∃ o o',ρ=[o,o']) /\ ∃ (R:List Dd) (A:List Int),l=encs R /\ plns R /\ ys=A.map D.int /\ A ++ gds2 R=gds2 (unrs w) /\ A.length + R.length<=(unrs w).length
def sw1:Sp3:=λ ds μ Q=>∃ w,ds=[.tup (encs w)] /\ deps w<=4 /\ (unrs w).length<=1000 /\ oks w /\ t9s w /\ ∀ μ',Ext μ μ'->Q (.int (pgs (unrs w))) μ'
theorem yv4 (ds:List D) (μ:Mu) (Q:VK3) (h:sw1 ds μ Q):t_q3 (spRo 5) { nx:=λ _ μ'=>Q .non μ',rt:=Q } (start3 N_q3 ds) μ:=by
 obtain ⟨w,rfl,hd,hl,ho,ht,q⟩:=h
 have hz:(1000:Nat) < sizeLine:=by decide
 refine ⟨w,rfl,by omega,hl,ho,ht,λ f μ1 ex1 hf ef=>?_⟩
 have pu:=yg0 w
 conv=>whnf
 rw [ef]
 intro r hr
 refine ⟨WGo μ1 r w,?_,?_,?_,?_⟩
 ·exact ⟨Ext.new hr,ta0,⟨_,_,rfl⟩,unrs w,[],rfl,pu,rfl,rfl,by simp⟩
 ·rintro l ys ρ μ' ⟨h1,h2,_⟩
  exact ⟨h1 _ _ ef,h2⟩
 ·rintro ys ρ μ' ⟨h1,h2,_,R,A,e,_,rfl,e2,_⟩
  cases R with
  | cons _ _=>simp [encs] at e
  | nil =>
   simp only [gds2,append_nil] at e2
   subst e2
   refine vs3 h2 ?_
   rw [wz0 _ pu]
   exact q μ' (ex1.trans h1)
 ·rintro x l ys ρ μ' ⟨h1,h2,⟨o,o',rfl⟩,R,A,e,pr,rfl,e2,e3⟩
  cases R with
  | nil=>simp [encs] at e
  | cons d R =>
   simp only [encs,List.cons.injEq] at e
   obtain ⟨rfl,rfl⟩:=e
   have pr':plns R:=λ x hx=>pr x (mem_cons_of_mem _ hx)
   rw [length_cons] at e3
   refine ⟨by rw [length_map]; omega,?_⟩
   have nx:∀ v (a b:Option D),gds2 (d :: R)=v :: gds2 R->(μ' r=some (.lst (A.map D.int)) /\ WGo μ1 r w (encs R) (A.map D.int ++ [D.int v]) ([a,b]:St3) (updM μ' r (.lst (A.map D.int ++ [D.int v])))):=λ v a b hv=>by
    refine ⟨h2,λ b u hb=>?_,ta0,⟨_,_,rfl⟩,R,A ++ [v],rfl,pr',by rw [map_append]; rfl,by rw [<- e2,hv]; simp,by rw [length_append]; simp only [length_cons,length_nil]; omega⟩
    rw [ub0 (td0 hb hr)]
    exact h1 _ _ hb
   obtain ⟨n,hn⟩:=pr d (mem_cons_self ..)
   rcases hn with rfl | rfl | rfl
   ·exact ⟨rfl,nx _ _ _ rfl⟩
   ·exact ⟨rfl,nx _ _ _ rfl⟩
   ·exact ⟨rfl,h1,h2,⟨_,_,rfl⟩,R,A,rfl,pr',rfl,by rw [<- e2]; rfl,by omega⟩
theorem sq2 {α:Type} (l:List α):cut3 l none (some (-1))=l.dropLast:=by
 unfold cut3 sIx3
 rw [List.dropLast_eq_take]
 simp only [List.drop_zero,Nat.sub_zero]
 rw [if_pos (by decide)]
 congr 1
 omega
theorem se2 (w:List Dd):(encs w).dropLast=encs w.dropLast:=by
 induction w with
 | nil=>simp [encs]
 | cons d r ih =>
  cases r with
  | nil=>simp [encs]
  | cons e r=>simp only [encs,List.dropLast_cons₂] at ih ⊢; rw [ih]
def zg1:Sp3:=λ ds μ Q=>∃ (p:Addr) (most:Int),ds=[.ref p,.int most] /\ 0<=most /\ ∃ a b,μ p=some (.lst [.int a,.int b]) /\ 0<=a ∧
 ∀ w a' b' μ',ExtB p μ μ'->μ' p=some (.lst [.int a',.int b'])->0<=a'->Dw w->pgs (unrs w)<=most->Q (.tup (encs w)) μ'
theorem vu4 (ds:List D) (μ:Mu) (Q:VK3) (h:zg1 ds μ Q):t_q8 (tj2 2) sw1 zq0 { nx:=λ _ μ'=>Q .non μ',rt:=Q } (start3 N_q8 ds) μ:=by
 obtain ⟨p,most,rfl,hm,a,b,hp,ha,q⟩:=h
 refine ⟨p,3,a,b,rfl,by decide,by decide,hp,ha,λ r a1 b1 r0 r1 a10=>?_⟩
 refine ⟨p,1,1 + r,rfl,by decide,by decide,by omega,by omega,a1,b1,ta0,a10,λ w a2 b2 μ2 x2 p2 a20 sw dw lw=>?_⟩
 refine ⟨λ m ρ μ'=>∃ w a b,ρ=[some (.ref p),some (.int most),some (.tup (encs w))] /\ Dw w /\ w.length=m /\ ExtB p μ μ' /\ μ' p=some (.lst [.int a,.int b]) /\ 0<=a,?_,?_⟩
 ·exact ⟨w.length,w,a2,b2,rfl,⟨sw,by omega,by omega⟩,rfl,ExtB.upd.trans x2,p2,a20⟩
 ·rintro m ρ μ' ⟨w,a,b,rfl,hw,lw,ex,hp',ha'⟩
  have tp:=hw.top
  refine ⟨w,rfl,by have:=tp.1.2.1; omega,by omega,tp.1.1,sj1 w hw.1,λ μ3 x3=>?_⟩
  by_cases c:most < pgs (unrs w)
  ·show if (decide (most < pgs (unrs w)))=true then _ else _
   rw [if_pos (decide_eq_true c)]
   refine ⟨λ ρ μ'=>∃ w a b,ρ=[some (.ref p),some (.int most),some (.tup (encs w))] /\ Dw w /\ w.length < m /\ ExtB p μ μ' /\ μ' p=some (.lst [.int a,.int b]) /\ 0<=a,?_,?_⟩
   ·rintro ρ' μ' ⟨w,a,b,e,h1,h2,h3⟩
    exact ⟨w.length,h2,w,a,b,e,h1,rfl,h3⟩
   ·refine ⟨w.dropLast,a,b,?_,hw.cut,?_,ex.trans (x3.b p),x3 _ _ hp',ha'⟩
    ·show ([some (.ref p),some (.int most),some (.tup (cut3 (encs w) none (some (-1))))]:St3)=_
     rw [sq2,se2]
    ·cases w with
     | nil=>simp [unrs,pgs] at c; omega
     | cons d r=>rw [List.length_dropLast,<- lw,length_cons]; omega
  ·show if (decide (most < pgs (unrs w)))=true then _ else _
   rw [if_neg (λ h=>c (of_decide_eq_true h))]
   exact q w a b μ3 (ex.trans (x3.b p)) (x3 _ _ hp') ha' hw (by omega)
theorem Dw.short {w:List Dd} (h:Dw w) (hg:pgs (unrs w)<=60):Short w:=by
 obtain ⟨hw,hl,_⟩:=h.top
 have a:=vg1 (unrs w) (yg0 w) (uh0 w hw.1).1
 rw [zk0 w hw.1] at a
 have b:=wk0 w hw.1
 exact ⟨⟨by omega,by omega⟩,hg⟩
theorem wy4 (p:Pen) {μ:Mu} {K:VK3}:neR (encP p) (.tup [.int 0,.int 0,.int 0]) μ K=K (.bl (!decide (p=st))) μ:=by
 have e:(PyData.tuple [.int p.1,.int p.2.1,.int p.2.2]).eqv (PyData.tuple [.int 0,.int 0,.int 0])=decide (p=st):=by
  obtain ⟨x,y,w⟩:=p
  rw [Bool.eq_iff_iff]
  simp [PyData.eqv,PyData.eqvAll,st,Prod.mk.injEq]
 rw [show encP p=.tup [.int p.1,.int p.2.1,.int p.2.2] from rfl,wy0 (p:=.tuple [.int p.1,.int p.2.1,.int p.2.2]) (q:=.tuple [.int 0,.int 0,.int 0]) rfl (by simp only [datM,dat,dats]) (by simp only [datM,dat,dats]) (by simp [PyData.depth,PyData.depthAll]) (by simp [PyData.depth,PyData.depthAll]),e]
theorem zl4 {f r:Addr} {L:List T3} {μ:Mu} {K:VK3} (h1:μ f=some (.lst (L.map encT))) (h2:μ r=some (.lst [])) (k:K (.bl (!decide (L=[]))) μ):neR (.ref f) (.ref r) μ K:=by
 have e:(PyData.list (L.map pT)).eqv (PyData.list [])=decide (L=[]):=by
  cases L with
  | nil=>rfl
  | cons a r=>simp [PyData.eqv,PyData.eqvAll]
 rw [wy0 (p:=.list (L.map pT)) (q:=.list []) rfl (by simp only [datM,h1,ve1]) (by simp only [datM,h2,dats]) (by simpa [PyData.depth] using sz0 L) (by simp [PyData.depth,PyData.depthAll]),e]
 exact k
def xx1:Sp3:=λ ds μ Q=>∃ w,ds=[.tup (encs w)] /\ Dw w /\ pgs (unrs w)<=60 /\ ∀ us sh μ',Ext μ μ'->Ev w us sh->Q (.tup [.tup (us.map encT),yh0 sh]) μ'
theorem zv4 (ds:List D) (μ:Mu) (Q:VK3) (h:xx1 ds μ Q):t_q2 uj2 { nx:=λ _ μ'=>Q .non μ',rt:=Q } (start3 N_q2 ds) μ:=by
 obtain ⟨w,rfl,hw,hg,q⟩:=h
 obtain ⟨wd,hl,_⟩:=hw.top
 have hs:=hw.short hg
 have few:=hs.few wd.1
 have lw:=ta1 wd.1 st
 have t9:=sj1 w hw.1
 have fl:=sp0 wd.1 few (λ j=>pw (pb w) j) 4
 refine ⟨z3,w,st,rfl,vd1,by have:=wd.2.1; omega,by omega,by omega,wd.1,t9,λ f μ1 ex1 hf ef=>?_⟩
 rw [tt0 (ur0 w)]
 have four:¬ Mvs w->∀ (o1 o2:Option D) μ2,Ext μ μ2->(ret3 (tup3 (cons3 (call3 tupR (cons3 (uw1 (vw1 (cons3 (o3 ixR (call3 uj2 (cons3 (o3 mulR (v3 0) (c3 (.int 4))) (cons3 (tup3 (cons3 (c3 (.int 0)) (cons3 (c3 (.int 0)) (cons3 (c3 (.int 0)) nil3)))) nil3))) (c3 (.int 0))) nil3))) nil3)) (cons3 (c3 .non) nil3))):TS3) { nx:=λ _ μ'=>Q .non μ',rt:=Q } [some (.tup (encs w)),o1,o2] μ2:=λ nm o1 o2 μ2 ex2=>by
  refine ⟨⟨⟨by decide,by decide⟩,?_⟩,z3,w4 w,st,?_,vd1,?_,?_,?_,?_,?_,λ g μ3 ex3 hg' eg=>?_⟩
  ·have:=ui0 w; have:=wd.2.2; rw [uc0]; show w.length * 4<=1000000; omega
  ·show [D.tup (List.replicate 4 (encs w)).flatten,_]=_
   rw [<- sm0]; rfl
  ·have:=wd.2.1; rw [vv1]; simp only [yj0]; omega
  ·rw [vv1]; simp only [xl0,length_append]; omega
  ·rw [zo3 wd.1]; unfold tr0; omega
  ·rw [vv1]; simp only [tf0]; exact ⟨wd.1,wd.1,wd.1,wd.1⟩
  ·rw [vv1]; simp only [ut0]; exact ⟨t9,t9,t9,t9⟩
  ·rw [zo3 wd.1] at eg
   refine ⟨tr0 w,eg,sb4 (by unfold tr0; omega),λ ks nd mk vs pm up r hr=>?_⟩
   have e5:updM μ3 r (.lst (vs.map encT)) r=some (.lst (vs.map encT)):=ta0
   have x5:Ext μ (updM μ3 r (.lst (vs.map encT))):=(ex2.trans ex3).trans (Ext.new hr)
   generalize updM μ3 r (.lst (vs.map encT))=μ4 at e5 x5
   conv=>whnf
   rw [e5]
   exact ⟨z2,q vs none μ4 x5 (.inr ⟨nm,va2 nd mk pm up,rfl⟩)⟩
 refine ⟨rfl,?_⟩
 by_cases c1:(pb w).2.2=0
 ·show if (decide ((pb w).2.2=(0:Int)))=true then _ else _
  rw [decide_eq_true c1,if_pos rfl]
  refine ⟨z3,?_⟩
  show neR (encP (pb w)) (.tup [.int 0,.int 0,.int 0]) μ1 _
  rw [wy4]
  by_cases c2:pb w=st
  ·rw [decide_eq_true c2]
   exact four (λ h=>h.2.1 c2) _ _ μ1 ex1
  ·rw [decide_eq_false c2]
   refine ⟨Nat.zero_le _,λ r hr=>?_⟩
   refine zl4 (L:=wk st (unrs w)) (by rw [ub0 (td0 ef hr)]; exact ef) ta0 ?_
   have x2:Ext μ (updM μ1 r (.lst [])):=ex1.trans (Ext.new hr)
   have ef2:updM μ1 r (.lst []) f=some (.lst ((wk st (unrs w)).map encT)):=(Ext.new hr) _ _ ef
   generalize updM μ1 r (.lst [])=μ2 at x2 ef2
   by_cases c3':sks w=0
   ·rw [decide_eq_true (show wk st (unrs w)=[] from eq_nil_of_length_eq_zero (by omega))]
    exact four (λ h=>h.2.2 c3') _ _ μ2 x2
   ·rw [decide_eq_false (show ¬ wk st (unrs w)=[] from λ h=>by rw [h] at lw; simp at lw; omega)]
    refine ⟨wk st (unrs w),ef2,sb4 (by omega),λ ks nd mk vs pm up r hr=>?_⟩
    have e5:updM μ2 r (.lst (vs.map encT)) r=some (.lst (vs.map encT)):=ta0
    have x5:Ext μ (updM μ2 r (.lst (vs.map encT))):=x2.trans (Ext.new hr)
    generalize updM μ2 r (.lst (vs.map encT))=μ4 at e5 x5
    conv=>whnf
    rw [e5]
    exact ⟨z2,q vs (some ((pb w).1,(pb w).2.1)) μ4 x5 (.inl ⟨⟨c1,c2,c3'⟩,va2 nd mk pm up,rfl⟩)⟩
 ·show if (decide ((pb w).2.2=(0:Int)))=true then _ else _
  rw [decide_eq_false c1,if_neg (by decide)]
  exact four (λ h=>c1 h.1) _ _ μ1 ex1
theorem in_T {t:T3} {us:List T3} {μ:Mu} {K:VK3} (k:∀ b,(b=true ↔ t ∈ us)->K (.bl b) μ):inR false (encT t) (.tup (us.map encT)) μ K:=by
 have e:∀ us:List T3,((us.map pT).any λ e=>PyData.eqv e (pT t))=true ↔ t ∈ us:=λ us=>by
  rw [List.any_eq_true]
  constructor
  ·rintro ⟨x,hx,e⟩
   obtain ⟨u,hu,rfl⟩:=List.mem_map.mp hx
   obtain ⟨a,b,c⟩:=u
   obtain ⟨a',b',c'⟩:=t
   simp [pT,PyData.eqv,PyData.eqvAll] at e
   obtain ⟨rfl,rfl,rfl⟩:=e
   exact hu
  ·intro h
   refine ⟨pT t,List.mem_map.mpr ⟨t,h,rfl⟩,?_⟩
   simp [pT,PyData.eqv,PyData.eqvAll]
 have d1:(pT t).depth<=64:=by simp [pT,PyData.depth,PyData.depthAll]
 show inD false (encT t) (.tup (us.map encT)) μ K
 unfold inD
 simp only [show datM μ (encT t)=some (pT t) from rfl,show datM μ (.tup (us.map encT))=some (.tuple (us.map pT)) by simp only [datM,dat,ve1]]
 exact ⟨⟨d1,sz0 us⟩,k _ (e us)⟩
theorem th2 {p:Int × Int} (h:¬ (p.1=0 /\ p.2=0)) (u t:T3):(∃ k:Int,0<=k /\ t=(u.1 + k * p.1,u.2.1 + k * p.2,u.2.2)) ↔
    (u.2.2=t.2.2 /\ (t.1 - u.1) * p.2=(t.2.1 - u.2.1) * p.1) /\ (if p.1=0 then t.2.1 - u.2.1 else t.1 - u.1) % (if (if p.1=0 then p.2 else p.1) < 0 then -(if p.1=0 then p.2 else p.1) else (if p.1=0 then p.2 else p.1))=0 ∧
     0<=(if p.1=0 then t.2.1 - u.2.1 else t.1 - u.1) * (if p.1=0 then p.2 else p.1):=by
 have ab:∀ s:Int,(if s < 0 then -s else s)=0 ↔ s=0:=λ s=>by split <;> omega
 have dv:∀ l s:Int,l % (if s < 0 then -s else s)=0 ↔ ∃ k,l=k * s:=λ l s=>by
  rw [<- Int.dvd_iff_emod_eq_zero]
  have:(if s < 0 then -s else s) ∣ l ↔ s ∣ l:=by split; exact Int.neg_dvd; exact Iff.rfl
  rw [this]
  constructor
  ·rintro ⟨k,e⟩; exact ⟨k,by rw [e,Int.mul_comm]⟩
  ·rintro ⟨k,e⟩; exact ⟨k,by rw [e,Int.mul_comm]⟩
 have sg0:∀ k s:Int,s ≠ 0->0<=k * s * s->0<=k:=λ k s hs h=>by
  rw [Int.mul_assoc] at h
  have:0 < s * s:=by
   rcases Int.lt_or_gt_of_ne hs with z | z
   ·exact Int.mul_pos_of_neg_of_neg z z
   ·exact Int.mul_pos z z
  rcases Int.lt_or_le k 0 with z | z
  ·have:=Int.mul_neg_of_neg_of_pos z this; omega
  ·exact z
 have sg1:∀ k s:Int,0<=k->0<=k * s * s:=λ k s h=>by
  rw [Int.mul_assoc]; exact Int.mul_nonneg h (by rcases Int.le_total 0 s with z | z; exact Int.mul_nonneg z z; exact Int.mul_nonneg_of_nonpos_of_nonpos z z)
 obtain ⟨a,b⟩:=p
 obtain ⟨x,y,c⟩:=t
 obtain ⟨x',y',c'⟩:=u
 dsimp only at *
 by_cases ca:a=0
 ·subst ca
  have hb:b ≠ 0:=λ z=>h ⟨rfl,z⟩
  simp only [if_true,dv,Int.mul_zero,Int.add_zero,Prod.mk.injEq]
  constructor
  ·rintro ⟨k,hk,rfl,rfl,rfl⟩
   exact ⟨⟨rfl,by simp⟩,⟨k,by omega⟩,by rw [show y' + k * b - y'=k * b by omega]; exact sg1 k b hk⟩
  ·rintro ⟨⟨rfl,e⟩,⟨k,ek⟩,hn⟩
   rw [ek] at hn
   have:x - x'=0:=by
    rcases Int.mul_eq_zero.mp e with z | z
    ·exact z
    ·exact absurd z hb
   exact ⟨k,sg0 k b hb hn,by omega,by omega,rfl⟩
 ·simp only [ca,if_false,dv,Prod.mk.injEq]
  constructor
  ·rintro ⟨k,hk,rfl,rfl,rfl⟩
   refine ⟨⟨rfl,?_⟩,⟨k,by omega⟩,by rw [show x' + k * a - x'=k * a by omega]; exact sg1 k a hk⟩
   rw [show x' + k * a - x'=k * a by omega,show y' + k * b - y'=k * b by omega,Int.mul_right_comm]
  ·rintro ⟨⟨rfl,e⟩,⟨k,ek⟩,hn⟩
   rw [ek] at hn e
   refine ⟨k,sg0 k a ca hn,by omega,?_,rfl⟩
   have:(k * b) * a=(y - y') * a:=by rw [<- e,Int.mul_right_comm]
   have:=Int.eq_of_mul_eq_mul_right ca this
   omega
def yo4:TS3:=ifs3 (and3 (b3 (o3 eqR (o3 modR (v3 10) (call3 absR (cons3 (v3 9) nil3))) (c3 (.int 0)))) (b3 (o3 geR (o3 mulR (v3 10) (v3 9)) (c3 (.int 0))))) (ret3 (c3 (.bl true))) next3
def xz4:TS3:=seq3 (set3 9 (o3 ixR (v3 3) (call3 intR (cons3 (o3 eqR (o3 ixR (v3 3) (c3 (.int 0))) (c3 (.int 0))) nil3)))) (seq3 (set3 10 (o3 ixR (lst3 (cons3 (v3 7) (cons3 (v3 8) nil3))) (call3 intR (cons3 (o3 eqR (o3 ixR (v3 3) (c3 (.int 0))) (c3 (.int 0))) nil3)))) yo4)
def hd49 (us:List T3) (t:T3) (p:Int × Int) (r:St3):St3:=some (.tup [.tup (us.map encT),yh0 (some p)]) :: some (encT t) :: some (.tup (us.map encT)) :: some (yh0 (some p)) :: r
def Ah (p:Int × Int) (u t:T3):Prop:=∃ k:Int,0<=k /\ t=(u.1 + k * p.1,u.2.1 + k * p.2,u.2.2)
def W49 (us:List T3) (t:T3) (p:Int × Int) (μ:Mu) (l:List D) (ρ:St3) (μ':Mu):Prop:=Ext μ μ' /\ ∃ (v r:List T3) (o4 o5 o6 o7 o8 o9 o10:Option D),l=r.map encT /\ v ++ r=us /\ (∀ u ∈ v,¬ Ah p u t) /\ ρ=hd49 us t p [o4,o5,o6,o7,o8,o9,o10]
def spIn:Sp3:=λ ds μ Q=>∃ us sh t,ds=[.tup [.tup (us.map encT),yh0 sh],encT t] /\ ShOk sh /\ ∀ b μ',Ext μ μ'->(b=true ↔ Drn us sh t)->Q (.bl b) μ'
theorem xv4 (ds:List D) (μ:Mu) (Q:VK3) (h:spIn ds μ Q):t_q4 { nx:=λ _ μ'=>Q .non μ',rt:=Q } (start3 N_q4 ds) μ:=by
 obtain ⟨us,sh,t,rfl,hs,q⟩:=h
 refine ⟨rfl,?_⟩
 cases sh with
 | none=>exact in_T λ b hb=>q b μ (Ext.refl _) hb
 | some p =>
  obtain ⟨a,b⟩:=p
  obtain ⟨⟨ha,hb⟩,ne⟩:=hs
  dsimp only at ha hb
  have ma : -(2 ^ 64) < a /\ a < 2 ^ 64:=by omega
  have mb : -(2 ^ 64) < b /\ b < 2 ^ 64:=by omega
  refine wf0 (W49 us t (a,b) μ) ?_ (λ _ _ _ _=>trivial) ?_ ?_
  ·exact ⟨Ext.refl _,[],us,none,none,none,none,none,none,none,rfl,rfl,(λ u h=>(nomatch h)),rfl⟩
  ·rintro ρ μ' ⟨ex,v,r,o4,o5,o6,o7,o8,o9,o10,e,e2,hv,rfl⟩
   have r0:r=[]:=by simpa using e.symm
   subst r0
   rw [append_nil] at e2
   subst e2
   refine q false μ' ex ⟨(λ h=>nomatch h),?_⟩
   rintro ⟨u,hu,k⟩
   exact absurd k (hv u hu)
  ·rintro x rest ρ μ' ⟨ex,v,r,o4,o5,o6,o7,o8,o9,o10,e,e2,hv,rfl⟩
   cases r with
   | nil=>simp at e
   | cons u r =>
    simp only [map_cons,List.cons.injEq] at e
    obtain ⟨rfl,rfl⟩:=e
    have iff:Ah (a,b) u t ↔ _:=th2 ne u t
    dsimp only at iff
    have go:∀ (o7 o8 o9 o10:Option D) μ2,Ext μ μ2->¬ Ah (a,b) u t->W49 us t (a,b) μ (r.map encT) (hd49 us t (a,b) [some (.int u.1),some (.int u.2.1),some (.int u.2.2),o7,o8,o9,o10]) μ2:=λ o7 o8 o9 o10 μ2 x2 nn=>by
     refine ⟨x2,v ++ [u],r,_,_,_,_,_,_,_,rfl,by simpa using e2,λ w hw=>?_,rfl⟩
     rcases List.mem_append.mp hw with z | z
     ·exact hv w z
     ·rw [mem_singleton] at z; subst z; exact nn
    refine ⟨rfl,?_⟩
    by_cases c1:u.2.2=t.2.2
    ·show if (decide (u.2.2=t.2.2))=true then _ else _
     rw [if_pos (decide_eq_true c1)]
     refine ⟨.inl (.inr mb),.inl (.inr ma),?_⟩
     by_cases c2:(t.1 - u.1) * b=(t.2.1 - u.2.1) * a
     ·show if (decide ((t.1 - u.1) * b=(t.2.1 - u.2.1) * a))=true then _ else _
      rw [if_pos (decide_eq_true c2)]
      have fin:∀ (s l i:Int),(if decide (a=(0:Int))=true then (1:Int) else 0)=i->(i=0 /\ s=a /\ l=t.1 - u.1 \/ i=1 /\ s=b /\ l=t.2.1 - u.2.1)->s ≠ 0->(Ah (a,b) u t ↔ l % (if s < 0 then -s else s)=0 /\ 0<=l * s) ->
          xz4 { nx:=W49 us t (a,b) μ (r.map encT),rt:=Q } (hd49 us t (a,b) [some (.int u.1),some (.int u.2.1),some (.int u.2.2),some (.int (t.1 - u.1)),some (.int (t.2.1 - u.2.1)),o9,o10]) μ':=λ s l i ei hi hs0 iff2=>by
       show ixR (.tup [.int a,.int b]) (.int (if decide (a=(0:Int))=true then 1 else 0)) μ' _
       rw [ei]
       have sp:0 < (if s < 0 then -s else s):=by split <;> omega
       have last:∀ g,μ' g=none->yo4 { nx:=W49 us t (a,b) μ (r.map encT),rt:=Q } (hd49 us t (a,b) [some (.int u.1),some (.int u.2.1),some (.int u.2.2),some (.int (t.1 - u.1)),some (.int (t.2.1 - u.2.1)),some (.int s),some (.int l)]) (updM μ' g (.lst [.int (t.1 - u.1),.int (t.2.1 - u.2.1)])):=λ g hg=>by
        have x2:Ext μ (updM μ' g (.lst [.int (t.1 - u.1),.int (t.2.1 - u.2.1)])):=ex.trans (Ext.new hg)
        refine ⟨sp,?_⟩
        by_cases c3':l % (if s < 0 then -s else s)=0
        ·show if (decide (l % (if s < 0 then -s else s)=0))=true then _ else _
         rw [if_pos (decide_eq_true c3')]
         refine ⟨.inl (.inr (by rcases hi with ⟨_,rfl,_⟩ | ⟨_,rfl,_⟩; exact ma; exact mb)),?_⟩
         by_cases c4:0<=l * s
         ·show if (decide (0<=l * s))=true then _ else _
          rw [if_pos (decide_eq_true c4)]
          exact q true _ x2 ⟨λ _=>⟨u,by rw [<- e2]; simp,iff2.mpr ⟨c3',c4⟩⟩,λ _=>rfl⟩
         ·show if (decide (0<=l * s))=true then _ else _
          rw [if_neg (λ h=>c4 (of_decide_eq_true h))]
          exact go _ _ _ _ _ x2 (λ h=>c4 (iff2.mp h).2)
        ·show if (decide (l % (if s < 0 then -s else s)=0))=true then _ else _
         rw [if_neg (λ h=>c3' (of_decide_eq_true h))]
         exact go _ _ _ _ _ x2 (λ h=>c3' (iff2.mp h).1)
       rcases hi with ⟨rfl,rfl,rfl⟩ | ⟨rfl,rfl,rfl⟩ <;>
       ·refine ⟨z2,λ g hg=>?_⟩
        show ixR (.ref g) (.int (if decide (_=(0:Int))=true then 1 else 0)) (updM μ' g (.lst [.int (t.1 - u.1),.int (t.2.1 - u.2.1)])) _
        rw [ei]
        exact vo0 ta0 rfl (last g hg)
      by_cases ca:a=0
      ·refine fin b (t.2.1 - u.2.1) 1 (by rw [decide_eq_true ca]; rfl) (.inr ⟨rfl,rfl,rfl⟩) (λ z=>ne ⟨ca,z⟩) ?_
       rw [iff]
       simp only [ca,if_true,c1,true_and]
       rw [ca] at c2
       simp only [c2,true_and]
      ·refine fin a (t.1 - u.1) 0 (by rw [decide_eq_false ca]; rfl) (.inl ⟨rfl,rfl,rfl⟩) ca ?_
       rw [iff]
       simp only [ca,if_false,c1,c2,true_and]
     ·show if (decide ((t.1 - u.1) * b=(t.2.1 - u.2.1) * a))=true then _ else _
      rw [if_neg (λ h=>c2 (of_decide_eq_true h))]
      exact go _ _ _ _ μ' ex (λ h=>c2 (iff.mp h).1.2)
    ·show if (decide (u.2.2=t.2.2))=true then _ else _
     rw [if_neg (λ h=>c1 (of_decide_eq_true h))]
     exact go _ _ _ _ μ' ex (λ h=>c1 (iff.mp h).1.1)
def tw0:Sp3:=λ ds μ Q=>∃ i:Int,ds=[.int i] /\ Q (.bl true) μ
theorem yg4 (ds:List D) (μ:Mu) (Q:VK3) (h:tw0 ds μ Q):za3 { nx:=λ _ μ'=>Q .non μ',rt:=Q } (start3 vt2 ds) μ:=by
 obtain ⟨i,rfl,q⟩:=h
 simp only [za3,ret3,andV3,call3,cons3,v3,start3,map_cons,map_nil,vt2,length_cons,length_nil,Nat.zero_add,Nat.reduceSub,List.replicate,cons_append,nil_append,getI,c3,nil3,isiR,tyN,isIn,and_true,if_true,notV3]
 simp [q]
theorem yy2:∀ (w:List Dd) (p:Pen),∀ u ∈ wk p w,wyT u
 | [],p,u,h=>by simp [wk] at h
 | d :: r,p,u,h=>by
  simp only [wk] at h
  rcases List.mem_append.mp h with h | h
  ·cases d with
   | go n =>
    simp only [sg,ln] at h
    obtain ⟨i,_,rfl⟩:=List.mem_map.mp h
    unfold wyT btw
    dsimp only
    split
    ·exact .inl rfl
    ·exact .inr rfl
   | jump n=>simp [sg] at h
   | turn n=>simp [sg] at h
   | times n v=>simp [sg] at h
  ·exact yy2 r _ u h
theorem Ev.wy {w:List Dd} {us:List T3} {sh:Sf} (h:Ev w us sh):∀ u ∈ us,wyT u:=by
 intro u hu
 rcases h with ⟨_,ip,_⟩ | ⟨_,ip,_⟩
 ·exact yy2 _ _ u ((ip.2.2 u).mp hu)
 ·have:=(ip.2.2 u).mp hu
  unfold tr0 at this
  obtain ⟨j,_,hj⟩:=List.mem_flatMap.mp this
  exact yy2 _ _ u hj
def StI (p:Addr) (μ:Mu):Prop:=∃ a b,μ p=some (.lst [.int a,.int b]) /\ 0<=a
theorem StI.new {p q:Addr} {o:MO} {μ:Mu} (h:StI p μ) (hq:μ q=none):StI p (updM μ q o):=by
 obtain ⟨a,b,e,ha⟩:=h
 exact ⟨a,b,by rw [ub0 (td0 e hq)]; exact e,ha⟩
theorem StI.ext {p:Addr} {μ μ':Mu} (h:StI p μ) (x:Ext μ μ'):StI p μ':=by
 obtain ⟨a,b,e,ha⟩:=h
 exact ⟨a,b,x _ _ e,ha⟩
theorem zy4 {us:List T3} {μ:Mu} {K:VK3} (k:K (.bl (!decide (us=[]))) μ):neR (.tup (us.map encT)) (.tup []) μ K:=by
 have e:(PyData.tuple (us.map pT)).eqv (PyData.tuple [])=decide (us=[]):=by
  cases us with
  | nil=>rfl
  | cons a r=>simp [PyData.eqv,PyData.eqvAll]
 rw [wy0 (p:=.tuple (us.map pT)) (q:=.tuple []) rfl (by simp only [datM,dat,ve1]) (by simp only [datM,dat,dats]) (sz0 us) (by simp [PyData.depth,PyData.depthAll]),e]
 exact k
theorem at_T {us:List T3} {i:Int} (h0:0<=i) (h1:i < us.length):∃ u ∈ us,atI (us.map encT) i=some (encT u):=by
 obtain ⟨d,hd,e⟩:=sx2 (l:=us.map encT) h0 (by rw [length_map]; exact h1)
 obtain ⟨u,hu,rfl⟩:=List.mem_map.mp hd
 exact ⟨u,hu,e⟩
theorem sc2 {l:List D} {i:Int} {d:D} {μ:Mu} {K:VK3} (e:atI l i=some d) (k:K d μ):ixR (.tup l) (.int i) μ K:=by
 unfold ixR
 simp only [e]
 exact k
theorem yh2:∀ n,bls? (List.replicate n (D.bl true))=some (List.replicate n true)
 | 0=>rfl
 | n + 1=>by rw [replicate_succ]; simp only [bls?,yh2 n]; rfl
theorem ya5 {p:Addr} {n:Nat} {μ:Mu} {Q:VK3} (h:μ p=some (.lst (List.replicate n (D.bl true)))) (k:Q (.bl true) μ):allR [.ref p] μ Q:=by
 unfold allR
 simp only [h,yh2]
 rw [show (List.replicate n true).all id=true by simp]
 exact k
theorem sa1 {l:List Int} {μ:Mu} {ρ:St3} {ti:TE3} {Q:VK3} (hl:l.length<=100) (ht:∀ R:VK3,R (.tup (l.map .int)) μ->ti ρ μ R) (q:∀ μ',Ext μ μ'->Q (.bl true) μ') :
    call3 allR (cons3 (comp3 [none] (is3 ti) (gn3 0) tt3 (call3 tw0 (cons3 (v3 0) nil3))) nil3) ρ μ Q:=by
 have hz:(100:Nat)<=sizeLine:=by decide
 refine ht _ ?_
 intro p hp
 refine vk0 (rest:=[]) (λ _=>D.bl true) hp (by rw [length_map]; omega) (λ _ _=>trivial) (λ x hx μ' R ex kk=>?_) λ μ' ex e=>?_
 ·obtain ⟨i,_,rfl⟩:=List.mem_map.mp hx
  exact ⟨i,rfl,kk μ' (Ext.refl _)⟩
 ·rw [List.map_const'] at e
  exact ya5 e (q μ' ex)
def dSh:Sf->PyData
 | none=>.none
 | some p=>.tuple [.int p.1,.int p.2]
def dEv (us:List T3) (sh:Sf):PyData:=.tuple [.tuple (us.map pT),dSh sh]
theorem vy4 (us:List T3) (sh:Sf) {μ:Mu} {K:VK3} (k:K (.bl false) μ):neR (.tup [.tup (us.map encT),yh0 sh]) (.tup [.tup (us.map encT),yh0 sh]) μ K:=by
 have d:datM μ (.tup [.tup (us.map encT),yh0 sh])=some (dEv us sh):=by
  cases sh <;> simp only [datM,dat,dats,ve1,yh0,dEv,dSh]
 have dp:(dEv us sh).depth<=64:=by
  have:=ui1 us
  cases sh <;> simp only [dEv,dSh,PyData.depth,PyData.depthAll] <;> omega
 have e:(dEv us sh).eqv (dEv us sh)=true:=by
  cases sh <;> simp [dEv,dSh,PyData.eqv,PyData.eqvAll,tn4]
 rw [wy0 rfl d d dp dp,e]
 exact k
def tw49 (us:List T3) (sh:Sf) (o:Option D):St3:=[some (.tup [.tup (us.map encT),yh0 sh]),some (.tup [.tup (us.map encT),yh0 sh]),o]
def yl4:TT3:=not3 (b3 (call3 isiR (cons3 (o3 ixR (v3 0) (c3 (.int 0))) (cons3 (c3 (.ty "tuple")) nil3))))
theorem ty2 (us:List T3) (sh:Sf) {o:Option D} {μ:Mu} {K:Bool->Mu->Prop} (k:K false μ):or3 (not3 (b3 (call3 isiR (cons3 (v3 0) (cons3 (c3 (.ty "tuple")) nil3))))) (or3 (b3 (o3 neR (v3 0) (v3 1))) yl4) (tw49 us sh o) μ K:=by
 have h:=vy4 us sh (μ:=μ) (K:=λ d μ1=>match d with
  | .bl c=>if c=true then K true μ1 else yl4 (tw49 us sh o) μ1 K
  | _=>False) k
 exact h
def zb3:Sp3:=λ ds μ Q=>∃ (us:List T3) (sh:Sf),ds=[.tup [.tup (us.map encT),yh0 sh],.tup [.tup (us.map encT),yh0 sh]] /\ ∀ μ',Ext μ μ'->Q (.bl true) μ'
theorem su4 (ds:List D) (μ:Mu) (Q:VK3) (h:zb3 ds μ Q):t_q5 tw0 { nx:=λ _ μ'=>Q .non μ',rt:=Q } (start3 N_q5 ds) μ:=by
 obtain ⟨us,sh,rfl,q⟩:=h
 refine ty2 us sh ?_
 refine wf0 (λ l ρ μ'=>Ext μ μ' /\ ∃ (r:List T3) (o:Option D),l=r.map encT /\ ρ=(tw49 us sh o)) ?_ (λ _ _ _ _=>trivial) ?_ ?_
 ·exact ⟨Ext.refl _,us,none,rfl,rfl⟩
 ·rintro ρ μ' ⟨ex,r,o,_,rfl⟩
  cases sh with
  | none=>exact q μ' ex
  | some p=>exact sa1 (l:=[p.1,p.2]) (ti:=o3 ixR (v3 0) (c3 (.int 1))) (ρ:=tw49 us (some p) o) (by simp) (λ R k=>k) (λ μ2 x2=>q μ2 (ex.trans x2))
 ·rintro x rest ρ μ' ⟨ex,r,o,e,rfl⟩
  cases r with
  | nil=>simp at e
  | cons u r =>
   simp only [map_cons,List.cons.injEq] at e
   obtain ⟨rfl,rfl⟩:=e
   refine sa1 (l:=[u.1,u.2.1,u.2.2]) (ti:=v3 2) (ρ:=tw49 us sh (some (encT u))) (by simp) (λ R k=>k) (λ μ2 x2=>?_)
   exact ⟨ex.trans x2,r,_,rfl,rfl⟩
theorem vy2 {p:Addr} {k:Int} (hk:k=0 \/ k=1 \/ k=2 \/ k=3) {o0 o2 o3' o5 o6 o7:Option D} {μ:Mu} (h:StI p μ) {K:VK3} (q:∀ (t:Int) μ',StI p μ'->K (.int t) μ') :
    (o3 ixR (lst3 (cons3 (o3 subR (call3 zq0 (cons3 (v3 1) (cons3 (c3 (.int 9)) nil3))) (c3 (.int 1))) (cons3 (call3 zq0 (cons3 (v3 1) (cons3 (o3 ixR (lst3 (cons3 (o3 powR (c3 (.int 10)) (c3 (.int 4))) (cons3 (o3 powR (c3 (.int 10)) (c3 (.int 18))) nil3))) (o3 fdivR (v3 4) (c3 (.int 3)))) nil3))) nil3))) (o3 fdivR (v3 4) (c3 (.int 2)))) [o0,some (.ref p),o2,o3',some (.int k),o5,o6,o7] μ K:=by
 have c1:CPow 10 4:=⟨by decide,by decide,by decide⟩
 have c2:CPow 10 18:=⟨by decide,by decide,by decide⟩
 have fd:∀ x:Int,0 < x->x < 2 ^ 62->(0:Int) < x /\ x < 2 ^ 120:=λ x a b=>⟨a,by omega⟩
 have ix:∀ (g:Addr) (u v:Int) (i:Int) (μ:Mu) (K:VK3),i=0 \/ i=1->μ g=some (.lst [.int u,.int v])->(∀ r,r=u \/ r=v->K (.int r) μ)->ixR (.ref g) (.int i) μ K:=λ g u v i μ K hi e kk=>by
  rcases hi with rfl | rfl
  ·exact vo0 e rfl (kk _ (.inl rfl))
  ·exact vo0 e rfl (kk _ (.inr rfl))
 obtain ⟨a,b,e,n⟩:=h
 refine ⟨p,9,a,b,rfl,by decide,by decide,e,n,λ r a1 b1 r0 r1 n1=>?_⟩
 have h1:StI p (updM μ p (.lst [.int a1,.int b1])):=⟨a1,b1,ta0,n1⟩
 refine ⟨c1,c2,z2,λ g hg=>⟨fd 3 (by decide) (by decide),?_⟩⟩
 refine ix g (10 ^ (4:Int).toNat) (10 ^ (18:Int).toNat) (k / 3) _ _ (by omega) ta0 λ m hm=>?_
 obtain ⟨a2,b2,e2,n2⟩:=h1.new (o:=.lst [.int (10 ^ (4:Int).toNat),.int (10 ^ (18:Int).toNat)]) hg
 refine ⟨p,m,a2,b2,rfl,by rcases hm with rfl | rfl <;> decide,by rcases hm with rfl | rfl <;> decide,e2,n2,λ s a3 b3 s0 s1 n3=>?_⟩
 have h2:StI p (updM (updM (updM μ p (.lst [.int a1,.int b1])) g (.lst [.int (10 ^ (4:Int).toNat),.int (10 ^ (18:Int).toNat)])) p (.lst [.int a3,.int b3])):=⟨a3,b3,ta0,n3⟩
 refine ⟨z2,λ g' hg'=>⟨fd 2 (by decide) (by decide),?_⟩⟩
 exact ix g' (r - 1) s (k / 2) _ _ (by omega) ta0 λ t _=>q t _ (h2.new hg')
def sj2:Sp3:=λ ds μ Q=>∃ ns:List Int,ds=[.fls (ns.map D.int)] /\ ns.length<=63 /\ ∀ μ',Q (.bl true) μ'
def en49:TS3:=seq3 (set3 7 (call3 spEd (cons3 (v3 2) (cons3 (v3 6) nil3)))) (ifs3 (or3 (not3 (b3 (call3 isiR (cons3 (v3 7) (cons3 (c3 (.ty "bool")) nil3))))) (b3 (o3 neR (v3 7) (call3 spIn (cons3 (v3 3) (cons3 (v3 6) nil3)))))) (ret3 (c3 (.bl false))) next3)
theorem xo1 {w:List Dd} {us:List T3} {sh:Sf} (wd:Wd w) (hs:Short w) (ev:Ev w us sh) {t:T3} (ht:wyT t) {o0 o1 o4 o5 o7:Option D} {μ:Mu} {D':Ends3} (q:∀ o7 μ',Ext μ μ'->D'.nx [o0,o1,some (.tup (encs w)),some (.tup [.tup (us.map encT),yh0 sh]),o4,o5,some (encT t),o7] μ') :
    en49 D' [o0,o1,some (.tup (encs w)),some (.tup [.tup (us.map encT),yh0 sh]),o4,o5,some (encT t),o7] μ:=by
 refine ⟨w,t,rfl,wd,hs,ht,λ b μ1 x1 hb=>?_⟩
 refine ⟨us,sh,t,rfl,ev.sh wd hs,λ b' μ2 x2 hb'=>?_⟩
 have e:b=b':=by
  have:=hb.trans ((ev.drn t).symm.trans hb'.symm)
  cases b <;> cases b' <;> simp at this <;> rfl
 subst e
 show if (!decide (b=b))=true then _ else _
 rw [decide_eq_true rfl]
 exact q _ μ2 (x1.trans x2)
theorem xj1 {w:List Dd} {us:List T3} {sh:Sf} (wd:Wd w) (hs:Short w) (ev:Ev w us sh) {t:T3} (ht:wyT t) {n:Int} {o0 o1 o4 o7:Option D} {μ:Mu} {D':Ends3} (q:∀ o6 o7 μ',Ext μ μ'->D'.nx [o0,o1,some (.tup (encs w)),some (.tup [.tup (us.map encT),yh0 sh]),o4,some (.int n),o6,o7] μ') :
    (seq3 (ifs3 (b3 (o3 (isNR true) (o3 ixR (v3 3) (c3 (.int 1))) (c3 .non))) (set3 6 (tup3 (cons3 (o3 addR (o3 ixR (v3 6) (c3 (.int 0))) (o3 mulR (v3 5) (o3 ixR (o3 ixR (v3 3) (c3 (.int 1))) (c3 (.int 0))))) (cons3 (o3 addR (o3 ixR (v3 6) (c3 (.int 1))) (o3 mulR (v3 5) (o3 ixR (o3 ixR (v3 3) (c3 (.int 1))) (c3 (.int 1))))) (cons3 (o3 ixR (v3 6) (c3 (.int 2))) nil3))))) next3)
     en49:TS3) D' [o0,o1,some (.tup (encs w)),some (.tup [.tup (us.map encT),yh0 sh]),o4,some (.int n),some (encT t),o7] μ:=by
 have ok:=ev.sh wd hs
 cases sh with
 | none=>exact xo1 wd hs ev ht λ o7 μ' x=>q _ o7 μ' x
 | some p =>
  obtain ⟨⟨ha,hb⟩,_⟩:=ok
  refine ⟨.inl (.inr (by omega)),.inl (.inr (by omega)),z3,?_⟩
  exact xo1 (t:=(t.1 + n * p.1,t.2.1 + n * p.2,t.2.2)) wd hs ev ht λ o7 μ' x=>q _ o7 μ' x
theorem ud4 (ds:List D) (μ:Mu) (Q:VK3) (h:sj2 ds μ Q):vq3 xx1 spIn zb3 zg1 sw0 zq0 spEd spEo { nx:=λ _ μ'=>Q .non μ',rt:=Q } (start3 wm3 ds) μ:=by
 obtain ⟨ns,rfl,hl,q⟩:=h
 refine ⟨ns,0,rfl,by decide,λ a b p ha hp=>?_⟩
 refine ⟨p,24,rfl,by decide,a,b,ta0,ha,λ w a1 b1 μ1 x1 h1 a10 dw gw=>?_⟩
 have wd:=dw.top.1
 have hs:=dw.short (by omega)
 refine ⟨w,rfl,dw,by omega,λ us sh μ2 x2 ev=>?_⟩
 refine ⟨w,rfl,wd,hs,λ us' sh' μ3 x3 ev'=>?_⟩
 obtain ⟨rfl,rfl⟩:=ev.one ev'
 refine ⟨us,sh,rfl,λ μ4 x4=>?_⟩
 have h4:StI p μ4:=StI.ext (StI.ext (μ:=μ1) ⟨a1,b1,h1,a10⟩ x2) (x3.trans x4)
 refine ⟨⟨by decide,by decide⟩,?_⟩
 refine wf0 (λ l ρ μ'=>StI p μ' /\ (∀ x ∈ l,∃ k:Int,x=.int k /\ (k=0 \/ k=1 \/ k=2 \/ k=3)) /\ ∃ o4 o5 o6 o7:Option D,ρ=[some (.fls (ns.map D.int)),some (.ref p),some (.tup (encs w)),some (.tup [.tup (us.map encT),yh0 sh]),o4,o5,o6,o7]) ?_ (λ _ _ _ _=>trivial) ?_ ?_
 ·refine ⟨h4,λ x hx=>?_,none,none,none,none,rfl⟩
  obtain ⟨i,hi,rfl⟩:=vy0 hx
  have hi':i < 4:=hi
  exact ⟨_,rfl,by omega⟩
 ·rintro ρ μ' ⟨_,_,o4,o5,o6,o7,rfl⟩
  exact q μ'
 ·rintro x rest ρ μ' ⟨hp',hx,o4,o5,o6,o7,rfl⟩
  obtain ⟨k,rfl,hk⟩:=hx x (mem_cons_self ..)
  have hx':∀ x ∈ rest,∃ k:Int,x=.int k /\ (k=0 \/ k=1 \/ k=2 \/ k=3):=λ y hy=>hx y (mem_cons_of_mem _ hy)
  refine vy2 hk hp' λ n μ5 h5=>?_
  obtain ⟨a4,b4,e4,n4⟩:=h5
  refine ⟨p,_,a4,b4,rfl,by decide,by decide,e4,n4,λ r c4 d4 r0 r1 m4=>?_⟩
  have h6:StI p (updM μ5 p (.lst [.int c4,.int d4])):=⟨c4,d4,ta0,m4⟩
  generalize updM μ5 p (.lst [.int c4,.int d4])=μ6 at h6 ⊢
  obtain ⟨a5,b5,e5,n5⟩:=h6
  refine ⟨p,_,a5,b5,rfl,by decide,by decide,e5,n5,λ r' c5 d5 r0' r1' m5=>?_⟩
  have h7:StI p (updM μ6 p (.lst [.int c5,.int d5])):=⟨c5,d5,ta0,m5⟩
  generalize updM μ6 p (.lst [.int c5,.int d5])=μ7 at h7 ⊢
  obtain ⟨a6,b6,e6,n6⟩:=h7
  refine ⟨p,_,a6,b6,rfl,by decide,by decide,e6,n6,λ r2 c6 d6 r20 r21 m6=>?_⟩
  have h8:StI p (updM μ7 p (.lst [.int c6,.int d6])):=⟨c6,d6,ta0,m6⟩
  generalize updM μ7 p (.lst [.int c6,.int d6])=μ8 at h8 ⊢
  refine ⟨z3,Nat.zero_le _,?_⟩
  refine zy4 ?_
  have ht0:wyT (r - 7,r' - 7,r2):=by unfold wyT; dsimp only; omega
  by_cases c:us=[]
  ·rw [decide_eq_true c]
   exact xj1 (t:=(r - 7,r' - 7,r2)) wd hs ev ht0 λ o6 o7 μ' x=>⟨h8.ext x,hx',_,_,_,_,rfl⟩
  ·rw [decide_eq_false c]
   obtain ⟨a7,b7,e7,n7⟩:=h8
   refine ⟨p,_,a7,b7,rfl,by decide,by decide,e7,n7,λ r3 c7 d7 r30 r31 m7=>?_⟩
   have h9:StI p (updM μ8 p (.lst [.int c7,.int d7])):=⟨c7,d7,ta0,m7⟩
   generalize updM μ8 p (.lst [.int c7,.int d7])=μ9 at h9 ⊢
   by_cases c':0 < r3
   ·show if (decide (0 < r3))=true then _ else _
    rw [if_pos (decide_eq_true c')]
    have ln:=ev.len wd hs
    have l0:0 < us.length:=by cases us with
     | nil=>exact absurd rfl c
     | cons _ _=>simp
    obtain ⟨a8,b8,e8,n8⟩:=h9
    refine ⟨p,_,a8,b8,rfl,by rw [length_map]; omega,by rw [length_map]; omega,e8,n8,λ r4 c8 d8 r40 r41 m8=>?_⟩
    have h10:StI p (updM μ9 p (.lst [.int c8,.int d8])):=⟨c8,d8,ta0,m8⟩
    generalize updM μ9 p (.lst [.int c8,.int d8])=μ10 at h10 ⊢
    rw [length_map] at r41
    obtain ⟨u,hu,e⟩:=at_T r40 r41
    refine sc2 e ?_
    exact xj1 wd hs ev (ev.wy u hu) λ o6 o7 μ' x=>⟨h10.ext x,hx',_,_,_,_,rfl⟩
   ·show if (decide (0 < r3))=true then _ else _
    rw [if_neg (λ h=>c' (of_decide_eq_true h))]
    exact xj1 (t:=(r - 7,r' - 7,r2)) wd hs ev ht0 λ o6 o7 μ' x=>⟨h9.ext x,hx',_,_,_,_,rfl⟩
end Pv
namespace Pv
open PySem PySem.Spec PyProof.Rows L2
section
variable {P:Program} {w:World} {K:Fg} {mg:Str->Option Value} {base:Heap}
theorem uv3:FnScope zt2 ["word"] (za0 ss1):=⟨rfl,rfl,rfl,by decide +kernel,rfl,by decide +kernel,by decide +kernel⟩
theorem va4 {k:Nat} {f:Addr} {cdv:Value} {A:Around} {outer:List Env} {s:Shared} {H:Hp} {E:XK} {sp_q16:Sp3} {k_q16:Nat} (c_q16:Cal P w K mg base k_q16 "checked_count" ["word", "depth"] sp_q16) (l_q16:k_q16<=k) (hr:Room k (A.deeper (envOfC "check_word" (za0 ss1) s.heap.objs.size f cdv))) :
    RSs (cxOf CX0 P w K mg base zt2 "check_word" (za0 ss1) f cdv A outer s H E).nox (zb0 ss1) (xa3 sp_q16) :=
 (sa0 (ue0 (xb0 (c_q16.mono l_q16) hr (xa0 (ya0 0) (xa0 wa0 va0)))))
theorem sc_q16:FnScope yt2 ["word", "depth"] (za0 ts1):=⟨rfl,rfl,rfl,by decide +kernel,rfl,by decide +kernel,by decide +kernel⟩
theorem wa4 {k:Nat} {f:Addr} {cdv:Value} {A:Around} {outer:List Env} {s:Shared} {H:Hp} {E:XK} {sp_q17:Sp3} {k_q17:Nat} (c_q17:Cal P w K mg base k_q17 "checked_deed_count" ["deed", "depth"] sp_q17) (l_q17:k_q17<=k) (z_isinstance:mg "isinstance" = none) (z_tuple:mg "tuple" = none) (g_MOST_DEEDS:Gd K mg "MOST_DEEDS" sj0) (g_MOST_DEEP:Gd K mg "MOST_DEEP" wl0) (hr:Room k (A.deeper (envOfC "checked_count" (za0 ts1) s.heap.objs.size f cdv))) :
    RSs (cxOf CX0 P w K mg base yt2 "checked_count" (za0 ts1) f cdv A outer s H E).nox (zb0 ts1) (sz2 sp_q17) :=
 (ua0 (ud0 (sk0 (tk0 (yc0 yt0 z_isinstance sc0 (xa0 (ya0 0) (xa0 (xt0 z_tuple wg0) va0))))) (sa0 zg0) zc0) (ua0 (ud0 (sb0 q_gt (ya0 1) (re_g g_MOST_DEEP)) (sa0 zg0) zc0) (ua0 (xc0 (i:=2) sc_q16.nd wa0) (ua0 (zi0 PassesOwn.never rfl (th0 (ya0 0)) (wc0 (i:=3) sc_q16.nd) (ua0 (xc0 (i:=2) sc_q16.nd (vb0 uf0 (ya0 2) (xb0 (c_q17.mono l_q17) hr (xa0 (ya0 3) (xa0 (ya0 1) va0))))) (sa0 (ud0 (sb0 q_gt (ya0 2) (re_g g_MOST_DEEDS)) (sa0 zg0) zc0)))) (sa0 (wb0 (ya0 2)))))))
theorem vv3:FnScope tn3 ["deed", "depth"] (za0 us1):=⟨rfl,rfl,rfl,by decide +kernel,rfl,by decide +kernel,by decide +kernel⟩
theorem za4 {k:Nat} {f:Addr} {cdv:Value} {A:Around} {outer:List Env} {s:Shared} {H:Hp} {E:XK} {sp_q12:Sp3} {k_q12:Nat} (c_q12:Cal P w K mg base k_q12 "check_number" ["kind", "number"] sp_q12) (l_q12:k_q12<=k) {sp_q16:Sp3} {k_q16:Nat} (c_q16:Cal P w K mg base k_q16 "checked_count" ["word", "depth"] sp_q16) (l_q16:k_q16<=k) (z_isinstance:mg "isinstance" = none) (z_len:mg "len" = none) (z_tuple:mg "tuple" = none) (g_PLAIN_KINDS:Gd K mg "PLAIN_KINDS" ti0) (hr:Room k (A.deeper (envOfC "checked_deed_count" (za0 us1) s.heap.objs.size f cdv))) :
    RSs (cxOf CX0 P w K mg base tn3 "checked_deed_count" (za0 us1) f cdv A outer s H E).nox (zb0 us1) (tr3 sp_q12 sp_q16) :=
 (ua0 (ud0 (sk0 (tk0 (yc0 yt0 z_isinstance sc0 (xa0 (ya0 0) (xa0 (xt0 z_tuple wg0) va0))))) (sa0 zg0) zc0) (ua0 (ud0 (sl0 (xm0 (sb0 (q_eq (hu64 hr)) (yc0 ut1 z_len yw0 (xa0 (ya0 0) va0)) wa0) (uj0 (sb0 (q_in (hu65 hr)) (yb0 q_ix (ya0 0) wa0) (re_g g_PLAIN_KINDS))))) (ua0 (ue0 (xb0 (c_q12.mono l_q12) hr (xa0 (yb0 q_ix (ya0 0) wa0) (xa0 (yb0 q_ix (ya0 0) wa0) va0)))) (sa0 (wb0 wa0))) zc0) (ua0 (ud0 (sl0 (xm0 (sb0 (q_eq (hu64 hr)) (yc0 ut1 z_len yw0 (xa0 (ya0 0) va0)) wa0) (uj0 (sb0 (q_eq (hu64 hr)) (yb0 q_ix (ya0 0) wa0) ug0)))) (ua0 (ue0 (xb0 (c_q12.mono l_q12) hr (xa0 (yb0 q_ix (ya0 0) wa0) (xa0 (yb0 q_ix (ya0 0) wa0) va0)))) (sa0 (wb0 (vb0 uf0 wa0 (xb0 (c_q16.mono l_q16) hr (xa0 (yb0 q_ix (ya0 0) wa0) (xa0 (vb0 uf0 (ya0 1) wa0) va0))))))) zc0) (sa0 zg0))))
theorem xw3:FnScope wt2 ["kind", "number"] (za0 zt1):=⟨rfl,rfl,rfl,by decide +kernel,rfl,by decide +kernel,by decide +kernel⟩
theorem sa4 {k:Nat} {f:Addr} {cdv:Value} {A:Around} {outer:List Env} {s:Shared} {H:Hp} {E:XK} (z_abs:mg "abs" = none) (z_int:mg "int" = none) (z_isinstance:mg "isinstance" = none) (g_GREATEST_NUMBER:Gd K mg "GREATEST_NUMBER" xg0) (g_KINDS_FROM_NOUGHT:Gd K mg "KINDS_FROM_NOUGHT" se0) (hr:Room k (A.deeper (envOfC "check_number" (za0 zt1) s.heap.objs.size f cdv))) :
    RSs (cxOf CX0 P w K mg base wt2 "check_number" (za0 zt1) f cdv A outer s H E).nox (zb0 zt1) (ya3) :=
 (ua0 (ud0 (sk0 (tk0 (yc0 yt0 z_isinstance sc0 (xa0 (ya0 1) (xa0 (xt0 z_int se1) va0))))) (sa0 zg0) zc0) (ua0 (ud0 (sb0 q_gt (yc0 ym2 z_abs tn1 (xa0 (ya0 1) va0)) (re_g g_GREATEST_NUMBER)) (sa0 zg0) zc0) (sa0 (ud0 (sl0 (xm0 (sb0 q_lt (ya0 1) wa0) (uj0 (sb0 (q_in (hu65 hr)) (ya0 0) (re_g g_KINDS_FROM_NOUGHT))))) (sa0 zg0) zc0))))
theorem sc_q32:FnScope zm3 ["pen", "part"] (za0 tq1):=⟨rfl,rfl,rfl,by decide +kernel,rfl,by decide +kernel,by decide +kernel⟩
theorem wy3 {k:Nat} {f:Addr} {cdv:Value} {A:Around} {outer:List Env} {s:Shared} {H:Hp} {E:XK} (g_AHEAD:Gd K mg "AHEAD" xk0) (hr:Room k (A.deeper (envOfC "led" (za0 tq1) s.heap.objs.size f cdv))) :
    RSs (cxOf CX0 P w K mg base zm3 "led" (za0 tq1) f cdv A outer s H E).nox (zb0 tq1) (wq3) :=
 (ua0 (xc0 (i:=2) sc_q32.nd (yb0 q_ix (re_g g_AHEAD) (yb0 q_ix (ya0 0) wa0))) (ua0 (xc0 (i:=3) sc_q32.nd (vb0 uq0 (vb0 uf0 (yb0 q_ix (ya0 0) wa0) (vb0 vf0 (yb0 q_ix (ya0 1) wa0) (yb0 q_ix (ya0 2) wa0))) (vb0 vf0 (yb0 q_ix (ya0 1) wa0) (yb0 q_ix (ya0 2) wa0)))) (ua0 (xc0 (i:=4) sc_q32.nd (vb0 uf0 (vb0 uf0 (yb0 q_ix (ya0 0) wa0) (vb0 vf0 (yb0 q_ix (ya0 1) wa0) (yb0 q_ix (ya0 2) wa0))) (vb0 vf0 (yb0 q_ix (ya0 1) wa0) (yb0 q_ix (ya0 2) wa0)))) (sa0 (wb0 (zd0 (xa0 (ya0 3) (xa0 (ya0 4) (xa0 (vb0 uo0 (vb0 uf0 (yb0 q_ix (ya0 0) wa0) (yb0 q_ix (ya0 1) wa0)) wa0) va0)))))))))
theorem sc_q34:FnScope xm3 ["word"] (za0 vq1):=⟨rfl,rfl,rfl,by decide +kernel,rfl,by decide +kernel,by decide +kernel⟩
theorem yy3 {k:Nat} {f:Addr} {cdv:Value} {A:Around} {outer:List Env} {s:Shared} {H:Hp} {E:XK} {sp_q32:Sp3} {k_q32:Nat} (c_q32:Cal P w K mg base k_q32 "led" ["pen", "part"] sp_q32) (l_q32:k_q32<=k) {sp_q35:Sp3} {k_q35:Nat} (c_q35:Cal P w K mg base k_q35 "pen_behind_deed" ["deed"] sp_q35) (l_q35:k_q35<=k) (g_START:Gd K mg "START" ze0) (hr:Room k (A.deeper (envOfC "pen_behind" (za0 vq1) s.heap.objs.size f cdv))) :
    RSs (cxOf CX0 P w K mg base xm3 "pen_behind" (za0 vq1) f cdv A outer s H E).nox (zb0 vq1) (yq3 sp_q32 sp_q35) :=
 (ua0 (xc0 (i:=1) sc_q34.nd (re_g g_START)) (ua0 (zi0 PassesOwn.never rfl (th0 (ya0 0)) (wc0 (i:=2) sc_q34.nd) (sa0 (xc0 (i:=1) sc_q34.nd (xb0 (c_q32.mono l_q32) hr (xa0 (ya0 1) (xa0 (xb0 (c_q35.mono l_q35) hr (xa0 (ya0 2) va0)) va0)))))) (sa0 (wb0 (ya0 1)))))
theorem zu3:FnScope tl3 ["deed"] (za0 wq1):=⟨rfl,rfl,rfl,by decide +kernel,rfl,by decide +kernel,by decide +kernel⟩
theorem xy3 {k:Nat} {f:Addr} {cdv:Value} {A:Around} {outer:List Env} {s:Shared} {H:Hp} {E:XK} {sp_q34:Sp3} {k_q34:Nat} (c_q34:Cal P w K mg base k_q34 "pen_behind" ["word"] sp_q34) (l_q34:k_q34<=k) {sp_q36:Sp3} {k_q36:Nat} (c_q36:Cal P w K mg base k_q36 "pen_repeated" ["part", "number"] sp_q36) (l_q36:k_q36<=k) (hr:Room k (A.deeper (envOfC "pen_behind_deed" (za0 wq1) s.heap.objs.size f cdv))) :
    RSs (cxOf CX0 P w K mg base tl3 "pen_behind_deed" (za0 wq1) f cdv A outer s H E).nox (zb0 wq1) (xq3 sp_q34 sp_q36) :=
 (ua0 (ud0 (sb0 (q_eq (hu64 hr)) (yb0 q_ix (ya0 0) wa0) ug0) (sa0 (wb0 (zd0 (xa0 wa0 (xa0 wa0 (xa0 (vb0 uo0 (yb0 q_ix (ya0 0) wa0) wa0) va0)))))) zc0) (ua0 (ud0 (sb0 (q_eq (hu64 hr)) (yb0 q_ix (ya0 0) wa0) ug0) (sa0 (wb0 (xb0 (c_q36.mono l_q36) hr (xa0 (xb0 (c_q34.mono l_q34) hr (xa0 (yb0 q_ix (ya0 0) wa0) va0)) (xa0 (yb0 q_ix (ya0 0) wa0) va0))))) zc0) (sa0 (wb0 (zd0 (xa0 (yb0 q_ix (ya0 0) wa0) (xa0 wa0 (xa0 wa0 va0))))))))
theorem sc_q36:FnScope ul3 ["part", "number"] (za0 zq1):=⟨rfl,rfl,rfl,by decide +kernel,rfl,by decide +kernel,by decide +kernel⟩
theorem sx3 {k:Nat} {f:Addr} {cdv:Value} {A:Around} {outer:List Env} {s:Shared} {H:Hp} {E:XK} {sp_q32:Sp3} {k_q32:Nat} (c_q32:Cal P w K mg base k_q32 "led" ["pen", "part"] sp_q32) (l_q32:k_q32<=k) (z_range:mg "range" = none) (g_START:Gd K mg "START" ze0) (hr:Room k (A.deeper (envOfC "pen_repeated" (za0 zq1) s.heap.objs.size f cdv))) :
    RSs (cxOf CX0 P w K mg base ul3 "pen_repeated" (za0 zq1) f cdv A outer s H E).nox (zb0 zq1) (sp3 sp_q32) :=
 (ua0 (ud0 (sb0 (q_eq (hu64 hr)) (yb0 q_ix (ya0 0) wa0) wa0) (sa0 (wb0 (zd0 (xa0 (vb0 vf0 (yb0 q_ix (ya0 0) wa0) (ya0 1)) (xa0 (vb0 vf0 (yb0 q_ix (ya0 0) wa0) (ya0 1)) (xa0 wa0 va0)))))) zc0) (ua0 (xc0 (i:=2) sc_q36.nd (re_g g_START)) (ua0 (zi0 PassesOwn.never rfl (sh0 z_range (vb0 uo0 (ya0 1) wa0)) (wc0 (i:=3) sc_q36.nd) (sa0 (xc0 (i:=2) sc_q36.nd (xb0 (c_q32.mono l_q32) hr (xa0 (ya0 2) (xa0 (ya0 0) va0)))))) (sa0 (wb0 (ya0 2))))))
theorem vt3:FnScope zs2 ["word"] (za0 wp1):=⟨rfl,rfl,rfl,by decide +kernel,rfl,by decide +kernel,by decide +kernel⟩
theorem xx3 {k:Nat} {f:Addr} {cdv:Value} {A:Around} {outer:List Env} {s:Shared} {H:Hp} {E:XK} {sp_q15:Sp3} {k_q15:Nat} (c_q15:Cal P w K mg base k_q15 "check_word" ["word"] sp_q15) (l_q15:k_q15<=k) {sp_q20:Sp3} {k_q20:Nat} (c_q20:Cal P w K mg base k_q20 "count_strokes" ["word"] sp_q20) (l_q20:k_q20<=k) (hr:Room k (A.deeper (envOfC "strokes_drawn" (za0 wp1) s.heap.objs.size f cdv))) :
    RSs (cxOf CX0 P w K mg base zs2 "strokes_drawn" (za0 wp1) f cdv A outer s H E).nox (zb0 wp1) (xz2 sp_q15 sp_q20) :=
 (ua0 (ue0 (xb0 (c_q15.mono l_q15) hr (xa0 (ya0 0) va0))) (sa0 (wb0 (xb0 (c_q20.mono l_q20) hr (xa0 (ya0 0) va0)))))
theorem yv3:FnScope ss2 ["word"] (za0 zs1):=⟨rfl,rfl,rfl,by decide +kernel,rfl,by decide +kernel,by decide +kernel⟩
theorem sz3 {k:Nat} {f:Addr} {cdv:Value} {A:Around} {outer:List Env} {s:Shared} {H:Hp} {E:XK} {sp_q21:Sp3} {k_q21:Nat} (c_q21:Cal P w K mg base k_q21 "count_strokes_of_deed" ["deed"] sp_q21) (l_q21:k_q21<=k) (z_sum:mg "sum" = none) (hr:Room k (A.deeper (envOfC "count_strokes" (za0 zs1) s.heap.objs.size f cdv))) :
    RSs (cxOf CX0 P w K mg base ss2 "count_strokes" (za0 zs1) f cdv A outer s H E).nox (zb0 zs1) (uz2 sp_q21) :=
 (sa0 (wb0 (yc0 ul2 z_sum vn1 (xa0 (sn0 (NN:=["deed"]) (by decide +kernel) (by decide +kernel) (by decide +kernel) (th0 (ya0 0)) (λ _ _ _ _ _=>(wc0 (i:=0) (show List.Nodup (["deed"]:List Str) by decide +kernel))) (λ _ _ _ _ _=>yl0) (λ _ _ _ _ _=>(xb0 (c_q21.mono l_q21) hr (xa0 (ya0 0) va0)))) va0))))
theorem xv3:FnScope wn3 ["deed"] (za0 ys1):=⟨rfl,rfl,rfl,by decide +kernel,rfl,by decide +kernel,by decide +kernel⟩
theorem tz3 {k:Nat} {f:Addr} {cdv:Value} {A:Around} {outer:List Env} {s:Shared} {H:Hp} {E:XK} {sp_q20:Sp3} {k_q20:Nat} (c_q20:Cal P w K mg base k_q20 "count_strokes" ["word"] sp_q20) (l_q20:k_q20<=k) (hr:Room k (A.deeper (envOfC "count_strokes_of_deed" (za0 ys1) s.heap.objs.size f cdv))) :
    RSs (cxOf CX0 P w K mg base wn3 "count_strokes_of_deed" (za0 ys1) f cdv A outer s H E).nox (zb0 ys1) (vr3 sp_q20) :=
 (ua0 (ud0 (sb0 (q_eq (hu64 hr)) (yb0 q_ix (ya0 0) wa0) ug0) (sa0 (wb0 (yb0 q_ix (ya0 0) wa0))) zc0) (ua0 (ud0 (sb0 (q_eq (hu64 hr)) (yb0 q_ix (ya0 0) wa0) ug0) (sa0 (wb0 (vb0 vf0 (yb0 q_ix (ya0 0) wa0) (xb0 (c_q20.mono l_q20) hr (xa0 (yb0 q_ix (ya0 0) wa0) va0))))) zc0) (sa0 (wb0 wa0))))
theorem su3:FnScope ts2 ["word"] (za0 xs1):=⟨rfl,rfl,rfl,by decide +kernel,rfl,by decide +kernel,by decide +kernel⟩
theorem uz3 {k:Nat} {f:Addr} {cdv:Value} {A:Around} {outer:List Env} {s:Shared} {H:Hp} {E:XK} {sp_q15:Sp3} {k_q15:Nat} (c_q15:Cal P w K mg base k_q15 "check_word" ["word"] sp_q15) (l_q15:k_q15<=k) {sp_q18:Sp3} {k_q18:Nat} (c_q18:Cal P w K mg base k_q18 "count_done" ["word"] sp_q18) (l_q18:k_q18<=k) (hr:Room k (A.deeper (envOfC "deeds_done" (za0 xs1) s.heap.objs.size f cdv))) :
    RSs (cxOf CX0 P w K mg base ts2 "deeds_done" (za0 xs1) f cdv A outer s H E).nox (zb0 xs1) (vz2 sp_q15 sp_q18) :=
 (ua0 (ue0 (xb0 (c_q15.mono l_q15) hr (xa0 (ya0 0) va0))) (sa0 (wb0 (xb0 (c_q18.mono l_q18) hr (xa0 (ya0 0) va0)))))
theorem wv3:FnScope xt2 ["word"] (za0 vs1):=⟨rfl,rfl,rfl,by decide +kernel,rfl,by decide +kernel,by decide +kernel⟩
theorem ya4 {k:Nat} {f:Addr} {cdv:Value} {A:Around} {outer:List Env} {s:Shared} {H:Hp} {E:XK} {sp_q19:Sp3} {k_q19:Nat} (c_q19:Cal P w K mg base k_q19 "count_done_of_deed" ["deed"] sp_q19) (l_q19:k_q19<=k) (z_sum:mg "sum" = none) (hr:Room k (A.deeper (envOfC "count_done" (za0 vs1) s.heap.objs.size f cdv))) :
    RSs (cxOf CX0 P w K mg base xt2 "count_done" (za0 vs1) f cdv A outer s H E).nox (zb0 vs1) (tz2 sp_q19) :=
 (sa0 (wb0 (yc0 ul2 z_sum vn1 (xa0 (sn0 (NN:=["deed"]) (by decide +kernel) (by decide +kernel) (by decide +kernel) (th0 (ya0 0)) (λ _ _ _ _ _=>(wc0 (i:=0) (show List.Nodup (["deed"]:List Str) by decide +kernel))) (λ _ _ _ _ _=>yl0) (λ _ _ _ _ _=>(xb0 (c_q19.mono l_q19) hr (xa0 (ya0 0) va0)))) va0))))
theorem zv3:FnScope vn3 ["deed"] (za0 ws1):=⟨rfl,rfl,rfl,by decide +kernel,rfl,by decide +kernel,by decide +kernel⟩
theorem xa4 {k:Nat} {f:Addr} {cdv:Value} {A:Around} {outer:List Env} {s:Shared} {H:Hp} {E:XK} {sp_q18:Sp3} {k_q18:Nat} (c_q18:Cal P w K mg base k_q18 "count_done" ["word"] sp_q18) (l_q18:k_q18<=k) (hr:Room k (A.deeper (envOfC "count_done_of_deed" (za0 ws1) s.heap.objs.size f cdv))) :
    RSs (cxOf CX0 P w K mg base vn3 "count_done_of_deed" (za0 ws1) f cdv A outer s H E).nox (zb0 ws1) (ur3 sp_q18) :=
 (ua0 (ud0 (sb0 (q_eq (hu64 hr)) (yb0 q_ix (ya0 0) wa0) ug0) (sa0 (wb0 (vb0 vf0 (yb0 q_ix (ya0 0) wa0) (xb0 (c_q18.mono l_q18) hr (xa0 (yb0 q_ix (ya0 0) wa0) va0))))) zc0) (sa0 (wb0 wa0)))
theorem vu3:FnScope us2 ["word"] (za0 zr1):=⟨rfl,rfl,rfl,by decide +kernel,rfl,by decide +kernel,by decide +kernel⟩
theorem sy3 {k:Nat} {f:Addr} {cdv:Value} {A:Around} {outer:List Env} {s:Shared} {H:Hp} {E:XK} {sp_q22:Sp3} {k_q22:Nat} (c_q22:Cal P w K mg base k_q22 "deeds_done" ["word"] sp_q22) (l_q22:k_q22<=k) {sp_q43:Sp3} {k_q43:Nat} (c_q43:Cal P w K mg base k_q43 "strokes_drawn" ["word"] sp_q43) (l_q43:k_q43<=k) (g_MOST_OF_SMALL:Gd K mg "MOST_OF_SMALL" zf0) (hr:Room k (A.deeper (envOfC "is_small" (za0 zr1) s.heap.objs.size f cdv))) :
    RSs (cxOf CX0 P w K mg base us2 "is_small" (za0 zr1) f cdv A outer s H E).nox (zb0 zr1) (wz2 sp_q22 sp_q43) :=
 (sa0 (wb0 (yl1 (zm0 q_le (xb0 (c_q43.mono l_q43) hr (xa0 (ya0 0) va0)) (re_g g_MOST_OF_SMALL)) (zc1 (zm0 q_le (xb0 (c_q22.mono l_q22) hr (xa0 (ya0 0) va0)) (re_g g_MOST_OF_SMALL))))))
theorem tv3:FnScope zi2 ["stroke"] (za0 xt1):=⟨rfl,rfl,rfl,by decide +kernel,rfl,by decide +kernel,by decide +kernel⟩
theorem ua4 {k:Nat} {f:Addr} {cdv:Value} {A:Around} {outer:List Env} {s:Shared} {H:Hp} {E:XK} (z_len:mg "len" = none) (g_WAYS:Gd K mg "WAYS" yd1) (hr:Room k (A.deeper (envOfC "check_stroke" (za0 xt1) s.heap.objs.size f cdv))) :
    RSs (cxOf CX0 P w K mg base zi2 "check_stroke" (za0 xt1) f cdv A outer s H E).nox (zb0 xt1) (ti2) :=
 (sa0 (ud0 (sl0 (yc1 (sb0 (q_ne (hu64 hr)) (yc0 ut1 z_len yw0 (xa0 (ya0 0) va0)) wa0) (vu0 (sb0 (zd3 (hu65 hr)) (yb0 q_ix (ya0 0) wa0) (re_g g_WAYS))))) (sa0 zg0) zc0))
theorem sc_q41:FnScope vs2 ["point", "other"] (za0 up1):=⟨rfl,rfl,rfl,by decide +kernel,rfl,by decide +kernel,by decide +kernel⟩
theorem zx3 {k:Nat} {f:Addr} {cdv:Value} {A:Around} {outer:List Env} {s:Shared} {H:Hp} {E:XK} (z_min:mg "min" = none) (hr:Room k (A.deeper (envOfC "stroke_between" (za0 up1) s.heap.objs.size f cdv))) :
    RSs (cxOf CX0 P w K mg base vs2 "stroke_between" (za0 up1) f cdv A outer s H E).nox (zb0 up1) (zz2) :=
 (ua0 (xc0 (i:=2) sc_q41.nd (yc0 (q_mn rfl (hu64 hr)) z_min un1 (xa0 (ya0 0) (xa0 (ya0 1) va0)))) (sa0 (wb0 (zd0 (xa0 (yb0 q_ix (ya0 2) wa0) (xa0 (yb0 q_ix (ya0 2) wa0) (xa0 (wb4 (sb0 (q_eq (hu64 hr)) (yb0 q_ix (ya0 0) wa0) (yb0 q_ix (ya0 1) wa0)) wa0 wa0) va0)))))))
theorem ut3:FnScope ws2 ["points"] (za0 vp1):=⟨rfl,rfl,rfl,by decide +kernel,rfl,by decide +kernel,by decide +kernel⟩
theorem yx3 {k:Nat} {f:Addr} {cdv:Value} {A:Around} {outer:List Env} {s:Shared} {H:Hp} {E:XK} {sp_q41:Sp3} {k_q41:Nat} (c_q41:Cal P w K mg base k_q41 "stroke_between" ["point", "other"] sp_q41) (l_q41:k_q41<=k) (z_len:mg "len" = none) (z_range:mg "range" = none) (hr:Room k (A.deeper (envOfC "strokes_along" (za0 vp1) s.heap.objs.size f cdv))) :
    RSs (cxOf CX0 P w K mg base ws2 "strokes_along" (za0 vp1) f cdv A outer s H E).nox (zb0 vp1) (yz2 sp_q41) :=
 (sa0 (wb0 (ux0 (NN:=["place", "points"]) (js:=[none,some 0]) rfl ti1 (ty1 z_range wa0 (yc0 ut1 z_len yw0 (xa0 (ya0 0) va0))) (λ _ _ _ _ _=>(wc0 (i:=0) (show List.Nodup (["place", "points"]:List Str) by decide +kernel))) (λ _ _ _ _ _=>yl0) (λ _ _ _ _ _=>(xb0 (c_q41.mono l_q41) hr (xa0 (yb0 q_ix (ya0 1) (vb0 uq0 (ya0 0) wa0)) (xa0 (yb0 q_ix (ya0 1) (ya0 0)) va0)))) (by intro _; rfl))))
theorem yu3:FnScope wl3 ["strokes"] (za0 xq1):=⟨rfl,rfl,rfl,by decide +kernel,rfl,by decide +kernel,by decide +kernel⟩
theorem ux3 {k:Nat} {f:Addr} {cdv:Value} {A:Around} {outer:List Env} {s:Shared} {H:Hp} {E:XK} (z_set:mg "set" = none) (z_sorted:mg "sorted" = none) (z_tuple:mg "tuple" = none) (hr:Room k (A.deeper (envOfC "picture_with" (za0 xq1) s.heap.objs.size f cdv))) :
    RSs (cxOf CX0 P w K mg base wl3 "picture_with" (za0 xq1) f cdv A outer s H E).nox (zb0 xq1) (up3) :=
 (sa0 (wb0 (xi0 tx0 z_tuple wg0 (xa0 (xh1 (tg1 (ya0 0) z_set (hu64 hr)) z_sorted) va0))))
theorem sc_q44:FnScope xl3 ["pen", "word"] (za0 zp1):=⟨rfl,rfl,rfl,by decide +kernel,rfl,by decide +kernel,by decide +kernel⟩
theorem sw3 {k:Nat} {f:Addr} {cdv:Value} {A:Around} {outer:List Env} {s:Shared} {H:Hp} {E:XK} {sp_q32:Sp3} {k_q32:Nat} (c_q32:Cal P w K mg base k_q32 "led" ["pen", "part"] sp_q32) (l_q32:k_q32<=k) {sp_q35:Sp3} {k_q35:Nat} (c_q35:Cal P w K mg base k_q35 "pen_behind_deed" ["deed"] sp_q35) (l_q35:k_q35<=k) {sp_q39:Sp3} {k_q39:Nat} (c_q39:Cal P w K mg base k_q39 "plain_deeds" ["word"] sp_q39) (l_q39:k_q39<=k) {sp_q45:Sp3} {k_q45:Nat} (c_q45:Cal P w K mg base k_q45 "strokes_of_go" ["pen", "number"] sp_q45) (l_q45:k_q45<=k) (hr:Room k (A.deeper (envOfC "strokes_from" (za0 zp1) s.heap.objs.size f cdv))) :
    RSs (cxOf CX0 P w K mg base xl3 "strokes_from" (za0 zp1) f cdv A outer s H E).nox (zb0 zp1) (zp3 sp_q32 sp_q35 sp_q39 sp_q45) :=
 (ua0 (xc0 (i:=2) sc_q44.nd (vj0 va0)) (ua0 (xc0 (i:=3) sc_q44.nd (ya0 0)) (ua0 (zi0 PassesOwn.never rfl (th0 (xb0 (c_q39.mono l_q39) hr (xa0 (ya0 1) va0))) (wc0 (i:=4) sc_q44.nd) (ua0 (ud0 (sb0 (q_eq (hu64 hr)) (yb0 q_ix (ya0 4) wa0) ug0) (sa0 (ue0 (ym0 (ya0 2) (xa0 (xb0 (c_q45.mono l_q45) hr (xa0 (ya0 3) (xa0 (yb0 q_ix (ya0 4) wa0) va0))) va0)))) zc0) (sa0 (xc0 (i:=3) sc_q44.nd (xb0 (c_q32.mono l_q32) hr (xa0 (ya0 3) (xa0 (xb0 (c_q35.mono l_q35) hr (xa0 (ya0 4) va0)) va0))))))) (sa0 (wb0 (ya0 2))))))
theorem sc_q39:FnScope zl3 ["word"] (za0 sp1):=⟨rfl,rfl,rfl,by decide +kernel,rfl,by decide +kernel,by decide +kernel⟩
theorem vx3 {k:Nat} {f:Addr} {cdv:Value} {A:Around} {outer:List Env} {s:Shared} {H:Hp} {E:XK} {sp_q19:Sp3} {k_q19:Nat} (c_q19:Cal P w K mg base k_q19 "count_done_of_deed" ["deed"] sp_q19) (l_q19:k_q19<=k) {sp_q39:Sp3} {k_q39:Nat} (c_q39:Cal P w K mg base k_q39 "plain_deeds" ["word"] sp_q39) (l_q39:k_q39<=k) (hr:Room k (A.deeper (envOfC "plain_deeds" (za0 sp1) s.heap.objs.size f cdv))) :
    RSs (cxOf CX0 P w K mg base zl3 "plain_deeds" (za0 sp1) f cdv A outer s H E).nox (zb0 sp1) (vp3 sp_q19 sp_q39) :=
 (ua0 (xc0 (i:=1) sc_q39.nd (vj0 va0)) (ua0 (zi0 PassesOwn.never rfl (th0 (ya0 0)) (wc0 (i:=2) sc_q39.nd) (sa0 (ud0 (sb0 (q_ne (hu64 hr)) (yb0 q_ix (ya0 2) wa0) ug0) (sa0 (ue0 (vq0 (ya0 1) (xa0 (ya0 2) va0)))) (sa0 (ud0 (sb0 q_gt (xb0 (c_q19.mono l_q19) hr (xa0 (ya0 2) va0)) wa0) (sa0 (ue0 (ym0 (ya0 1) (xa0 (vb0 vf0 (xb0 (c_q39.mono l_q39) hr (xa0 (yb0 q_ix (ya0 2) wa0) va0)) (yb0 q_ix (ya0 2) wa0)) va0)))) zc0))))) (sa0 (wb0 (ya0 1)))))
theorem sc_q45:FnScope sk3 ["pen", "number"] (za0 yp1):=⟨rfl,rfl,rfl,by decide +kernel,rfl,by decide +kernel,by decide +kernel⟩
theorem tw3 {k:Nat} {f:Addr} {cdv:Value} {A:Around} {outer:List Env} {s:Shared} {H:Hp} {E:XK} {sp_q42:Sp3} {k_q42:Nat} (c_q42:Cal P w K mg base k_q42 "strokes_along" ["points"] sp_q42) (l_q42:k_q42<=k) (z_range:mg "range" = none) (g_AHEAD:Gd K mg "AHEAD" xk0) (hr:Room k (A.deeper (envOfC "strokes_of_go" (za0 yp1) s.heap.objs.size f cdv))) :
    RSs (cxOf CX0 P w K mg base sk3 "strokes_of_go" (za0 yp1) f cdv A outer s H E).nox (zb0 yp1) (yp3 sp_q42) :=
 (ua0 (xc0 (i:=2) sc_q45.nd (yb0 q_ix (re_g g_AHEAD) (yb0 q_ix (ya0 0) wa0))) (ua0 (xl2 (i:=3) sc_q45.nd (NN:=["far", "pen", "ahead"]) (js:=[none,some 0,some 2]) rfl ti1 (sh0 z_range (vb0 uf0 (ya0 1) wa0)) (λ _ _ _ _ _=>(wc0 (i:=0) (show List.Nodup (["far", "pen", "ahead"]:List Str) by decide +kernel))) (λ _ _ _ _ _=>yl0) (λ _ _ _ _ _=>(zd0 (xa0 (vb0 uf0 (yb0 q_ix (ya0 1) wa0) (vb0 vf0 (yb0 q_ix (ya0 2) wa0) (ya0 0))) (xa0 (vb0 uf0 (yb0 q_ix (ya0 1) wa0) (vb0 vf0 (yb0 q_ix (ya0 2) wa0) (ya0 0))) va0)))) (by intro _; rfl)) (sa0 (wb0 (xb0 (c_q42.mono l_q42) hr (xa0 (ya0 3) va0))))))
theorem wu3:FnScope ym3 ["stroke", "x", "y"] (za0 uq1):=⟨rfl,rfl,rfl,by decide +kernel,rfl,by decide +kernel,by decide +kernel⟩
theorem zy3 {k:Nat} {f:Addr} {cdv:Value} {A:Around} {outer:List Env} {s:Shared} {H:Hp} {E:XK} (hr:Room k (A.deeper (envOfC "moved_stroke" (za0 uq1) s.heap.objs.size f cdv))) :
    RSs (cxOf CX0 P w K mg base ym3 "moved_stroke" (za0 uq1) f cdv A outer s H E).nox (zb0 uq1) (zq3) :=
 (sa0 (wb0 (zd0 (xa0 (vb0 uf0 (yb0 q_ix (ya0 0) wa0) (ya0 1)) (xa0 (vb0 uf0 (yb0 q_ix (ya0 0) wa0) (ya0 2)) (xa0 (yb0 q_ix (ya0 0) wa0) va0))))))
theorem sv3:FnScope sn3 ["word"] (za0 yt1):=⟨rfl,rfl,rfl,by decide +kernel,rfl,by decide +kernel,by decide +kernel⟩
theorem ta4 {k:Nat} {f:Addr} {cdv:Value} {A:Around} {outer:List Env} {s:Shared} {H:Hp} {E:XK} {sp_q28:Sp3} {k_q28:Nat} (c_q28:Cal P w K mg base k_q28 "is_small" ["word"] sp_q28) (l_q28:k_q28<=k) {sp_q40:Sp3} {k_q40:Nat} (c_q40:Cal P w K mg base k_q40 "points_gone" ["word"] sp_q40) (l_q40:k_q40<=k) (g_MOST_POINTS:Gd K mg "MOST_POINTS" si0) (hr:Room k (A.deeper (envOfC "check_short" (za0 yt1) s.heap.objs.size f cdv))) :
    RSs (cxOf CX0 P w K mg base sn3 "check_short" (za0 yt1) f cdv A outer s H E).nox (zb0 yt1) (sr3 sp_q28 sp_q40) :=
 (sa0 (ud0 (sl0 (yc1 (sk0 (tk0 (xb0 (c_q28.mono l_q28) hr (xa0 (ya0 0) va0)))) (vu0 (sb0 q_gt (xb0 (c_q40.mono l_q40) hr (xa0 (ya0 0) va0)) (re_g g_MOST_POINTS))))) (sa0 zg0) zc0))
theorem xu3:FnScope yl3 ["word"] (za0 tp1):=⟨rfl,rfl,rfl,by decide +kernel,rfl,by decide +kernel,by decide +kernel⟩
theorem wx3 {k:Nat} {f:Addr} {cdv:Value} {A:Around} {outer:List Env} {s:Shared} {H:Hp} {E:XK} {sp_q39:Sp3} {k_q39:Nat} (c_q39:Cal P w K mg base k_q39 "plain_deeds" ["word"] sp_q39) (l_q39:k_q39<=k) (z_abs:mg "abs" = none) (z_sum:mg "sum" = none) (hr:Room k (A.deeper (envOfC "points_gone" (za0 tp1) s.heap.objs.size f cdv))) :
    RSs (cxOf CX0 P w K mg base yl3 "points_gone" (za0 tp1) f cdv A outer s H E).nox (zb0 tp1) (wp3 sp_q39) :=
 (sa0 (wb0 (yc0 ul2 z_sum vn1 (xa0 (sn0 (NN:=["deed"]) (by decide +kernel) (by decide +kernel) (by decide +kernel) (th0 (xb0 (c_q39.mono l_q39) hr (xa0 (ya0 0) va0))) (λ _ _ _ _ _=>(wc0 (i:=0) (show List.Nodup (["deed"]:List Str) by decide +kernel))) (λ _ _ _ _ _=>(wy1 (sb0 (q_ne (hu64 hr)) (yb0 q_ix (ya0 0) wa0) ug0))) (λ _ _ _ _ _=>(yc0 ym2 z_abs tn1 (xa0 (yb0 q_ix (ya0 0) wa0) va0)))) va0))))
theorem uu3:FnScope xn3 ["word"] (za0 ur1):=⟨rfl,rfl,rfl,by decide +kernel,rfl,by decide +kernel,by decide +kernel⟩
theorem zz3 {k:Nat} {f:Addr} {cdv:Value} {A:Around} {outer:List Env} {s:Shared} {H:Hp} {E:XK} {sp_q13:Sp3} {k_q13:Nat} (c_q13:Cal P w K mg base k_q13 "check_short" ["word"] sp_q13) (l_q13:k_q13<=k) {sp_q23:Sp3} {k_q23:Nat} (c_q23:Cal P w K mg base k_q23 "drawn_for_ever" ["word"] sp_q23) (l_q23:k_q23<=k) (hr:Room k (A.deeper (envOfC "ever_of" (za0 ur1) s.heap.objs.size f cdv))) :
    RSs (cxOf CX0 P w K mg base xn3 "ever_of" (za0 ur1) f cdv A outer s H E).nox (zb0 ur1) (yr3 sp_q13 sp_q23) :=
 (ua0 (ue0 (xb0 (c_q13.mono l_q13) hr (xa0 (ya0 0) va0))) (sa0 (wb0 (xb0 (c_q23.mono l_q23) hr (xa0 (ya0 0) va0)))))
theorem sc_q23:FnScope zn3 ["word"] (za0 sr1):=⟨rfl,rfl,rfl,by decide +kernel,rfl,by decide +kernel,by decide +kernel⟩
theorem vz3 {k:Nat} {f:Addr} {cdv:Value} {A:Around} {outer:List Env} {s:Shared} {H:Hp} {E:XK} {sp_q20:Sp3} {k_q20:Nat} (c_q20:Cal P w K mg base k_q20 "count_strokes" ["word"] sp_q20) (l_q20:k_q20<=k) {sp_q34:Sp3} {k_q34:Nat} (c_q34:Cal P w K mg base k_q34 "pen_behind" ["word"] sp_q34) (l_q34:k_q34<=k) {sp_q37:Sp3} {k_q37:Nat} (c_q37:Cal P w K mg base k_q37 "picture_of_four" ["word", "part"] sp_q37) (l_q37:k_q37<=k) {sp_q38:Sp3} {k_q38:Nat} (c_q38:Cal P w K mg base k_q38 "picture_with" ["strokes"] sp_q38) (l_q38:k_q38<=k) {sp_q44:Sp3} {k_q44:Nat} (c_q44:Cal P w K mg base k_q44 "strokes_from" ["pen", "word"] sp_q44) (l_q44:k_q44<=k) (g_START:Gd K mg "START" ze0) (hr:Room k (A.deeper (envOfC "drawn_for_ever" (za0 sr1) s.heap.objs.size f cdv))) :
    RSs (cxOf CX0 P w K mg base zn3 "drawn_for_ever" (za0 sr1) f cdv A outer s H E).nox (zb0 sr1) (wr3 sp_q20 sp_q34 sp_q37 sp_q38 sp_q44) :=
 (ua0 (xc0 (i:=1) sc_q23.nd (xb0 (c_q34.mono l_q34) hr (xa0 (ya0 0) va0))) (ua0 (ud0 (sl0 (yc1 (sb0 (q_ne (hu64 hr)) (yb0 q_ix (ya0 1) wa0) wa0) (yc1 (sb0 (q_eq (hu64 hr)) (ya0 1) (re_g g_START)) (vu0 (sb0 (q_eq (hu64 hr)) (xb0 (c_q20.mono l_q20) hr (xa0 (ya0 0) va0)) wa0))))) (sa0 (wb0 (zd0 (xa0 (xb0 (c_q37.mono l_q37) hr (xa0 (ya0 0) (xa0 (ya0 1) va0))) (xa0 xv0 va0))))) zc0) (sa0 (wb0 (zd0 (xa0 (xb0 (c_q38.mono l_q38) hr (xa0 (xb0 (c_q44.mono l_q44) hr (xa0 (re_g g_START) (xa0 (ya0 0) va0))) va0)) (xa0 (zd0 (xa0 (yb0 q_ix (ya0 1) wa0) (xa0 (yb0 q_ix (ya0 1) wa0) va0))) va0)))))))
theorem sc_q37:FnScope vl3 ["word", "part"] (za0 yq1):=⟨rfl,rfl,rfl,by decide +kernel,rfl,by decide +kernel,by decide +kernel⟩
theorem tx3 {k:Nat} {f:Addr} {cdv:Value} {A:Around} {outer:List Env} {s:Shared} {H:Hp} {E:XK} {sp_q32:Sp3} {k_q32:Nat} (c_q32:Cal P w K mg base k_q32 "led" ["pen", "part"] sp_q32) (l_q32:k_q32<=k) {sp_q38:Sp3} {k_q38:Nat} (c_q38:Cal P w K mg base k_q38 "picture_with" ["strokes"] sp_q38) (l_q38:k_q38<=k) {sp_q44:Sp3} {k_q44:Nat} (c_q44:Cal P w K mg base k_q44 "strokes_from" ["pen", "word"] sp_q44) (l_q44:k_q44<=k) (z_range:mg "range" = none) (g_START:Gd K mg "START" ze0) (hr:Room k (A.deeper (envOfC "picture_of_four" (za0 yq1) s.heap.objs.size f cdv))) :
    RSs (cxOf CX0 P w K mg base vl3 "picture_of_four" (za0 yq1) f cdv A outer s H E).nox (zb0 yq1) (tp3 sp_q32 sp_q38 sp_q44) :=
 (ua0 (xc0 (i:=2) sc_q37.nd (vj0 va0)) (ua0 (xc0 (i:=3) sc_q37.nd (re_g g_START)) (ua0 (zi0 PassesOwn.never rfl (sh0 z_range wa0) (wc0 (i:=4) sc_q37.nd) (ua0 (ue0 (ym0 (ya0 2) (xa0 (xb0 (c_q44.mono l_q44) hr (xa0 (ya0 3) (xa0 (ya0 0) va0))) va0))) (sa0 (xc0 (i:=3) sc_q37.nd (xb0 (c_q32.mono l_q32) hr (xa0 (ya0 3) (xa0 (ya0 1) va0))))))) (sa0 (wb0 (xb0 (c_q38.mono l_q38) hr (xa0 (ya0 2) va0)))))))
theorem tu3:FnScope yn3 ["word", "stroke"] (za0 tr1):=⟨rfl,rfl,rfl,by decide +kernel,rfl,by decide +kernel,by decide +kernel⟩
theorem wz3 {k:Nat} {f:Addr} {cdv:Value} {A:Around} {outer:List Env} {s:Shared} {H:Hp} {E:XK} {sp_q13:Sp3} {k_q13:Nat} (c_q13:Cal P w K mg base k_q13 "check_short" ["word"] sp_q13) (l_q13:k_q13<=k) {sp_q14:Sp3} {k_q14:Nat} (c_q14:Cal P w K mg base k_q14 "check_stroke" ["stroke"] sp_q14) (l_q14:k_q14<=k) {sp_q26:Sp3} {k_q26:Nat} (c_q26:Cal P w K mg base k_q26 "is_drawn" ["word", "stroke"] sp_q26) (l_q26:k_q26<=k) (hr:Room k (A.deeper (envOfC "ever_drawn" (za0 tr1) s.heap.objs.size f cdv))) :
    RSs (cxOf CX0 P w K mg base yn3 "ever_drawn" (za0 tr1) f cdv A outer s H E).nox (zb0 tr1) (zr3 sp_q13 sp_q14 sp_q26) :=
 (ua0 (ue0 (xb0 (c_q13.mono l_q13) hr (xa0 (ya0 0) va0))) (ua0 (ue0 (xb0 (c_q14.mono l_q14) hr (xa0 (ya0 1) va0))) (sa0 (wb0 (xb0 (c_q26.mono l_q26) hr (xa0 (ya0 0) (xa0 (ya0 1) va0)))))))
theorem sc_q26:FnScope sm3 ["word", "stroke"] (za0 vr1):=⟨rfl,rfl,rfl,by decide +kernel,rfl,by decide +kernel,by decide +kernel⟩
theorem yz3 {k:Nat} {f:Addr} {cdv:Value} {A:Around} {outer:List Env} {s:Shared} {H:Hp} {E:XK} {sp_q23:Sp3} {k_q23:Nat} (c_q23:Cal P w K mg base k_q23 "drawn_for_ever" ["word"] sp_q23) (l_q23:k_q23<=k) {sp_q27:Sp3} {k_q27:Nat} (c_q27:Cal P w K mg base k_q27 "is_in_lanes" ["lanes", "shift", "stroke"] sp_q27) (l_q27:k_q27<=k) {sp_q30:Sp3} {k_q30:Nat} (c_q30:Cal P w K mg base k_q30 "lanes_of" ["ever"] sp_q30) (l_q30:k_q30<=k) (hr:Room k (A.deeper (envOfC "is_drawn" (za0 vr1) s.heap.objs.size f cdv))) :
    RSs (cxOf CX0 P w K mg base sm3 "is_drawn" (za0 vr1) f cdv A outer s H E).nox (zb0 vr1) (xr3 sp_q23 sp_q27 sp_q30) :=
 (ua0 (xc0 (i:=2) sc_q26.nd (xb0 (c_q23.mono l_q23) hr (xa0 (ya0 0) va0))) (sa0 (wb0 (xb0 (c_q27.mono l_q27) hr (xa0 (xb0 (c_q30.mono l_q30) hr (xa0 (ya0 2) va0)) (xa0 (yb0 q_ix (ya0 2) wa0) (xa0 (ya0 1) va0)))))))
theorem sc_q29:FnScope um3 ["stroke", "shift"] (za0 yr1):=⟨rfl,rfl,rfl,by decide +kernel,rfl,by decide +kernel,by decide +kernel⟩
theorem ty3 {k:Nat} {f:Addr} {cdv:Value} {A:Around} {outer:List Env} {s:Shared} {H:Hp} {E:XK} {sp_q33:Sp3} {k_q33:Nat} (c_q33:Cal P w K mg base k_q33 "moved_stroke" ["stroke", "x", "y"] sp_q33) (l_q33:k_q33<=k) (hr:Room k (A.deeper (envOfC "lane_and_number" (za0 yr1) s.heap.objs.size f cdv))) :
    RSs (cxOf CX0 P w K mg base um3 "lane_and_number" (za0 yr1) f cdv A outer s H E).nox (zb0 yr1) (tq3 sp_q33) :=
 (ua0 (ud0 (sb0 wd3 (ya0 1) xv0) (sa0 (wb0 (zd0 (xa0 (ya0 0) (xa0 wa0 va0))))) zc0) (ua0 (xc0 (i:=2) sc_q29.nd (wb4 (sb0 (q_ne (hu64 hr)) (yb0 q_ix (ya0 1) wa0) wa0) (vb0 ug4 (yb0 q_ix (ya0 0) wa0) (yb0 q_ix (ya0 1) wa0)) (vb0 ug4 (yb0 q_ix (ya0 0) wa0) (yb0 q_ix (ya0 1) wa0)))) (sa0 (wb0 (zd0 (xa0 (xb0 (c_q33.mono l_q33) hr (xa0 (ya0 0) (xa0 (vb0 vf0 (wz1 uz1 (ya0 2)) (yb0 q_ix (ya0 1) wa0)) (xa0 (vb0 vf0 (wz1 uz1 (ya0 2)) (yb0 q_ix (ya0 1) wa0)) va0)))) (xa0 (ya0 2) va0)))))))
theorem sc_q30:FnScope vm3 ["ever"] (za0 xr1):=⟨rfl,rfl,rfl,by decide +kernel,rfl,by decide +kernel,by decide +kernel⟩
theorem uy3 {k:Nat} {f:Addr} {cdv:Value} {A:Around} {outer:List Env} {s:Shared} {H:Hp} {E:XK} {sp_q29:Sp3} {k_q29:Nat} (c_q29:Cal P w K mg base k_q29 "lane_and_number" ["stroke", "shift"] sp_q29) (l_q29:k_q29<=k) (z_min:mg "min" = none) (hr:Room k (A.deeper (envOfC "lanes_of" (za0 xr1) s.heap.objs.size f cdv))) :
    RSs (cxOf CX0 P w K mg base vm3 "lanes_of" (za0 xr1) f cdv A outer s H E).nox (zb0 xr1) (uq3 sp_q29) :=
 (ua0 (xc0 (i:=1) sc_q30.nd vb4) (ua0 (zi0 PassesOwn.never rfl (th0 (yb0 q_ix (ya0 0) wa0)) (wc0 (i:=2) sc_q30.nd) (ua0 (xc0 (i:=3) sc_q30.nd (xb0 (c_q29.mono l_q29) hr (xa0 (ya0 2) (xa0 (yb0 q_ix (ya0 0) wa0) va0)))) (sa0 (sc3 (hu64 hr) (ya0 1) (yb0 q_ix (ya0 3) wa0) (yc0 (zv2 rfl) z_min un1 (xa0 (yb0 q_ix (ya0 3) wa0) (xa0 (yu4 (hu64 hr) (ya0 1) (xa0 (yb0 q_ix (ya0 3) wa0) (xa0 (yb0 q_ix (ya0 3) wa0) va0))) va0))))))) (sa0 (wb0 (ya0 1)))))
theorem sc_q27:FnScope tm3 ["lanes", "shift", "stroke"] (za0 wr1):=⟨rfl,rfl,rfl,by decide +kernel,rfl,by decide +kernel,by decide +kernel⟩
theorem xz3 {k:Nat} {f:Addr} {cdv:Value} {A:Around} {outer:List Env} {s:Shared} {H:Hp} {E:XK} {sp_q29:Sp3} {k_q29:Nat} (c_q29:Cal P w K mg base k_q29 "lane_and_number" ["stroke", "shift"] sp_q29) (l_q29:k_q29<=k) (hr:Room k (A.deeper (envOfC "is_in_lanes" (za0 wr1) s.heap.objs.size f cdv))) :
    RSs (cxOf CX0 P w K mg base tm3 "is_in_lanes" (za0 wr1) f cdv A outer s H E).nox (zb0 wr1) (sq3 sp_q29) :=
 (ua0 (xc0 (i:=3) sc_q27.nd (xb0 (c_q29.mono l_q29) hr (xa0 (ya0 2) (xa0 (ya0 1) va0)))) (sa0 (wb0 (yl1 (zm0 (tg4 (hu64 hr)) (yb0 q_ix (ya0 3) wa0) (ya0 0)) (zc1 (zm0 q_le (zu4 (hu64 hr) (ya0 0) (yb0 q_ix (ya0 3) wa0)) (yb0 q_ix (ya0 3) wa0)))))))
theorem sc_q9:FnScope N_q9 ["script", "k"] (za0 s_q9):=⟨rfl,rfl,rfl,by decide +kernel,rfl,by decide +kernel,by decide +kernel⟩
theorem us4 {k:Nat} {f:Addr} {cdv:Value} {A:Around} {outer:List Env} {s:Shared} {H:Hp} {E:XK} (z_len:mg "len" = none) (hr:Room k (A.deeper (envOfC "_law_state" (za0 s_q9) s.heap.objs.size f cdv))) :
    RSs (cxOf CX0 P w K mg base N_q9 "_law_state" (za0 s_q9) f cdv A outer s H E).nox (zb0 s_q9) (t_q9) :=
 (ua0 (xc0 (i:=2) sc_q9.nd wa0) (ua0 (ud0 (sb0 q_lt (ya0 1) (yc0 ut1 z_len yw0 (xa0 (ya0 0) va0))) (sa0 (xc0 (i:=2) sc_q9.nd (yb0 q_ix (ya0 0) (ya0 1)))) zc0) (ua0 (ud0 (sb0 q_ge (ya0 2) (vb0 tl2 wa0 wa0)) (sa0 (wb0 (vj0 (xa0 (vb0 uq0 (ya0 2) (vb0 tl2 wa0 wa0)) (xa0 wa0 va0))))) zc0) (sa0 (wb0 (vj0 (xa0 (vb0 uo0 (vb0 uf0 (ya0 2) (vb0 vf0 wa0 (ya0 1))) wa0) (xa0 wa0 va0))))))))
theorem sc_q10:FnScope ut2 ["state", "many"] (za0 vt1):=⟨rfl,rfl,rfl,by decide +kernel,rfl,by decide +kernel,by decide +kernel⟩
theorem yb4 {k:Nat} {f:Addr} {cdv:Value} {A:Around} {outer:List Env} {s:Shared} {H:Hp} {E:XK} (hr:Room k (A.deeper (envOfC "_law_take" (za0 vt1) s.heap.objs.size f cdv))) :
    RSs (cxOf CX0 P w K mg base ut2 "_law_take" (za0 vt1) f cdv A outer s H E).nox (zb0 vt1) (wa3) :=
 (ua0 (ud0 (sl0 (xm0 (sb0 (q_eq (hu64 hr)) (yb0 q_ix (ya0 0) wa0) wa0) (uj0 (sb0 q_gt (yb0 q_ix (ya0 0) wa0) wa0)))) (ua0 (xc0 (i:=2) sc_q10.nd (vb0 uo0 (yb0 q_ix (ya0 0) wa0) (ya0 1))) (ua0 (uu0 (vb0 wl1 (yb0 q_ix (ya0 0) wa0) (ya0 1)) (sy1 (ya0 0) wa0)) (sa0 (wb0 (ya0 2))))) zc0) (ua0 (uu0 wa0 (sy1 (ya0 0) wa0)) (ua0 (uu0 (vb0 uo0 (vb0 uf0 (vb0 vf0 (yb0 q_ix (ya0 0) wa0) wa0) wa0) wa0) (sy1 (ya0 0) wa0)) (ua0 (xc0 (i:=3) sc_q10.nd (vb0 uo0 (vb0 uf0 (vb0 vf0 (yb0 q_ix (ya0 0) wa0) (yb0 q_ix (ya0 0) wa0)) (vb0 vf0 wa0 (yb0 q_ix (ya0 0) wa0))) wa0)) (ua0 (xc0 (i:=3) sc_q10.nd (vb0 uo0 (vb0 uf0 (vb0 vf0 (ya0 3) (ya0 3)) (vb0 vf0 wa0 (ya0 3))) wa0)) (sa0 (wb0 (vb0 uo0 (vb0 wl1 (ya0 3) wa0) (ya0 1)))))))))
theorem yw3:FnScope vt2 ["found"] (za0 wt1):=⟨rfl,rfl,rfl,by decide +kernel,rfl,by decide +kernel,by decide +kernel⟩
theorem xb4 {k:Nat} {f:Addr} {cdv:Value} {A:Around} {outer:List Env} {s:Shared} {H:Hp} {E:XK} (z_bool:mg "bool" = none) (z_int:mg "int" = none) (z_isinstance:mg "isinstance" = none) (hr:Room k (A.deeper (envOfC "_law_whole" (za0 wt1) s.heap.objs.size f cdv))) :
    RSs (cxOf CX0 P w K mg base vt2 "_law_whole" (za0 wt1) f cdv A outer s H E).nox (zb0 wt1) (za3) :=
 (sa0 (wb0 (yl1 (yc0 yt0 z_isinstance sc0 (xa0 (ya0 0) (xa0 (xt0 z_int se1) va0))) (zc1 (zb4 (yc0 yt0 z_isinstance sc0 (xa0 (ya0 0) (xa0 (xt0 z_bool xh2) va0))))))))
theorem sc_q0:FnScope N_q0 ["state", "deep"] (za0 s_q0):=⟨rfl,rfl,rfl,by decide +kernel,rfl,by decide +kernel,by decide +kernel⟩
theorem tt4 {k:Nat} {f:Addr} {cdv:Value} {A:Around} {outer:List Env} {s:Shared} {H:Hp} {E:XK} {sp_q1:Sp3} {k_q1:Nat} (c_q1:Cal P w K mg base k_q1 "_law_deeds" ["state", "deep", "many"] sp_q1) (l_q1:k_q1<=k) {sp_q10:Sp3} {k_q10:Nat} (c_q10:Cal P w K mg base k_q10 "_law_take" ["state", "many"] sp_q10) (l_q10:k_q10<=k) (z_int:mg "int" = none) (hr:Room k (A.deeper (envOfC "_law_deed" (za0 s_q0) s.heap.objs.size f cdv))) :
    RSs (cxOf CX0 P w K mg base N_q0 "_law_deed" (za0 s_q0) f cdv A outer s H E).nox (zb0 s_q0) (t_q0 sp_q1 sp_q10) :=
 (ua0 (xc0 (i:=2) sc_q0.nd (xb0 (c_q10.mono l_q10) hr (xa0 (ya0 0) (xa0 (vb0 uf0 wa0 (xi0 vd3 z_int se1 (xa0 (zm0 q_gt (ya0 1) wa0) va0))) va0)))) (ua0 (ud0 (sb0 (q_eq (hu64 hr)) (ya0 2) wa0) (sa0 (wb0 (zd0 (xa0 ug0 (xa0 (vb0 uq0 (xb0 (c_q10.mono l_q10) hr (xa0 (ya0 0) (xa0 wa0 va0))) wa0) va0))))) zc0) (ua0 (ud0 (sb0 (q_eq (hu64 hr)) (ya0 2) wa0) (sa0 (wb0 (zd0 (xa0 ug0 (xa0 (vb0 uq0 (xb0 (c_q10.mono l_q10) hr (xa0 (ya0 0) (xa0 wa0 va0))) wa0) va0))))) zc0) (ua0 (ud0 (sb0 q_lt (ya0 2) wa0) (sa0 (wb0 (zd0 (xa0 ug0 (xa0 (xb0 (c_q10.mono l_q10) hr (xa0 (ya0 0) (xa0 wa0 va0))) va0))))) zc0) (sa0 (wb0 (zd0 (xa0 ug0 (xa0 (xb0 (c_q10.mono l_q10) hr (xa0 (ya0 0) (xa0 wa0 va0))) (xa0 (xb0 (c_q1.mono l_q1) hr (xa0 (ya0 0) (xa0 (vb0 uq0 (ya0 1) wa0) (xa0 (xb0 (c_q10.mono l_q10) hr (xa0 (ya0 0) (xa0 wa0 va0))) va0)))) va0))))))))))
theorem ws4:FnScope N_q1 ["state", "deep", "many"] (za0 s_q1):=⟨rfl,rfl,rfl,by decide +kernel,rfl,by decide +kernel,by decide +kernel⟩
theorem ut4 {k:Nat} {f:Addr} {cdv:Value} {A:Around} {outer:List Env} {s:Shared} {H:Hp} {E:XK} {sp_q0:Sp3} {k_q0:Nat} (c_q0:Cal P w K mg base k_q0 "_law_deed" ["state", "deep"] sp_q0) (l_q0:k_q0<=k) (z_range:mg "range" = none) (z_tuple:mg "tuple" = none) (hr:Room k (A.deeper (envOfC "_law_deeds" (za0 s_q1) s.heap.objs.size f cdv))) :
    RSs (cxOf CX0 P w K mg base N_q1 "_law_deeds" (za0 s_q1) f cdv A outer s H E).nox (zb0 s_q1) (t_q1 sp_q0) :=
 (sa0 (wb0 (xi0 tx0 z_tuple wg0 (xa0 (ux0 (NN:=["k", "state", "deep"]) (js:=[none,some 0,some 1]) rfl ti1 (sh0 z_range (ya0 2)) (λ _ _ _ _ _=>(wc0 (i:=0) (show List.Nodup (["k", "state", "deep"]:List Str) by decide +kernel))) (λ _ _ _ _ _=>yl0) (λ _ _ _ _ _=>(xb0 (c_q0.mono l_q0) hr (xa0 (ya0 1) (xa0 (ya0 2) va0)))) (by intro _; rfl)) va0))))
theorem sc_q6:FnScope N_q6 ["deeds"] (za0 s_q6):=⟨rfl,rfl,rfl,by decide +kernel,rfl,by decide +kernel,by decide +kernel⟩
theorem xt4 {k:Nat} {f:Addr} {cdv:Value} {A:Around} {outer:List Env} {s:Shared} {H:Hp} {E:XK} {sp_q6:Sp3} {k_q6:Nat} (c_q6:Cal P w K mg base k_q6 "_law_rolled_out" ["deeds"] sp_q6) (l_q6:k_q6<=k) (z_range:mg "range" = none) (hr:Room k (A.deeper (envOfC "_law_rolled_out" (za0 s_q6) s.heap.objs.size f cdv))) :
    RSs (cxOf CX0 P w K mg base N_q6 "_law_rolled_out" (za0 s_q6) f cdv A outer s H E).nox (zb0 s_q6) (t_q6 sp_q6) :=
 (ua0 (xc0 (i:=1) sc_q6.nd (vj0 va0)) (ua0 (zi0 PassesOwn.never rfl (th0 (ya0 0)) (wc0 (i:=2) sc_q6.nd) (sa0 (ud0 (sb0 (q_eq (hu64 hr)) (yb0 q_ix (ya0 2) wa0) ug0) (sa0 (zi0 PassesOwn.never rfl (sh0 z_range (yb0 q_ix (ya0 2) wa0)) (wc0 (i:=3) sc_q6.nd) (sa0 (ue0 (ym0 (ya0 1) (xa0 (xb0 (c_q6.mono l_q6) hr (xa0 (yb0 q_ix (ya0 2) wa0) va0)) va0)))))) (sa0 (ue0 (vq0 (ya0 1) (xa0 (ya0 2) va0))))))) (sa0 (wb0 (ya0 1)))))
theorem sc_q7:FnScope N_q7 ["deeds", "pen"] (za0 s_q7):=⟨rfl,rfl,rfl,by decide +kernel,rfl,by decide +kernel,by decide +kernel⟩
theorem ss4 {k:Nat} {f:Addr} {cdv:Value} {A:Around} {outer:List Env} {s:Shared} {H:Hp} {E:XK} {sp_q6:Sp3} {k_q6:Nat} (c_q6:Cal P w K mg base k_q6 "_law_rolled_out" ["deeds"] sp_q6) (l_q6:k_q6<=k) (z_min:mg "min" = none) (z_range:mg "range" = none) (hr:Room k (A.deeper (envOfC "_law_run" (za0 s_q7) s.heap.objs.size f cdv))) :
    RSs (cxOf CX0 P w K mg base N_q7 "_law_run" (za0 s_q7) f cdv A outer s H E).nox (zb0 s_q7) (t_q7 sp_q6) :=
 (ua0 (uu0 (ya0 1) (tu0 rfl (ye0 (wc0 (i:=2) sc_q7.nd) (ye0 (wc0 (i:=3) sc_q7.nd) (ye0 (wc0 (i:=4) sc_q7.nd) tn0))))) (ua0 (xc0 (i:=5) sc_q7.nd (vj0 va0)) (ua0 (zi0 PassesOwn.never rfl (th0 (xb0 (c_q6.mono l_q6) hr (xa0 (ya0 0) va0))) (tu0 rfl (ye0 (wc0 (i:=6) sc_q7.nd) (ye0 (wc0 (i:=7) sc_q7.nd) tn0))) (ua0 (xc0 (i:=8) sc_q7.nd (yb0 q_ix (vj0 (xa0 (zd0 (xa0 wa0 (xa0 wa0 va0))) (xa0 (zd0 (xa0 wa0 (xa0 wa0 va0))) (xa0 (zd0 (xa0 (wz1 uz1 wa0) (xa0 wa0 va0))) (xa0 (zd0 (xa0 wa0 (xa0 (wz1 uz1 wa0) va0))) va0))))) (ya0 4))) (sa0 (ud0 (sb0 (q_eq (hu64 hr)) (ya0 6) ug0) (sa0 (xc0 (i:=4) sc_q7.nd (vb0 uo0 (vb0 uf0 (ya0 4) (ya0 7)) wa0))) (sa0 (ud0 (sb0 (q_eq (hu64 hr)) (ya0 6) ug0) (ua0 (xc0 (i:=2) sc_q7.nd (vb0 uf0 (ya0 2) (vb0 vf0 (ya0 7) (yb0 q_ix (ya0 8) wa0)))) (sa0 (xc0 (i:=3) sc_q7.nd (vb0 uf0 (ya0 3) (vb0 vf0 (ya0 7) (yb0 q_ix (ya0 8) wa0)))))) (sa0 (zi0 PassesOwn.never rfl (sh0 z_range (ya0 7)) (wc0 (i:=9) sc_q7.nd) (ua0 (ue0 (vq0 (ya0 5) (xa0 (zd0 (xa0 (vb0 uf0 (ya0 2) (yc0 (q_mn rfl (hu64 hr)) z_min un1 (xa0 wa0 (xa0 (yb0 q_ix (ya0 8) wa0) va0)))) (xa0 (vb0 uf0 (ya0 3) (yc0 (q_mn rfl (hu64 hr)) z_min un1 (xa0 wa0 (xa0 (yb0 q_ix (ya0 8) wa0) va0)))) (xa0 (vb0 uo0 (ya0 4) wa0) va0)))) va0))) (ua0 (xc0 (i:=2) sc_q7.nd (vb0 uf0 (ya0 2) (yb0 q_ix (ya0 8) wa0))) (sa0 (xc0 (i:=3) sc_q7.nd (vb0 uf0 (ya0 3) (yb0 q_ix (ya0 8) wa0)))))))))))))) (sa0 (wb0 (zd0 (xa0 (ya0 5) (xa0 (zd0 (xa0 (ya0 2) (xa0 (ya0 3) (xa0 (ya0 4) va0)))) va0))))))))
theorem sc_q8:FnScope N_q8 ["state", "most"] (za0 s_q8):=⟨rfl,rfl,rfl,by decide +kernel,rfl,by decide +kernel,by decide +kernel⟩
theorem ts4 {k:Nat} {f:Addr} {cdv:Value} {A:Around} {outer:List Env} {s:Shared} {H:Hp} {E:XK} {sp_q1:Sp3} {k_q1:Nat} (c_q1:Cal P w K mg base k_q1 "_law_deeds" ["state", "deep", "many"] sp_q1) (l_q1:k_q1<=k) {sp_q3:Sp3} {k_q3:Nat} (c_q3:Cal P w K mg base k_q3 "_law_gone" ["deeds"] sp_q3) (l_q3:k_q3<=k) {sp_q10:Sp3} {k_q10:Nat} (c_q10:Cal P w K mg base k_q10 "_law_take" ["state", "many"] sp_q10) (l_q10:k_q10<=k) (hr:Room k (A.deeper (envOfC "_law_short" (za0 s_q8) s.heap.objs.size f cdv))) :
    RSs (cxOf CX0 P w K mg base N_q8 "_law_short" (za0 s_q8) f cdv A outer s H E).nox (zb0 s_q8) (t_q8 sp_q1 sp_q3 sp_q10) :=
 (ua0 (xc0 (i:=2) sc_q8.nd (xb0 (c_q1.mono l_q1) hr (xa0 (ya0 0) (xa0 wa0 (xa0 (vb0 uf0 wa0 (xb0 (c_q10.mono l_q10) hr (xa0 (ya0 0) (xa0 wa0 va0)))) va0))))) (ua0 (sk2 PassesOwn.never (sb0 q_gt (xb0 (c_q3.mono l_q3) hr (xa0 (ya0 2) va0)) (ya0 1)) (sa0 (xc0 (i:=2) sc_q8.nd (xl1 q_sl (ya0 2) uy1 (vy1 (wz1 uz1 wa0)))))) (sa0 (wb0 (ya0 2)))))
theorem zs4:FnScope N_q3 ["deeds"] (za0 s_q3):=⟨rfl,rfl,rfl,by decide +kernel,rfl,by decide +kernel,by decide +kernel⟩
theorem wt4 {k:Nat} {f:Addr} {cdv:Value} {A:Around} {outer:List Env} {s:Shared} {H:Hp} {E:XK} {sp_q6:Sp3} {k_q6:Nat} (c_q6:Cal P w K mg base k_q6 "_law_rolled_out" ["deeds"] sp_q6) (l_q6:k_q6<=k) (z_abs:mg "abs" = none) (z_sum:mg "sum" = none) (hr:Room k (A.deeper (envOfC "_law_gone" (za0 s_q3) s.heap.objs.size f cdv))) :
    RSs (cxOf CX0 P w K mg base N_q3 "_law_gone" (za0 s_q3) f cdv A outer s H E).nox (zb0 s_q3) (t_q3 sp_q6) :=
 (sa0 (wb0 (yc0 ul2 z_sum vn1 (xa0 (sn0 (NN:=["kind", "number"]) (by decide +kernel) (by decide +kernel) (by decide +kernel) (th0 (xb0 (c_q6.mono l_q6) hr (xa0 (ya0 0) va0))) (λ _ _ _ _ _=>(tu0 rfl (ye0 (wc0 (i:=0) (show List.Nodup (["kind", "number"]:List Str) by decide +kernel)) (ye0 (wc0 (i:=1) (show List.Nodup (["kind", "number"]:List Str) by decide +kernel)) tn0)))) (λ _ _ _ _ _=>(wy1 (sb0 (q_ne (hu64 hr)) (ya0 0) ug0))) (λ _ _ _ _ _=>(yc0 ym2 z_abs tn1 (xa0 (ya0 1) va0)))) va0))))
theorem sc_q2:FnScope N_q2 ["deeds"] (za0 s_q2):=⟨rfl,rfl,rfl,by decide +kernel,rfl,by decide +kernel,by decide +kernel⟩
theorem vt4 {k:Nat} {f:Addr} {cdv:Value} {A:Around} {outer:List Env} {s:Shared} {H:Hp} {E:XK} {sp_q7:Sp3} {k_q7:Nat} (c_q7:Cal P w K mg base k_q7 "_law_run" ["deeds", "pen"] sp_q7) (l_q7:k_q7<=k) (z_set:mg "set" = none) (z_sorted:mg "sorted" = none) (z_tuple:mg "tuple" = none) (hr:Room k (A.deeper (envOfC "_law_ever" (za0 s_q2) s.heap.objs.size f cdv))) :
    RSs (cxOf CX0 P w K mg base N_q2 "_law_ever" (za0 s_q2) f cdv A outer s H E).nox (zb0 s_q2) (t_q2 sp_q7) :=
 (ua0 (uu0 (xb0 (c_q7.mono l_q7) hr (xa0 (ya0 0) (xa0 (zd0 (xa0 wa0 (xa0 wa0 (xa0 wa0 va0)))) va0))) (tu0 rfl (ye0 (wc0 (i:=1) sc_q2.nd) (ye0 (wc0 (i:=2) sc_q2.nd) tn0)))) (ua0 (ud0 (sl0 (xm0 (sb0 (q_eq (hu64 hr)) (yb0 q_ix (ya0 2) wa0) wa0) (xm0 (sb0 (q_ne (hu64 hr)) (ya0 2) (zd0 (xa0 wa0 (xa0 wa0 (xa0 wa0 va0))))) (uj0 (sb0 (q_ne (hu64 hr)) (ya0 1) (vj0 va0)))))) (sa0 (wb0 (zd0 (xa0 (xi0 tx0 z_tuple wg0 (xa0 (xh1 (tg1 (ya0 1) z_set (hu64 hr)) z_sorted) va0)) (xa0 (xl1 q_sl (ya0 2) uy1 (vy1 wa0)) va0))))) zc0) (sa0 (wb0 (zd0 (xa0 (xi0 tx0 z_tuple wg0 (xa0 (xh1 (tg1 (yb0 q_ix (xb0 (c_q7.mono l_q7) hr (xa0 (vb0 vf0 (ya0 0) wa0) (xa0 (zd0 (xa0 wa0 (xa0 wa0 (xa0 wa0 va0)))) va0))) wa0) z_set (hu64 hr)) z_sorted) va0)) (xa0 xv0 va0)))))))
theorem sc_q4:FnScope N_q4 ["told", "line"] (za0 s_q4):=⟨rfl,rfl,rfl,by decide +kernel,rfl,by decide +kernel,by decide +kernel⟩
theorem zt4 {k:Nat} {f:Addr} {cdv:Value} {A:Around} {outer:List Env} {s:Shared} {H:Hp} {E:XK} (z_abs:mg "abs" = none) (z_int:mg "int" = none) (hr:Room k (A.deeper (envOfC "_law_in" (za0 s_q4) s.heap.objs.size f cdv))) :
    RSs (cxOf CX0 P w K mg base N_q4 "_law_in" (za0 s_q4) f cdv A outer s H E).nox (zb0 s_q4) (t_q4) :=
 (ua0 (uu0 (ya0 0) (tu0 rfl (ye0 (wc0 (i:=2) sc_q4.nd) (ye0 (wc0 (i:=3) sc_q4.nd) tn0)))) (ua0 (ud0 (sb0 wd3 (ya0 3) xv0) (sa0 (wb0 (zm0 (q_in (hu65 hr)) (ya0 1) (ya0 2)))) zc0) (ua0 (zi0 PassesOwn.never rfl (th0 (ya0 2)) (tu0 rfl (ye0 (wc0 (i:=4) sc_q4.nd) (ye0 (wc0 (i:=5) sc_q4.nd) (ye0 (wc0 (i:=6) sc_q4.nd) tn0)))) (ua0 (xc0 (i:=7) sc_q4.nd (vb0 uq0 (yb0 q_ix (ya0 1) wa0) (ya0 4))) (ua0 (xc0 (i:=8) sc_q4.nd (vb0 uq0 (yb0 q_ix (ya0 1) wa0) (ya0 5))) (sa0 (ud0 (sl0 (xm0 (sb0 (q_eq (hu64 hr)) (ya0 6) (yb0 q_ix (ya0 1) wa0)) (uj0 (sb0 (q_eq (hu64 hr)) (vb0 vf0 (ya0 7) (yb0 q_ix (ya0 3) wa0)) (vb0 vf0 (ya0 8) (yb0 q_ix (ya0 3) wa0)))))) (ua0 (xc0 (i:=9) sc_q4.nd (yb0 q_ix (ya0 3) (xi0 vd3 z_int se1 (xa0 (zm0 (q_eq (hu64 hr)) (yb0 q_ix (ya0 3) wa0) wa0) va0)))) (ua0 (xc0 (i:=10) sc_q4.nd (yb0 q_ix (vj0 (xa0 (ya0 7) (xa0 (ya0 8) va0))) (xi0 vd3 z_int se1 (xa0 (zm0 (q_eq (hu64 hr)) (yb0 q_ix (ya0 3) wa0) wa0) va0)))) (sa0 (ud0 (sl0 (xm0 (sb0 (q_eq (hu64 hr)) (vb0 uo0 (ya0 10) (yc0 ym2 z_abs tn1 (xa0 (ya0 9) va0))) wa0) (uj0 (sb0 q_ge (vb0 vf0 (ya0 10) (ya0 9)) wa0)))) (sa0 (wb0 yh1)) zc0)))) zc0))))) (sa0 (wb0 yh1)))))
theorem sc_q5:FnScope N_q5 ["found", "due"] (za0 s_q5):=⟨rfl,rfl,rfl,by decide +kernel,rfl,by decide +kernel,by decide +kernel⟩
theorem yt4 {k:Nat} {f:Addr} {cdv:Value} {A:Around} {outer:List Env} {s:Shared} {H:Hp} {E:XK} {sp_q11:Sp3} {k_q11:Nat} (c_q11:Cal P w K mg base k_q11 "_law_whole" ["found"] sp_q11) (l_q11:k_q11<=k) (z_all:mg "all" = none) (z_isinstance:mg "isinstance" = none) (z_tuple:mg "tuple" = none) (hr:Room k (A.deeper (envOfC "_law_is_told" (za0 s_q5) s.heap.objs.size f cdv))) :
    RSs (cxOf CX0 P w K mg base N_q5 "_law_is_told" (za0 s_q5) f cdv A outer s H E).nox (zb0 s_q5) (t_q5 sp_q11) :=
 (ua0 (ud0 (sl0 (yc1 (sk0 (tk0 (yc0 yt0 z_isinstance sc0 (xa0 (ya0 0) (xa0 (xt0 z_tuple wg0) va0))))) (yc1 (sb0 (q_ne (hu64 hr)) (ya0 0) (ya0 1)) (vu0 (sk0 (tk0 (yc0 yt0 z_isinstance sc0 (xa0 (yb0 q_ix (ya0 0) wa0) (xa0 (xt0 z_tuple wg0) va0))))))))) (sa0 (wb0 yh1)) zc0) (ua0 (zi0 PassesOwn.never rfl (th0 (yb0 q_ix (ya0 0) wa0)) (wc0 (i:=2) sc_q5.nd) (sa0 (ud0 (sl0 (yc1 (sk0 (tk0 (yc0 yt0 z_isinstance sc0 (xa0 (ya0 2) (xa0 (xt0 z_tuple wg0) va0))))) (vu0 (sk0 (tk0 (yc0 sg4 z_all vx2 (xa0 (sn0 (NN:=["number"]) (by decide +kernel) (by decide +kernel) (by decide +kernel) (th0 (ya0 2)) (λ _ _ _ _ _=>(wc0 (i:=0) (show List.Nodup (["number"]:List Str) by decide +kernel))) (λ _ _ _ _ _=>yl0) (λ _ _ _ _ _=>(xb0 (c_q11.mono l_q11) hr (xa0 (ya0 0) va0)))) va0))))))) (sa0 (wb0 yh1)) zc0))) (sa0 (wb0 (xu4 (zm0 wd3 (yb0 q_ix (ya0 0) wa0) xv0) (zc1 (yl1 (yc0 yt0 z_isinstance sc0 (xa0 (yb0 q_ix (ya0 0) wa0) (xa0 (xt0 z_tuple wg0) va0))) (zc1 (yc0 sg4 z_all vx2 (xa0 (sn0 (NN:=["number"]) (by decide +kernel) (by decide +kernel) (by decide +kernel) (th0 (yb0 q_ix (ya0 0) wa0)) (λ _ _ _ _ _=>(wc0 (i:=0) (show List.Nodup (["number"]:List Str) by decide +kernel))) (λ _ _ _ _ _=>yl0) (λ _ _ _ _ _=>(xb0 (c_q11.mono l_q11) hr (xa0 (ya0 0) va0)))) va0))))))))))
theorem sc_q31:FnScope wm3 ["script"] (za0 ss0):=⟨rfl,rfl,rfl,by decide +kernel,rfl,by decide +kernel,by decide +kernel⟩
theorem vy3 {k:Nat} {f:Addr} {cdv:Value} {A:Around} {outer:List Env} {s:Shared} {H:Hp} {E:XK} {sp_q2:Sp3} {k_q2:Nat} (c_q2:Cal P w K mg base k_q2 "_law_ever" ["deeds"] sp_q2) (l_q2:k_q2<=k) {sp_q4:Sp3} {k_q4:Nat} (c_q4:Cal P w K mg base k_q4 "_law_in" ["told", "line"] sp_q4) (l_q4:k_q4<=k) {sp_q5:Sp3} {k_q5:Nat} (c_q5:Cal P w K mg base k_q5 "_law_is_told" ["found", "due"] sp_q5) (l_q5:k_q5<=k) {sp_q8:Sp3} {k_q8:Nat} (c_q8:Cal P w K mg base k_q8 "_law_short" ["state", "most"] sp_q8) (l_q8:k_q8<=k) {sp_q9:Sp3} {k_q9:Nat} (c_q9:Cal P w K mg base k_q9 "_law_state" ["script", "k"] sp_q9) (l_q9:k_q9<=k) {sp_q10:Sp3} {k_q10:Nat} (c_q10:Cal P w K mg base k_q10 "_law_take" ["state", "many"] sp_q10) (l_q10:k_q10<=k) {sp_q24:Sp3} {k_q24:Nat} (c_q24:Cal P w K mg base k_q24 "ever_drawn" ["word", "stroke"] sp_q24) (l_q24:k_q24<=k) {sp_q25:Sp3} {k_q25:Nat} (c_q25:Cal P w K mg base k_q25 "ever_of" ["word"] sp_q25) (l_q25:k_q25<=k) (z_bool:mg "bool" = none) (z_isinstance:mg "isinstance" = none) (z_len:mg "len" = none) (z_range:mg "range" = none) (hr:Room k (A.deeper (envOfC "law" (za0 ss0) s.heap.objs.size f cdv))) :
    RSs (cxOf CX0 P w K mg base wm3 "law" (za0 ss0) f cdv A outer s H E).nox (zb0 ss0) (vq3 sp_q2 sp_q4 sp_q5 sp_q8 sp_q9 sp_q10 sp_q24 sp_q25) :=
 (ua0 (xc0 (i:=1) sc_q31.nd (xb0 (c_q9.mono l_q9) hr (xa0 (ya0 0) (xa0 wa0 va0)))) (ua0 (xc0 (i:=2) sc_q31.nd (xb0 (c_q8.mono l_q8) hr (xa0 (ya0 1) (xa0 wa0 va0)))) (ua0 (xc0 (i:=3) sc_q31.nd (xb0 (c_q2.mono l_q2) hr (xa0 (ya0 2) va0))) (ua0 (ud0 (sk0 (tk0 (xb0 (c_q5.mono l_q5) hr (xa0 (xb0 (c_q25.mono l_q25) hr (xa0 (ya0 2) va0)) (xa0 (ya0 3) va0))))) (sa0 (wb0 yh1)) zc0) (ua0 (zi0 PassesOwn.never rfl (sh0 z_range wa0) (wc0 (i:=4) sc_q31.nd) (ua0 (xc0 (i:=5) sc_q31.nd (yb0 q_ix (vj0 (xa0 (vb0 uq0 (xb0 (c_q10.mono l_q10) hr (xa0 (ya0 1) (xa0 wa0 va0))) wa0) (xa0 (xb0 (c_q10.mono l_q10) hr (xa0 (ya0 1) (xa0 (yb0 q_ix (vj0 (xa0 (vb0 tl2 wa0 wa0) (xa0 (vb0 tl2 wa0 wa0) va0))) (vb0 wl1 (ya0 4) wa0)) va0))) va0))) (vb0 wl1 (ya0 4) wa0))) (ua0 (xc0 (i:=6) sc_q31.nd (zd0 (xa0 (vb0 uq0 (xb0 (c_q10.mono l_q10) hr (xa0 (ya0 1) (xa0 wa0 va0))) wa0) (xa0 (vb0 uq0 (xb0 (c_q10.mono l_q10) hr (xa0 (ya0 1) (xa0 wa0 va0))) wa0) (xa0 (xb0 (c_q10.mono l_q10) hr (xa0 (ya0 1) (xa0 wa0 va0))) va0))))) (ua0 (ud0 (sl0 (xm0 (sb0 (q_ne (hu64 hr)) (yb0 q_ix (ya0 3) wa0) (zd0 va0)) (uj0 (sb0 q_gt (xb0 (c_q10.mono l_q10) hr (xa0 (ya0 1) (xa0 wa0 va0))) wa0)))) (sa0 (xc0 (i:=6) sc_q31.nd (yb0 q_ix (yb0 q_ix (ya0 3) wa0) (xb0 (c_q10.mono l_q10) hr (xa0 (ya0 1) (xa0 (yc0 ut1 z_len yw0 (xa0 (yb0 q_ix (ya0 3) wa0) va0)) va0)))))) zc0) (ua0 (ud0 (sb0 xm2 (yb0 q_ix (ya0 3) wa0) xv0) (sa0 (xc0 (i:=6) sc_q31.nd (zd0 (xa0 (vb0 uf0 (yb0 q_ix (ya0 6) wa0) (vb0 vf0 (ya0 5) (yb0 q_ix (yb0 q_ix (ya0 3) wa0) wa0))) (xa0 (vb0 uf0 (yb0 q_ix (ya0 6) wa0) (vb0 vf0 (ya0 5) (yb0 q_ix (yb0 q_ix (ya0 3) wa0) wa0))) (xa0 (yb0 q_ix (ya0 6) wa0) va0)))))) zc0) (ua0 (xc0 (i:=7) sc_q31.nd (xb0 (c_q24.mono l_q24) hr (xa0 (ya0 2) (xa0 (ya0 6) va0)))) (sa0 (ud0 (sl0 (yc1 (sk0 (tk0 (yc0 yt0 z_isinstance sc0 (xa0 (ya0 7) (xa0 (xt0 z_bool xh2) va0))))) (vu0 (sb0 (q_ne (hu64 hr)) (ya0 7) (xb0 (c_q4.mono l_q4) hr (xa0 (ya0 3) (xa0 (ya0 6) va0))))))) (sa0 (wb0 yh1)) zc0)))))))) (sa0 (wb0 yh1)))))))
end
theorem bn1 {P:List Value->Prop} (h:∀ a,P [a]) (us:List Value) (e:us.length=1):P us:=by
 match us,e with
 | [a],_=>exact h a
theorem bn2 {P:List Value->Prop} (h:∀ a b,P [a,b]) (us:List Value) (e:us.length=2):P us:=by
 match us,e with
 | [a,b],_=>exact h a b
theorem bn3 {P:List Value->Prop} (h:∀ a b c,P [a,b,c]) (us:List Value) (e:us.length=3):P us:=by
 match us,e with
 | [a,b,c],_=>exact h a b c
abbrev NsR (K:Fg) (x:Str) (p:Addr):Prop:=nsIn K mainGlobals x=some (some (.ref p))
def FnA (K:Fg) (x:Str) (st:Stmt) (p:Addr):Prop:=∃ oc od sl kV dc pm an cd ct,K.lookup p=some ⟨oc,od,.func (fnOf x x (yk0 st) (zb0 st) (za0 st) .none kV dc pm an cd ct),sl⟩ /\ codeIn K cd x=true /\ keepIn K (.ref p)=true
theorem fnA_mk {K:Fg} {x:Str} {st:Stmt} {p:Addr} {oc kV dc pm cd ct:Value} {od an:Option Addr} {sl:Array (Option Value)} (l:K.lookup p=some ⟨oc,od,.func (fnOf x x (yk0 st) (zb0 st) (za0 st) .none kV dc pm an cd ct),sl⟩) (c:codeIn K cd x=true) (k:keepIn K (.ref p)=true):FnA K x st p:=⟨_,_,_,_,_,_,_,_,_,l,c,k⟩
theorem FnA.fn {K:Fg} {x:Str} {st:Stmt} {p:Addr} (h:FnA K x st p):∃ fd,Fun K x x st p fd:=by
 obtain ⟨_,_,_,_,_,_,_,_,_,l,c,k⟩:=h
 exact ⟨_,uw2 (st:=st) l c k⟩
theorem all_mk {l:PySem.W.OpenLaw} {w:World} {K:Fg} {h:Heap} {mg:Str->Option Value} {fa:Addr} (X:K.In h) (G:h.Ns mainGlobals mg) (hfa:mg "law" = some (.ref fa))
    {jdk:Addr}
    {jdl:Addr}
    {jdm:Addr}
    {jdn:Addr}
    {jdo:Addr}
    {jdp:Addr}
    {jdq:Addr}
    {jdr:Addr}
    {jds:Addr}
    {jdt:Addr}
    {jdu:Addr}
    {jdv:Addr}
    {jdw:Addr}
    {jdx:Addr}
    {jdy:Addr}
    {jdz:Addr}
    {jd0:Addr}
    {jd1:Addr}
    {jd2:Addr}
    {jd3:Addr}
    {jd4:Addr}
    {jd5:Addr}
    {jd6:Addr}
    {jd7:Addr}
    {jd8:Addr}
    {jd9:Addr}
    {jea:Addr}
    {jeb:Addr}
    {jec:Addr}
    {jed:Addr}
    {jee:Addr}
    {jef:Addr}
    {jeg:Addr}
    {p_q9:Addr}
    {jeh:Addr}
    {jei:Addr}
    {p_q0:Addr}
    {p_q1:Addr}
    {p_q6:Addr}
    {p_q7:Addr}
    {p_q8:Addr}
    {p_q3:Addr}
    {p_q2:Addr}
    {p_q4:Addr}
    {p_q5:Addr}
    {jej:Addr}
    {t_1:Tok}
    {t_2:Tok}
    {t_3:Tok}
    {t_4:Tok}
    {t_6:Tok}
    {t_7:Tok}
    {t_8:Tok}
    {q_5:Addr} {qo_5:Option Addr} {qn_5:Nat} {qs_5:Array (Option Value)}
    {t_10:Tok}
    {t_11:Tok}
    {q_9:Addr} {qo_9:Option Addr} {qn_9:Nat} {qs_9:Array (Option Value)}
    {t_13:Tok}
    {t_14:Tok}
    {t_15:Tok}
    {q_12:Addr} {jf7:Option Addr} {jf8:Nat} {jf9:Array (Option Value)}
    {t_18:Tok}
    {t_19:Tok}
    {q_17:Addr} {jga:Option Addr} {jgb:Nat} {jgc:Array (Option Value)}
    {t_21:Tok}
    {t_22:Tok}
    {q_20:Addr} {jgd:Option Addr} {jge:Nat} {jgf:Array (Option Value)}
    {t_24:Tok}
    {t_25:Tok}
    {q_23:Addr} {jgg:Option Addr} {jgh:Nat} {jgi:Array (Option Value)}
    {t_27:Tok}
    {t_28:Tok}
    {q_26:Addr} {jgj:Option Addr} {jgk:Nat} {jgl:Array (Option Value)}
    {q_16:Addr} {jgm:Option Addr} {jgn:Nat} {jgo:Array (Option Value)}
    {t_30:Tok}
    {t_31:Tok}
    {q_29:Addr} {jgp:Option Addr} {jgq:Nat} {jgr:Array (Option Value)}
    {t_32:Tok}
    (ja3:NsR K "check_word" jdk) (ja4:FnA K "check_word" ss1 jdk)
    (ja5:NsR K "checked_count" jdl) (ja6:FnA K "checked_count" ts1 jdl)
    (ja7:NsR K "checked_deed_count" jdm) (ja8:FnA K "checked_deed_count" us1 jdm)
    (ja9:NsR K "check_number" jdn) (jba:FnA K "check_number" zt1 jdn)
    (jbb:NsR K "led" jdo) (jbc:FnA K "led" tq1 jdo)
    (jbd:NsR K "pen_behind" jdp) (jbe:FnA K "pen_behind" vq1 jdp)
    (jbf:NsR K "pen_behind_deed" jdq) (jbg:FnA K "pen_behind_deed" wq1 jdq)
    (jbh:NsR K "pen_repeated" jdr) (jbi:FnA K "pen_repeated" zq1 jdr)
    (jbj:NsR K "strokes_drawn" jds) (jbk:FnA K "strokes_drawn" wp1 jds)
    (jbl:NsR K "count_strokes" jdt) (jbm:FnA K "count_strokes" zs1 jdt)
    (jbn:NsR K "count_strokes_of_deed" jdu) (jbo:FnA K "count_strokes_of_deed" ys1 jdu)
    (jbp:NsR K "deeds_done" jdv) (jbq:FnA K "deeds_done" xs1 jdv)
    (jbr:NsR K "count_done" jdw) (jbs:FnA K "count_done" vs1 jdw)
    (jbt:NsR K "count_done_of_deed" jdx) (jbu:FnA K "count_done_of_deed" ws1 jdx)
    (jbv:NsR K "is_small" jdy) (jbw:FnA K "is_small" zr1 jdy)
    (jbx:NsR K "check_stroke" jdz) (jby:FnA K "check_stroke" xt1 jdz)
    (jbz:NsR K "stroke_between" jd0) (jb0:FnA K "stroke_between" up1 jd0)
    (jb1:NsR K "strokes_along" jd1) (jb2:FnA K "strokes_along" vp1 jd1)
    (jb3:NsR K "picture_with" jd2) (jb4:FnA K "picture_with" xq1 jd2)
    (jb5:NsR K "strokes_from" jd3) (jb6:FnA K "strokes_from" zp1 jd3)
    (jb7:NsR K "plain_deeds" jd4) (jb8:FnA K "plain_deeds" sp1 jd4)
    (jb9:NsR K "strokes_of_go" jd5) (jca:FnA K "strokes_of_go" yp1 jd5)
    (jcb:NsR K "moved_stroke" jd6) (jcc:FnA K "moved_stroke" uq1 jd6)
    (jcd:NsR K "check_short" jd7) (jce:FnA K "check_short" yt1 jd7)
    (jcf:NsR K "points_gone" jd8) (jcg:FnA K "points_gone" tp1 jd8)
    (jch:NsR K "ever_of" jd9) (jci:FnA K "ever_of" ur1 jd9)
    (jcj:NsR K "drawn_for_ever" jea) (jck:FnA K "drawn_for_ever" sr1 jea)
    (jcl:NsR K "picture_of_four" jeb) (jcm:FnA K "picture_of_four" yq1 jeb)
    (jcn:NsR K "ever_drawn" jec) (jco:FnA K "ever_drawn" tr1 jec)
    (jcp:NsR K "is_drawn" jed) (jcq:FnA K "is_drawn" vr1 jed)
    (jcr:NsR K "lane_and_number" jee) (jcs:FnA K "lane_and_number" yr1 jee)
    (jct:NsR K "lanes_of" jef) (jcu:FnA K "lanes_of" xr1 jef)
    (jcv:NsR K "is_in_lanes" jeg) (jcw:FnA K "is_in_lanes" wr1 jeg)
    (a_q9:NsR K "_law_state" p_q9) (A_q9:FnA K "_law_state" s_q9 p_q9)
    (jcx:NsR K "_law_take" jeh) (jcy:FnA K "_law_take" vt1 jeh)
    (jcz:NsR K "_law_whole" jei) (jc0:FnA K "_law_whole" wt1 jei)
    (a_q0:NsR K "_law_deed" p_q0) (A_q0:FnA K "_law_deed" s_q0 p_q0)
    (a_q1:NsR K "_law_deeds" p_q1) (A_q1:FnA K "_law_deeds" s_q1 p_q1)
    (a_q6:NsR K "_law_rolled_out" p_q6) (A_q6:FnA K "_law_rolled_out" s_q6 p_q6)
    (a_q7:NsR K "_law_run" p_q7) (A_q7:FnA K "_law_run" s_q7 p_q7)
    (a_q8:NsR K "_law_short" p_q8) (A_q8:FnA K "_law_short" s_q8 p_q8)
    (a_q3:NsR K "_law_gone" p_q3) (A_q3:FnA K "_law_gone" s_q3 p_q3)
    (a_q2:NsR K "_law_ever" p_q2) (A_q2:FnA K "_law_ever" s_q2 p_q2)
    (a_q4:NsR K "_law_in" p_q4) (A_q4:FnA K "_law_in" s_q4 p_q4)
    (a_q5:NsR K "_law_is_told" p_q5) (A_q5:FnA K "_law_is_told" s_q5 p_q5)
    (ja1:NsR K "law" jej) (jc1:FnA K "law" ss0 jej)
    (jag:nsIn K mainGlobals "MOST_DEEDS" = some (some (.int (30) t_1)))
    (jah:nsIn K mainGlobals "MOST_DEEP" = some (some (.int (4) t_2)))
    (jab:nsIn K mainGlobals "GREATEST_NUMBER" = some (some (.int (99999999999999999999) t_3)))
    (jac:nsIn K mainGlobals "MOST_OF_SMALL" = some (some (.int (400) t_4)))
    (jad:nsIn K mainGlobals "PLAIN_KINDS" = some (some (.ref q_5)))
    (ql_5:K.lookup q_5=some ⟨.type "tuple",qo_5,.seq #[.str "go" t_6,.str "jump" t_7,.str "turn" t_8] qn_5,qs_5⟩)
    (jaa:nsIn K mainGlobals "KINDS_FROM_NOUGHT" = some (some (.ref q_9)))
    (ql_9:K.lookup q_9=some ⟨.type "tuple",qo_9,.seq #[.str "go" t_10,.str "times" t_11] qn_9,qs_9⟩)
    (jal:nsIn K mainGlobals "START" = some (some (.ref q_12)))
    (jc2:K.lookup q_12=some ⟨.type "tuple",jf7,.seq #[.int (0) t_13,.int (0) t_14,.int (0) t_15] jf8,jf9⟩)
    (jam:nsIn K mainGlobals "AHEAD" = some (some (.ref q_16)))
    (jc3:K.lookup q_16=some ⟨.type "tuple",jgm,.seq #[.ref q_17,.ref q_20,.ref q_23,.ref q_26] jgn,jgo⟩)
    (jc4:K.lookup q_26=some ⟨.type "tuple",jgj,.seq #[.int (0) t_27,.int (-1) t_28] jgk,jgl⟩)
    (jc5:K.lookup q_23=some ⟨.type "tuple",jgg,.seq #[.int (-1) t_24,.int (0) t_25] jgh,jgi⟩)
    (jc6:K.lookup q_20=some ⟨.type "tuple",jgd,.seq #[.int (0) t_21,.int (1) t_22] jge,jgf⟩)
    (jc7:K.lookup q_17=some ⟨.type "tuple",jga,.seq #[.int (1) t_18,.int (0) t_19] jgb,jgc⟩)
    (jas:nsIn K mainGlobals "WAYS" = some (some (.ref q_29)))
    (jc8:K.lookup q_29=some ⟨.type "tuple",jgp,.seq #[.int (0) t_30,.int (1) t_31] jgq,jgr⟩)
    (jae:nsIn K mainGlobals "MOST_POINTS" = some (some (.int (60) t_32)))
    (jat:nsIn K mainGlobals "abs" = some none)
    (jau:nsIn K mainGlobals "all" = some none)
    (jan:nsIn K mainGlobals "bool" = some none)
    (jav:nsIn K mainGlobals "int" = some none)
    (jaf:nsIn K mainGlobals "isinstance" = some none)
    (jaw:nsIn K mainGlobals "len" = some none)
    (jax:nsIn K mainGlobals "min" = some none)
    (jaj:nsIn K mainGlobals "range" = some none)
    (jay:nsIn K mainGlobals "set" = some none)
    (jai:nsIn K mainGlobals "sorted" = some none)
    (jaz:nsIn K mainGlobals "sum" = some none)
    (jak:nsIn K mainGlobals "tuple" = some none) :
    ∃ fd:FuncData,(∀ (s:Shared) (v:Value),BindsTo s fd ⟨[v],[]⟩ [("script",v)]) /\ ∀ base:Heap,K.In base->base.Ns mainGlobals mg->FnOk l.prog w K mg base CX0 21 fa fd ["script"] (lift K sj2):=by
 have e:=hfa.symm.trans (mg_of X G ja1)
 cases e
 have g_MOST_DEEDS:Gd K mg "MOST_DEEDS" sj0:=td1 X G jag
 have g_MOST_DEEP:Gd K mg "MOST_DEEP" wl0:=td1 X G jah
 have g_GREATEST_NUMBER:Gd K mg "GREATEST_NUMBER" xg0:=td1 X G jab
 have g_MOST_OF_SMALL:Gd K mg "MOST_OF_SMALL" zf0:=td1 X G jac
 have g_PLAIN_KINDS:Gd K mg "PLAIN_KINDS" ti0:=ud1 X G jad (TupK.mk ql_5 Z0 (.str (.str (.str .nil))))
 have g_KINDS_FROM_NOUGHT:Gd K mg "KINDS_FROM_NOUGHT" se0:=ud1 X G jaa (TupK.mk ql_9 Z1 (.str (.str .nil)))
 have g_START:Gd K mg "START" ze0:=ud1 X G jal (TupK.mk jc2 Z0 (.int (.int (.int .nil))))
 have g_AHEAD:Gd K mg "AHEAD" xk0:=ud1 X G jam (TupK.mk jc3 (show 4<=sizeLine by decide) (.tup (TupK.mk jc7 Z1 (.int (.int .nil))) (.tup (TupK.mk jc6 Z1 (.int (.int .nil))) (.tup (TupK.mk jc5 Z1 (.int (.int .nil))) (.tup (TupK.mk jc4 Z1 (.int (.int .nil))) .nil)))))
 have g_WAYS:Gd K mg "WAYS" yd1:=ud1 X G jas (TupK.mk jc8 Z1 (.int (.int .nil)))
 have g_MOST_POINTS:Gd K mg "MOST_POINTS" si0:=td1 X G jae
 have z_abs:=mg_none_of X G jat
 have z_all:=mg_none_of X G jau
 have z_bool:=mg_none_of X G jan
 have z_int:=mg_none_of X G jav
 have z_isinstance:=mg_none_of X G jaf
 have z_len:=mg_none_of X G jaw
 have z_min:=mg_none_of X G jax
 have z_range:=mg_none_of X G jaj
 have z_set:=mg_none_of X G jay
 have z_sorted:=mg_none_of X G jai
 have z_sum:=mg_none_of X G jaz
 have z_tuple:=mg_none_of X G jak
 obtain ⟨_,jek⟩:=ja4.fn
 have jgs:=jek.binds (ps:=["word"]) λ _ _ _ _ _ _=>bn1 λ _=>rfl
 have jgt:=mg_of X G ja3
 obtain ⟨_,jel⟩:=ja6.fn
 have jgu:=jel.binds (ps:=["word", "depth"]) λ _ _ _ _ _ _=>bn2 λ _ _=>rfl
 have jgv:=mg_of X G ja5
 obtain ⟨_,jc9⟩:=ja8.fn
 have jem:=jc9.binds (ps:=["deed", "depth"]) λ _ _ _ _ _ _=>bn2 λ _ _=>rfl
 have jen:=mg_of X G ja7
 obtain ⟨_,jeo⟩:=jba.fn
 have jgw:=jeo.binds (ps:=["kind", "number"]) λ _ _ _ _ _ _=>bn2 λ _ _=>rfl
 have jgx:=mg_of X G ja9
 obtain ⟨_,jep⟩:=jbc.fn
 have jgy:=jep.binds (ps:=["pen", "part"]) λ _ _ _ _ _ _=>bn2 λ _ _=>rfl
 have jgz:=mg_of X G jbb
 obtain ⟨_,jeq⟩:=jbe.fn
 have jg0:=jeq.binds (ps:=["word"]) λ _ _ _ _ _ _=>bn1 λ _=>rfl
 have jg1:=mg_of X G jbd
 obtain ⟨_,jda⟩:=jbg.fn
 have jer:=jda.binds (ps:=["deed"]) λ _ _ _ _ _ _=>bn1 λ _=>rfl
 have jes:=mg_of X G jbf
 obtain ⟨_,jet⟩:=jbi.fn
 have jg2:=jet.binds (ps:=["part", "number"]) λ _ _ _ _ _ _=>bn2 λ _ _=>rfl
 have jg3:=mg_of X G jbh
 obtain ⟨_,jeu⟩:=jbk.fn
 have jg4:=jeu.binds (ps:=["word"]) λ _ _ _ _ _ _=>bn1 λ _=>rfl
 have jg5:=mg_of X G jbj
 obtain ⟨_,jev⟩:=jbm.fn
 have jg6:=jev.binds (ps:=["word"]) λ _ _ _ _ _ _=>bn1 λ _=>rfl
 have jg7:=mg_of X G jbl
 obtain ⟨_,jdb⟩:=jbo.fn
 have jew:=jdb.binds (ps:=["deed"]) λ _ _ _ _ _ _=>bn1 λ _=>rfl
 have jex:=mg_of X G jbn
 obtain ⟨_,jey⟩:=jbq.fn
 have jg8:=jey.binds (ps:=["word"]) λ _ _ _ _ _ _=>bn1 λ _=>rfl
 have jg9:=mg_of X G jbp
 obtain ⟨_,jez⟩:=jbs.fn
 have jha:=jez.binds (ps:=["word"]) λ _ _ _ _ _ _=>bn1 λ _=>rfl
 have jhb:=mg_of X G jbr
 obtain ⟨_,jdc⟩:=jbu.fn
 have je0:=jdc.binds (ps:=["deed"]) λ _ _ _ _ _ _=>bn1 λ _=>rfl
 have je1:=mg_of X G jbt
 obtain ⟨_,je2⟩:=jbw.fn
 have jhc:=je2.binds (ps:=["word"]) λ _ _ _ _ _ _=>bn1 λ _=>rfl
 have jhd:=mg_of X G jbv
 obtain ⟨_,je3⟩:=jby.fn
 have jhe:=je3.binds (ps:=["stroke"]) λ _ _ _ _ _ _=>bn1 λ _=>rfl
 have jhf:=mg_of X G jbx
 obtain ⟨_,je4⟩:=jb0.fn
 have jhg:=je4.binds (ps:=["point", "other"]) λ _ _ _ _ _ _=>bn2 λ _ _=>rfl
 have jhh:=mg_of X G jbz
 obtain ⟨_,je5⟩:=jb2.fn
 have jhi:=je5.binds (ps:=["points"]) λ _ _ _ _ _ _=>bn1 λ _=>rfl
 have jhj:=mg_of X G jb1
 obtain ⟨_,je6⟩:=jb4.fn
 have jhk:=je6.binds (ps:=["strokes"]) λ _ _ _ _ _ _=>bn1 λ _=>rfl
 have jhl:=mg_of X G jb3
 obtain ⟨_,je7⟩:=jb6.fn
 have jhm:=je7.binds (ps:=["pen", "word"]) λ _ _ _ _ _ _=>bn2 λ _ _=>rfl
 have jhn:=mg_of X G jb5
 obtain ⟨_,jdd⟩:=jb8.fn
 have je8:=jdd.binds (ps:=["word"]) λ _ _ _ _ _ _=>bn1 λ _=>rfl
 have je9:=mg_of X G jb7
 obtain ⟨_,jfa⟩:=jca.fn
 have jho:=jfa.binds (ps:=["pen", "number"]) λ _ _ _ _ _ _=>bn2 λ _ _=>rfl
 have jhp:=mg_of X G jb9
 obtain ⟨_,jfb⟩:=jcc.fn
 have jhq:=jfb.binds (ps:=["stroke", "x", "y"]) λ _ _ _ _ _ _=>bn3 λ _ _ _=>rfl
 have jhr:=mg_of X G jcb
 obtain ⟨_,jfc⟩:=jce.fn
 have jhs:=jfc.binds (ps:=["word"]) λ _ _ _ _ _ _=>bn1 λ _=>rfl
 have jht:=mg_of X G jcd
 obtain ⟨_,jfd⟩:=jcg.fn
 have jhu:=jfd.binds (ps:=["word"]) λ _ _ _ _ _ _=>bn1 λ _=>rfl
 have jhv:=mg_of X G jcf
 obtain ⟨_,jfe⟩:=jci.fn
 have jhw:=jfe.binds (ps:=["word"]) λ _ _ _ _ _ _=>bn1 λ _=>rfl
 have jhx:=mg_of X G jch
 obtain ⟨_,jff⟩:=jck.fn
 have jhy:=jff.binds (ps:=["word"]) λ _ _ _ _ _ _=>bn1 λ _=>rfl
 have jhz:=mg_of X G jcj
 obtain ⟨_,jfg⟩:=jcm.fn
 have jh0:=jfg.binds (ps:=["word", "part"]) λ _ _ _ _ _ _=>bn2 λ _ _=>rfl
 have jh1:=mg_of X G jcl
 obtain ⟨_,jfh⟩:=jco.fn
 have jh2:=jfh.binds (ps:=["word", "stroke"]) λ _ _ _ _ _ _=>bn2 λ _ _=>rfl
 have jh3:=mg_of X G jcn
 obtain ⟨_,jfi⟩:=jcq.fn
 have jh4:=jfi.binds (ps:=["word", "stroke"]) λ _ _ _ _ _ _=>bn2 λ _ _=>rfl
 have jh5:=mg_of X G jcp
 obtain ⟨_,jfj⟩:=jcs.fn
 have jh6:=jfj.binds (ps:=["stroke", "shift"]) λ _ _ _ _ _ _=>bn2 λ _ _=>rfl
 have jh7:=mg_of X G jcr
 obtain ⟨_,jfk⟩:=jcu.fn
 have jh8:=jfk.binds (ps:=["ever"]) λ _ _ _ _ _ _=>bn1 λ _=>rfl
 have jh9:=mg_of X G jct
 obtain ⟨_,jfl⟩:=jcw.fn
 have jia:=jfl.binds (ps:=["lanes", "shift", "stroke"]) λ _ _ _ _ _ _=>bn3 λ _ _ _=>rfl
 have jib:=mg_of X G jcv
 obtain ⟨_,F_q9⟩:=A_q9.fn
 have b_q9:=F_q9.binds (ps:=["script", "k"]) λ _ _ _ _ _ _=>bn2 λ _ _=>rfl
 have m_q9:=mg_of X G a_q9
 obtain ⟨_,jfm⟩:=jcy.fn
 have jic:=jfm.binds (ps:=["state", "many"]) λ _ _ _ _ _ _=>bn2 λ _ _=>rfl
 have jid:=mg_of X G jcx
 obtain ⟨_,jfn⟩:=jc0.fn
 have jie:=jfn.binds (ps:=["found"]) λ _ _ _ _ _ _=>bn1 λ _=>rfl
 have jif:=mg_of X G jcz
 obtain ⟨_,F_q0⟩:=A_q0.fn
 have b_q0:=F_q0.binds (ps:=["state", "deep"]) λ _ _ _ _ _ _=>bn2 λ _ _=>rfl
 have m_q0:=mg_of X G a_q0
 obtain ⟨_,F_q1⟩:=A_q1.fn
 have b_q1:=F_q1.binds (ps:=["state", "deep", "many"]) λ _ _ _ _ _ _=>bn3 λ _ _ _=>rfl
 have m_q1:=mg_of X G a_q1
 obtain ⟨_,F_q6⟩:=A_q6.fn
 have b_q6:=F_q6.binds (ps:=["deeds"]) λ _ _ _ _ _ _=>bn1 λ _=>rfl
 have m_q6:=mg_of X G a_q6
 obtain ⟨_,F_q7⟩:=A_q7.fn
 have b_q7:=F_q7.binds (ps:=["deeds", "pen"]) λ _ _ _ _ _ _=>bn2 λ _ _=>rfl
 have m_q7:=mg_of X G a_q7
 obtain ⟨_,F_q8⟩:=A_q8.fn
 have b_q8:=F_q8.binds (ps:=["state", "most"]) λ _ _ _ _ _ _=>bn2 λ _ _=>rfl
 have m_q8:=mg_of X G a_q8
 obtain ⟨_,F_q3⟩:=A_q3.fn
 have b_q3:=F_q3.binds (ps:=["deeds"]) λ _ _ _ _ _ _=>bn1 λ _=>rfl
 have m_q3:=mg_of X G a_q3
 obtain ⟨_,F_q2⟩:=A_q2.fn
 have b_q2:=F_q2.binds (ps:=["deeds"]) λ _ _ _ _ _ _=>bn1 λ _=>rfl
 have m_q2:=mg_of X G a_q2
 obtain ⟨_,F_q4⟩:=A_q4.fn
 have b_q4:=F_q4.binds (ps:=["told", "line"]) λ _ _ _ _ _ _=>bn2 λ _ _=>rfl
 have m_q4:=mg_of X G a_q4
 obtain ⟨_,F_q5⟩:=A_q5.fn
 have b_q5:=F_q5.binds (ps:=["found", "due"]) λ _ _ _ _ _ _=>bn2 λ _ _=>rfl
 have m_q5:=mg_of X G a_q5
 obtain ⟨_,_,_,jfo,jfp,jfq,jfr,jfs,jft,jig,jih,jii⟩:=jc1
 have jfu:=uw2 (st:=ss0) jig jih jii
 have ji6:=jfu.binds (ps:=["script"]) λ _ _ _ _ _ _=>bn1 λ _=>rfl
 have ji7:=mg_of X G ja1
 refine ⟨fnOf "law" "law" (yk0 ss0) (zb0 ss0) (za0 ss0) .none jfo jfp jfq jfr jfs jft,λ s v=>.of_eq rfl,λ base KB GB=>?_⟩
 have jij:Cal l.prog w K mg base (1) "check_number" ["kind", "number"] yb3:=vc0 jeo jgx jgw xw3 (by rintro _ _ _ ⟨_,_,rfl,_⟩; rfl) (k:=0) (λ cdv A outer s H E hr=>sa4 z_abs z_int z_isinstance g_GREATEST_NUMBER g_KINDS_FROM_NOUGHT hr) xg4
 have jao:∀ j,Cal l.prog w K mg base (2 * j + 1) "checked_deed_count" ["deed", "depth"] (yk1 j)->Cal l.prog w K mg base (2 * j + 1 + 1) "checked_count" ["word", "depth"] (xx0 j):=λ j ih=>vc0 jel jgv jgu sc_q16 (by rintro _ _ _ ⟨_,_,rfl,_⟩; rfl) (k:=2 * j + 1) (λ cdv A outer s H E hr=>wa4 ih (Nat.le_refl _) z_isinstance z_tuple g_MOST_DEEDS g_MOST_DEEP hr) (vf4 j)
 have jde:∀ j,Cal l.prog w K mg base (2 * j + 1) "checked_deed_count" ["deed", "depth"] (yk1 j):=λ j=>by
  induction j with
  | zero=>exact (wj0 jc9 jen jem (by intro ds μ Q h; first | (obtain ⟨_,_,h⟩:=h; omega) | (obtain ⟨_,_,_,h⟩:=h; omega) | (obtain ⟨_,_,_,_,h⟩:=h; omega))).mono (by omega)
  | succ j ih=>exact (vc0 jc9 jen jem vv3 (by rintro _ _ _ ⟨_,_,rfl,_⟩; rfl) (k:=2 * j + 1 + 1) (λ cdv A outer s H E hr=>za4 jij (by omega) (jao j ih) (Nat.le_refl _) z_isinstance z_len z_tuple g_PLAIN_KINDS hr) (wf4 j)).mono (by omega)
 have jik:=jde 5
 have jil:=jao 5 jik
 have jfv:Cal l.prog w K mg base (13) "check_word" ["word"] zk2:=vc0 jek jgt jgs uv3 (by rintro _ _ _ ⟨_,rfl,_⟩; rfl) (k:=12) (λ cdv A outer s H E hr=>va4 jil (by decide) hr) uf4
 have ja2:Cal l.prog w K mg base (1) "led" ["pen", "part"] wg1:=vc0 jep jgz jgy sc_q32 (by rintro _ _ _ ⟨_,_,_,_,rfl,_⟩; rfl) (k:=0) (λ cdv A outer s H E hr=>wy3 g_AHEAD hr) vd4
 have jim:Cal l.prog w K mg base (2) "pen_repeated" ["part", "number"] xb3:=vc0 jet jg3 jg2 sc_q36 (by rintro _ _ _ ⟨_,_,_,rfl,_⟩; rfl) (k:=1) (λ cdv A outer s H E hr=>sx3 ja2 (by decide) z_range g_START hr) xd4
 have jap:∀ j,Cal l.prog w K mg base (2 * j + 2) "pen_behind_deed" ["deed"] (spPd j)->Cal l.prog w K mg base (2 * j + 2 + 1) "pen_behind" ["word"] (spPb j):=λ j ih=>vc0 jeq jg1 jg0 sc_q34 (by rintro _ _ _ ⟨_,rfl,_⟩; rfl) (k:=2 * j + 2) (λ cdv A outer s H E hr=>yy3 ja2 (by omega) ih (Nat.le_refl _) g_START hr) (zd4 j)
 have jdf:∀ j,Cal l.prog w K mg base (2 * j + 2) "pen_behind_deed" ["deed"] (spPd j):=λ j=>by
  induction j with
  | zero=>exact (wj0 jda jes jer (by intro ds μ Q h; first | (obtain ⟨_,_,h⟩:=h; omega) | (obtain ⟨_,_,_,h⟩:=h; omega) | (obtain ⟨_,_,_,_,h⟩:=h; omega))).mono (by omega)
  | succ j ih=>exact (vc0 jda jes jer zu3 (by rintro _ _ _ ⟨_,rfl,_⟩; rfl) (k:=2 * j + 2 + 1) (λ cdv A outer s H E hr=>xy3 (jap j ih) (Nat.le_refl _) jim (by omega) hr) (yd4 j)).mono (by omega)
 have jfw:=jdf 5
 have jin:=jap 5 jfw
 have jaq:∀ j,Cal l.prog w K mg base (2 * j + 0) "count_strokes_of_deed" ["deed"] (vj2 j)->Cal l.prog w K mg base (2 * j + 0 + 1) "count_strokes" ["word"] (spSk j):=λ j ih=>vc0 jev jg7 jg6 yv3 (by rintro _ _ _ ⟨_,rfl,_⟩; rfl) (k:=2 * j + 0) (λ cdv A outer s H E hr=>sz3 ih (Nat.le_refl _) z_sum hr) (xf4 j)
 have jdg:∀ j,Cal l.prog w K mg base (2 * j + 0) "count_strokes_of_deed" ["deed"] (vj2 j):=λ j=>by
  induction j with
  | zero=>exact (wj0 jdb jex jew (by intro ds μ Q h; first | (obtain ⟨_,_,h⟩:=h; omega) | (obtain ⟨_,_,_,h⟩:=h; omega) | (obtain ⟨_,_,_,_,h⟩:=h; omega))).mono (by omega)
  | succ j ih=>exact (vc0 jdb jex jew xv3 (by rintro _ _ _ ⟨_,rfl,_⟩; rfl) (k:=2 * j + 0 + 1) (λ cdv A outer s H E hr=>tz3 (jaq j ih) (Nat.le_refl _) hr) (se4 j)).mono (by omega)
 have jio:=jdg 5
 have jfx:=jaq 5 jio
 have jip:Cal l.prog w K mg base (14) "strokes_drawn" ["word"] sa3:=vc0 jeu jg5 jg4 vt3 (by rintro _ _ _ ⟨_,rfl,_⟩; rfl) (k:=13) (λ cdv A outer s H E hr=>xx3 jfv (by decide) jfx (by decide) hr) yc4
 have jar:∀ j,Cal l.prog w K mg base (2 * j + 0) "count_done_of_deed" ["deed"] (yx1 j)->Cal l.prog w K mg base (2 * j + 0 + 1) "count_done" ["word"] (spDn j):=λ j ih=>vc0 jez jhb jha wv3 (by rintro _ _ _ ⟨_,rfl,_⟩; rfl) (k:=2 * j + 0) (λ cdv A outer s H E hr=>ya4 ih (Nat.le_refl _) z_sum hr) (zf4 j)
 have jdh:∀ j,Cal l.prog w K mg base (2 * j + 0) "count_done_of_deed" ["deed"] (yx1 j):=λ j=>by
  induction j with
  | zero=>exact (wj0 jdc je1 je0 (by intro ds μ Q h; first | (obtain ⟨_,_,h⟩:=h; omega) | (obtain ⟨_,_,_,h⟩:=h; omega) | (obtain ⟨_,_,_,_,h⟩:=h; omega))).mono (by omega)
  | succ j ih=>exact (vc0 jdc je1 je0 zv3 (by rintro _ _ _ ⟨_,rfl,_⟩; rfl) (k:=2 * j + 0 + 1) (λ cdv A outer s H E hr=>xa4 (jar j ih) (Nat.le_refl _) hr) (yf4 j)).mono (by omega)
 have jfy:=jdh 5
 have jiq:=jar 5 jfy
 have jir:Cal l.prog w K mg base (14) "deeds_done" ["word"] ub3:=vc0 jey jg9 jg8 su3 (by rintro _ _ _ ⟨_,rfl,_⟩; rfl) (k:=13) (λ cdv A outer s H E hr=>uz3 jfv (by decide) jiq (by decide) hr) te4
 have jis:Cal l.prog w K mg base (15) "is_small" ["word"] yg1:=vc0 je2 jhd jhc vu3 (by rintro _ _ _ ⟨_,rfl,_⟩; rfl) (k:=14) (λ cdv A outer s H E hr=>sy3 jir (by decide) jip (by decide) g_MOST_OF_SMALL hr) xe4
 have jit:Cal l.prog w K mg base (1) "check_stroke" ["stroke"] zx1:=vc0 je3 jhf jhe tv3 (by rintro _ _ _ ⟨_,rfl,_⟩; rfl) (k:=0) (λ cdv A outer s H E hr=>ua4 z_len g_WAYS hr) tf4
 have jiu:Cal l.prog w K mg base (1) "stroke_between" ["point", "other"] tb3:=vc0 je4 jhh jhg sc_q41 (by rintro _ _ _ ⟨_,_,rfl,_⟩; rfl) (k:=0) (λ cdv A outer s H E hr=>zx3 z_min hr) wc4
 have jiv:Cal l.prog w K mg base (2) "strokes_along" ["points"] spAl:=vc0 je5 jhj jhi ut3 (by rintro _ _ _ ⟨_,_,rfl,_⟩; rfl) (k:=1) (λ cdv A outer s H E hr=>yx3 jiu (by decide) z_len z_range hr) zc4
 have jiw:Cal l.prog w K mg base (3) "strokes_of_go" ["pen", "number"] spGo:=vc0 jfa jhp jho sc_q45 (by rintro _ _ _ ⟨_,_,_,rfl,_⟩; rfl) (k:=2) (λ cdv A outer s H E hr=>tw3 jiv (by decide) z_range g_AHEAD hr) tb4
 have jdi:∀ j,Cal l.prog w K mg base (j + 10) "plain_deeds" ["word"] (spPl j):=λ j=>by
  induction j with
  | zero=>exact (wj0 jdd je9 je8 (by intro ds μ Q h; first | (obtain ⟨_,_,h⟩:=h; omega) | (obtain ⟨_,_,_,h⟩:=h; omega) | (obtain ⟨_,_,_,_,h⟩:=h; omega) | (obtain ⟨_,_,_,_,_,_,_,_,h⟩:=h; omega) | (obtain ⟨_,_,_,_,_,_,_,h,_⟩:=h; split at h <;> omega))).mono (by omega)
  | succ j ih=>exact (vc0 jdd je9 je8 sc_q39 (by rintro _ _ _ ⟨_,rfl,_⟩; rfl) (k:=j + 10) (λ cdv A outer s H E hr=>vx3 jfy (by omega) ih (Nat.le_refl _) hr) (uc4 j)).mono (by omega)
 have jfz:=jdi 5
 have jf0:Cal l.prog w K mg base (16) "strokes_from" ["pen", "word"] spSf:=vc0 je7 jhn jhm sc_q44 (by rintro _ _ _ ⟨_,_,_,rfl,_⟩; rfl) (k:=15) (λ cdv A outer s H E hr=>sw3 ja2 (by decide) jfw (by decide) jfz (by decide) jiw (by decide) hr) xc4
 have jf1:Cal l.prog w K mg base (1) "picture_with" ["strokes"] spPw:=vc0 je6 jhl jhk yu3 (by rintro _ _ _ ⟨_,_,rfl,_⟩; rfl) (k:=0) (λ cdv A outer s H E hr=>ux3 z_set z_sorted z_tuple hr) tc4
 have jix:Cal l.prog w K mg base (1) "moved_stroke" ["stroke", "x", "y"] spMs:=vc0 jfb jhr jhq wu3 (by rintro _ _ _ ⟨_,_,_,rfl,_⟩; rfl) (k:=0) (λ cdv A outer s H E hr=>zy3 hr) wd4
 have jiy:Cal l.prog w K mg base (16) "points_gone" ["word"] spPg:=vc0 jfd jhv jhu xu3 (by rintro _ _ _ ⟨_,rfl,_⟩; rfl) (k:=15) (λ cdv A outer s H E hr=>wx3 jfz (by decide) z_abs z_sum hr) vc4
 have jf2:Cal l.prog w K mg base (17) "check_short" ["word"] spCs:=vc0 jfc jht jhs sv3 (by rintro _ _ _ ⟨_,rfl,_⟩; rfl) (k:=16) (λ cdv A outer s H E hr=>ta4 jis (by decide) jiy (by decide) g_MOST_POINTS hr) sf4
 have jiz:Cal l.prog w K mg base (17) "picture_of_four" ["word", "part"] xk1:=vc0 jfg jh1 jh0 sc_q37 (by rintro _ _ _ ⟨_,_,rfl,_⟩; rfl) (k:=16) (λ cdv A outer s H E hr=>tx3 ja2 (by decide) jf1 (by decide) jf0 (by decide) z_range g_START hr) sc4
 have jf3:Cal l.prog w K mg base (18) "drawn_for_ever" ["word"] yk2:=vc0 jff jhz jhy sc_q23 (by rintro _ _ _ ⟨_,rfl,_⟩; rfl) (k:=17) (λ cdv A outer s H E hr=>vz3 jfx (by decide) jin (by decide) jiz (by decide) jf1 (by decide) jf0 (by decide) g_START hr) ue4
 have ji0:Cal l.prog w K mg base (19) "ever_of" ["word"] spEo:=vc0 jfe jhx jhw uu3 (by rintro _ _ _ ⟨_,rfl,_⟩; rfl) (k:=18) (λ cdv A outer s H E hr=>zz3 jf2 (by decide) jf3 (by decide) hr) we4
 have jf4:Cal l.prog w K mg base (2) "lane_and_number" ["stroke", "shift"] xk2:=vc0 jfj jh7 jh6 sc_q29 (by rintro _ _ _ ⟨_,_,rfl,_⟩; rfl) (k:=1) (λ cdv A outer s H E hr=>ty3 jix (by decide) hr) sd4
 have ji1:Cal l.prog w K mg base (3) "lanes_of" ["ever"] spLo:=vc0 jfk jh9 jh8 sc_q30 (by rintro _ _ _ ⟨_,_,rfl,_⟩; rfl) (k:=2) (λ cdv A outer s H E hr=>uy3 jf4 (by decide) z_min hr) td4
 have ji2:Cal l.prog w K mg base (3) "is_in_lanes" ["lanes", "shift", "stroke"] vb3:=vc0 jfl jib jia sc_q27 (by rintro _ _ _ ⟨_,_,_,_,_,rfl,_⟩; rfl) (k:=2) (λ cdv A outer s H E hr=>xz3 jf4 (by decide) hr) ye4
 have ji3:Cal l.prog w K mg base (19) "is_drawn" ["word", "stroke"] wb3:=vc0 jfi jh5 jh4 sc_q26 (by rintro _ _ _ ⟨_,_,rfl,_⟩; rfl) (k:=18) (λ cdv A outer s H E hr=>yz3 jf3 (by decide) ji2 (by decide) ji1 (by decide) hr) ze4
 have ji4:Cal l.prog w K mg base (20) "ever_drawn" ["word", "stroke"] spEd:=vc0 jfh jh3 jh2 tu3 (by rintro _ _ _ ⟨_,_,rfl,_⟩; rfl) (k:=19) (λ cdv A outer s H E hr=>wz3 jf2 (by decide) jit (by decide) ji3 (by decide) hr) ve4
 have h_q9:Cal l.prog w K mg base (1) "_law_state" ["script", "k"] sw0:=vc0 F_q9 m_q9 b_q9 sc_q9 (by rintro _ _ _ ⟨_,_,rfl,_⟩; rfl) (k:=0) (λ cdv A outer s H E hr=>us4 z_len hr) wu4
 have jdj:Cal l.prog w K mg base (1) "_law_take" ["state", "many"] zq0:=vc0 jfm jid jic sc_q10 (by rintro _ _ _ ⟨_,_,_,_,rfl,_⟩; rfl) (k:=0) (λ cdv A outer s H E hr=>yb4 hr) zg4
 have ja0:∀ j,Cal l.prog w K mg base (2 * j + 1) "_law_deed" ["state", "deep"] (spLd j)->Cal l.prog w K mg base (2 * j + 1 + 1) "_law_deeds" ["state", "deep", "many"] (tj2 j):=λ j ih=>vc0 F_q1 m_q1 b_q1 ws4 (by rintro _ _ _ ⟨_,_,_,rfl,_⟩; rfl) (k:=2 * j + 1) (λ cdv A outer s H E hr=>ut4 ih (Nat.le_refl _) z_range z_tuple hr) (wv4 j)
 have jf5:∀ j,Cal l.prog w K mg base (2 * j + 1) "_law_deed" ["state", "deep"] (spLd j):=λ j=>by
  induction j with
  | zero=>exact (wj0 F_q0 m_q0 b_q0 (by intro ds μ Q h; first | (obtain ⟨_,_,h⟩:=h; omega) | (obtain ⟨_,_,_,h⟩:=h; omega) | (obtain ⟨_,_,_,_,h⟩:=h; omega))).mono (by omega)
  | succ j ih=>exact (vc0 F_q0 m_q0 b_q0 sc_q0 (by rintro _ _ _ ⟨_,_,rfl,_⟩; rfl) (k:=2 * j + 1 + 1) (λ cdv A outer s H E hr=>tt4 (ja0 j ih) (Nat.le_refl _) jdj (by omega) z_int hr) (vv4 j)).mono (by omega)
 have h_q0:=jf5 2
 have h_q1:=ja0 2 h_q0
 have jf6:∀ j,Cal l.prog w K mg base (j + 0) "_law_rolled_out" ["deeds"] (spRo j):=λ j=>by
  induction j with
  | zero=>exact (wj0 F_q6 m_q6 b_q6 (by intro ds μ Q h; first | (obtain ⟨_,_,h⟩:=h; omega) | (obtain ⟨_,_,_,h⟩:=h; omega) | (obtain ⟨_,_,_,_,h⟩:=h; omega) | (obtain ⟨_,_,_,_,_,_,_,_,h⟩:=h; omega) | (obtain ⟨_,_,_,_,_,_,_,h,_⟩:=h; split at h <;> omega))).mono (by omega)
  | succ j ih=>exact (vc0 F_q6 m_q6 b_q6 sc_q6 (by rintro _ _ _ ⟨_,rfl,_⟩; rfl) (k:=j + 0) (λ cdv A outer s H E hr=>xt4 ih (Nat.le_refl _) z_range hr) (tu4 j)).mono (by omega)
 have h_q6:=jf6 5
 have h_q7:Cal l.prog w K mg base (6) "_law_run" ["deeds", "pen"] uj2:=vc0 F_q7 m_q7 b_q7 sc_q7 (by rintro _ _ _ ⟨_,_,rfl,_⟩; rfl) (k:=5) (λ cdv A outer s H E hr=>ss4 h_q6 (by decide) z_min z_range hr) uu4
 have h_q3:Cal l.prog w K mg base (6) "_law_gone" ["deeds"] sw1:=vc0 F_q3 m_q3 b_q3 zs4 (by rintro _ _ _ ⟨_,rfl,_⟩; rfl) (k:=5) (λ cdv A outer s H E hr=>wt4 h_q6 (by decide) z_abs z_sum hr) yv4
 have h_q8:Cal l.prog w K mg base (7) "_law_short" ["state", "most"] zg1:=vc0 F_q8 m_q8 b_q8 sc_q8 (by rintro _ _ _ ⟨_,_,rfl,_⟩; rfl) (k:=6) (λ cdv A outer s H E hr=>ts4 h_q1 (by decide) h_q3 (by decide) jdj (by decide) hr) vu4
 have h_q2:Cal l.prog w K mg base (7) "_law_ever" ["deeds"] xx1:=vc0 F_q2 m_q2 b_q2 sc_q2 (by rintro _ _ _ ⟨_,rfl,_⟩; rfl) (k:=6) (λ cdv A outer s H E hr=>vt4 h_q7 (by decide) z_set z_sorted z_tuple hr) zv4
 have h_q4:Cal l.prog w K mg base (1) "_law_in" ["told", "line"] spIn:=vc0 F_q4 m_q4 b_q4 sc_q4 (by rintro _ _ _ ⟨_,_,_,rfl,_⟩; rfl) (k:=0) (λ cdv A outer s H E hr=>zt4 z_abs z_int hr) xv4
 have ji5:Cal l.prog w K mg base (1) "_law_whole" ["found"] tw0:=vc0 jfn jif jie yw3 (by rintro _ _ _ ⟨_,rfl,_⟩; rfl) (k:=0) (λ cdv A outer s H E hr=>xb4 z_bool z_int z_isinstance hr) yg4
 have h_q5:Cal l.prog w K mg base (2) "_law_is_told" ["found", "due"] zb3:=vc0 F_q5 m_q5 b_q5 sc_q5 (by rintro _ _ _ ⟨_,_,rfl,_⟩; rfl) (k:=1) (λ cdv A outer s H E hr=>yt4 ji5 (by decide) z_all z_isinstance z_tuple hr) su4
 exact we2 jfu sc_q31 (by rintro _ _ _ ⟨_,rfl,_⟩; rfl) (k:=20) (λ cdv A outer s H E hr=>vy3 h_q2 (by decide) h_q4 (by decide) h_q5 (by decide) h_q8 (by decide) h_q9 (by decide) jdj (by decide) ji4 (by decide) ji0 (by decide) z_bool z_isinstance z_len z_range hr) ud4
theorem walk {l:PySem.W.OpenLaw} {q:Program} {loose:List Str} {XP:(Str->Option Value)->Heap->Prop} {YP:World->Heap->Prop} {d:DefRec} {K:Params->Fg} (hn:l.most=some 63) (hdf:d.params.defaults=[])
    (hY:∀ (w:World) (h:Heap),YP w h->(K w.params).In h)
    (F:∀ (w:World) (mg:Str->Option Value) (fa:Addr) (h:Heap),(K w.params).In h->h.Ns mainGlobals mg->mg d.name=some (.ref fa) ->
     ∃ fd:FuncData,(∀ (s:Shared) (u:Value),BindsTo s fd ⟨[u],[]⟩ [("script",u)]) /\ ∀ base:Heap,(K w.params).In base->base.Ns mainGlobals mg->FnOk l.prog w (K w.params) mg base CX0 21 fa fd ["script"] (lift (K w.params) sj2)) :
    PySem.W.WalkO q loose XP YP l.row.toRowW d [] (λ f vs=>PySem.call f vs) :=
 L2.walk_of (n:=63) (k:=21) (x := "script") (CX:=λ _=>CX0) (sp:=λ w=>lift (K w.params) sj2) hn (by decide) hdf ⟨rfl,by decide,by decide⟩ hY F (λ _ _ a ns hl hO hS=>xp2 hO hS ⟨ns,rfl,hl,λ _=>rfl⟩) λ _ _ _ _ _ z=>z
end Pv
open PySem PySem.W PyProof.Rows
set_option maxRecDepth 100000 in
set_option maxHeartbeats 0 in
theorem PySem.Challenge.cw_penwright_k49_what_is_drawn_for_ever_holds : PySem.Challenge.rw_penwright_k49_what_is_drawn_for_ever.Holds := by
 w_on
 refine PySem.W.holds_law Pv.h_said λ said=>?_
 refine PySem.W.holds_open (YP:=PySem.W.Hook.says (kHook Pv.KK Pv.KA Pv.ke)) Pv.h_left (PySem.W.Hook.of (kHook Pv.KK Pv.KA Pv.ke)) (PySem.W.Hook.keeps (kHook Pv.KK Pv.KA Pv.ke)) (λ s e=>PySem.W.xl_of s (Bool.and_eq_true_iff.mp e).1) PySem.W.XL.keeps (by rfl) (by rfl) (by rfl) (λ s e=>PySem.W.recFacts_of (Bool.and_eq_true_iff.mp e).2) (by rfl) said (by decide +kernel) ⟨rfl,rfl,rfl,rfl,rfl,by decide +kernel⟩ ?hw ?hc
 case hw=>w_witness2
 k_fill
 refine Pv.walk (l:=PySem.Challenge.rw_penwright_k49_what_is_drawn_for_ever) rfl rfl (λ w h Y=>PySem.W.kIn_of Y) ?F
 case F =>
  intro w mg fa h KX G hmg
  refine' Pv.all_mk KX G hmg ?ja3 ?ja4 ?ja5 ?ja6 ?ja7 ?ja8 ?ja9 ?jba ?jbb ?jbc ?jbd ?jbe ?jbf ?jbg ?jbh ?jbi ?jbj ?jbk ?jbl ?jbm ?jbn ?jbo ?jbp ?jbq ?jbr ?jbs ?jbt ?jbu ?jbv ?jbw ?jbx ?jby ?jbz ?jb0 ?jb1 ?jb2 ?jb3 ?jb4 ?jb5 ?jb6 ?jb7 ?jb8 ?jb9 ?jca ?jcb ?jcc ?jcd ?jce ?jcf ?jcg ?jch ?jci ?jcj ?jck ?jcl ?jcm ?jcn ?jco ?jcp ?jcq ?jcr ?jcs ?jct ?jcu ?jcv ?jcw ?a_q9 ?A_q9 ?jcx ?jcy ?jcz ?jc0 ?a_q0 ?A_q0 ?a_q1 ?A_q1 ?a_q6 ?A_q6 ?a_q7 ?A_q7 ?a_q8 ?A_q8 ?a_q3 ?A_q3 ?a_q2 ?A_q2 ?a_q4 ?A_q4 ?a_q5 ?A_q5 ?ja1 ?jc1 ?jag ?jah ?jab ?jac ?jad ?ql_5 ?jaa ?ql_9 ?jal ?jc2 ?jam ?jc3 ?jc4 ?jc5 ?jc6 ?jc7 ?jas ?jc8 ?jae ?jat ?jau ?jan ?jav ?jaf ?jaw ?jax ?jaj ?jay ?jai ?jaz ?jak
  (case jag | jah | jab | jac | jad | ql_5 | jaa | ql_9 | jal | jc2 | jam | jc3 | jc4 | jc5 | jc6 | jc7 | jas | jc8 | jae | jat | jau | jan | jav | jaf | jaw | jax | jaj | jay | jai | jaz | jak=>k_is)
  (case ja3 | ja5 | ja7 | ja9 | jbb | jbd | jbf | jbh | jbj | jbl | jbn | jbp | jbr | jbt | jbv | jbx | jbz | jb1 | jb3 | jb5 | jb7 | jb9 | jcb | jcd | jcf | jch | jcj | jcl | jcn | jcp | jcr | jct | jcv | a_q9 | jcx | jcz | a_q0 | a_q1 | a_q6 | a_q7 | a_q8 | a_q3 | a_q2 | a_q4 | a_q5 | ja1=>(show _=_; k_is))
  (case ja4 | ja6 | ja8 | jba | jbc | jbe | jbg | jbi | jbk | jbm | jbo | jbq | jbs | jbu | jbw | jby | jb0 | jb2 | jb4 | jb6 | jb8 | jca | jcc | jce | jcg | jci | jck | jcm | jco | jcq | jcs | jcu | jcw | A_q9 | jcy | jc0 | A_q0 | A_q1 | A_q6 | A_q7 | A_q8 | A_q3 | A_q2 | A_q4 | A_q5 | jc1=>(refine' Pv.fnA_mk ?l ?c ?k; (case l=>k_is); (case c=>k_is); (case k=>k_is)))
