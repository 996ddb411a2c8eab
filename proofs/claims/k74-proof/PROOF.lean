import PyProof.Rows.All
import Wide.All
import OpenK.AllK
import Wide.FinOn
import Lean
import PyProof.EqAt
import PyProof.EqKinds
import PyProof.TupleCall
import PyProof.P3Statements
import KE.KIntText
import KE.KRevIter
import KE.KIsAll
import PyProof.ExcAttrAll.ValueError
import PySem.Challenge.RW_penwright_k74_rows_of_steps
set_option Elab.async false
set_option linter.all false
set_option maxRecDepth 100000
set_option maxHeartbeats 4000000
namespace L2
open PySem PySem.Spec PyProof.Rows
noncomputable def up0 (s:Stmt):Arguments:=match s with
 | .FunctionDef _ a _ _ _ _ _ _ _ _=>a
 | _=>{ posonlyargs:=[],args:=[],vararg:=none,kwonlyargs:=[],kw_defaults:=[],kwarg:=none,defaults:=[] }
noncomputable def wc0 (s:Stmt):List Stmt:=match s with
 | .FunctionDef _ _ b _ _ _ _ _ _ _=>b
 | _=>[]
noncomputable def ta0 (s:Stmt):Scope:=match s with
 | .FunctionDef _ _ _ _ _ _ sc _ _ _=>sc
 | _=>{ kind:=.function,names:=[],isGenerator:=false,isCoroutine:=false }
end L2
namespace Pv
open PySem PySem.Spec PyProof.Rows L2
noncomputable def top (i:Nat):Stmt:=PySem.Challenge.pw_penwright_k74_rows_of_steps.main.body.getD i (.Pass ⟨0,0,0,0⟩)
noncomputable abbrev xo1:Stmt:=top 14
noncomputable abbrev sn1:Stmt:=top 15
noncomputable abbrev tn1:Stmt:=top 16
noncomputable abbrev yo1:Stmt:=top 17
noncomputable abbrev ym1:Stmt:=top 21
noncomputable abbrev xn1:Stmt:=top 22
noncomputable abbrev xm1:Stmt:=top 23
noncomputable abbrev zo1:Stmt:=top 24
noncomputable abbrev vn1:Stmt:=top 25
noncomputable abbrev yn1:Stmt:=top 26
noncomputable abbrev tm1:Stmt:=top 27
noncomputable abbrev wm1:Stmt:=top 28
noncomputable abbrev um1:Stmt:=top 29
noncomputable abbrev zm1:Stmt:=top 30
noncomputable abbrev sm1:Stmt:=top 31
noncomputable abbrev vm1:Stmt:=top 32
noncomputable abbrev un1:Stmt:=top 33
noncomputable abbrev wn1:Stmt:=top 34
noncomputable abbrev zn1:Stmt:=top 35
noncomputable abbrev wo1:Stmt:=top 37
noncomputable abbrev s_q9:Stmt:=top 39
noncomputable abbrev so1:Stmt:=top 40
noncomputable abbrev s_q2:Stmt:=top 41
noncomputable abbrev s_q3:Stmt:=top 42
noncomputable abbrev s_q6:Stmt:=top 43
noncomputable abbrev s_q1:Stmt:=top 44
noncomputable abbrev s_q0:Stmt:=top 45
noncomputable abbrev s_q8:Stmt:=top 46
noncomputable abbrev s_q5:Stmt:=top 47
noncomputable abbrev uo1:Stmt:=top 48
noncomputable abbrev xp1:Stmt:=top 49
noncomputable abbrev s_q7:Stmt:=top 50
noncomputable abbrev vo1:Stmt:=top 51
noncomputable abbrev to1:Stmt:=top 52
noncomputable abbrev s_q4:Stmt:=top 53
noncomputable abbrev zy0:Stmt:=top 54
noncomputable abbrev vb:Value:=.bool true
noncomputable abbrev vi:Value:=.int 181 0
noncomputable def en (P:Params) (x:Str) (t:Tok) (v:Value):DictEntry:=⟨PyData.keyHash P x,.str x t,v⟩
noncomputable def fo (x y:Str) (st:Stmt) (m c:Value):Obj:=⟨.type "function",none,.func (PySem.W.fnOf x y (up0 st) (wc0 st) (ta0 st) .none .none .none m none c .none),#[]⟩
noncomputable def co (x:Str) (a:Tok) (y:Str) (b c:Tok) (ns:List Int) (vs:List Value) (d e:Int) (f:Tok):Obj:=⟨.type "code",none,.fields (.str x a :: .str y b :: .str "/claim/cut.py" c :: (ns.map (λ n=>Value.int n 0) ++ (vs ++ [.int d 0,.int e 0,.str "/claim/cut.py" f]))).toArray,#[]⟩
noncomputable def tO (vs:List Value):Obj:=⟨.type "tuple",none,.seq vs.toArray 0,#[]⟩
noncomputable def KK:PySem.Params->PySem.W.Frag:=λ P=>(nat_lit 2,⟨.none,none,.dict #[] 0,#[]⟩) :: (nat_lit 3,⟨.type "dict",none,.dict #[en P "__name__" 165 (.str "law_penwright_k74_rows_of_steps" 541),en P "__doc__" 166 (.none),en P "__package__" 167 (.none),en P "__loader__" 168 (.builtin "__main__.__loader__#opaque"),en P "__spec__" 169 (.none),en P "__annotations__" 170 (.ref 6),en P "__builtins__" 171 (.ref 4),en P "__file__" 173 (.str "/claim/cut.py" 172),en P "__cached__" 174 (.none),en P "PenError" 206 (.ref 24),en P "NoWord" 222 (.ref 37),en P "NoPicture" 238 (.ref 49),en P "NoRoom" 254 (.ref 61),en P "NoStep" 270 (.ref 73),en P "NoNumber" 286 (.ref 85),en P "BadNote" 302 (.ref 97),en P "MOST_DEEDS" 306 (.int 30 305),en P "MOST_DEEP" 308 (.int 4 307),en P "GREATEST_NUMBER" 310 (.int 99999999999999999999 309),en P "PLAIN_KINDS" 314 (.ref 100),en P "KINDS_FROM_NOUGHT" 317 (.ref 101),en P "check_word" 324 (.ref 108),en P "checked_count" 334 (.ref 115),en P "checked_deed_count" 342 (.ref 122),en P "check_number" 350 (.ref 129),en P "DEEDS_TAKEN" 374 (.ref 130),en P "KINDS_WITH_NEED" 378 (.ref 131),en P "walked" 388 (.ref 138),en P "holds" 397 (.ref 145),en P "word_behind" 406 (.ref 152),en P "changed_word" 417 (.ref 159),en P "deeds_from" 426 (.ref 166),en P "exchanged" 436 (.ref 173),en P "join_deeds" 446 (.ref 180),en P "part_deed" 456 (.ref 187),en P "leave_out" 464 (.ref 194),en P "put_in" 472 (.ref 201),en P "is_idle" 479 (.ref 208),en P "open_times" 487 (.ref 215),en P "close_deeds" 495 (.ref 222),en P "draw_once" 503 (.ref 229),en P "draw_twice" 512 (.ref 236),en P "CHANGES" 529 (.ref 237),en P "changed_deeds" 540 (.ref 244),en P "_law_state" 551 (.ref 251),en P "_law_take" 561 (.ref 258),en P "_law_deed" 570 (.ref 265),en P "_law_deeds" 581 (.ref 272),en P "_law_idle" 588 (.ref 279),en P "_law_change" 601 (.ref 286),en P "_law_after" 612 (.ref 293),en P "_law_size" 622 (.ref 300),en P "_law_fits" 632 (.ref 307),en P "_law_way" 638 (.ref 312),en P "_law_step" 653 (.ref 319),en P "_law_idle_one" 661 (.ref 326),en P "_law_which" 669 (.ref 333),en P "_law_told" 679 (.ref 340),en P "_law_end" 688 (.ref 347),en P "law" 708 (.ref 354)] 60,#[]⟩) :: (nat_lit 15,tO [.type "ValueError"]) :: (nat_lit 22,tO []) :: (nat_lit 23,⟨.type "dict",none,.dict #[en P "__module__" 196 (.str "penwright.errors" 187),en P "__firstlineno__" 200 (.int 2 199),en P "__static_attributes__" 201 (.ref 22),en P "__weakref__" 203 (.ref 25),en P "__doc__" 204 (.none)] 3,#[]⟩) :: (nat_lit 24,⟨.type "type",none,.cls ⟨"PenError",[.type "ValueError"],[.ref 24,.type "ValueError",.type "Exception",.type "BaseException",.type "object"],23, "PenError",true,[],[.ref 37,.ref 49,.ref 61,.ref 73,.ref 85,.ref 97],false,none,false⟩,#[some (.ref 15),none,some (.str "PenError" 189),some (.str "PenError" 197),some (.builtin "ValueError.__new__"),some (.bool true)]⟩) :: (nat_lit 25,⟨.type "getset_descriptor",none,.fields #[.str "__weakref__" 202,.ref 24,.builtin "ExceptionGroup.__weakref__",.none],#[]⟩) :: (nat_lit 28,tO [.ref 24]) :: (nat_lit 35,tO []) :: (nat_lit 36,⟨.type "dict",none,.dict #[en P "__module__" 214 (.str "penwright.errors" 187),en P "__firstlineno__" 218 (.int 4 217),en P "__static_attributes__" 219 (.ref 35),en P "__doc__" 220 (.none)] 2,#[]⟩) :: (nat_lit 37,⟨.type "type",none,.cls ⟨"NoWord",[.ref 24],[.ref 37,.ref 24,.type "ValueError",.type "Exception",.type "BaseException",.type "object"],36, "NoWord",true,[],[],false,none,false⟩,#[some (.ref 28),none,some (.str "NoWord" 207),some (.str "NoWord" 215),some (.builtin "ValueError.__new__"),some (.bool true)]⟩) :: (nat_lit 40,tO [.ref 24]) :: (nat_lit 47,tO []) :: (nat_lit 48,⟨.type "dict",none,.dict #[en P "__module__" 230 (.str "penwright.errors" 187),en P "__firstlineno__" 234 (.int 6 233),en P "__static_attributes__" 235 (.ref 47),en P "__doc__" 236 (.none)] 2,#[]⟩) :: (nat_lit 49,⟨.type "type",none,.cls ⟨"NoPicture",[.ref 24],[.ref 49,.ref 24,.type "ValueError",.type "Exception",.type "BaseException",.type "object"],48, "NoPicture",true,[],[],false,none,false⟩,#[some (.ref 40),none,some (.str "NoPicture" 223),some (.str "NoPicture" 231),some (.builtin "ValueError.__new__"),some (.bool true)]⟩) :: (nat_lit 52,tO [.ref 24]) :: (nat_lit 59,tO []) :: (nat_lit 60,⟨.type "dict",none,.dict #[en P "__module__" 246 (.str "penwright.errors" 187),en P "__firstlineno__" 250 (.int 8 249),en P "__static_attributes__" 251 (.ref 59),en P "__doc__" 252 (.none)] 2,#[]⟩) :: (nat_lit 61,⟨.type "type",none,.cls ⟨"NoRoom",[.ref 24],[.ref 61,.ref 24,.type "ValueError",.type "Exception",.type "BaseException",.type "object"],60, "NoRoom",true,[],[],false,none,false⟩,#[some (.ref 52),none,some (.str "NoRoom" 239),some (.str "NoRoom" 247),some (.builtin "ValueError.__new__"),some (.bool true)]⟩) :: (nat_lit 64,tO [.ref 24]) :: (nat_lit 71,tO []) :: (nat_lit 72,⟨.type "dict",none,.dict #[en P "__module__" 262 (.str "penwright.errors" 187),en P "__firstlineno__" 266 (.int 10 265),en P "__static_attributes__" 267 (.ref 71),en P "__doc__" 268 (.none)] 2,#[]⟩) :: (nat_lit 73,⟨.type "type",none,.cls ⟨"NoStep",[.ref 24],[.ref 73,.ref 24,.type "ValueError",.type "Exception",.type "BaseException",.type "object"],72, "NoStep",true,[],[],false,none,false⟩,#[some (.ref 64),none,some (.str "NoStep" 255),some (.str "NoStep" 263),some (.builtin "ValueError.__new__"),some (.bool true)]⟩) :: (nat_lit 76,tO [.ref 24]) :: (nat_lit 83,tO []) :: (nat_lit 84,⟨.type "dict",none,.dict #[en P "__module__" 278 (.str "penwright.errors" 187),en P "__firstlineno__" 282 (.int 12 281),en P "__static_attributes__" 283 (.ref 83),en P "__doc__" 284 (.none)] 2,#[]⟩) :: (nat_lit 85,⟨.type "type",none,.cls ⟨"NoNumber",[.ref 24],[.ref 85,.ref 24,.type "ValueError",.type "Exception",.type "BaseException",.type "object"],84, "NoNumber",true,[],[],false,none,false⟩,#[some (.ref 76),none,some (.str "NoNumber" 271),some (.str "NoNumber" 279),some (.builtin "ValueError.__new__"),some (.bool true)]⟩) :: (nat_lit 88,tO [.ref 24]) :: (nat_lit 95,tO []) :: (nat_lit 96,⟨.type "dict",none,.dict #[en P "__module__" 294 (.str "penwright.errors" 187),en P "__firstlineno__" 298 (.int 14 297),en P "__static_attributes__" 299 (.ref 95),en P "__doc__" 300 (.none)] 2,#[]⟩) :: (nat_lit 97,⟨.type "type",none,.cls ⟨"BadNote",[.ref 24],[.ref 97,.ref 24,.type "ValueError",.type "Exception",.type "BaseException",.type "object"],96, "BadNote",true,[],[],false,none,false⟩,#[some (.ref 88),none,some (.str "BadNote" 287),some (.str "BadNote" 295),some (.builtin "ValueError.__new__"),some (.bool true)]⟩) :: (nat_lit 100,tO [.str "go" 311,.str "jump" 312,.str "turn" 313]) :: (nat_lit 101,tO [.str "go" 315,.str "times" 316]) :: (nat_lit 107,co "check_word" 318 "check_word" 319 320 [22,1,0,0,3] [.ref 102,vb,vi,.ref 103,.none,.ref 104,.ref 105,.ref 106] 322 22 323) :: (nat_lit 108,fo "check_word" "check_word" xo1 (.str "penwright.words" 303) (.ref 107)) :: (nat_lit 114,co "checked_count" 325 "checked_count" 326 327 [24,2,0,0,3] [.ref 109,vb,vi,.ref 110,.none,.ref 111,.ref 112,.ref 113] 332 24 333) :: (nat_lit 115,fo "checked_count" "checked_count" sn1 (.str "penwright.words" 303) (.ref 114)) :: (nat_lit 121,co "checked_deed_count" 335 "checked_deed_count" 336 337 [35,2,0,0,3] [.ref 116,vb,vi,.ref 117,.none,.ref 118,.ref 119,.ref 120] 340 35 341) :: (nat_lit 122,fo "checked_deed_count" "checked_deed_count" tn1 (.str "penwright.words" 303) (.ref 121)) :: (nat_lit 128,co "check_number" 343 "check_number" 344 345 [45,2,0,0,3] [.ref 123,vb,vi,.ref 124,.none,.ref 125,.ref 126,.ref 127] 348 45 349) :: (nat_lit 129,fo "check_number" "check_number" yo1 (.str "penwright.words" 303) (.ref 128)) :: (nat_lit 130,⟨.type "dict",none,.dict #[en P "join" 353 (.int 2 354),en P "part" 355 (.int 1 356),en P "out" 357 (.int 1 358),en P "in" 359 (.int 0 360),en P "open" 361 (.int 1 362),en P "once" 363 (.int 3 364),en P "twice" 365 (.int 1 366)] 7,#[]⟩) :: (nat_lit 131,tO [.str "part" 375,.str "in" 376,.str "close" 377]) :: (nat_lit 137,co "walked" 379 "walked" 380 381 [55,2,0,0,3] [.ref 132,vb,vi,.ref 133,.none,.ref 134,.ref 135,.ref 136] 386 55 387) :: (nat_lit 138,fo "walked" "walked" ym1 (.str "penwright.steps" 351) (.ref 137)) :: (nat_lit 144,co "holds" 389 "holds" 390 391 [61,3,0,0,3] [.ref 139,vb,vi,.ref 140,.none,.ref 141,.ref 142,.ref 143] 395 61 396) :: (nat_lit 145,fo "holds" "holds" xn1 (.str "penwright.steps" 351) (.ref 144)) :: (nat_lit 151,co "word_behind" 398 "word_behind" 399 400 [68,2,0,0,3] [.ref 146,vb,vi,.ref 147,.none,.ref 148,.ref 149,.ref 150] 404 68 405) :: (nat_lit 152,fo "word_behind" "word_behind" xm1 (.str "penwright.steps" 351) (.ref 151)) :: (nat_lit 158,co "changed_word" 407 "changed_word" 408 409 [77,3,0,0,3] [.ref 153,vb,vi,.ref 154,.none,.ref 155,.ref 156,.ref 157] 415 77 416) :: (nat_lit 159,fo "changed_word" "changed_word" zo1 (.str "penwright.steps" 351) (.ref 158)) :: (nat_lit 165,co "deeds_from" 418 "deeds_from" 419 420 [85,3,0,0,3] [.ref 160,vb,vi,.ref 161,.none,.ref 162,.ref 163,.ref 164] 424 85 425) :: (nat_lit 166,fo "deeds_from" "deeds_from" vn1 (.str "penwright.steps" 351) (.ref 165)) :: (nat_lit 172,co "exchanged" 427 "exchanged" 428 429 [89,4,0,0,3] [.ref 167,vb,vi,.ref 168,.none,.ref 169,.ref 170,.ref 171] 434 89 435) :: (nat_lit 173,fo "exchanged" "exchanged" yn1 (.str "penwright.steps" 351) (.ref 172)) :: (nat_lit 179,co "join_deeds" 437 "join_deeds" 438 439 [91,2,0,0,3] [.ref 174,vb,vi,.ref 175,.none,.ref 176,.ref 177,.ref 178] 444 91 445) :: (nat_lit 180,fo "join_deeds" "join_deeds" tm1 (.str "penwright.steps" 351) (.ref 179)) :: (nat_lit 186,co "part_deed" 447 "part_deed" 448 449 [97,2,0,0,3] [.ref 181,vb,vi,.ref 182,.none,.ref 183,.ref 184,.ref 185] 454 97 455) :: (nat_lit 187,fo "part_deed" "part_deed" wm1 (.str "penwright.steps" 351) (.ref 186)) :: (nat_lit 193,co "leave_out" 457 "leave_out" 458 459 [103,2,0,0,3] [.ref 188,vb,vi,.ref 189,.none,.ref 190,.ref 191,.ref 192] 462 103 463) :: (nat_lit 194,fo "leave_out" "leave_out" um1 (.str "penwright.steps" 351) (.ref 193)) :: (nat_lit 200,co "put_in" 465 "put_in" 466 467 [107,2,0,0,3] [.ref 195,vb,vi,.ref 196,.none,.ref 197,.ref 198,.ref 199] 470 107 471) :: (nat_lit 201,fo "put_in" "put_in" zm1 (.str "penwright.steps" 351) (.ref 200)) :: (nat_lit 207,co "is_idle" 473 "is_idle" 474 475 [111,1,0,0,3] [.ref 202,vb,vi,.ref 203,.none,.ref 204,.ref 205,.ref 206] 477 111 478) :: (nat_lit 208,fo "is_idle" "is_idle" sm1 (.str "penwright.steps" 351) (.ref 207)) :: (nat_lit 214,co "open_times" 480 "open_times" 481 482 [119,2,0,0,3] [.ref 209,vb,vi,.ref 210,.none,.ref 211,.ref 212,.ref 213] 485 119 486) :: (nat_lit 215,fo "open_times" "open_times" vm1 (.str "penwright.steps" 351) (.ref 214)) :: (nat_lit 221,co "close_deeds" 488 "close_deeds" 489 490 [123,2,0,0,3] [.ref 216,vb,vi,.ref 217,.none,.ref 218,.ref 219,.ref 220] 493 123 494) :: (nat_lit 222,fo "close_deeds" "close_deeds" un1 (.str "penwright.steps" 351) (.ref 221)) :: (nat_lit 228,co "draw_once" 496 "draw_once" 497 498 [125,2,0,0,3] [.ref 223,vb,vi,.ref 224,.none,.ref 225,.ref 226,.ref 227] 501 125 502) :: (nat_lit 229,fo "draw_once" "draw_once" wn1 (.str "penwright.steps" 351) (.ref 228)) :: (nat_lit 235,co "draw_twice" 504 "draw_twice" 505 506 [129,2,0,0,3] [.ref 230,vb,vi,.ref 231,.none,.ref 232,.ref 233,.ref 234] 510 129 511) :: (nat_lit 236,fo "draw_twice" "draw_twice" zn1 (.str "penwright.steps" 351) (.ref 235)) :: (nat_lit 237,⟨.type "dict",none,.dict #[en P "join" 513 (.ref 180),en P "part" 514 (.ref 187),en P "out" 515 (.ref 194),en P "in" 516 (.ref 201),en P "open" 517 (.ref 215),en P "close" 518 (.ref 222),en P "once" 519 (.ref 229),en P "twice" 520 (.ref 236)] 8,#[]⟩) :: (nat_lit 243,co "changed_deeds" 530 "changed_deeds" 531 532 [135,2,0,0,3] [.ref 238,vb,vi,.ref 239,.none,.ref 240,.ref 241,.ref 242] 538 135 539) :: (nat_lit 244,fo "changed_deeds" "changed_deeds" wo1 (.str "penwright.steps" 351) (.ref 243)) :: (nat_lit 250,co "_law_state" 543 "_law_state" 544 545 [143,2,0,0,3] [.ref 245,vb,vi,.ref 246,.none,.ref 247,.ref 248,.ref 249] 549 143 550) :: (nat_lit 251,fo "_law_state" "_law_state" s_q9 (.str "law_penwright_k74_rows_of_steps" 541) (.ref 250)) :: (nat_lit 257,co "_law_take" 552 "_law_take" 553 554 [150,2,0,0,3] [.ref 252,vb,vi,.ref 253,.none,.ref 254,.ref 255,.ref 256] 559 150 560) :: (nat_lit 258,fo "_law_take" "_law_take" so1 (.str "law_penwright_k74_rows_of_steps" 541) (.ref 257)) :: (nat_lit 264,co "_law_deed" 562 "_law_deed" 563 564 [160,2,0,0,3] [.ref 259,vb,vi,.ref 260,.none,.ref 261,.ref 262,.ref 263] 568 160 569) :: (nat_lit 265,fo "_law_deed" "_law_deed" s_q2 (.str "law_penwright_k74_rows_of_steps" 541) (.ref 264)) :: (nat_lit 271,co "_law_deeds" 571 "_law_deeds" 572 573 [169,3,0,0,3] [.ref 266,vb,vi,.ref 267,.none,.ref 268,.ref 269,.ref 270] 579 169 580) :: (nat_lit 272,fo "_law_deeds" "_law_deeds" s_q3 (.str "law_penwright_k74_rows_of_steps" 541) (.ref 271)) :: (nat_lit 278,co "_law_idle" 582 "_law_idle" 583 584 [179,1,0,0,3] [.ref 273,vb,vi,.ref 274,.none,.ref 275,.ref 276,.ref 277] 586 179 587) :: (nat_lit 279,fo "_law_idle" "_law_idle" s_q6 (.str "law_penwright_k74_rows_of_steps" 541) (.ref 278)) :: (nat_lit 285,co "_law_change" 589 "_law_change" 590 591 [183,3,0,0,3] [.ref 280,vb,vi,.ref 281,.none,.ref 282,.ref 283,.ref 284] 599 183 600) :: (nat_lit 286,fo "_law_change" "_law_change" s_q1 (.str "law_penwright_k74_rows_of_steps" 541) (.ref 285)) :: (nat_lit 292,co "_law_after" 602 "_law_after" 603 604 [211,2,0,0,3] [.ref 287,vb,vi,.ref 288,.none,.ref 289,.ref 290,.ref 291] 610 211 611) :: (nat_lit 293,fo "_law_after" "_law_after" s_q0 (.str "law_penwright_k74_rows_of_steps" 541) (.ref 292)) :: (nat_lit 299,co "_law_size" 613 "_law_size" 614 615 [227,1,0,0,3] [.ref 294,vb,vi,.ref 295,.none,.ref 296,.ref 297,.ref 298] 620 227 621) :: (nat_lit 300,fo "_law_size" "_law_size" s_q8 (.str "law_penwright_k74_rows_of_steps" 541) (.ref 299)) :: (nat_lit 306,co "_law_fits" 623 "_law_fits" 624 625 [236,1,0,0,3] [.ref 301,vb,vi,.ref 302,.none,.ref 303,.ref 304,.ref 305] 630 236 631) :: (nat_lit 307,fo "_law_fits" "_law_fits" s_q5 (.str "law_penwright_k74_rows_of_steps" 541) (.ref 306)) :: (nat_lit 311,co "_law_way" 633 "_law_way" 634 635 [242,2,0,0,3] [.ref 308,vb,vi,.ref 309,.none,.none,.none,.ref 310] 636 242 637) :: (nat_lit 312,fo "_law_way" "_law_way" uo1 (.str "law_penwright_k74_rows_of_steps" 541) (.ref 311)) :: (nat_lit 318,co "_law_step" 639 "_law_step" 640 641 [249,2,0,0,3] [.ref 313,vb,vi,.ref 314,.none,.ref 315,.ref 316,.ref 317] 651 249 652) :: (nat_lit 319,fo "_law_step" "_law_step" xp1 (.str "law_penwright_k74_rows_of_steps" 541) (.ref 318)) :: (nat_lit 325,co "_law_idle_one" 654 "_law_idle_one" 655 656 [263,1,0,0,3] [.ref 320,vb,vi,.ref 321,.none,.ref 322,.ref 323,.ref 324] 659 263 660) :: (nat_lit 326,fo "_law_idle_one" "_law_idle_one" s_q7 (.str "law_penwright_k74_rows_of_steps" 541) (.ref 325)) :: (nat_lit 332,co "_law_which" 662 "_law_which" 663 664 [266,1,0,0,3] [.ref 327,vb,vi,.ref 328,.none,.ref 329,.ref 330,.ref 331] 667 266 668) :: (nat_lit 333,fo "_law_which" "_law_which" vo1 (.str "law_penwright_k74_rows_of_steps" 541) (.ref 332)) :: (nat_lit 339,co "_law_told" 670 "_law_told" 671 672 [269,2,0,0,3] [.ref 334,vb,vi,.ref 335,.none,.ref 336,.ref 337,.ref 338] 677 269 678) :: (nat_lit 340,fo "_law_told" "_law_told" to1 (.str "law_penwright_k74_rows_of_steps" 541) (.ref 339)) :: (nat_lit 346,co "_law_end" 680 "_law_end" 681 682 [276,2,0,0,3] [.ref 341,vb,vi,.ref 342,.none,.ref 343,.ref 344,.ref 345] 686 276 687) :: (nat_lit 347,fo "_law_end" "_law_end" s_q4 (.str "law_penwright_k74_rows_of_steps" 541) (.ref 346)) :: (nat_lit 353,co "law" 689 "law" 690 691 [282,1,0,0,3] [.ref 348,vb,vi,.ref 349,.none,.ref 350,.ref 351,.ref 352] 706 282 707) :: (nat_lit 354,fo "law" "law" zy0 (.str "law_penwright_k74_rows_of_steps" 541) (.ref 353)) :: []
noncomputable def KA:List Addr:=[2,3,15,22,23,24,25,28,35,36,37,40,47,48,49,52,59,60,61,64,71,72,73,76,83,84,85,88,95,96,97,100,101,107,108,114,115,121,122,128,129,130,131,137,138,144,145,151,152,158,159,165,166,172,173,179,180,186,187,193,194,200,201,207,208,214,215,221,222,228,229,235,236,237,243,244,250,251,257,258,264,265,271,272,278,279,285,286,292,293,299,300,306,307,311,312,318,319,325,326,332,333,339,340,346,347,353,354]
theorem ke:∀ P,KA=(KK P).map (·.1):=λ _=>by kernel_rfl
noncomputable def vw:Program:={ PySem.Challenge.pw_penwright_k74_rows_of_steps with main:={ PySem.Challenge.pw_penwright_k74_rows_of_steps.main with body:=[top 1,top 2,top 3,top 4,top 5,top 6,top 7,top 9,top 10,top 11,top 12,top 13,top 14,top 15,top 16,top 17,top 19,top 20,top 21,top 22,top 23,top 24,top 25,top 26,top 27,top 28,top 29,top 30,top 31,top 32,top 33,top 34,top 35,top 36,top 37,top 39,top 40,top 41,top 42,top 43,top 44,top 45,top 46,top 47,top 48,top 49,top 50,top 51,top 52,top 53,top 54] } }
theorem h_said:PySem.Challenge.rw_penwright_k74_rows_of_steps.wellSaid=true:=by kernel_rfl
noncomputable def yi2 (b:Bool) (p q:Program) (loose:List Str) (Xt:Shared->Bool) {α:Type} (Yf:Shared->α) (Ya:World->α) (N:Nat):Prop:=∀ w:World,(PySem.W.fencedOpening treeTable p w N).map (λ s₀=>(PySem.W.topFrom treeTable p (w.withFollow "special-get-raises" b) N s₀).map (λ s=>(PySem.W.openSeen q loose (importedModules p.main.body) Xt true s,Yf s)))=some (some (PySem.W.openGood q loose,Ya (w.withFollow "special-get-raises" b)))
theorem ud2 {p q:Program} {loose:List Str} {Xt:Shared->Bool} {α:Type} {Yf:Shared->α} {Ya:World->α} {N:Nat} (h0:yi2 false p q loose Xt Yf Ya N) (h1:yi2 true p q loose Xt Yf Ya N):PySem.W.LeftO p q loose Xt Yf Ya N:=PySem.W.LeftO.of_split "special-get-raises" λ w=>by
 obtain ⟨s,e,e0⟩:=Option.map_eq_some_iff.mp (h0 w)
 obtain ⟨s',e',e1⟩:=Option.map_eq_some_iff.mp (h1 w)
 rw [e] at e'
 cases e'
 rw [e]
 exact congrArg some (Prod.ext e0 e1)
theorem h_l0:yi2 false (PySem.W.OpenLaw.row PySem.Challenge.rw_penwright_k74_rows_of_steps).prog vw ["DEEDS_TAKEN", "CHANGES"] (λ s=>PySem.W.xlAt vw [] s && PySem.W.recOk (PySem.W.RowW.records (PySem.W.OpenRow.toRowW (PySem.W.OpenLaw.row PySem.Challenge.rw_penwright_k74_rows_of_steps))) s) (PySem.W.Hook.obs (PySem.W.kHook KK KA ke)) (PySem.W.Hook.val (PySem.W.kHook KK KA ke)) 6030:=by
 intro w
 delta PySem.W.openEnds PySem.W.fencedOpening PySem.W.topFrom
 rw [PySem.W.Fast.te14082659384304107361,PySem.W.Fast.te10274390034422433532,PySem.W.Fast.te14289696077712309145,PySem.W.Fast.te1435165496053646825,PySem.W.Fast.te14364793385576792824,PySem.W.Fast.te4187177175401517315]
 kernel_rfl
theorem h_l1:yi2 true (PySem.W.OpenLaw.row PySem.Challenge.rw_penwright_k74_rows_of_steps).prog vw ["DEEDS_TAKEN", "CHANGES"] (λ s=>PySem.W.xlAt vw [] s && PySem.W.recOk (PySem.W.RowW.records (PySem.W.OpenRow.toRowW (PySem.W.OpenLaw.row PySem.Challenge.rw_penwright_k74_rows_of_steps))) s) (PySem.W.Hook.obs (PySem.W.kHook KK KA ke)) (PySem.W.Hook.val (PySem.W.kHook KK KA ke)) 6030:=by
 intro w
 delta PySem.W.openEnds PySem.W.fencedOpening PySem.W.topFrom
 rw [PySem.W.Fast.te14082659384304107361,PySem.W.Fast.te10274390034422433532,PySem.W.Fast.te14289696077712309145,PySem.W.Fast.te1435165496053646825,PySem.W.Fast.te14364793385576792824,PySem.W.Fast.te4187177175401517315]
 kernel_rfl
theorem h_left:PySem.W.LeftO (PySem.W.OpenLaw.row PySem.Challenge.rw_penwright_k74_rows_of_steps).prog vw ["DEEDS_TAKEN", "CHANGES"] (λ s=>PySem.W.xlAt vw [] s && PySem.W.recOk (PySem.W.RowW.records (PySem.W.OpenRow.toRowW (PySem.W.OpenLaw.row PySem.Challenge.rw_penwright_k74_rows_of_steps))) s) (PySem.W.Hook.obs (PySem.W.kHook KK KA ke)) (PySem.W.Hook.val (PySem.W.kHook KK KA ke)) 6030:=ud2 h_l0 h_l1
end Pv
namespace L2
open PySem PySem.Spec PyProof.Rows
noncomputable abbrev Key:=Sum Int Str
noncomputable def yr3:Key->Value->Bool
 | .inl k,v=>Value.isInt k v
 | .inr x,v=>Value.isStrOf x v
noncomputable def keyH (w:World):Key->Int
 | .inl k=>hashInt k
 | .inr x=>hashStr w x
theorem vf0:∀ {k:Key} {v:Value},yr3 k v=true->(∃ i t,k=Sum.inl i /\ v=Value.int i t) \/ (∃ x t,k=Sum.inr x /\ v=Value.str x t)
 | .inl i,v,h=>by
  obtain ⟨t,e⟩:=Value.isInt_shape (k:=i) (v:=v) h
  exact .inl ⟨i,t,rfl,e⟩
 | .inr x,v,h=>by
  obtain ⟨t,e⟩:=Value.isStrOf_shape (x:=x) (v:=v) h
  exact .inr ⟨x,t,rfl,e⟩
theorem xr3 (a b:Int):decide ((Sum.inl a:Key)=Sum.inl b)=(a == b):=by
 by_cases e:a=b
 ·subst e; simp
 ·have h:¬ (Sum.inl a:Key)=Sum.inl b:=λ q=>e (Sum.inl.inj q)
  rw [decide_eq_false h]
  exact (beq_eq_false_iff_ne.mpr e).symm
theorem uq3 (a b:Str):decide ((Sum.inr a:Key)=Sum.inr b)=decide (a=b):=by
 by_cases e:a=b
 ·subst e; simp
 ·have h:¬ (Sum.inr a:Key)=Sum.inr b:=λ q=>e (Sum.inr.inj q)
  rw [decide_eq_false h,decide_eq_false e]
theorem sq3 (a:Int) (b:Str):decide ((Sum.inl a:Key)=Sum.inr b)=false:=decide_eq_false (λ q=>nomatch q)
theorem tq3 (a:Str) (b:Int):decide ((Sum.inr a:Key)=Sum.inl b)=false:=decide_eq_false (λ q=>nomatch q)
noncomputable def uv1 (prog:Program) (w:World):PySem.KeyKind prog w Key where
 is:=yr3
 hash:=keyH w
 inj:=λ v a b ha hb=>by
  rcases vf0 ha with ⟨i,t,rfl,rfl⟩ | ⟨x,t,rfl,rfl⟩
  ·rcases vf0 hb with ⟨j,u,rfl,e⟩ | ⟨y,u,rfl,e⟩
   ·injection e with e1 _; rw [e1]
   ·exact nomatch e
  ·rcases vf0 hb with ⟨j,u,rfl,e⟩ | ⟨y,u,rfl,e⟩
   ·exact nomatch e
   ·injection e with e1 _; rw [e1]
 byValue:=λ k v h=>by
  rcases vf0 h with ⟨i,t,rfl,rfl⟩ | ⟨x,t,rfl,rfl⟩ <;> rfl
 pyHash:=λ hv h=>by
  rcases vf0 hv with ⟨i,t,rfl,rfl⟩ | ⟨x,t,rfl,rfl⟩
  ·exact wpAny_pyHash_int h
  ·exact wpAny_pyHash_str h
 eqBool:=λ hu hv h=>by
  rcases vf0 hu with ⟨i,t,rfl,rfl⟩ | ⟨x,t,rfl,rfl⟩
  ·rcases vf0 hv with ⟨j,u,rfl,rfl⟩ | ⟨y,u,rfl,rfl⟩
   ·rw [xr3] at h; exact wpAny_eqBool_int h
   ·rw [sq3] at h; exact SeqAt.EqAt.int_str i t y u _ _ _ _ h
  ·rcases vf0 hv with ⟨j,u,rfl,rfl⟩ | ⟨y,u,rfl,rfl⟩
   ·rw [tq3] at h; exact SeqAt.EqAt.str_int x t j u _ _ _ _ h
   ·rw [uq3] at h; exact wpAny_eqBool_str h
 «strs» := λ k x t v h=>by
  rcases vf0 h with ⟨i,u,rfl,e⟩ | ⟨y,u,rfl,e⟩
  ·exact nomatch e
  ·injection e with e1 _
   subst e1
   cases v <;> rfl
end L2
namespace L2
open PySem PySem.Spec PyProof.Rows
inductive V where
 | non | bl (b:Bool) | int (i:Int) | str (x:Str) | byt (b:Array UInt8) | flt (b:UInt64) | ref (a:Addr) | ty (n:String)
 deriving DecidableEq
noncomputable def RelV:V->Value->Prop
 | .non,u=>u=Value.none
 | .bl b,u=>u=Value.bool b
 | .int i,u=>∃ t,u=Value.int i t
 | .str x,u=>∃ t,u=Value.str x t
 | .byt b,u=>∃ t,u=Value.bytes b t
 | .flt b,u=>∃ t,u=Value.float b t
 | .ref a,u=>u=Value.ref a
 | .ty n,u=>u=Value.type n
noncomputable abbrev Vals:List V->List Value->Prop:=Paired RelV
theorem Vals.length {xs:List V} {us:List Value} (r:Vals xs us):xs.length=us.length:=Paired.length r
theorem Vals.get:∀ {xs:List V} {us:List Value} {i:Nat} {x:V},Vals xs us->xs[i]?=some x->∃ u,us[i]?=some u /\ RelV x u
 | _,_,_,_,.nil,e=>by simp at e
 | _,_,0,_,.cons r _,e=>by simp at e; subst e; exact ⟨_,rfl,r⟩
 | _,_,i + 1,x,.cons _ t,e=>by
  obtain ⟨u,h1,h2⟩:=Vals.get (i:=i) (x:=x) t (by simpa using e)
  exact ⟨u,by simpa using h1,h2⟩
theorem Vals.set {x:V} {u:Value} (r:RelV x u):∀ {xs:List V} {us:List Value} (i:Nat),Vals xs us->Vals (xs.set i x) (us.set i u)
 | _,_,_,.nil=>.nil
 | _,_,0,.cons _ t=>.cons r t
 | _,_,i + 1,.cons q t=>.cons q (Vals.set r i t)
theorem Vals.append:∀ {xs ys:List V} {us ws:List Value},Vals xs us->Vals ys ws->Vals (xs ++ ys) (us ++ ws)
 | _,_,_,_,.nil,s=>s
 | _,_,_,_,.cons r t,s=>.cons r (Vals.append t s)
theorem Vals.take:∀ {xs:List V} {us:List Value} (n:Nat),Vals xs us->Vals (xs.take n) (us.take n)
 | _,_,0,_=>.nil
 | _,_,_ + 1,.nil=>.nil
 | _,_,n + 1,.cons r t=>.cons r (Vals.take n t)
theorem Vals.drop:∀ {xs:List V} {us:List Value} (n:Nat),Vals xs us->Vals (xs.drop n) (us.drop n)
 | _,_,0,r=>r
 | _,_,_ + 1,.nil=>.nil
 | _,_,n + 1,.cons _ t=>Vals.drop n t
noncomputable def RelO:Option V->Option Value->Prop
 | some v,some u=>RelV v u
 | none,none=>True
 | _,_=>False
noncomputable def KV {κ:Type}:List (κ × V)->List (κ × Value)->Prop:=Paired λ (p:κ × V) (q:κ × Value)=>p.1=q.1 /\ RelV p.2 q.2
noncomputable def kV:Key->V
 | .inl i=>.int i
 | .inr x=>.str x
inductive HO where
 | lst (xs:List V)
 | tup (xs:List V)
 | dK (kvs:List (Key × V)) | dT (kvs:List (List Key × V))
 | set (S:Int->Bool) (n:Nat)
 | ins (C dx:Addr) (fs:List (Str × V))
 | own (x:Addr)
 | xd (fs:List (Str × V))
 | met (f x:Addr)
 | rng (lo hi:Int)
 | frz (o:Obj) (u:HO)
 | tbl (ps:Array Value)
 | ext (φ:Heap->Prop)
noncomputable abbrev Hp:=Addr->Option HO
noncomputable def upd (H:Hp) (a:Addr) (o:HO):Hp:=λ b=>if b=a then some o else H b
theorem tg0 {H:Hp} {a:Addr} {o:HO}:upd H a o a=some o:=by unfold upd; rw [if_pos rfl]
theorem td0 {H:Hp} {a b:Addr} {o:HO} (h:b ≠ a):upd H a o b=H b:=by unfold upd; rw [if_neg h]
theorem xq3 {H:Hp} {a b:Addr} {o u:HO} (h:H a=some o) (h':H b=some u) (d:o ≠ u):a ≠ b:=by
 intro e; subst e; rw [h] at h'; exact d (Option.some.inj h')
theorem xi0 {H:Hp} {a b:Addr} {o:HO} (h:H a=some o) (h':H b=none):a ≠ b:=by
 intro e; subst e; rw [h] at h'; cases h'
section
variable (P:Program) (w:World)
noncomputable def ObjOk (H:Hp) (h:Heap) (a:Addr):HO->Prop
 | .lst xs=>xs.length<=sizeLine /\ ∃ (its:List Value) (n:Nat),Vals xs its /\ h.get? a=some { cls:=.type "list",data:=.seq its.toArray n }
 | .tup xs=>xs.length<=sizeLine /\ ∃ its:List Value,Vals xs its /\ IsTup h a its.toArray
 | .dK kvs=>kvs.length<=sizeLine /\ (a == sysModules)=false /\ ∃ vs,KV kvs vs /\ h.DictOf (uv1 P w) a vs
 | .dT kvs=>kvs.length<=sizeLine /\ (a == sysModules)=false /\ ∃ xs:List (List Key × Addr × Value),
     Paired (λ (p:List Key × V) (q:List Key × Addr × Value)=>p.1=q.1 /\ H q.2.1=some (.tup (p.1.map kV)) /\ RelV p.2 q.2.2) kvs xs ∧
     ∃ o es ep,h.get? a=some o /\ o.ExactDict /\ o.data=.dict es ep /\ es.toList=xs.map (entryOfKey (tupleKind (uv1 P w))) /\ (xs.map (·.1)).Nodup
 | .set S n=>h.SetOf (intKind P w) a S n
 | .ins C dx fs=>H dx=some (.own a) /\ fs.length<=1000 /\ dx ≠ a /\ h.get? a=some (PySem.W.instObj C dx) ∧
     ∃ mA,h.Ns1 dx mA /\ (∀ f,RelO (fs.lookup f) (mA f)) /\ PySem.Within mA (fs.map (·.1))
 | .own _=>∃ o,h.get? a=some o
 | .xd fs=>∃ mA,h.Ns1 a mA /\ ∀ f,RelO (fs.lookup f) (mA f)
 | .rng lo hi=>∃ t u v,h.get? a=some { cls:=.type "range",data:=.fields #[.int lo t,.int hi u,.int 1 v] }
 | .frz o u=>h.get? a=some o /\ ObjOk H h a u
 | .tbl ps=>h.get? a=some { cls:=.none,data:=.fields ps }
 | .met f x=>h.get? a=some (PySem.W.methodObj (.ref f) (.ref x))
 | .ext φ=>φ h /\ (∃ o,h.get? a=some o) /\ ∀ h1 h2:Heap,φ h1->(∀ o,h1.get? a=some o->h2.get? a=some o)->φ h2
noncomputable def HOk (H:Hp) (h:Heap):Prop:=∀ a o,H a=some o->ObjOk P w H h a o
end
section
variable {P:Program} {w:World} {H H':Hp} {h h':Heap} {a:Addr} {o:HO}
theorem ObjOk.lt (x:ObjOk P w H h a o):a < h.objs.size:=by
 cases o with
 | lst xs=>obtain ⟨_,_,_,_,e⟩:=x; exact Heap.lt_size e
 | tup xs=>obtain ⟨_,_,_,p⟩:=x; exact p.lt
 | dK kvs=>obtain ⟨_,_,_,_,o,_,_,e,_⟩:=x; exact Heap.lt_size e
 | dT kvs=>obtain ⟨_,_,_,_,o,_,_,e,_⟩:=x; exact Heap.lt_size e
 | set S n=>obtain ⟨o,_,_,_,e,_⟩:=x; exact Heap.lt_size e
 | ins C dx fs=>obtain ⟨_,_,_,e,_⟩:=x; exact Heap.lt_size e
 | own y=>obtain ⟨_,e⟩:=x; exact Heap.lt_size e
 | xd fs=>obtain ⟨_,⟨_,_,_,e,_⟩,_⟩:=x; exact Heap.lt_size e
 | rng lo hi=>obtain ⟨_,_,_,e⟩:=x; exact Heap.lt_size e
 | frz ob u=>obtain ⟨e,_⟩:=x; exact Heap.lt_size e
 | tbl ps=>exact Heap.lt_size (show h.get? a=some _ from x)
 | met f y=>exact Heap.lt_size (show h.get? a=some _ from x)
 | ext φ=>obtain ⟨_,⟨_,e⟩,_⟩:=x; exact Heap.lt_size e
theorem Paired.mapP {α β:Type} {F G:α->β->Prop}:∀ {l₁:List α} {l₂:List β},Paired F l₁ l₂->(∀ a b,F a b->G a b)->Paired G l₁ l₂
 | _,_,.nil,_=>.nil
 | _,_,.cons r t,f=>.cons (f _ _ r) (Paired.mapP t f)
theorem ObjOk.stay (x:ObjOk P w H h a o) (k:∀ b u,(b=a \/ H b=some (.own a))->h.get? b=some u->h'.get? b=some u)
    (ho:∀ b,H b=some (.own a)->H' b=some (.own a)) (ht:∀ b xs,H b=some (.tup xs)->H' b=some (.tup xs)):ObjOk P w H' h' a o:=by
 induction o with
 | lst xs=>obtain ⟨z,its,n,r,e⟩:=x; exact ⟨z,its,n,r,k _ _ (.inl rfl) e⟩
 | tup xs=>obtain ⟨z,its,r,ob,e,c⟩:=x; exact ⟨z,its,r,ob,k _ _ (.inl rfl) e,c⟩
 | dK kvs=>obtain ⟨z,y,vs,r,ob,es,ep,e,c⟩:=x; exact ⟨z,y,vs,r,ob,es,ep,k _ _ (.inl rfl) e,c⟩
 | dT kvs =>
  obtain ⟨z,y,xs,r,ob,es,ep,e,c⟩:=x
  exact ⟨z,y,xs,Paired.mapP r λ p q z=>⟨z.1,ht _ _ z.2.1,z.2.2⟩,ob,es,ep,k _ _ (.inl rfl) e,c⟩
 | set S n=>obtain ⟨ob,es,ep,t,e,c⟩:=x; exact ⟨ob,es,ep,t,k _ _ (.inl rfl) e,c⟩
 | ins C dx fs =>
  obtain ⟨d,z,ne,e,mA,⟨od,es,ep,e2,c⟩,r⟩:=x
  exact ⟨ho _ d,z,ne,k _ _ (.inl rfl) e,mA,⟨od,es,ep,k _ _ (.inr d) e2,c⟩,r⟩
 | own y=>obtain ⟨ob,e⟩:=x; exact ⟨ob,k _ _ (.inl rfl) e⟩
 | xd fs=>obtain ⟨mA,⟨od,es,ep,e,c⟩,r⟩:=x; exact ⟨mA,⟨od,es,ep,k _ _ (.inl rfl) e,c⟩,r⟩
 | rng lo hi=>obtain ⟨t,u,v,e⟩:=x; exact ⟨t,u,v,k _ _ (.inl rfl) e⟩
 | frz ob u ih=>obtain ⟨e,q⟩:=x; exact ⟨k _ _ (.inl rfl) e,ih q⟩
 | tbl ps =>
  have e:h.get? a=some { cls:=.none,data:=.fields ps }:=x
  show h'.get? a=some { cls:=.none,data:=.fields ps }
  exact k a _ (.inl rfl) e
 | met f y =>
  have e:h.get? a=some (PySem.W.methodObj (.ref f) (.ref y)):=x
  show h'.get? a=some (PySem.W.methodObj (.ref f) (.ref y))
  exact k a _ (.inl rfl) e
 | ext φ=>obtain ⟨p,⟨o,e⟩,st⟩:=x; exact ⟨st _ _ p λ o q=>k _ _ (.inl rfl) q,⟨o,k _ _ (.inl rfl) e⟩,st⟩
theorem HOk.lt (x:HOk P w H h) (e:H a=some o):a < h.objs.size:=(x a o e).lt
theorem HOk.fresh (x:HOk P w H h) (e:h.objs.size<=a):H a=none:=by
 cases q:H a with
 | none=>rfl
 | some u=>exact absurd (Nat.lt_of_lt_of_le (x.lt q) e) (Nat.lt_irrefl _)
theorem HOk.kept (x:HOk P w H h) (k:∀ b u,h.get? b=some u->h'.get? b=some u):HOk P w H h':=λ a o e =>
 (x a o e).stay (λ b u _ q=>k b u q) (λ _ q=>q) λ _ _ q=>q
theorem HOk.laid (x:HOk P w H h) (k:∀ b u,h.get? b=some u->h'.get? b=some u) (hp:h.objs.size<=a) (new:ObjOk P w (upd H a o) h' a o):HOk P w (upd H a o) h':=λ b u e=>by
 have hn:=x.fresh hp
 by_cases hb:b=a
 ·subst hb; rw [tg0] at e; cases e; exact new
 ·rw [td0 hb] at e
  exact (x b u e).stay (λ c v _ q=>k c v q) (λ c q=>by rw [td0 (xi0 q hn)]; exact q) λ c xs q=>by rw [td0 (xi0 q hn)]; exact q
end
noncomputable def Rd (H:Hp) (a:Addr) (u:HO):Prop:=H a=some u \/ ∃ o,H a=some (.frz o u)
theorem Rd.ok {P:Program} {w:World} {H:Hp} {h:Heap} {a:Addr} {u:HO} (r:Rd H a u) (x:HOk P w H h):ObjOk P w H h a u:=by
 rcases r with r | ⟨o,r⟩
 ·exact x a u r
 ·obtain ⟨_,q⟩:=x a _ r
  exact q
noncomputable def Mut:Option HO->Prop
 | some (.lst _)=>True
 | some (.dK _)=>True
 | some (.dT _)=>True
 | some (.set _ _)=>True
 | some (.ins _ _ _)=>True
 | some (.ext _)=>True
 | _=>False
section
variable {P:Program} {w:World} {H:Hp} {h h':Heap} {x e:Addr} {o':HO}
theorem HOk.write (ok:HOk P w H h) (mu:Mut (H x)) (he:e=x \/ H e=some (.own x)) (k:∀ b u,b ≠ e->h.get? b=some u->h'.get? b=some u) (heo:∃ u,h'.get? e=some u)
    (new:ObjOk P w (upd H x o') h' x o'):HOk P w (upd H x o') h':=λ b u q=>by
 have nown:∀ c y,H c=some (.own y)->c ≠ x:=λ c y r z=>by subst z; rw [r] at mu; exact mu
 have ntup:∀ c xs,H c=some (.tup xs)->c ≠ x:=λ c xs r z=>by subst z; rw [r] at mu; exact mu
 by_cases hb:b=x
 ·subst hb; rw [tg0] at q; cases q; exact new
 ·rw [td0 hb] at q
  by_cases hbe:b=e
  ·have q':H b=some (.own x):=by
     rcases he with z | z
     ·exact absurd (hbe.trans z) hb
     ·rw [hbe]; exact z
   rw [q] at q'; cases q'
   obtain ⟨v,hv⟩:=heo
   exact ⟨v,by rw [hbe]; exact hv⟩
  ·refine (ok b u q).stay (λ c v hc r=>k c v ?_ r) (λ c r=>by rw [td0 (nown c b r)]; exact r) λ c xs r=>by rw [td0 (ntup c xs r)]; exact r
   rcases hc with rfl | hc
   ·exact hbe
   ·rintro rfl
    rcases he with z | z
    ·exact nown c b hc z
    ·rw [hc] at z; cases z; exact hb rfl
end
structure Un (fs ex:List Addr) (H H':Hp) (h h':Heap):Prop where
 keep:∀ b o,h.get? b=some o->H b=none->b ∉ fs->b ∉ ex->h'.get? b=some o
 slot:∀ b o,h.get? b=some o->H b=none->b ∈ fs->b ∉ ex->∃ sl,h'.get? b=some { o with slots:=sl }
 free:∀ b o,h.get? b=some o->H b=none->b ∉ ex->H' b=none
 there:∀ b o,h.get? b=some o->b ∉ ex->∃ o',h'.get? b=some o'
 tups:∀ b xs,H b=some (.tup xs)->H' b=some (.tup xs)
 frzs:∀ b o u,H b=some (.frz o u)->H' b=some (.frz o u)
 tbls:∀ b ps,H b=some (.tbl ps)->∃ more,H' b=some (.tbl (ps ++ more))
section
variable {fs fs' ex ex':List Addr} {H H1 H2:Hp} {h h1 h2 h':Heap} {a x e:Addr} {o:HO}
theorem Un.any (u:Un fs ex H H1 h h1) {b:Addr} {ob:Obj} (q:h.get? b=some ob) (n:H b=none) (hx:b ∉ ex):∃ sl,h1.get? b=some { ob with slots:=sl }:=by
 by_cases hb:b ∈ fs
 ·exact u.slot b ob q n hb hx
 ·exact ⟨ob.slots,u.keep b ob q n hb hx⟩
theorem Un.kept (k:∀ b u,h.get? b=some u->h'.get? b=some u):Un fs ex H H h h' :=
 ⟨λ b ob q _ _ _=>k b ob q,λ b ob q _ _ _=>⟨ob.slots,k b ob q⟩,λ _ _ _ n _=>n,λ b ob q _=>⟨ob,k b ob q⟩,λ _ _ q=>q,λ _ _ _ q=>q,λ _ ps q=>⟨#[],by rw [q]; simp⟩⟩
theorem Un.refl:Un fs ex H H h h:=Un.kept λ _ _ q=>q
theorem Un.laid (k:∀ b u,h.get? b=some u->h'.get? b=some u) (hp:h.objs.size<=a) (hn:H a=none):Un fs ex H (upd H a o) h h' where
 keep:=λ b u q _ _ _=>k b u q
 slot:=λ b u q _ _ _=>⟨u.slots,k b u q⟩
 free:=λ b u q n _=>by rw [td0 (Nat.ne_of_lt (Nat.lt_of_lt_of_le (Heap.lt_size q) hp))]; exact n
 there:=λ b u q _=>⟨u,k b u q⟩
 tups:=λ b xs q=>by rw [td0 (xi0 q hn)]; exact q
 frzs:=λ b u xs q=>by rw [td0 (xi0 q hn)]; exact q
 tbls:=λ b ps q=>⟨#[],by rw [td0 (xi0 q hn),q]; simp⟩
theorem Un.write (mu:Mut (H x)) (he:e=x \/ H e=some (.own x)) (k:∀ b u,b ≠ e->h.get? b=some u->h'.get? b=some u) (heo:∃ u,h'.get? e=some u):Un fs ex H (upd H x o) h h':=by
 have hx:∀ b,H b=none->b ≠ x:=λ b n z=>by subst z; rw [n] at mu; exact mu
 have hb:∀ b,H b=none->b ≠ e:=λ b n z=>by
  subst z
  rcases he with r | r
  ·exact hx b n r
  ·rw [n] at r; cases r
 have hm:∀ b u,H b=some u->¬ Mut (some u)->b ≠ x:=λ b u q nm z=>by subst z; rw [q] at mu; exact nm mu
 refine ⟨λ b u q n _ _=>k b u (hb b n) q,λ b u q n _ _=>⟨u.slots,k b u (hb b n) q⟩,λ b u q n _=>by rw [td0 (hx b n)]; exact n,λ b u q _=>?_,
  λ b xs q=>by rw [td0 (hm b _ q λ z=>z)]; exact q,λ b u xs q=>by rw [td0 (hm b _ q λ z=>z)]; exact q,λ b ps q=>⟨#[],by rw [td0 (hm b _ q λ z=>z),q]; simp⟩⟩
 by_cases hbe:b=e
 ·subst hbe; exact heo
 ·exact ⟨u,k b u hbe q⟩
end
noncomputable def trk (h:Heap) (H:Hp):List Addr:=(List.range h.objs.size).filter λ a=>(H a).isSome
noncomputable def hidT (h:Heap) (H:Hp):Heap:=PySem.W.hideAll h (trk h H)
theorem ww1 (h:Heap) (H:Hp):(hidT h H).objs.size=h.objs.size:=PySem.W.hideAll_size _ _
theorem yf2 {h:Heap} {H:Hp} {b:Addr} {o:Obj} (e:h.get? b=some o) (n:H b=none):(hidT h H).get? b=some o :=
 PySem.W.hideAll_get _ e λ hm=>by
  have q:(H b).isSome=true:=(List.mem_filter.mp hm).2
  rw [n] at q; simp at q
theorem vr2 {h:Heap} {H:Hp} {b:Addr} {o:Obj} (e:(hidT h H).get? b=some o):h.get? b=some o /\ H b=none:=by
 have e':h.get? b=some o:=PySem.W.of_hideAll (trk h H) e
 refine ⟨e',?_⟩
 cases q:H b with
 | none=>rfl
 | some x =>
  have hm:b ∈ trk h H:=List.mem_filter.mpr ⟨List.mem_range.mpr (Heap.lt_size e'),by simp [q]⟩
  have z:(hidT h H).get? b=none:=PySem.W.hideAll_none (trk h H) hm
  rw [z] at e; cases e
noncomputable def tu2 (g h:Heap) (L:Addr):List (Addr × Obj):=(List.range h.objs.size).filterMap λ a=>if a=L \/ (g.get? a).isSome=true then none else (h.get? a).map λ o=>(a,o)
noncomputable def rest (g h:Heap) (L d:Addr):List (Addr × Obj):=(tu2 g h L).filter λ p=>decide (p.1 ≠ d)
end L2
namespace L2
open PySem PySem.Spec PyProof.Rows
structure Mod (K:PySem.W.Frag) (mg:Str->Option Value) (base:Heap):Prop where
 kin:K.In base
 glob:base.Ns mainGlobals mg
 blt:∃ mb,base.Ns builtinsNs mb /\ ∀ x:Str,x ≠ "__name__" -> mb x=bootBuiltins x
 nolimit:base.NoLimit
structure Cx where
 prog:Program
 w:World
 K:PySem.W.Frag
 mg:Str->Option Value
 base:Heap
 A:Around
 N:List Str
 s₀:Shared
 H₀:Hp
 env:Env
 outer:List Env
 stack:List Env
 ex:List Addr
 fn:Str->Bool
 calm:Bool
 pn:List (Addr × Obj)
 xe:Value->Shared->Prop
noncomputable def frs (l:List Env):List Addr:=l.filterMap (·.frame)
noncomputable abbrev Cx.fs (X:Cx):List Addr:=frs X.outer
noncomputable def Vis (sc:Scope) (x:Str):Prop:=sc.names.lookup x=some .local \/ sc.names.lookup x=some .cell \/ sc.names.lookup x=some .free
noncomputable def Loc (sc:Scope) (x:Str):Prop:=sc.names.lookup x=some .local \/ sc.names.lookup x=some .cell
noncomputable def Look (env:Env) (h:Heap) (m:Str->Option Value) (x:Str) (u:Value):Prop :=
 (env.kindOf x=some .local /\ m x=some u) \/ ((env.kindOf x=some .cell \/ env.kindOf x=some .free) /\ ∃ c,env.cells.lookup x=some c /\ h.IsCell c (some u))
structure Cx.Ok (X:Cx):Prop where
 mod:Mod X.K X.mg X.base
 kind:X.env.scope.kind=.function
 glob:X.env.globals=mainGlobals
 blt:X.env.builtins=builtinsNs
 above:X.s₀.heap.objs.size<=X.env.locals
 inj:∀ x y c,X.env.cells.lookup x=some c->X.env.cells.lookup y=some c->x=y
 has:∀ x,(X.env.kindOf x=some .cell \/ X.env.kindOf x=some .free)->∃ c,X.env.cells.lookup x=some c
 cab:∀ x c,X.fn x=true->X.env.cells.lookup x=some c->X.s₀.heap.objs.size<=c
 hd:X.calm=true->X.A.handled=none
 frames:X.A.frames=some X.stack
 stk:X.stack=X.outer \/ (X.stack=X.env :: X.outer /\ X.env.frame=some X.env.locals)
 exf:∀ b ∈ X.ex,b ≠ X.env.locals /\ ∀ x c,X.env.cells.lookup x=some c->c ≠ b
 bs:∀ b o,X.base.get? b=some o->X.s₀.heap.get? b=some o /\ X.H₀ b=none
 bsz:X.base.objs.size<=X.s₀.heap.objs.size
 noex:∀ b o,X.base.get? b=some o->b ∉ X.ex
 exfs:∀ b ∈ X.ex,b ∉ X.fs
 funs:X.s₀.heap.FunFrames X.base X.outer
 frf:∀ b ∈ X.fs,X.H₀ b=none
structure Inv (X:Cx) (pins:List (Addr × Obj)) (σ:List (Option V)) (H:Hp) (s:Shared):Prop where
 ok:X.Ok
 os:s.os=X.s₀.os
 bare:AllBare s.gens
 base:Un X.fs X.ex X.H₀ H X.s₀.heap s.heap
 loc:∃ m,s.heap.Ns X.env.locals m /\ ∀ (i:Nat) (x:Str) (v:V),X.N[i]?=some x->σ[i]?=some (some v)->Vis X.env.scope x->∃ u,RelV v u /\ Look X.env s.heap m x u
 cell:∀ x c,X.env.cells.lookup x=some c->∃ v,s.heap.IsCell c v
 free:H X.env.locals=none
 freeC:∀ x c,X.env.cells.lookup x=some c->H c=none
 pin:∀ p ∈ X.pn ++ pins,s.heap.get? p.1=some p.2 /\ H p.1=none /\ p.1 ≠ X.env.locals /\ p.1 ∉ X.fs /\ ∀ v,p.2.data ≠ .cell v
 hok:HOk X.prog X.w H s.heap
 len:σ.length=X.N.length
section
variable {X:Cx} {pins:List (Addr × Obj)} {σ:List (Option V)} {H H':Hp} {s:Shared} {h':Heap}
theorem Cx.Ok.nofr (ok:X.Ok) {b:Addr} {o:Obj} (e:X.base.get? b=some o):b ∉ X.fs:=λ hb=>by
 have:=(ok.funs.mem hb).1
 rw [e] at this; cases this
theorem Inv.bs (I:Inv X pins σ H s):∀ b o,X.base.get? b=some o->s.heap.get? b=some o /\ H b=none:=λ b o e =>
 ⟨I.base.keep b o (I.ok.bs b o e).1 (I.ok.bs b o e).2 (I.ok.nofr e) (I.ok.noex b o e),I.base.free b o (I.ok.bs b o e).1 (I.ok.bs b o e).2 (I.ok.noex b o e)⟩
theorem Inv.bk (I:Inv X pins σ H s):∀ b o,X.base.get? b=some o->s.heap.get? b=some o:=λ b o e=>(I.bs b o e).1
theorem Inv.mod (I:Inv X pins σ H s):Mod X.K X.mg X.base:=I.ok.mod
theorem Inv.kIn (I:Inv X pins σ H s):X.K.In s.heap:=I.ok.mod.kin.keeps I.bk
theorem Inv.lt (I:Inv X pins σ H s):X.env.locals < s.heap.objs.size:=let ⟨_,hn,_⟩:=I.loc; hn.lt
theorem Inv.sz (I:Inv X pins σ H s):X.s₀.heap.objs.size<=s.heap.objs.size:=Nat.le_trans I.ok.above (Nat.le_of_lt I.lt)
theorem Inv.nofs (I:Inv X pins σ H s) {a:Addr} (h:s.heap.objs.size<=a):a ∉ X.fs:=λ hb=>by
 obtain ⟨_,o,ho,_⟩:=I.ok.funs.mem hb
 exact absurd (Nat.lt_of_lt_of_le (Heap.lt_size ho) (Nat.le_trans I.sz h)) (Nat.lt_irrefl _)
theorem Inv.cne (I:Inv X pins σ H s):∀ x c,X.env.cells.lookup x=some c->c ≠ X.env.locals:=λ x c e z=>by
 obtain ⟨v,o,ho,hd⟩:=I.cell x c e
 obtain ⟨m,⟨o',es,ep,ho',hd',_⟩,_⟩:=I.loc
 rw [z,ho'] at ho; cases ho; rw [hd'] at hd; cases hd
theorem Inv.funs (I:Inv X pins σ H s):s.heap.FunFrames X.base X.outer:=by
 have all:∀ (l:List Env),(∀ b ∈ frs l,b ∈ X.fs)->X.s₀.heap.FunFrames X.base l->s.heap.FunFrames X.base l:=by
  intro l
  induction l with
  | nil=>intro _ _; trivial
  | cons env r ih =>
   intro hs hl
   obtain ⟨hk,⟨L,o,hf,hn,ho,hd⟩,hr⟩:=hl
   have hL:L ∈ X.fs:=hs L (by unfold frs; rw [List.filterMap_cons,hf]; exact List.mem_cons_self)
   obtain ⟨sl,e⟩:=I.base.slot L o ho (I.ok.frf L hL) hL λ z=>I.ok.exfs L z hL
   exact ⟨hk,⟨L,_,hf,hn,e,hd⟩,ih (λ b hb=>hs b (by unfold frs; rw [List.filterMap_cons,hf]; exact List.mem_cons_of_mem _ hb)) hr⟩
 exact all X.outer (λ _ hb=>hb) I.ok.funs
theorem Inv.stack (I:Inv X pins σ H s):s.heap.FunFrames X.base X.stack:=by
 rcases I.ok.stk with e | ⟨e,hf⟩
 ·rw [e]; exact I.funs
 ·rw [e]
  obtain ⟨m,hn,_⟩:=I.loc
  refine .cons (by rw [I.ok.kind]; decide) hf hn ?_ I.funs
  exact Heap.get?_none_of_le (Nat.le_trans I.ok.bsz I.ok.above)
theorem Inv.stkSub (I:Inv X pins σ H s):∀ b ∈ frs X.stack,b ∈ X.env.locals :: X.fs:=λ b hb=>by
 rcases I.ok.stk with e | ⟨e,hf⟩
 ·rw [e] at hb; exact List.mem_cons_of_mem _ hb
 ·rw [e] at hb
  unfold frs at hb
  rw [List.filterMap_cons,hf] at hb
  exact hb
theorem Inv.stkFree (I:Inv X pins σ H s):∀ b ∈ frs X.stack,H b=none:=λ b hb=>by
 rcases List.mem_cons.mp (I.stkSub b hb) with e | hb
 ·rw [e]; exact I.free
 ·obtain ⟨_,o,ho,_⟩:=I.ok.funs.mem hb
  exact I.base.free b o ho (I.ok.frf b hb) λ z=>I.ok.exfs b z hb
theorem Inv.step {g':Array GenState} {t':Nat} {d':Drawn} {ch:List Addr} (I:Inv X pins σ H s)
    (hch:∀ b ∈ ch,(b ∈ X.ex \/ X.s₀.heap.objs.size<=b) /\ b ≠ X.env.locals /\ (∀ x c,X.env.cells.lookup x=some c->c ≠ b) /\ ∀ p ∈ X.pn ++ pins,p.1 ≠ b)
    (keep:∀ b o,b ≠ X.env.locals->b ∉ X.fs->b ∉ ch->s.heap.get? b=some o->H b=none->h'.get? b=some o)
    (slot:∀ b o,b ≠ X.env.locals->b ∈ X.fs->b ∉ ch->s.heap.get? b=some o->H b=none->∃ sl,h'.get? b=some { o with slots:=sl }) (free:∀ b o,b ∉ ch->s.heap.get? b=some o->H b=none->H' b=none)
    (there:∀ b o,b ∉ ch->s.heap.get? b=some o->∃ o',h'.get? b=some o')
    (tups:∀ b xs,H b=some (.tup xs)->H' b=some (.tup xs)) (frzs:∀ b o u,H b=some (.frz o u)->H' b=some (.frz o u)) (tbls:∀ b ps,H b=some (.tbl ps)->∃ more,H' b=some (.tbl (ps ++ more)))
    (ns:∀ m,s.heap.Ns X.env.locals m->h'.Ns X.env.locals m) (hok:HOk X.prog X.w H' h') (hg:AllBare g') :
    Inv X pins σ H' { s with heap:=h',gens:=g',drawn:=d',toks:=t' }:=by
 have neL:∀ b o,X.s₀.heap.get? b=some o->b ≠ X.env.locals:=λ b o e=>Nat.ne_of_lt (Nat.lt_of_lt_of_le (Heap.lt_size e) I.ok.above)
 have neC:∀ b o,X.s₀.heap.get? b=some o->b ∉ X.ex->b ∉ ch:=λ b o e hx hb=>by
  rcases (hch b hb).1 with z | z
  ·exact hx z
  ·exact absurd (Nat.lt_of_lt_of_le (Heap.lt_size e) z) (Nat.lt_irrefl _)
 have cellK:∀ x c,X.env.cells.lookup x=some c->∀ v,s.heap.IsCell c v->h'.IsCell c v:=λ x c e v ⟨o,ho,hd⟩=>by
  have nch:c ∉ ch:=λ z=>(hch c z).2.2.1 x c e rfl
  by_cases hc:c ∈ X.fs
  ·obtain ⟨sl,q⟩:=slot c o (I.cne x c e) hc nch ho (I.freeC x c e)
   exact ⟨_,q,hd⟩
  ·exact ⟨o,keep c o (I.cne x c e) hc nch ho (I.freeC x c e),hd⟩
 refine ⟨I.ok,I.os,hg,⟨λ b o e n hb hx=>?_,λ b o e n hb hx=>?_,λ b o e n hx=>?_,λ b o e hx=>?_,λ b xs e=>tups b xs (I.base.tups b xs e),λ b o xs e=>frzs b o xs (I.base.frzs b o xs e),λ b ps e=>?_⟩,?_,λ x c e=>?_,?_,λ x c e=>?_,λ p hp=>?_,hok,I.len⟩
 ·exact keep b o (neL b o e) hb (neC b o e hx) (I.base.keep b o e n hb hx) (I.base.free b o e n hx)
 ·obtain ⟨sl,e1⟩:=I.base.slot b o e n hb hx
  obtain ⟨sl',e2⟩:=slot b _ (neL b o e) hb (neC b o e hx) e1 (I.base.free b o e n hx)
  exact ⟨sl',e2⟩
 ·obtain ⟨o',e1⟩:=I.base.there b o e hx
  exact free b o' (neC b o e hx) e1 (I.base.free b o e n hx)
 ·obtain ⟨o',e1⟩:=I.base.there b o e hx
  exact there b o' (neC b o e hx) e1
 ·obtain ⟨m1,e1⟩:=I.base.tbls b ps e
  obtain ⟨m2,e2⟩:=tbls b _ e1
  exact ⟨m1 ++ m2,by rw [e2,Array.append_assoc]⟩
 ·obtain ⟨m,hn,hl⟩:=I.loc
  refine ⟨m,ns m hn,λ i x v e1 e2 e3=>?_⟩
  obtain ⟨u,r,l⟩:=hl i x v e1 e2 e3
  refine ⟨u,r,?_⟩
  rcases l with l | ⟨k,c,e,z⟩
  ·exact .inl l
  ·exact .inr ⟨k,c,e,cellK x c e _ z⟩
 ·obtain ⟨v,z⟩:=I.cell x c e
  exact ⟨v,cellK x c e v z⟩
 ·obtain ⟨m,⟨o,_,_,ho,_⟩,_⟩:=I.loc
  exact free _ o (λ z=>(hch _ z).2.1 rfl) ho I.free
 ·obtain ⟨v,o,ho,hd⟩:=I.cell x c e
  exact free c o (λ z=>(hch c z).2.2.1 x c e rfl) ho (I.freeC x c e)
 ·obtain ⟨e,n,ne,nf,d⟩:=I.pin p hp
  have nch:p.1 ∉ ch:=λ z=>(hch p.1 z).2.2.2 p hp rfl
  exact ⟨keep p.1 p.2 ne nf nch e n,free p.1 p.2 nch e n,ne,nf,d⟩
theorem Inv.un {t':Nat} (I:Inv X pins σ H s) (u:Un X.fs [] H H' s.heap h') (hok:HOk X.prog X.w H' h'):Inv X pins σ H' { s with heap:=h',toks:=t' }:=by
 obtain ⟨m,⟨o,es,ep,ho,r⟩,_⟩:=id I.loc
 obtain ⟨sl,hL⟩:=u.any ho I.free (by simp)
 exact I.step (g':=s.gens) (d':=s.drawn) (ch:=[]) (λ _ z=>nomatch z) (λ b o _ hb _ e n=>u.keep b o e n hb (by simp)) (λ b o _ hb _ e n=>u.slot b o e n hb (by simp)) (λ b o _ e n=>u.free b o e n (by simp)) (λ b o _ e=>u.there b o e (by simp)) u.tups u.frzs u.tbls (λ m' hm=>by
  obtain ⟨o',es',ep',ho',r'⟩:=hm
  rw [ho] at ho'; cases ho'
  exact ⟨_,es',ep',hL,r'⟩) hok I.bare
theorem Inv.call {g':Array GenState} {t':Nat} {d':Drawn} {ch:List Addr} (I:Inv X pins σ H s) (u:Un (frs X.stack) ch H H' s.heap h') (hok:HOk X.prog X.w H' h') (hg:AllBare g')
    (hch:∀ b ∈ ch,(b ∈ X.ex \/ X.s₀.heap.objs.size<=b) /\ b ≠ X.env.locals /\ (∀ x c,X.env.cells.lookup x=some c->c ≠ b) /\ ∀ p ∈ X.pn ++ pins,p.1 ≠ b) :
    Inv X pins σ H' { s with heap:=h',gens:=g',drawn:=d',toks:=t' }:=by
 obtain ⟨m,⟨o,es,ep,ho,r⟩,_⟩:=id I.loc
 obtain ⟨sl,hL⟩:=u.any ho I.free λ z=>(hch _ z).2.1 rfl
 exact I.step (ch:=ch) hch (λ b o hL hb hc e n=>u.keep b o e n (λ z=>(List.mem_cons.mp (I.stkSub b z)).elim hL hb) hc) (λ b o _ _ hc e n=>u.any e n hc) (λ b o hc e n=>u.free b o e n hc) (λ b o hc e=>u.there b o e hc) u.tups u.frzs u.tbls (λ m' hm=>by
  obtain ⟨o',es',ep',ho',r'⟩:=hm
  rw [ho] at ho'; cases ho'
  exact ⟨_,es',ep',hL,r'⟩) hok hg
theorem Inv.turned {t':Nat} {it:Addr} (I:Inv X pins σ H s) (k:∀ b o,b ≠ it->s.heap.get? b=some o->h'.get? b=some o) (hn:H it=none) (hL:it ≠ X.env.locals)
    (h1:it ∈ X.ex \/ X.s₀.heap.objs.size<=it) (h2:∀ x c,X.env.cells.lookup x=some c->c ≠ it) (h3:∀ p ∈ X.pn ++ pins,p.1 ≠ it):Inv X pins σ H { s with heap:=h',toks:=t' }:=by
 have nit:∀ b u,H b=some u->b ≠ it:=λ b u e z=>by rw [z,hn] at e; cases e
 refine I.step (g':=s.gens) (d':=s.drawn) (ch:=[it]) (λ b hb=>?_) (λ b o _ _ hc e _=>k b o (λ z=>hc (by simp [z])) e) (λ b o _ _ hc e _=>⟨o.slots,k b o (λ z=>hc (by simp [z])) e⟩) (λ _ _ _ _ n=>n)
  (λ b o hc e=>⟨o,k b o (λ z=>hc (by simp [z])) e⟩) (λ _ _ e=>e) (λ _ _ _ e=>e) (λ b ps e=>⟨#[],by rw [e]; simp⟩) (λ m hm=>?_) (λ b u e=>?_) I.bare
 ·have e:b=it:=by simpa using hb
  subst e
  exact ⟨h1,hL,h2,h3⟩
 ·obtain ⟨o,es,ep,ho,r⟩:=hm
  exact ⟨o,es,ep,k _ o (Ne.symm hL) ho,r⟩
 ·refine (I.hok b u e).stay (λ c v hc q=>k c v ?_ q) (λ _ q=>q) λ _ _ q=>q
  rcases hc with z | z
  ·rw [z]; exact nit b u e
  ·exact nit c _ z
theorem Inv.tok (I:Inv X pins σ H s) (t:Nat):Inv X pins σ H { s with toks:=t }:=I.un (h':=s.heap) (t':=t) Un.refl I.hok
theorem Inv.kept {t':Nat} (I:Inv X pins σ H s) (k:∀ b u,s.heap.get? b=some u->h'.get? b=some u):Inv X pins σ H { s with heap:=h',toks:=t' }:=I.un (Un.kept k) (I.hok.kept k)
theorem Inv.laid {a:Addr} {o:HO} {t':Nat} (I:Inv X pins σ H s) (k:∀ b u,s.heap.get? b=some u->h'.get? b=some u) (hp:s.heap.objs.size<=a) (new:ObjOk X.prog X.w (upd H a o) h' a o) :
    Inv X pins σ (upd H a o) { s with heap:=h',toks:=t' }:=I.un (Un.laid k hp (I.hok.fresh hp)) (I.hok.laid k hp new)
theorem Inv.write {x e:Addr} {o:HO} {t':Nat} (I:Inv X pins σ H s) (mu:Mut (H x)) (he:e=x \/ H e=some (.own x)) (k:∀ b u,b ≠ e->s.heap.get? b=some u->h'.get? b=some u) (heo:∃ u,h'.get? e=some u)
    (new:ObjOk X.prog X.w (upd H x o) h' x o):Inv X pins σ (upd H x o) { s with heap:=h',toks:=t' }:=I.un (Un.write mu he k heo) (I.hok.write mu he k heo new)
theorem Inv.pins_of {pins':List (Addr × Obj)} (I:Inv X pins σ H s) (h:∀ p ∈ pins',s.heap.get? p.1=some p.2 /\ H p.1=none /\ p.1 ≠ X.env.locals /\ p.1 ∉ X.fs /\ ∀ v,p.2.data ≠ .cell v):Inv X pins' σ H s :=
 ⟨I.ok,I.os,I.bare,I.base,I.loc,I.cell,I.free,I.freeC,λ p hp=>(List.mem_append.mp hp).elim (λ z=>I.pin p (List.mem_append_left _ z)) (h p),I.hok,I.len⟩
theorem sa1 {N:List Str} (hN:N.Nodup) {i j:Nat} {x:Str} (a:N[i]?=some x) (b:N[j]?=some x):i=j:=by
 obtain ⟨h1,e1⟩:=List.getElem?_eq_some_iff.mp a
 obtain ⟨h2,e2⟩:=List.getElem?_eq_some_iff.mp b
 exact (List.getElem_inj hN).mp (e1.trans e2.symm)
theorem vd1 {M:Model} {A:Around} {E:Value->Shared->Prop} {i:Nat} {x:Str} {v:V} {u:Value} {Q:Unit->Shared->Prop} (I:Inv X pins σ H s) (hN:X.N.Nodup) (hi:X.N[i]?=some x) (hx:Loc X.env.scope x) (r:RelV v u)
    (h:∀ s',Inv X pins (σ.set i (some v)) H s'->(∃ a,Heap.SameBut a s.heap s'.heap /\ (a=X.env.locals \/ X.env.cells.lookup x=some a))->Q () s') (hf:X.fn x=true \/ X.env.scope.names.lookup x=some .local:=by first | exact .inl rfl | exact .inr rfl | assumption):wpAny M A (storeName X.env x u) Q E s:=by
 obtain ⟨m,hn,hl⟩:=id I.loc
 have hcls:(X.env.scope.kind == .class || (X.env.scope.kind == .module && X.env.locals != X.env.globals))=false:=by rw [I.ok.kind]; rfl
 have hiσ:i < σ.length:=by rw [I.len]; exact (List.getElem?_eq_some_iff.mp hi).1
 have cne:=I.cne
 have tracked:∀ {a:Addr} {h':Heap},(∃ o,s.heap.get? a=some o /\ H a=none)->Heap.SameBut a s.heap h'->HOk X.prog X.w H h':=λ {a h'} ha hs b ob e=>by
  obtain ⟨_,_,hfree⟩:=ha
  refine (I.hok b ob e).stay (λ c w' hc q=>(hs.2 c ?_).trans q) (λ _ q=>q) λ _ _ q=>q
  rintro rfl
  rcases hc with rfl | hc
  ·rw [hfree] at e; cases e
  ·rw [hfree] at hc; cases hc
 rcases hx with hk | hk
 ·refine wpAny_storeName_local hk hn (λ h' hn' hs=>?_) hcls
  obtain ⟨oL,_,_,hoL,_⟩:=id hn
  refine h _ ⟨I.ok,I.os,I.bare,⟨λ b o e n hb hx=>?_,λ b o e n hb hx=>?_,I.base.free,λ b o e hx=>?_,I.base.tups,I.base.frzs,I.base.tbls⟩,⟨_,hn',λ j y v' e1 e2 e3=>?_⟩,λ y c e=>?_,I.free,I.freeC,λ p hp=>?_,tracked ⟨oL,hoL,I.free⟩ hs,by simpa using I.len⟩ ⟨_,hs,.inl rfl⟩
  ·exact (hs.2 b (Nat.ne_of_lt (Nat.lt_of_lt_of_le (Heap.lt_size e) I.ok.above))).trans (I.base.keep b o e n hb hx)
  ·obtain ⟨sl,e1⟩:=I.base.slot b o e n hb hx
   exact ⟨sl,(hs.2 b (Nat.ne_of_lt (Nat.lt_of_lt_of_le (Heap.lt_size e) I.ok.above))).trans e1⟩
  ·obtain ⟨o',e1⟩:=I.base.there b o e hx
   exact ⟨o',(hs.2 b (Nat.ne_of_lt (Nat.lt_of_lt_of_le (Heap.lt_size e) I.ok.above))).trans e1⟩
  ·by_cases hj:j=i
   ·subst hj
    rw [hi] at e1; cases e1
    rw [List.getElem?_set_self hiσ] at e2
    cases e2
    exact ⟨u,r,.inl ⟨hk,by simp⟩⟩
   ·rw [List.getElem?_set_ne (Ne.symm hj)] at e2
    obtain ⟨u',r',q⟩:=hl j y v' e1 e2 e3
    refine ⟨u',r',?_⟩
    rcases q with ⟨k,e⟩ | ⟨k,c,e,z⟩
    ·refine .inl ⟨k,?_⟩
     have:y ≠ x:=λ e=>hj (sa1 hN e1 (e ▸ hi))
     simp [this,e]
    ·exact .inr ⟨k,c,e,z.sameBut hs (cne y c e)⟩
  ·obtain ⟨w',z⟩:=I.cell y c e
   exact ⟨w',z.sameBut hs (cne y c e)⟩
  ·obtain ⟨e,n,ne,nf,d⟩:=I.pin p hp
   exact ⟨(hs.2 p.1 ne).trans e,n,ne,nf,d⟩
 ·have hfn:X.fn x=true:=by
    rcases hf with z | z
    ·exact z
    ·rw [z] at hk; cases hk
  obtain ⟨c,hc⟩:=I.ok.has x (.inl hk)
  obtain ⟨w',z⟩:=I.cell x c hc
  refine wpAny_storeName_cell I.ok.kind hk hc z (λ h' hc' hs=>?_)
  obtain ⟨oc,hoc,hocd⟩:=id z
  refine h { s with heap:=h' } ⟨I.ok,I.os,I.bare,⟨λ b o e n hb hx=>?_,λ b o e n hb hx=>?_,I.base.free,λ b o e hx=>?_,I.base.tups,I.base.frzs,I.base.tbls⟩,⟨m,hn.sameBut hs (Ne.symm (cne x c hc)),λ j y v' e1 e2 e3=>?_⟩,λ y c' e=>?_,I.free,I.freeC,λ p hp=>?_,tracked ⟨oc,hoc,I.freeC x c hc⟩ hs,by simpa using I.len⟩ ⟨c,hs,.inr hc⟩
  ·exact (hs.2 b (Nat.ne_of_lt (Nat.lt_of_lt_of_le (Heap.lt_size e) (I.ok.cab x c hfn hc)))).trans (I.base.keep b o e n hb hx)
  ·obtain ⟨sl,e1⟩:=I.base.slot b o e n hb hx
   exact ⟨sl,(hs.2 b (Nat.ne_of_lt (Nat.lt_of_lt_of_le (Heap.lt_size e) (I.ok.cab x c hfn hc)))).trans e1⟩
  ·obtain ⟨o',e1⟩:=I.base.there b o e hx
   exact ⟨o',(hs.2 b (Nat.ne_of_lt (Nat.lt_of_lt_of_le (Heap.lt_size e) (I.ok.cab x c hfn hc)))).trans e1⟩
  ·by_cases hj:j=i
   ·subst hj
    rw [hi] at e1; cases e1
    rw [List.getElem?_set_self hiσ] at e2
    cases e2
    exact ⟨u,r,.inr ⟨.inl hk,c,hc,hc'⟩⟩
   ·rw [List.getElem?_set_ne (Ne.symm hj)] at e2
    obtain ⟨u',r',q⟩:=hl j y v' e1 e2 e3
    refine ⟨u',r',?_⟩
    rcases q with q | ⟨k,c',e,z'⟩
    ·exact .inl q
    ·refine .inr ⟨k,c',e,z'.sameBut hs ?_⟩
     rintro rfl
     exact hj (sa1 hN e1 (I.ok.inj _ _ _ e hc ▸ hi))
  ·by_cases hcc:c'=c
   ·subst hcc; exact ⟨_,hc'⟩
   ·obtain ⟨w2,z2⟩:=I.cell y c' e
    exact ⟨w2,z2.sameBut hs hcc⟩
  ·obtain ⟨e,n,ne,nf,d⟩:=I.pin p hp
   refine ⟨(hs.2 p.1 ?_).trans e,n,ne,nf,d⟩
   intro q
   rw [q,hoc] at e
   have q':oc=p.2:=Option.some.inj e
   exact d w' (by rw [<- q']; exact hocd)
theorem xu0 {M:Model} {A:Around} {E:Value->Shared->Prop} {i:Nat} {x:Str} {v:V} {u:Value} {Q:Unit->Shared->Prop} (I:Inv X pins σ H s) (hN:X.N.Nodup) (hi:X.N[i]?=some x) (hx:Loc X.env.scope x) (r:RelV v u)
    (h:∀ s',Inv X pins (σ.set i (some v)) H s'->Q () s') (hf:X.fn x=true \/ X.env.scope.names.lookup x=some .local:=by first | exact .inl rfl | exact .inr rfl | assumption):wpAny M A (storeName X.env x u) Q E s :=
 vd1 I hN hi hx r (λ s' I' _=>h s' I') hf
theorem Inv.call' {s':Shared} {ch:List Addr} (I:Inv X pins σ H s) (ho:s'.os=s.os) (u:Un (frs X.stack) ch H H' s.heap s'.heap) (hok:HOk X.prog X.w H' s'.heap) (hg:AllBare s'.gens)
    (hch:∀ b ∈ ch,(b ∈ X.ex \/ X.s₀.heap.objs.size<=b) /\ b ≠ X.env.locals /\ (∀ x c,X.env.cells.lookup x=some c->c ≠ b) /\ ∀ p ∈ X.pn ++ pins,p.1 ≠ b):Inv X pins σ H' s':=by
 obtain ⟨h',g',d',t',o'⟩:=s'
 have e:o'=s.os:=ho
 subst e
 exact I.call (g':=g') (t':=t') (d':=d') u hok hg hch
end
noncomputable abbrev XK:=Value->Option Addr->Hp->Prop
noncomputable abbrev St:=List (Option V)
noncomputable abbrev VK:=V->Hp->Prop
noncomputable abbrev TE:=St->Hp->VK->Prop
noncomputable abbrev TT:=St->Hp->(Bool->Hp->Prop)->Prop
noncomputable abbrev TA:=St->Hp->(List V->Hp->Prop)->Prop
structure Ends where
 nx:St->Hp->Prop
 rt:VK
 bk:St->Hp->Prop:=λ _ _=>False
 ct:St->Hp->Prop:=λ _ _=>False
noncomputable abbrev TS:=Ends->St->Hp->Prop
noncomputable def EP (X:Cx) (pins:List (Addr × Obj)) (σ:St) (Q:VK) (u:Value) (s':Shared):Prop:=∃ v H',Inv X pins σ H' s' /\ RelV v u /\ Q v H'
noncomputable def TP (X:Cx) (pins:List (Addr × Obj)) (σ:St) (Q:Bool->Hp->Prop) (b:Bool) (s':Shared):Prop:=∃ H',Inv X pins σ H' s' /\ Q b H'
noncomputable def AP (X:Cx) (pins:List (Addr × Obj)) (σ:St) (Q:List V->Hp->Prop) (us:List Value) (s':Shared):Prop:=∃ vs H',Inv X pins σ H' s' /\ Vals vs us /\ Q vs H'
noncomputable def SP (X:Cx) (pins:List (Addr × Obj)) (D:Ends) (f:Flow) (s':Shared):Prop :=
 match f with
 | .next=>∃ σ' H',Inv X pins σ' H' s' /\ D.nx σ' H'
 | .brk=>∃ σ' H',Inv X pins σ' H' s' /\ D.bk σ' H'
 | .cont=>∃ σ' H',Inv X pins σ' H' s' /\ D.ct σ' H'
 | .ret u=>∃ v σ' H',Inv X pins σ' H' s' /\ RelV v u /\ D.rt v H'
noncomputable def PE (X:Cx) (e:Expr) (t:TE):Prop :=
 ∀ (pins:List (Addr × Obj)) (s:Shared) (σ:St) (H:Hp) (Q:VK),Inv X pins σ H s->t σ H Q->wpAny (model X.prog X.w) X.A (eval e X.env) (EP X pins σ Q) X.xe s
noncomputable def PT (X:Cx) (e:Expr) (t:TT):Prop :=
 ∀ (pins:List (Addr × Obj)) (s:Shared) (σ:St) (H:Hp) (Q:Bool->Hp->Prop),Inv X pins σ H s->t σ H Q->wpAny (model X.prog X.w) X.A (isTrue e X.env (eval e X.env)) (TP X pins σ Q) X.xe s
noncomputable def PW (X:Cx) (e:Expr) (t:TT):Prop :=
 ∀ (whole:Sem Value) (pins:List (Addr × Obj)) (s:Shared) (σ:St) (H:Hp) (Q:Bool->Hp->Prop),Inv X pins σ H s->t σ H Q->wpAny (model X.prog X.w) X.A (isTrue e X.env whole) (TP X pins σ Q) X.xe s
theorem PW.pt {X:Cx} {e:Expr} {t:TT} (h:PW X e t):PT X e t:=h _
noncomputable def PA (X:Cx) (es:List Expr) (t:TA):Prop :=
 ∀ (pos:Pos) (pins:List (Addr × Obj)) (s:Shared) (σ:St) (H:Hp) (Q:List V->Hp->Prop),Inv X pins σ H s->t σ H Q->wpAny (model X.prog X.w) X.A (spliced (backTo pos (starEach es X.env))) (AP X pins σ Q) X.xe s
noncomputable def PS (X:Cx) (st:Stmt) (t:TS):Prop :=
 ∀ (pins:List (Addr × Obj)) (s:Shared) (σ:St) (H:Hp) (D:Ends),Inv X pins σ H s->t D σ H->wpAny (model X.prog X.w) X.A (exec st X.env) (SP X pins D) X.xe s
noncomputable def PSs (X:Cx) (st:List Stmt) (t:TS):Prop :=
 ∀ (pins:List (Addr × Obj)) (s:Shared) (σ:St) (H:Hp) (D:Ends),Inv X pins σ H s->t D σ H->wpAny (model X.prog X.w) X.A (execs st X.env) (SP X pins D) X.xe s
theorem thn {α:Type} {t:Sem α} {Q Q':α->Shared->Prop} {M:Model} {A:Around} {E:Value->Shared->Prop} {s:Shared} (h:wpAny M A t Q E s) (hQ:∀ a s,Q a s->Q' a s):wpAny M A t Q' E s:=wpAny_mono h hQ λ _ _ x=>x
end L2
namespace L2
open PySem PySem.Spec PyProof.Rows
section
variable {X:Cx}
noncomputable def tVar (i:Nat):TE:=λ σ H Q=>∃ v,σ[i]?=some (some v) /\ Q v H
noncomputable def tC (v:V):TE:=λ _ H Q=>Q v H
theorem xn3 {i:Nat} {x:Str} {pos:Pos} (hN:X.N[i]?=some x) (hv:Vis X.env.scope x) (hd:(x == ("__debug__" : Str))=false:=by decide) (hcd:(x == ("__classdict__" : Str))=false:=by decide):PE X (.Name x pos) (tVar i):=by
 intro pins s σ H Q I h
 obtain ⟨v,e,h⟩:=h
 obtain ⟨m,hn,hl⟩:=I.loc
 obtain ⟨u,r,l⟩:=hl i x v hN e hv
 have fin:EP X pins σ Q u s:=⟨v,H,I,r,h⟩
 rcases l with ⟨hk,hm⟩ | ⟨hk,c,hc,hcell⟩
 ·exact wpAny_Name (wpAny_loadName_local I.ok.kind hk hn hm fin) hd
 ·rcases hk with hk | hk
  ·exact wpAny_Name (wpAny_loadName_cell I.ok.kind hk hc hcell fin) hd
  ·exact wpAny_Name (wpAny_loadName_free I.ok.kind hk hc hcell fin hcd) hd
theorem xo3 {i j pos}:PE X (.Constant (.int i) j pos) (tC (.int i)):=λ _ _ _ H _ I h=>wpAny_Constant_int ⟨.int i,H,I.tok _,⟨_,rfl⟩,h⟩
theorem wz3 {b j pos}:PE X (.Constant (.bool b) j pos) (tC (.bl b)):=λ _ _ _ H _ I h=>Constant_bool ⟨.bl b,H,I,rfl,h⟩
theorem vn3 {j pos}:PE X (.Constant .none j pos) (tC .non):=λ _ _ _ H _ I h=>Constant_none ⟨.non,H,I,rfl,h⟩
theorem zn3 {x j pos}:PE X (.Constant (.str x) j pos) (tC (.str x)):=λ _ _ _ H _ I h=>Calls.Constant_str ⟨.str x,H,I.tok _,⟨_,rfl⟩,h⟩
noncomputable def Gl (X:Cx) (x:Str):Prop:=X.env.kindOf x=some .globalImplicit
theorem wg0 {E:Value->Shared->Prop} {pins:List (Addr × Obj)} {s:Shared} {σ:St} {H:Hp} {x:Str} {u:Value} {pos:Pos} {Q:Value->Shared->Prop} (I:Inv X pins σ H s) (hg:Gl X x) (hm:X.mg x=some u) (h:Q u s)
    (hd:(x == ("__debug__" : Str))=false:=by decide):wpAny (model X.prog X.w) X.A (eval (.Name x pos) X.env) Q E s :=
 Calls.Name_function_global I.ok.kind hg (Calls.loadGlobal_global (by rw [I.ok.glob]; exact I.mod.glob.keeps I.bk) hm h) hd
theorem vk1 {E:Value->Shared->Prop} {pins:List (Addr × Obj)} {s:Shared} {σ:St} {H:Hp} {x:Str} {u:Value} {pos:Pos} {Q:Value->Shared->Prop} (I:Inv X pins σ H s) (hg:Gl X x) (hm:X.mg x=none) (hv:bootBuiltins x=some u) (h:Q u s)
    (hn:x ≠ "__name__" := by decide) (hd:(x == ("__debug__" : Str))=false:=by decide):wpAny (model X.prog X.w) X.A (eval (.Name x pos) X.env) Q E s:=by
 obtain ⟨mb,h1,h2⟩:=I.mod.blt
 exact Calls.Name_function_global I.ok.kind hg (Calls.loadGlobal_builtin (by rw [I.ok.glob]; exact I.mod.glob.keeps I.bk) hm (by rw [I.ok.blt]; exact h1.keeps I.bk) ((h2 x hn).trans hv) h) hd
theorem tq2 {x:Str} {v:V} {u:Value} {pos:Pos} (hg:Gl X x) (hm:X.mg x=some u) (r:RelV v u) (hd:(x == ("__debug__" : Str))=false:=by decide):PE X (.Name x pos) (tC v) :=
 λ _ _ _ H _ I h=>wg0 I hg hm ⟨v,H,I,r,h⟩ hd
theorem tu1 {x:Str} {v:V} {u:Value} {pos:Pos} (hg:Gl X x) (hm:X.mg x=none) (hv:bootBuiltins x=some u) (r:RelV v u) (hn:x ≠ "__name__" := by decide) (hd:(x == ("__debug__" : Str))=false:=by decide):PE X (.Name x pos) (tC v) :=
 λ _ _ _ H _ I h=>vk1 I hg hm hv ⟨v,H,I,r,h⟩ hn hd
variable {a b:Expr} {ta tb:TE} {pos:Pos}
noncomputable def PC (X:Cx) (op:CmpOp) (a b:Expr) (t:TE):Prop :=
 ∀ (pins:List (Addr × Obj)) (s:Shared) (σ:St) (H:Hp) (Q:VK),Inv X pins σ H s->t σ H Q ->
  wpAny (model X.prog X.w) X.A (eval a X.env) (λ v s₁=>wpAny (model X.prog X.w) X.A (eval b X.env) (λ u s₂=>wpAny (model X.prog X.w) X.A (compareOp op v u) (EP X pins σ Q) X.xe s₂) X.xe s₁) X.xe s
theorem vd2 (b:Expr) {op:CmpOp} (h:op ≠ .In) (h2:op ≠ .NotIn):behindInMarks op b=false:=by
 have e1:(op == CmpOp.In)=false:=by cases op <;> first | rfl | exact absurd rfl h
 have e2:(op == CmpOp.NotIn)=false:=by cases op <;> first | rfl | exact absurd rfl h2
 cases b <;> simp [behindInMarks,e1,e2]
noncomputable def tB (t:TE):TT:=λ σ H Q=>t σ H λ x H1=>∃ c,x=.bl c /\ Q c H1
theorem tl3 {op:CmpOp} {t:TE} (h:PC X op a b t) (h1:behindInMarks op b=false:=by first | exact vd2 _ (by decide) (by decide) | rfl):PT X (.Compare a [op] [b] pos) (tB t):=by
 intro pins s σ H Q I hw
 refine wpAny_isTrue_Compare1 (thn (h pins s σ H _ I hw) λ v s1 h1=>thn h1 λ u s2 h2=>thn h2 λ c s3 ⟨x,H1,I1,r1,q1⟩=>?_) h1
 obtain ⟨d,rfl,q⟩:=q1
 cases r1
 exact wpAny_truthy_bool ⟨H1,I1,q⟩
theorem vl3 {e:Expr} {t:TE} (h:PE X e t) (he:∀ whole,isTrue e X.env whole=(do let v <- whole; standAt e.pos; holding [v] (truthy v)):=by intro _; rfl):PT X e (tB t):=by
 intro pins s σ H Q I hw
 refine isTrue_plain (thn (h pins s σ H _ I hw) λ v s1 ⟨x,H1,I1,r1,q1⟩=>?_) (he _)
 obtain ⟨d,rfl,q⟩:=q1
 cases r1
 exact wpAny_truthy_bool ⟨H1,I1,q⟩
variable {tA tB':TT} {rest:List Expr}
noncomputable def tAnd (t u:TT):TT:=λ σ H Q=>t σ H λ c H1=>if c=true then u σ H1 Q else Q false H1
noncomputable def tOr (t u:TT):TT:=λ σ H Q=>t σ H λ c H1=>if c=true then Q true H1 else u σ H1 Q
noncomputable def tNot (t:TT):TT:=λ σ H Q=>t σ H λ c H1=>Q (!c) H1
theorem xp2 (ha:PT X a tA):PW X (.BoolOp .And [a] pos) tA:=by
 intro wh pins s σ H Q I h
 refine isTrue_and (thn (ha pins s σ H Q I h) λ c s1 e=>?_)
 cases c with
 | true=>exact isTrue_and_nil e
 | false=>exact e
theorem zl3 (ha:PT X a tA):PW X (.BoolOp .Or [a] pos) tA:=by
 intro wh pins s σ H Q I h
 refine isTrue_or (thn (ha pins s σ H Q I h) λ c s1 e=>?_)
 cases c with
 | false=>exact isTrue_or_nil e
 | true=>exact e
theorem wl3 (ha:PT X a tA) (hb:PW X (.BoolOp .And (b :: rest) pos) tB'):PW X (.BoolOp .And (a :: b :: rest) pos) (tAnd tA tB'):=by
 intro wh pins s σ H Q I h
 refine isTrue_and (thn (ha pins s σ H _ I h) λ c s1 ⟨H1,I1,q1⟩=>?_)
 cases c with
 | true=>exact hb wh pins s1 σ H1 Q I1 q1
 | false=>exact ⟨H1,I1,q1⟩
theorem wy3 (ha:PT X a tA) (hb:PW X (.BoolOp .Or (b :: rest) pos) tB'):PW X (.BoolOp .Or (a :: b :: rest) pos) (tOr tA tB'):=by
 intro wh pins s σ H Q I h
 refine isTrue_or (thn (ha pins s σ H _ I h) λ c s1 ⟨H1,I1,q1⟩=>?_)
 cases c with
 | true=>exact ⟨H1,I1,q1⟩
 | false=>exact hb wh pins s1 σ H1 Q I1 q1
theorem ul3 (ha:PT X a tA):PT X (.UnaryOp .Not a pos) (tNot tA):=by
 intro pins s σ H Q I h
 exact isTrue_not (ha pins s σ H (λ c H1=>Q (!c) H1) I h)
noncomputable def uu3 (ta tb:TE):TE:=λ σ H Q=>ta σ H λ x H1=>∃ c,x=.bl c /\ if c=true then tb σ H1 Q else Q (.bl false) H1
noncomputable def tOrV (ta tb:TE):TE:=λ σ H Q=>ta σ H λ x H1=>∃ c,x=.bl c /\ if c=true then Q (.bl true) H1 else tb σ H1 Q
theorem wn3 {op} {t:TE} (h:PE X a t):PE X (.BoolOp op [a] pos) t:=λ pins s σ H Q I hw=>BoolOp_one (h pins s σ H Q I hw)
theorem yo3 (ha:PE X a ta) (hb:PE X (.BoolOp .And (b :: rest) pos) tb):PE X (.BoolOp .And (a :: b :: rest) pos) (uu3 ta tb):=by
 intro pins s σ H Q I h
 refine BoolOp_and (thn (ha pins s σ H _ I h) λ v s1 ⟨x,H1,I1,r1,q1⟩=>?_)
 obtain ⟨c,rfl,q1⟩:=q1
 cases r1
 refine wpAny_truthy_bool ?_
 cases c with
 | true=>exact hb pins s1 σ H1 Q I1 q1
 | false=>exact ⟨.bl false,H1,I1,rfl,q1⟩
theorem ty3 (ha:PE X a ta) (hb:PE X (.BoolOp .Or (b :: rest) pos) tb):PE X (.BoolOp .Or (a :: b :: rest) pos) (tOrV ta tb):=by
 intro pins s σ H Q I h
 refine BoolOp_or (thn (ha pins s σ H _ I h) λ v s1 ⟨x,H1,I1,r1,q1⟩=>?_)
 obtain ⟨c,rfl,q1⟩:=q1
 cases r1
 refine wpAny_truthy_bool ?_
 cases c with
 | false=>exact hb pins s1 σ H1 Q I1 q1
 | true=>exact ⟨.bl true,H1,I1,rfl,q1⟩
noncomputable def tIf (t:TT) (ta tb:TE):TE:=λ σ H Q=>t σ H λ c H1=>if c=true then ta σ H1 Q else tb σ H1 Q
theorem xd2 {c:Expr} (hc:PT X c tA) (ha:PE X a ta) (hb:PE X b tb):PE X (.IfExp c a b pos) (tIf tA ta tb):=by
 intro pins s σ H Q I h
 refine wpAny_IfExp (thn (hc pins s σ H _ I h) λ d s1 ⟨H1,I1,q1⟩=>?_)
 cases d with
 | true=>exact ha pins s1 σ H1 Q I1 q1
 | false=>exact hb pins s1 σ H1 Q I1 q1
end
end L2
namespace L2
open PySem PySem.Spec PyProof.Rows
noncomputable def SqL (K:PySem.W.Frag) (H:Hp) (a:Addr) (xs:List V):Prop :=
 Rd H a (.lst xs) ∨
  ∃ (o:Obj) (its:Array Value) (n:Nat),K.lookup a=some o /\ o.cls=.type "list" /\ o.dict=none /\ o.data=.seq its n /\ its.size<=sizeLine /\ Vals xs its.toList
noncomputable def SqT (K:PySem.W.Frag) (H:Hp) (a:Addr) (xs:List V):Prop :=
 Rd H a (.tup xs) ∨
  ∃ (o:Obj) (its:Array Value) (n:Nat),K.lookup a=some o /\ o.cls=.type "tuple" /\ o.data=.seq its n /\ its.size<=sizeLine /\ Vals xs its.toList
noncomputable def absV:Value->Option V
 | .none=>some .non
 | .bool b=>some (.bl b)
 | .int i _=>some (.int i)
 | .str x _=>some (.str x)
 | .bytes b _=>some (.byt b)
 | .float b _=>some (.flt b)
 | .ref a=>some (.ref a)
 | .type n=>some (.ty n)
 | _=>none
theorem RelV.abs {x:V} {u:Value} (r:RelV x u):absV u=some x:=by
 cases x with
 | non=>cases r; rfl
 | bl _=>cases r; rfl
 | int _=>obtain ⟨t,rfl⟩:=r; rfl
 | str _=>obtain ⟨t,rfl⟩:=r; rfl
 | byt _=>obtain ⟨t,rfl⟩:=r; rfl
 | flt _=>obtain ⟨t,rfl⟩:=r; rfl
 | ref _=>cases r; rfl
 | ty _=>cases r; rfl
theorem RelV.inj {x y:V} {u:Value} (r:RelV x u) (q:RelV y u):x=y:=Option.some.inj (r.abs.symm.trans q.abs)
theorem Vals.inj:∀ {xs ys:List V} {us:List Value},Vals xs us->Vals ys us->xs=ys
 | _,_,_,.nil,.nil=>rfl
 | _,_,_,.cons r t,.cons r' t'=>by rw [r.inj r',Vals.inj t t']
section
variable {X:Cx} {pins:List (Addr × Obj)} {σ:St} {H:Hp} {s:Shared} {a:Addr} {xs ys:List V}
theorem SqL.of {K:PySem.W.Frag} (h:H a=some (.lst xs)):SqL K H a xs:=.inl (.inl h)
theorem SqT.of {K:PySem.W.Frag} (h:H a=some (.tup xs)):SqT K H a xs:=.inl (.inl h)
theorem Inv.list (I:Inv X pins σ H s) (h:SqL X.K H a xs):∃ its:List Value,Vals xs its /\ PlainL s.heap a its.toArray /\ xs.length<=sizeLine:=by
 rcases h with h | ⟨o,its,n,hk,hc,hd,hs,hz,r⟩
 ·obtain ⟨z,its,n,r,e⟩:=h.ok I.hok
  exact ⟨its,r,⟨_,n,e,rfl,rfl,rfl⟩,z⟩
 ·refine ⟨its.toList,r,⟨o,n,I.kIn a o hk,hc,hd,by simpa using hs⟩,?_⟩
  have e:=r.length
  simp only [Array.length_toList] at e
  omega
theorem Inv.tuple (I:Inv X pins σ H s) (h:SqT X.K H a xs):∃ its:List Value,Vals xs its /\ IsTup s.heap a its.toArray /\ xs.length<=sizeLine:=by
 rcases h with h | ⟨o,its,n,hk,hc,hs,hz,r⟩
 ·obtain ⟨z,its,r,p⟩:=h.ok I.hok
  exact ⟨its,r,p,z⟩
 ·refine ⟨its.toList,r,⟨o,I.kIn a o hk,hc,n,by simpa using hs⟩,?_⟩
  have e:=r.length
  simp only [Array.length_toList] at e
  omega
theorem Inv.list_inj (I:Inv X pins σ H s) (h:SqL X.K H a xs) (h':SqL X.K H a ys):xs=ys:=by
 obtain ⟨its,r,⟨o,n,e,_,_,d⟩,_⟩:=I.list h
 obtain ⟨its',r',⟨o',n',e',_,_,d'⟩,_⟩:=I.list h'
 rw [e] at e'; cases e'
 rw [d] at d'
 injection d' with d1 _
 have:its=its':=by simpa using congrArg Array.toList d1
 subst this
 exact r.inj r'
theorem Inv.tuple_inj (I:Inv X pins σ H s) (h:SqT X.K H a xs) (h':SqT X.K H a ys):xs=ys:=by
 obtain ⟨its,r,⟨o,e,_,n,d⟩,_⟩:=I.tuple h
 obtain ⟨its',r',⟨o',e',_,n',d'⟩,_⟩:=I.tuple h'
 rw [e] at e'; cases e'
 rw [d] at d'
 injection d' with d1 _
 have:its=its':=by simpa using congrArg Array.toList d1
 subst this
 exact r.inj r'
end
noncomputable abbrev Cx.wish (X:Cx) (E:Value->Shared->Prop):Cx:={ X with xe:=E }
noncomputable abbrev Cx.nox (X:Cx):Cx:=X.wish λ _ _=>False
theorem Cx.Ok.wish {X:Cx} (ok:X.Ok) (E:Value->Shared->Prop):(X.wish E).Ok :=
 ⟨ok.mod,ok.kind,ok.glob,ok.blt,ok.above,ok.inj,ok.has,ok.cab,ok.hd,ok.frames,ok.stk,ok.exf,ok.bs,ok.bsz,ok.noex,ok.exfs,ok.funs,ok.frf⟩
theorem Cx.Ok.unwish {X:Cx} {E:Value->Shared->Prop} (ok:(X.wish E).Ok):X.Ok :=
 ⟨ok.mod,ok.kind,ok.glob,ok.blt,ok.above,ok.inj,ok.has,ok.cab,ok.hd,ok.frames,ok.stk,ok.exf,ok.bs,ok.bsz,ok.noex,ok.exfs,ok.funs,ok.frf⟩
section
variable {X:Cx} {pins:List (Addr × Obj)} {σ:St} {H:Hp} {s:Shared} {E:Value->Shared->Prop}
theorem Inv.wish (I:Inv X pins σ H s) (E:Value->Shared->Prop):Inv (X.wish E) pins σ H s:=⟨I.ok.wish E,I.os,I.bare,I.base,I.loc,I.cell,I.free,I.freeC,I.pin,I.hok,I.len⟩
theorem Inv.unwish (I:Inv (X.wish E) pins σ H s):Inv X pins σ H s:=⟨I.ok.unwish,I.os,I.bare,I.base,I.loc,I.cell,I.free,I.freeC,I.pin,I.hok,I.len⟩
theorem SP.unwish {D:Ends} {f:Flow} {s':Shared} (h:SP (X.wish E) pins D f s'):SP X pins D f s':=by
 cases f with
 | next=>obtain ⟨σ',H',I,q⟩:=h; exact ⟨σ',H',I.unwish,q⟩
 | brk=>obtain ⟨σ',H',I,q⟩:=h; exact ⟨σ',H',I.unwish,q⟩
 | cont=>obtain ⟨σ',H',I,q⟩:=h; exact ⟨σ',H',I.unwish,q⟩
 | ret u=>obtain ⟨v,σ',H',I,r,q⟩:=h; exact ⟨v,σ',H',I.unwish,r,q⟩
theorem PSs.nox {st:List Stmt} {t:TS} (h:PSs X.nox st t):PSs X st t:=λ pins s σ H D I hw =>
 wpAny_mono (h pins s σ H D (I.wish _) hw) (λ _ _ q=>q.unwish) λ _ _ z=>False.elim z
end
section
variable {X:Cx} {st:Stmt} {rest:List Stmt} {t u:TS} {e:Expr} {te:TE} {pos:Pos}
noncomputable def zu3:TS:=λ D σ H=>D.nx σ H
noncomputable def tSeq (t u:TS):TS:=λ D σ H=>t { D with nx:=u D } σ H
theorem vp2:PSs X [] zu3:=λ _ _ σ H _ I h=>wpAny_execs_nil ⟨σ,H,I,h⟩
theorem zc2 (h1:PS X st t) (h2:PSs X rest u):PSs X (st :: rest) (tSeq t u):=by
 intro pins s σ H D I h
 refine wpAny_execs_cons (thn (h1 pins s σ H { D with nx:=u D } I h) λ f s1 q=>?_)
 cases f with
 | next =>
  obtain ⟨σ',H',I',q⟩:=q
  exact h2 pins s1 σ' H' D I' q
 | ret v=>exact q
 | brk=>exact q
 | cont=>exact q
theorem wp2 (h1:PS X st t):PSs X [st] t:=by
 intro pins s σ H D I h
 refine wpAny_execs_cons (thn (h1 pins s σ H D I h) λ f s1 q=>?_)
 cases f with
 | next=>exact wpAny_execs_nil q
 | ret v=>exact q
 | brk=>exact q
 | cont=>exact q
theorem Inv.quiet {pins:List (Addr × Obj)} {σ:St} {H:Hp} {s:Shared} (I:Inv X pins σ H s):interactive X.env=false:=by simp [interactive,I.ok.kind]
noncomputable def wu3 (te:TE):TS:=λ D σ H=>te σ H λ _ H1=>D.nx σ H1
theorem xq2 (he:PE X e te) (hs:swapsWith e none pos.line X.env=pure false:=by rfl):PS X (.Expr e pos) (wu3 te):=by
 intro pins s σ H D I h
 exact wpAny_Expr_any (thn (he pins s σ H _ I h) λ v s1 ⟨x,H1,I1,r1,q1⟩=>⟨σ,H1,I1,q1⟩) I.quiet hs
noncomputable def tRet (te:TE):TS:=λ D σ H=>te σ H D.rt
theorem ym3 (he:PE X e te):PS X (.Return (some e) pos) (tRet te):=by
 intro pins s σ H D I h
 exact wpAny_Return_some (thn (he pins s σ H _ I h) λ v s1 ⟨x,H1,I1,r1,q1⟩=>⟨x,σ,H1,I1,r1,q1⟩)
noncomputable def tIfS (c:TT) (t u:TS):TS:=λ D σ H=>c σ H λ b H1=>if b=true then t D σ H1 else u D σ H1
theorem vy3 {c:Expr} {a b:List Stmt} {tc:TT} (hc:PT X c tc) (ha:PSs X a t) (hb:PSs X b u):PS X (.If c a b pos) (tIfS tc t u):=by
 intro pins s σ H D I h
 refine wpAny_If (thn (hc pins s σ H _ I h) λ d s1 ⟨H1,I1,q1⟩=>?_)
 cases d with
 | true=>exact ha pins s1 σ H1 D I1 q1
 | false=>exact hb pins s1 σ H1 D I1 q1
end
noncomputable abbrev TG:=V->St->Hp->(St->Hp->Prop)->Prop
noncomputable abbrev TGs:=List V->St->Hp->(St->Hp->Prop)->Prop
noncomputable def PG (X:Cx) (target:Expr) (t:TG):Prop :=
 ∀ (pins:List (Addr × Obj)) (s:Shared) (σ:St) (H:Hp) (v:V) (u:Value) (Q:St->Hp->Prop),Inv X pins σ H s->RelV v u->t v σ H Q ->
  wpAny (model X.prog X.w) X.A (assign target X.env u) (λ _ s'=>∃ σ' H',Inv X pins σ' H' s' /\ Q σ' H') X.xe s
noncomputable def PGs (X:Cx) (ts:List Expr) (t:TGs):Prop :=
 ∀ (pins:List (Addr × Obj)) (s:Shared) (σ:St) (H:Hp) (vs:List V) (us:List Value) (Q:St->Hp->Prop),Inv X pins σ H s->Vals vs us->t vs σ H Q ->
  wpAny (model X.prog X.w) X.A (assignInOrder ((assignEach ts X.env).map (·.2)) us) (λ _ s'=>∃ σ' H',Inv X pins σ' H' s' /\ Q σ' H') X.xe s
noncomputable abbrev TSet:=V->V->V->Hp->(Hp->Prop)->Prop
noncomputable def PSet (X:Cx) (t:TSet):Prop :=
 ∀ (pins:List (Addr × Obj)) (s:Shared) (σ:St) (H:Hp) (o i v:V) (ov iv u:Value) (Q:Hp->Prop),Inv X pins σ H s->RelV o ov->RelV i iv->RelV v u->t o i v H Q ->
  wpAny (model X.prog X.w) X.A (setItem ov iv u) (λ _ s'=>∃ H',Inv X pins σ H' s' /\ Q H') X.xe s
section
variable {X:Cx} {pos:Pos}
noncomputable def ws2 (i:Nat):TG:=λ v σ H Q=>Q (σ.set i (some v)) H
theorem vq2 {i:Nat} {x:Str} (hN:X.N.Nodup) (hi:X.N[i]?=some x) (hx:Loc X.env.scope x) (hf:X.fn x=true \/ X.env.scope.names.lookup x=some .local:=by first | exact .inl rfl | exact .inr rfl | assumption):PG X (.Name x pos) (ws2 i):=by
 intro pins s σ H v u Q I r h
 exact wpAny_assign_Name (xu0 I hN hi hx r (λ s' I'=>⟨_,H,I',h⟩) hf)
noncomputable def gNil:TGs:=λ vs σ H Q=>vs=[] /\ Q σ H
noncomputable def yb4 (t:TG) (u:TGs):TGs:=λ vs σ H Q=>∃ v r,vs=v :: r /\ t v σ H λ σ' H'=>u r σ' H' Q
theorem wq2:PGs X [] gNil:=by
 intro pins s σ H vs us Q I r h
 obtain ⟨e,h⟩:=h
 subst e
 cases r
 exact assignInOrder_nil ⟨σ,H,I,h⟩
theorem tc2 {e:Expr} {es:List Expr} {t:TG} {u:TGs} (h1:PG X e t) (h2:PGs X es u)
    (hs:(assignEach (e :: es) X.env).map (·.2)=assign e X.env :: (assignEach es X.env).map (·.2):=by rfl):PGs X (e :: es) (yb4 t u):=by
 intro pins s σ H vs us Q I r h
 obtain ⟨v,vr,e1,h⟩:=h
 subst e1
 cases r with
 | cons r rr =>
  rw [hs]
  refine assignInOrder_cons (thn (h1 pins s σ H _ _ _ I r h) λ _ s1 ⟨σ1,H1,I1,q1⟩=>?_)
  exact h2 pins s1 σ1 H1 _ _ Q I1 rr q1
noncomputable def gTup (K:PySem.W.Frag) (n:Nat) (t:TGs):TG:=λ v σ H Q=>∃ a xs,v=.ref a /\ SqT K H a xs /\ xs.length=n /\ t xs σ H Q
theorem um3 {es:List Expr} {k:Nat} {t:TGs} {n:Nat} (hc:X.calm=true) (h:PGs X es t)
    (hn:(assignEach es X.env).length=n:=by rfl) (hst:(assignEach es X.env).findIdx? (·.1)=none:=by rfl):PG X (.Tuple es k pos) (gTup X.K n t):=by
 intro pins s σ H v u Q I r hw
 obtain ⟨a,xs,e1,hq,hl,hw⟩:=hw
 subst e1
 cases r
 obtain ⟨its,rv,ht,hz⟩:=I.tuple hq
 refine assign_Tuple_tuple (I.ok.hd hc) ht (by simp [hn,<- hl,rv.length]) hst λ h' hx=>?_
 have I1:Inv X pins σ H { s with heap:=h' }:=I.kept (t':=s.toks) λ b o e=>hx b o (Nat.ne_of_lt (Heap.lt_size e)) e
 exact h pins _ σ H xs _ Q I1 (by simpa using rv) hw
noncomputable def gSub (to ti:TE) (t:TSet):TG:=λ v σ H Q=>to σ H λ o H1=>ti σ H1 λ i H2=>t o i v H2 λ H3=>Q σ H3
theorem tm3 {o i:Expr} {to ti:TE} {t:TSet} (ho:PE X o to) (hi:PE X i ti) (hs:PSet X t)
    (ha:∀ v,assign (.Subscript o i pos) X.env v=(do
     let ov <- holding [v] (eval o X.env)
     let iv <- holding [v,ov] (eval i X.env)
     standAt pos
     holding [v,ov,iv] (setItem ov iv v)
     release [v,ov,iv] []):=by intro _; rfl):PG X (.Subscript o i pos) (gSub to ti t):=by
 intro pins s σ H v u Q I r h
 rw [ha]
 refine wpAny_bind (wpAny_holding (thn (ho pins s σ H _ I h) λ ov s1 ⟨x,H1,I1,r1,q1⟩=>?_))
 refine wpAny_bind (wpAny_holding (thn (hi pins s1 σ H1 _ I1 q1) λ iv s2 ⟨y,H2,I2,r2,q2⟩=>?_))
 refine wpAny_bind (wpAny_standAt (wpAny_bind (wpAny_holding (thn (hs pins s2 σ H2 x y v ov iv u _ I2 r1 r2 r q2) λ _ s3 ⟨H3,I3,q3⟩=>?_))))
 exact wpAny_release ⟨σ,H3,I3,q3⟩
noncomputable def tAsg (te:TE) (g:TG):TS:=λ D σ H=>te σ H λ x H1=>g x σ H1 D.nx
theorem wm3 {tg e:Expr} {te:TE} {g:TG} (he:PE X e te) (hg:PG X tg g) (hs:swapsWithSole [tg] e pos.line X.env=pure false:=by rfl) (hw:swappedStores [tg] e X.env=pure none:=by rfl)
    (h1:(assignEach [tg] X.env).map (·.2)=[assign tg X.env]:=by rfl):PS X (.Assign [tg] e pos) (tAsg te g):=by
 intro pins s σ H D I h
 refine wpAny_Assign_stores (thn (he pins s σ H _ I h) λ v s1 ⟨x,H1,I1,r1,q1⟩=>?_) hs hw
 rw [h1]
 exact thn (hg pins s1 σ H1 x v _ I1 r1 q1) λ _ s2 q=>q
theorem xm3 {i:Nat} {x:Str} {e:Expr} {te:TE} {pos':Pos} (hN:X.N.Nodup) (hi:X.N[i]?=some x) (hx:Loc X.env.scope x) (he:PE X e te) (hs:swapsWith e (some (.Name x pos')) pos.line X.env=pure false:=by rfl) (hf:X.fn x=true \/ X.env.scope.names.lookup x=some .local:=by first | exact .inl rfl | exact .inr rfl | assumption) :
    PS X (.Assign [.Name x pos'] e pos) (tAsg te (ws2 i)):=by
 intro pins s σ H D I h
 refine wpAny_Assign_Name (thn (he pins s σ H _ I h) λ v s1 ⟨y,H1,I1,r1,q1⟩=>?_) hs
 exact xu0 I1 hN hi hx r1 (λ s2 I2=>⟨_,H1,I2,q1⟩) hf
end
section
variable {X:Cx} {pos:Pos}
end
structure It where
 go:Nat->Hp->Prop
 yld:Nat->Hp->V->Hp->Prop
 stop:Nat->Hp->Prop
noncomputable def FpOk (X:Cx) (pins:List (Addr × Obj)) (H:Hp) (b:Addr):Prop :=
 H b=none /\ b ≠ X.env.locals /\ b ∉ X.fs /\ (b ∈ X.ex \/ X.s₀.heap.objs.size<=b) /\ (∀ x c,X.env.cells.lookup x=some c->c ≠ b) /\ ∀ p ∈ X.pn ++ pins,p.1 ≠ b
theorem Inv.fpOk {X:Cx} {pins:List (Addr × Obj)} {σ:St} {H H':Hp} {s:Shared} {b:Addr} (I:Inv X pins σ H s) (hb:s.heap.objs.size<=b) (hn:H' b=none):FpOk X pins H' b:=by
 refine ⟨hn,Nat.ne_of_gt (Nat.lt_of_lt_of_le I.lt hb),I.nofs hb,.inr (Nat.le_trans I.sz hb),λ x c e z=>?_,λ p hp z=>?_⟩
 ·obtain ⟨v,q⟩:=I.cell x c e
  exact absurd (Nat.lt_of_lt_of_le q.lt (by rw [z]; exact hb)) (Nat.lt_irrefl _)
 ·exact absurd (Nat.lt_of_lt_of_le (Heap.lt_size (I.pin p hp).1) (by rw [z]; exact hb)) (Nat.lt_irrefl _)
structure Turn (P:Program) (w:World) (K:PySem.W.Frag) (tg:Expr) (J:It) (fp:List Addr) (it:Addr) (tn:Nat->Heap->Prop):Prop where
 mem:it ∈ fp
 obj:∀ i h,tn i h->∀ b ∈ fp,∃ o,h.get? b=some o /\ ∀ v,o.data ≠ .cell v
 keep:∀ i h h',tn i h->(∀ b ∈ fp,∀ o,h.get? b=some o->h'.get? b=some o)->tn i h'
 item:∀ (X:Cx),X.prog=P->X.w=w->X.K=K->X.calm=true->∀ (i:Nat) (pins:List (Addr × Obj)) (s:Shared) (σ:St) (H:Hp) (E:Value->Shared->Prop),Inv X pins σ H s->(∀ b ∈ fp,FpOk X pins H b)->tn i s.heap->J.go i H ->
  wpAny (model P w) X.A (pyNext (.ref it)) (λ r s1=>∃ u,r=some u ∧
   wpAny (model P w) X.A (letOwnedTupleGo tg (.ref it) u) (λ _ s2=>∃ x H',Inv X pins σ H' s2 /\ RelV x u /\ J.yld i H x H' /\ tn (i + 1) s2.heap /\ ∀ b ∈ fp,H' b=none) E s1) E s
 done:∀ (X:Cx),X.prog=P->X.w=w->X.K=K->X.calm=true->∀ (i:Nat) (pins:List (Addr × Obj)) (s:Shared) (σ:St) (H:Hp) (E:Value->Shared->Prop),Inv X pins σ H s->(∀ b ∈ fp,FpOk X pins H b)->tn i s.heap->J.stop i H ->
  wpAny (model P w) X.A (pyNext (.ref it)) (λ r s1=>r=none /\ Inv X pins σ H s1) E s
 self:∀ (A:Around) (i:Nat) (s:Shared) (Q:Value->Shared->Prop) (E:Value->Shared->Prop),tn i s.heap->Q (.ref it) s->wpAny (model P w) A (pyIter (.ref it)) Q E s
noncomputable abbrev TI:=St->Hp->(It->Hp->Prop)->Prop
noncomputable def PIE (X:Cx) (pins:List (Addr × Obj)) (σ:St) (tg:Expr) (R:It->Hp->Prop) (itv:Value) (s2:Shared):Prop :=
 ∃ (it:Addr) (fp:List Addr) (tn:Nat->Heap->Prop) (J:It) (H':Hp),itv=.ref it /\ Inv X pins σ H' s2 /\ Turn X.prog X.w X.K tg J fp it tn /\ tn 0 s2.heap /\ (∀ b ∈ fp,FpOk X pins H' b) /\ R J H'
noncomputable def PI (X:Cx) (tg iter:Expr) (wi:TI):Prop :=
 ∀ (pins:List (Addr × Obj)) (s:Shared) (σ:St) (H:Hp) (R:It->Hp->Prop),Inv X pins σ H s->wi σ H R ->
  wpAny (model X.prog X.w) X.A (eval iter X.env) (λ v s1=>wpAny (model X.prog X.w) X.A (pyIter v) (PIE X pins σ tg R) X.xe s1) X.xe s
theorem wf2 {M:Model} {A:Around} {E:Value->Shared->Prop} {s:Shared} {tg:Expr} {it:Addr} {u:Value} {o:Obj} {n:String} {vs:Array Value} {Q:Unit->Shared->Prop} (ho:s.heap.get? it=some o) (hc:o.cls=.type n) (hd:o.data=.fields vs)
    (hn:["enumerate", "zip", "dict_itemiterator", "dict_reverseitemiterator", "odict_iterator", "itertools.zip_longest", "itertools.pairwise"].contains n=false) (hQ:Q () s):wpAny M A (letOwnedTupleGo tg (.ref it) u) Q E s:=by
 unfold letOwnedTupleGo
 cases tg <;> first
  | exact wpAny_pure hQ
  | (cases u <;> first
      | exact wpAny_pure hQ
      | (refine wpAny_bind (wpAny_load ho ?_)
         rw [hc,hd]
         show wpAny M A (if (["enumerate", "zip", "dict_itemiterator", "dict_reverseitemiterator", "odict_iterator", "itertools.zip_longest", "itertools.pairwise"].contains n && vs[0]? == some (rawInt _))=true then _ else _) Q E s
         rw [if_neg (by intro h; rw [hn,Bool.false_and] at h; cases h)]
         exact wpAny_pure hQ))
noncomputable def Itl (K:PySem.W.Frag) (a:Addr):It :=
 ⟨λ i H=>∃ xs x,SqL K H a xs /\ xs[i]?=some x,λ i H x H'=>H'=H /\ ∀ xs,SqL K H a xs->xs[i]?=some x,λ i H=>∃ xs,SqL K H a xs /\ xs.length<=i⟩
noncomputable def Itt (K:PySem.W.Frag) (a:Addr):It :=
 ⟨λ i H=>∃ xs x,SqT K H a xs /\ xs[i]?=some x,λ i H x H'=>H'=H /\ ∀ xs,SqT K H a xs->xs[i]?=some x,λ i H=>∃ xs,SqT K H a xs /\ xs.length<=i⟩
noncomputable def Itr (lo:Int) (n:Nat):It:=⟨λ i _=>i < n,λ i H x H'=>H'=H /\ x=.int (lo + i),λ i _=>n<=i⟩
theorem wr1 {P:Program} {w:World} {K:PySem.W.Frag} {tg:Expr} (a it:Addr):Turn P w K tg (Itl K a) [it] it (λ i h=>h.IsListIter it a i) where
 mem:=by simp
 obj:=λ i h st b hb=>by
  have e:b=it:=by simpa using hb
  subst e
  obtain ⟨o,e,c,d⟩:=st
  exact ⟨o,e,λ v z=>by rw [d] at z; cases z⟩
 keep:=λ i h h' st k=>st.at λ o e=>k it (by simp) o e
 item:=by
  intro X hP hw hK hc i pins s σ H E I hf st hg
  subst hP hw hK
  obtain ⟨xs,x,hq,hx⟩:=hg
  obtain ⟨its,rv,p,hz⟩:=I.list hq
  obtain ⟨u,hu,ru⟩:=rv.get hx
  obtain ⟨f0,f1,f2,f3,f4,f5⟩:=hf it (by simp)
  refine wpAny_pyNext_list_item st p.isList (x:=u) (by simpa using hu) λ h' st' sb=>?_
  have I1:Inv X pins σ H { s with heap:=h' }:=I.turned (t':=s.toks) (λ b o hb e=>(sb.2 b hb).trans e) f0 f1 f3 f4 f5
  obtain ⟨o,e,c,d⟩:=id st'
  exact ⟨u,rfl,wf2 (s:={ s with heap:=h' }) e c d (by decide) ⟨x,H,I1,ru,⟨rfl,λ ys hy=>by rw [I.list_inj hy hq]; exact hx⟩,st',λ b hb=>(hf b hb).1⟩⟩
 done:=by
  intro X hP hw hK hc i pins s σ H E I hf st hg
  subst hP hw hK
  obtain ⟨xs,hq,hx⟩:=hg
  obtain ⟨its,rv,p,hz⟩:=I.list hq
  obtain ⟨f0,f1,f2,f3,f4,f5⟩:=hf it (by simp)
  have hl:=rv.length
  exact wpAny_pyNext_list_end (I.ok.hd hc) st p.isList (by simp; omega) λ h' eb=>⟨rfl,I.turned (t':=s.toks) (λ b o hb e=>eb b o hb e) f0 f1 f3 f4 f5⟩
 self:=λ _ _ _ _ _ st h=>wpAny_pyIter_listiter st h
theorem ul1 {P:Program} {w:World} {K:PySem.W.Frag} {tg:Expr} (a it:Addr):Turn P w K tg (Itt K a) [it] it (λ i h=>h.IsTupleIter it a i) where
 mem:=by simp
 obj:=λ i h st b hb=>by
  have e:b=it:=by simpa using hb
  subst e
  obtain ⟨o,e,c,d⟩:=st
  exact ⟨o,e,λ v z=>by rw [d] at z; cases z⟩
 keep:=λ i h h' st k=>st.at λ o e=>k it (by simp) o e
 item:=by
  intro X hP hw hK hc i pins s σ H E I hf st hg
  subst hP hw hK
  obtain ⟨xs,x,hq,hx⟩:=hg
  obtain ⟨its,rv,p,hz⟩:=I.tuple hq
  obtain ⟨u,hu,ru⟩:=rv.get hx
  obtain ⟨f0,f1,f2,f3,f4,f5⟩:=hf it (by simp)
  refine wpAny_pyNext_tuple_item st (show s.heap.IsTuple a its.toArray from p) (x:=u) (by simpa using hu) λ h' st' sb=>?_
  have I1:Inv X pins σ H { s with heap:=h' }:=I.turned (t':=s.toks) (λ b o hb e=>(sb.2 b hb).trans e) f0 f1 f3 f4 f5
  obtain ⟨o,e,c,d⟩:=id st'
  exact ⟨u,rfl,wf2 (s:={ s with heap:=h' }) e c d (by decide) ⟨x,H,I1,ru,⟨rfl,λ ys hy=>by rw [I.tuple_inj hy hq]; exact hx⟩,st',λ b hb=>(hf b hb).1⟩⟩
 done:=by
  intro X hP hw hK hc i pins s σ H E I hf st hg
  subst hP hw hK
  obtain ⟨xs,hq,hx⟩:=hg
  obtain ⟨its,rv,p,hz⟩:=I.tuple hq
  obtain ⟨f0,f1,f2,f3,f4,f5⟩:=hf it (by simp)
  have hl:=rv.length
  exact wpAny_pyNext_tuple_end (I.ok.hd hc) st (show s.heap.IsTuple a its.toArray from p) (by simp; omega) λ h' eb=>⟨rfl,I.turned (t':=s.toks) (λ b o hb e=>eb b o hb e) f0 f1 f3 f4 f5⟩
 self:=λ _ _ _ _ _ st h=>wpAny_pyIter_tupleiter st h
theorem tl1 {P:Program} {w:World} {K:PySem.W.Frag} {tg:Expr} (it:Addr) (lo:Int) (n:Nat):Turn P w K tg (Itr lo n) [it] it (λ i h=>IsRangeIter h it (lo + (i:Nat) * 1) ((n:Int) - (i:Nat)) 1) where
 mem:=by simp
 obj:=λ i h st b hb=>by
  have e:b=it:=by simpa using hb
  subst e
  exact ⟨_,st,λ v z=>by
   have z':Data.fields _=Data.cell v:=z
   cases z'⟩
 keep:=λ i h h' st k=>k it (by simp) _ st
 item:=by
  intro X hP hw hK hc i pins s σ H E I hf st hg
  subst hP hw hK
  obtain ⟨f0,f1,f2,f3,f4,f5⟩:=hf it (by simp)
  have W:=Walks.range (prog:=X.prog) (w:=X.w) (I.ok.hd hc) it lo 1 n
  refine W.item i s _ _ hg st λ v h' tk hv st' kk=>?_
  obtain ⟨t,rfl⟩:=hv
  have I1:Inv X pins σ H { s with heap:=h',toks:=tk }:=I.turned (λ b o hb e=>kk b o (by simpa using hb) e) f0 f1 f3 f4 f5
  refine ⟨_,rfl,wf2 (s:={ s with heap:=h',toks:=tk }) (n := "range_iterator") st' rfl rfl (by decide) ⟨.int (lo + i),H,I1,⟨t,?_⟩,⟨rfl,rfl⟩,st',λ b hb=>(hf b hb).1⟩⟩
  rw [Int.mul_one]
 done:=by
  intro X hP hw hK hc i pins s σ H E I hf st hg
  subst hP hw hK
  obtain ⟨f0,f1,f2,f3,f4,f5⟩:=hf it (by simp)
  exact wpAny_pyNext_range_end (I.ok.hd hc) st (by have:n<=i:=hg; omega) λ h' eb=>⟨rfl,I.turned (t':=s.toks) (λ b o hb e=>eb b o hb e) f0 f1 f3 f4 f5⟩
 self:=λ _ _ _ _ _ st h=>wpAny_pyIter_rangeiter st h
end L2
namespace L2
open PySem PySem.Spec PyProof.Rows
section
variable {X:Cx} {tg:Expr}
theorem tb2 {pins:List (Addr × Obj)} {σ:St} {H:Hp} {s:Shared} {R:It->Hp->Prop} {E:Value->Shared->Prop} {lo hi:Int} {t u v:Tok} {tk:Nat} (I:Inv X pins σ H s) (h1 : -(2 ^ 62)<=lo) (h2:lo < 2 ^ 62) (h3 : -(2 ^ 62)<=hi) (h4:hi < 2 ^ 62)
    (q:R (Itr lo (hi - lo).toNat) H):wpAny (model X.prog X.w) X.A (pyIter (.ref s.heap.objs.size)) (PIE X pins σ tg R) E { s with heap:=s.heap.push { cls:=.type "range",data:=.fields #[.int lo t,.int hi u,.int 1 v] },toks:=tk }:=by
 refine wpAny_pyIter_range (IsRange.new ..) (small_one h1 h2 h3 h4) ?_
 have I1:Inv X pins σ H { s with heap:=s.heap.push { cls:=.type "range",data:=.fields #[.int lo t,.int hi u,.int 1 v] },toks:=tk }:=I.kept λ b o e=>Heap.get?_push_of_some _ e
 refine ⟨(s.heap.push { cls:=.type "range",data:=.fields #[.int lo t,.int hi u,.int 1 v] }).objs.size,[(s.heap.push { cls:=.type "range",data:=.fields #[.int lo t,.int hi u,.int 1 v] }).objs.size],_,_,H,rfl,
  I1.kept (t':=tk) λ b o e=>Heap.get?_push_of_some _ e,tl1 _ lo (hi - lo).toNat,?_,λ b hb=>?_,q⟩
 ·have e1:lo + ((0:Nat):Int) * 1=lo:=by simp
  have e2:(((hi - lo).toNat:Nat):Int) - ((0:Nat):Int)=Builtin.Range.rangeSize lo hi 1:=by rw [rangeSize_one]; split <;> omega
  show IsRangeIter _ _ (lo + ((0:Nat):Int) * 1) ((((hi - lo).toNat:Nat):Int) - ((0:Nat):Int)) 1
  rw [e1,e2]
  exact Heap.get?_push_size _ rfl
 ·have e:b=(s.heap.push { cls:=.type "range",data:=.fields #[.int lo t,.int hi u,.int 1 v] }).objs.size:=by simpa using hb
  subst e
  exact I1.fpOk (Nat.le_refl _) (I1.hok.fresh (Nat.le_refl _))
noncomputable def xb4 (ta:TA):TI:=λ σ H R=>ta σ H λ vs H1=>∃ j:Int,vs=[.int j] /\ -(2 ^ 62)<=j /\ j < 2 ^ 62 /\ R (Itr 0 j.toNat) H1
theorem vu1 {a:Expr} {ta:TA} {p pos:Pos} (hg:Gl X "range") (hm:X.mg "range" = none) (ha:PA X [a] ta) (hs:starEach [a] X.env=[(false,eval a X.env)]:=by rfl):PI X tg (.Call (.Name "range" p) [a] [] pos) (xb4 ta):=by
 intro pins s σ H R I h
 refine Call_ (vk1 I hg hm boot_range (PyProof.Rows.callWith_type1 (thn (ha pos pins s σ H _ I h) λ us s1 ⟨vs,H1,I1,r1,q1⟩=>?_) hs rfl))
 obtain ⟨j,e,q1,q2,q⟩:=q1
 subst e
 cases r1 with
 | cons r rr =>
  cases rr
  obtain ⟨t,rfl⟩:=r
  exact call_range_1 (tb2 I1 (by omega) (by omega) q1 q2 (by simpa using q))
noncomputable def tFor (wi:TI) (g:TG) (tb:TS):TS:=λ D σ H=>wi σ H λ J H1=>∃ W:Nat->Nat->St->Hp->Prop,(∃ m,W 0 m σ H1) /\ ∀ i m σ H,W i m σ H ->
 (J.stop i H /\ D.nx σ H) \/ (J.go i H /\ ∃ N:St->Hp->Prop,(∀ σ' H',N σ' H'->∃ m',m' < m /\ W (i + 1) m' σ' H') /\ ∀ x H',J.yld i H x H'->g x σ H' λ σ2 H2=>tb { D with nx:=N,ct:=N,bk:=D.nx } σ2 H2)
noncomputable def we1 (fp:List Addr) (h:Heap):List (Addr × Obj):=fp.filterMap λ b=>(h.get? b).map λ o=>(b,o)
theorem xq0 {fp:List Addr} {h:Heap} {b:Addr} {o:Obj} (hb:b ∈ fp) (e:h.get? b=some o):(b,o) ∈ we1 fp h:=List.mem_filterMap.mpr ⟨b,hb,by rw [e]; rfl⟩
theorem yv1 {fp:List Addr} {h:Heap} {p:Addr × Obj} (hp:p ∈ we1 fp h):p.1 ∈ fp /\ h.get? p.1=some p.2:=by
 obtain ⟨b,hb,e⟩:=List.mem_filterMap.mp hp
 cases q:h.get? b with
 | none=>rw [q] at e; cases e
 | some o =>
  rw [q] at e
  have e':(b,o)=p:=Option.some.inj e
  subst e'
  exact ⟨hb,q⟩
theorem Inv.pinned {pins:List (Addr × Obj)} {σ:St} {H:Hp} {s:Shared} {fp:List Addr} (I:Inv X pins σ H s) (hf:∀ b ∈ fp,FpOk X pins H b) (ho:∀ b ∈ fp,∃ o,s.heap.get? b=some o /\ ∀ v,o.data ≠ .cell v):Inv X (pins ++ we1 fp s.heap) σ H s :=
 I.pins_of λ p hp=>(List.mem_append.mp hp).elim (λ z=>I.pin p (List.mem_append_right _ z)) λ z=>by
  obtain ⟨hb,e⟩:=yv1 z
  obtain ⟨f0,f1,f2,_⟩:=hf p.1 hb
  obtain ⟨o,e',d⟩:=ho p.1 hb
  rw [e] at e'; cases e'
  exact ⟨e,f0,f1,f2,d⟩
theorem Inv.unpinned {pins pl:List (Addr × Obj)} {σ:St} {H:Hp} {s:Shared} (I:Inv X (pins ++ pl) σ H s):Inv X pins σ H s:=I.pins_of λ p hp=>I.pin p (List.mem_append_right _ (List.mem_append_left _ hp))
theorem zm3 {iter:Expr} {body:List Stmt} {wi:TI} {g:TG} {tb:TS} {pos:Pos} (hp:PassesOwn (model X.prog X.w) X.A X.env X.xe) (hc:X.calm=true) (hi:PI X tg iter wi) (hg:PG X tg g) (hb:PSs X body tb)
    (hs:∀ x,foldedSetIterable iter X.env x=pure x:=by intro _; rfl):PS X (.For tg iter body [] pos) (tFor wi g tb):=by
 intro pins s σ H D I h
 refine wpAny_For (thn (hi pins s σ H _ I h) λ v s1 h1=>thn h1 λ itv s2 h2=>?_) hs
 obtain ⟨it,fp,tn,J,H2,e,I2,T,st2,f2,W,⟨m0,w0⟩,turn⟩:=h2
 subst e
 have stat:∀ {H':Hp},(∀ b ∈ fp,H' b=none)->∀ b ∈ fp,FpOk X pins H' b:=λ hn b hb=>⟨hn b hb,(f2 b hb).2⟩
 refine codeAny_forLoop_any (λ n s'=>∃ i σ' H',Inv X pins σ' H' s' /\ tn i s'.heap /\ (∀ b ∈ fp,H' b=none) /\ W i n σ' H') ?_ m0 ⟨0,σ,H2,I2,st2,λ b hb=>(f2 b hb).1,w0⟩
 rintro n s3 ⟨i,σ3,H3,I3,st3,fr3,w3⟩
 rcases turn i n σ3 H3 w3 with ⟨stop,qn⟩ | ⟨go,N,hN,step⟩
 ·refine wpAny_passesOwn hp (thn (T.done X rfl rfl rfl hc i pins s3 σ3 H3 X.xe I3 (stat fr3) st3 stop) λ r s4 ⟨hr,I4⟩=>?_)
  subst hr
  exact wpAny_execs_nil ⟨σ3,H3,I4,qn⟩
 ·refine wpAny_passesOwn hp (thn (T.item X rfl rfl rfl hc i pins s3 σ3 H3 X.xe I3 (stat fr3) st3 go) λ r s4 ⟨u,hr,h4⟩=>?_)
  subst hr
  refine wpAny_passesOwn hp (thn h4 λ _ s5 ⟨x,H5,I5,r5,y5,st5,fr5⟩=>?_)
  have I5':=I5.pinned (stat fr5) (T.obj _ _ st5)
  refine wpAny_passesOwn hp (thn (hg _ s5 σ3 H5 x u _ I5' r5 (step x H5 y5)) λ _ s6 ⟨σ6,H6,I6,q6⟩=>?_)
  refine wpAny_passesOwn hp (thn (hb _ s6 σ6 H6 _ I6 q6) λ f s7 q7=>?_)
  have again:∀ {σ7:St} {H7:Hp},Inv X (pins ++ we1 fp s5.heap) σ7 H7 s7->N σ7 H7->∃ m,m < n /\ ∃ i σ' H',Inv X pins σ' H' s7 /\ tn i s7.heap /\ (∀ b ∈ fp,H' b=none) /\ W i m σ' H':=λ {σ7 H7} I7 n7=>by
   obtain ⟨m',hm,w7⟩:=hN σ7 H7 n7
   refine ⟨m',hm,i + 1,σ7,H7,I7.unpinned,T.keep _ _ _ st5 λ b hb o e=>(I7.pin (b,o) (List.mem_append_right _ (List.mem_append_right _ (xq0 hb e)))).1,λ b hb=>?_,w7⟩
   obtain ⟨o,e,d⟩:=T.obj _ _ st5 b hb
   exact (I7.pin (b,o) (List.mem_append_right _ (List.mem_append_right _ (xq0 hb e)))).2.1
  cases f with
  | next=>obtain ⟨σ7,H7,I7,n7⟩:=q7; exact again I7 n7
  | cont=>obtain ⟨σ7,H7,I7,n7⟩:=q7; exact again I7 n7
  | brk=>obtain ⟨σ7,H7,I7,q7⟩:=q7; exact ⟨σ7,H7,I7.unpinned,q7⟩
  | ret v=>obtain ⟨x7,σ7,H7,I7,r7,q7⟩:=q7; exact ⟨x7,σ7,H7,I7.unpinned,r7,q7⟩
end
end L2
namespace L2
open PySem PySem.Spec PyProof.Rows
noncomputable abbrev R2:=V->V->Hp->VK->Prop
noncomputable def OpR (X:Cx) (f:Value->Value->Sem Value) (r:R2):Prop :=
 ∀ (pins:List (Addr × Obj)) (s:Shared) (σ:St) (H:Hp) (x y:V) (v u:Value) (Q:VK),Inv X pins σ H s->RelV x v->RelV y u->r x y H Q ->
  wpAny (model X.prog X.w) X.A (f v u) (EP X pins σ Q) X.xe s
noncomputable def UnR (X:Cx) (f:Value->Sem Value) (r:V->Hp->VK->Prop):Prop :=
 ∀ (pins:List (Addr × Obj)) (s:Shared) (σ:St) (H:Hp) (x:V) (v:Value) (Q:VK),Inv X pins σ H s->RelV x v->r x H Q ->
  wpAny (model X.prog X.w) X.A (f v) (EP X pins σ Q) X.xe s
noncomputable def CallR (X:Cx) (f:Value) (r:List V->Hp->VK->Prop):Prop :=
 ∀ (pins:List (Addr × Obj)) (s:Shared) (σ:St) (H:Hp) (xs:List V) (us:List Value) (Q:VK),Inv X pins σ H s->Vals xs us->r xs H Q ->
  wpAny (model X.prog X.w) X.A (call f us) (EP X pins σ Q) X.xe s
noncomputable def tOp (r:R2) (ta tb:TE):TE:=λ σ H Q=>ta σ H λ x H1=>tb σ H1 λ y H2=>r x y H2 Q
noncomputable def tUn (r:V->Hp->VK->Prop) (ta:TE):TE:=λ σ H Q=>ta σ H λ x H1=>r x H1 Q
noncomputable def rI (C:Int->Int->Prop) (g:Int->Int->V):R2:=λ x y H Q=>∃ i j,x=.int i /\ y=.int j /\ C i j /\ Q (g i j) H
noncomputable def rI0 (g:Int->Int->V):R2:=λ x y H Q=>∃ i j,x=.int i /\ y=.int j /\ Q (g i j) H
noncomputable def rU (g:Int->V):V->Hp->VK->Prop:=λ x H Q=>∃ i,x=.int i /\ Q (g i) H
section
variable {X:Cx} {a b c:Expr} {ta tb tc:TE} {pos:Pos}
theorem binT (ha:PE X a ta) (hb:PE X b tb) {pins:List (Addr × Obj)} {s:Shared} {σ:St} {H:Hp} {R:V->V->Hp->Prop} (I:Inv X pins σ H s)
    (h:ta σ H λ x H1=>tb σ H1 λ y H2=>R x y H2) {Q:Value->Shared->Prop} {f:Value->Value->Sem Value}
    (hf:∀ v u s2 x y H2,Inv X pins σ H2 s2->RelV x v->RelV y u->R x y H2->wpAny (model X.prog X.w) X.A (f v u) Q X.xe s2) :
    wpAny (model X.prog X.w) X.A (eval a X.env) (λ v s₁=>wpAny (model X.prog X.w) X.A (eval b X.env) (λ u s₂=>wpAny (model X.prog X.w) X.A (f v u) Q X.xe s₂) X.xe s₁) X.xe s:=by
 refine thn (ha pins s σ H _ I h) λ v s1 ⟨x,H1,I1,r1,q1⟩=>?_
 refine thn (hb pins s1 σ H1 _ I1 q1) λ u s2 ⟨y,H2,I2,r2,q2⟩=>?_
 exact hf v u s2 x y H2 I2 r1 r2 q2
theorem sy3 {op:Operator} {r:R2} (ho:OpR X (binaryOp op) r) (ha:PE X a ta) (hb:PE X b tb):PE X (.BinOp a op b pos) (tOp r ta tb):=by
 intro pins s σ H Q I h
 exact wpAny_BinOp (binT ha hb I h λ v u s2 x y H2 I2 rx ry q=>ho pins s2 σ H2 x y v u Q I2 rx ry q)
theorem uy3 {op:UnaryOp} {r:V->Hp->VK->Prop} (ho:UnR X (unaryOp op) r) (ha:PE X a ta):PE X (.UnaryOp op a pos) (tUn r ta):=by
 intro pins s σ H Q I h
 exact UnaryOp_ (thn (ha pins s σ H _ I h) λ v s1 ⟨x,H1,I1,r1,q1⟩=>ho pins s1 σ H1 x v Q I1 r1 q1)
theorem opI {f:Value->Value->Sem Value} {C:Int->Int->Prop} {g:Int->Int->Int}
    (rule:∀ (i j:Int) (t u:Tok) (s:Shared) (Q:Value->Shared->Prop) (E:Value->Shared->Prop),C i j->Q (.int (g i j) s.toks) { s with toks:=s.toks + 1 }->wpAny (model X.prog X.w) X.A (f (.int i t) (.int j u)) Q E s) :
    OpR X f (rI C λ i j=>.int (g i j)):=by
 intro pins s σ H x y v u Q I rx ry h
 obtain ⟨i,j,rfl,rfl,hc,q⟩:=h
 obtain ⟨t,rfl⟩:=rx
 obtain ⟨t',rfl⟩:=ry
 exact rule i j t t' s _ _ hc ⟨.int (g i j),H,I.tok _,⟨_,rfl⟩,q⟩
theorem opI0 {f:Value->Value->Sem Value} {g:Int->Int->Int}
    (rule:∀ (i j:Int) (t u:Tok) (s:Shared) (Q:Value->Shared->Prop) (E:Value->Shared->Prop),Q (.int (g i j) s.toks) { s with toks:=s.toks + 1 }->wpAny (model X.prog X.w) X.A (f (.int i t) (.int j u)) Q E s) :
    OpR X f (rI0 λ i j=>.int (g i j)):=by
 intro pins s σ H x y v u Q I rx ry h
 obtain ⟨i,j,rfl,rfl,q⟩:=h
 obtain ⟨t,rfl⟩:=rx
 obtain ⟨t',rfl⟩:=ry
 exact rule i j t t' s _ _ ⟨.int (g i j),H,I.tok _,⟨_,rfl⟩,q⟩
theorem opB0 {f:Value->Value->Sem Value} {g:Int->Int->Bool}
    (rule:∀ (i j:Int) (t u:Tok) (s:Shared) (Q:Value->Shared->Prop) (E:Value->Shared->Prop),Q (.bool (g i j)) s->wpAny (model X.prog X.w) X.A (f (.int i t) (.int j u)) Q E s) :
    OpR X f (rI0 λ i j=>.bl (g i j)):=by
 intro pins s σ H x y v u Q I rx ry h
 obtain ⟨i,j,rfl,rfl,q⟩:=h
 obtain ⟨t,rfl⟩:=rx
 obtain ⟨t',rfl⟩:=ry
 exact rule i j t t' s _ _ ⟨.bl (g i j),H,I,rfl,q⟩
noncomputable def CPow (i j:Int):Prop:=0<=j /\ j<=1000000 /\ i.natAbs < 2 ^ 64
noncomputable def CMul (i j:Int):Prop:=(-(2 ^ 64) < i /\ i < 2 ^ 64) \/ (-(2 ^ 64) < j /\ j < 2 ^ 64)
theorem CMul.ok {i j:Int} (h:CMul i j):IntMulOk i j:=by
 rcases h with ⟨h1,h2⟩ | ⟨h1,h2⟩
 ·exact .of_left (intBits_le_64 h1 h2)
 ·exact .of_right (intBits_le_64 h1 h2)
theorem op_add:OpR X (binaryOp .Add) (rI0 λ i j=>.int (i + j)):=opI0 λ _ _ _ _ _ _ _ q=>add_int q
theorem uo3:OpR X (binaryOp .Sub) (rI0 λ i j=>.int (i - j)):=opI0 λ _ _ _ _ _ _ _ q=>sub_int q
theorem yp3:OpR X (binaryOp .Mod) (rI (λ _ j=>0 < j) λ i j=>.int (i % j)):=opI λ i j _ _ _ _ _ hc q=>by
 have h1:(0:Int) < j:=hc
 exact mod_int' (by omega) (by rw [Int.fmod_eq_emod_of_nonneg i (by omega)]; exact q)
theorem so3:OpR X (binaryOp .Pow) (rI CPow λ i j=>.int (i ^ j.toNat)):=opI λ _ _ _ _ _ _ _ hc q=>pow_int_small hc.1 hc.2.1 hc.2.2 q
theorem unI {f:Value->Sem Value} {g:Int->Int}
    (rule:∀ (i:Int) (t:Tok) (s:Shared) (Q:Value->Shared->Prop) (E:Value->Shared->Prop),Q (.int (g i) s.toks) { s with toks:=s.toks + 1 }->wpAny (model X.prog X.w) X.A (f (.int i t)) Q E s) :
    UnR X f (rU λ i=>.int (g i)):=by
 intro pins s σ H x v Q I rx h
 obtain ⟨i,rfl,q⟩:=h
 obtain ⟨t,rfl⟩:=rx
 exact rule i t s _ _ ⟨.int (g i),H,I.tok _,⟨_,rfl⟩,q⟩
theorem wx2:UnR X (unaryOp .USub) (rU λ i=>.int (-i)):=unI λ _ _ _ _ _ q=>neg_int q
end
noncomputable def scal:V->V->Bool
 | .non,.non=>true | .non,.int _=>true | .int _,.non=>true | .non,.bl _=>true | .bl _,.non=>true | .non,.str _=>true | .str _,.non=>true
 | .int _,.int _=>true | .bl _,.bl _=>true | .str _,.str _=>true | .byt _,.byt _=>true
 | .int _,.str _=>true | .str _,.int _=>true | .bl _,.str _=>true | .str _,.bl _=>true
 | _,_=>false
noncomputable def rEq:R2:=λ x y H Q=>scal x y=true /\ Q (.bl (decide (x=y))) H
noncomputable def rNe:R2:=λ x y H Q=>scal x y=true /\ Q (.bl (!decide (x=y))) H
theorem yx1 {i j:Int}:decide (V.int i=V.int j)=(i == j):=by
 rw [Bool.eq_iff_iff]
 simp
theorem vk2 {i j:Bool}:decide (V.bl i=V.bl j)=(i == j):=by
 rw [Bool.eq_iff_iff]
 simp
theorem xx1 {i j:Str}:decide (V.str i=V.str j)=(i == j):=by
 rw [Bool.eq_iff_iff]
 simp
theorem zx1 {i j:Array UInt8}:decide (V.byt i=V.byt j)=(i.toList == j.toList):=by
 rw [Bool.eq_iff_iff]
 cases i
 cases j
 simp
section
variable {X:Cx} {a b c:Expr} {ta tb tc:TE} {pos:Pos}
theorem xe0 {pins:List (Addr × Obj)} {σ:St} {H:Hp} {s:Shared} {Q:VK} {k k':Bool} (I:Inv X pins σ H s) (q:Q (.bl k) H) (e:k=k'):EP X pins σ Q (.bool k') s:=by
 subst e
 exact ⟨.bl k,H,I,rfl,q⟩
theorem op_eq:OpR X (compareOp .Eq) rEq:=by
 intro pins s σ H x y v u Q I rx ry h
 obtain ⟨hs,q⟩:=h
 cases x with
 | non =>
  cases rx
  cases y with
  | non=>cases ry; exact PySem.EqNone.eq_none_none (xe0 I q (by simp))
  | bl j=>cases ry; exact PySem.EqNone.eq_none_bool (xe0 I q (by simp))
  | int j=>obtain ⟨t',rfl⟩:=ry; exact PySem.EqNone.eq_none_int (xe0 I q (by simp))
  | str j=>obtain ⟨t',rfl⟩:=ry; exact PySem.EqNone.eq_none_str (xe0 I q (by simp))
  | _=>exact absurd (show false=true from hs) Bool.false_ne_true
 | bl i =>
  cases rx
  cases y with
  | non=>cases ry; exact PySem.EqNone.eq_bool_none (xe0 I q (by simp))
  | bl j=>cases ry; exact eq_bool (xe0 I q vk2)
  | str j=>obtain ⟨t',rfl⟩:=ry; exact PySem.EqMixed.eq_bool_str (xe0 I q (by simp))
  | _=>exact absurd (show false=true from hs) Bool.false_ne_true
 | int i =>
  obtain ⟨t,rfl⟩:=rx
  cases y with
  | non=>cases ry; exact PySem.EqNone.eq_int_none (xe0 I q (by simp))
  | int j=>obtain ⟨t',rfl⟩:=ry; exact eq_int (xe0 I q yx1)
  | str j=>obtain ⟨t',rfl⟩:=ry; exact PySem.EqMixed.eq_int_str (xe0 I q (by simp))
  | _=>exact absurd (show false=true from hs) Bool.false_ne_true
 | str i =>
  obtain ⟨t,rfl⟩:=rx
  cases y with
  | non=>cases ry; exact PySem.EqNone.eq_str_none (xe0 I q (by simp))
  | bl j=>cases ry; exact PySem.EqMixed.eq_str_bool (xe0 I q (by simp))
  | int j=>obtain ⟨t',rfl⟩:=ry; exact PySem.EqMixed.eq_str_int (xe0 I q (by simp))
  | str j=>obtain ⟨t',rfl⟩:=ry; exact eq_str (xe0 I q xx1)
  | _=>exact absurd (show false=true from hs) Bool.false_ne_true
 | byt i =>
  obtain ⟨t,rfl⟩:=rx
  cases y with
  | byt j=>obtain ⟨t',rfl⟩:=ry; exact PySem.W.eq_bytes (xe0 I q zx1)
  | _=>exact absurd (show false=true from hs) Bool.false_ne_true
 | _=>cases y <;> exact absurd (show false=true from hs) Bool.false_ne_true
theorem op_ne:OpR X (compareOp .NotEq) rNe:=by
 intro pins s σ H x y v u Q I rx ry h
 obtain ⟨hs,q⟩:=h
 cases x with
 | non =>
  cases rx
  cases y with
  | non=>cases ry; exact PySem.EqNone.ne_none_none (xe0 I q (by simp))
  | bl j=>cases ry; exact PySem.EqNone.ne_none_bool (xe0 I q (by simp))
  | int j=>obtain ⟨t',rfl⟩:=ry; exact PySem.EqNone.ne_none_int (xe0 I q (by simp))
  | str j=>obtain ⟨t',rfl⟩:=ry; exact PySem.EqNone.ne_none_str (xe0 I q (by simp))
  | _=>exact absurd (show false=true from hs) Bool.false_ne_true
 | bl i =>
  cases rx
  cases y with
  | non=>cases ry; exact PySem.EqNone.ne_bool_none (xe0 I q (by simp))
  | bl j=>cases ry; exact ne_bool (xe0 I q (congrArg not vk2))
  | str j=>obtain ⟨t',rfl⟩:=ry; exact PySem.EqMixed.ne_bool_str (xe0 I q (by simp))
  | _=>exact absurd (show false=true from hs) Bool.false_ne_true
 | int i =>
  obtain ⟨t,rfl⟩:=rx
  cases y with
  | non=>cases ry; exact PySem.EqNone.ne_int_none (xe0 I q (by simp))
  | int j=>obtain ⟨t',rfl⟩:=ry; exact ne_int (xe0 I q (congrArg not yx1))
  | str j=>obtain ⟨t',rfl⟩:=ry; exact PySem.EqMixed.ne_int_str (xe0 I q (by simp))
  | _=>exact absurd (show false=true from hs) Bool.false_ne_true
 | str i =>
  obtain ⟨t,rfl⟩:=rx
  cases y with
  | non=>cases ry; exact PySem.EqNone.ne_str_none (xe0 I q (by simp))
  | bl j=>cases ry; exact PySem.EqMixed.ne_str_bool (xe0 I q (by simp))
  | int j=>obtain ⟨t',rfl⟩:=ry; exact PySem.EqMixed.ne_str_int (xe0 I q (by simp))
  | str j=>obtain ⟨t',rfl⟩:=ry; exact ne_str (xe0 I q (congrArg not xx1))
  | _=>exact absurd (show false=true from hs) Bool.false_ne_true
 | byt i =>
  obtain ⟨t,rfl⟩:=rx
  cases y with
  | byt j=>obtain ⟨t',rfl⟩:=ry; exact PySem.W.ne_bytes (xe0 I q (congrArg not zx1))
  | _=>exact absurd (show false=true from hs) Bool.false_ne_true
 | _=>cases y <;> exact absurd (show false=true from hs) Bool.false_ne_true
theorem uz3:OpR X (compareOp .Lt) (rI0 λ i j=>.bl (decide (i < j))):=opB0 λ _ _ _ _ _ _ _ q=>lt_int q
theorem tz3:OpR X (compareOp .LtE) (rI0 λ i j=>.bl (decide (i<=j))):=opB0 λ _ _ _ _ _ _ _ q=>le_int q
theorem sz3:OpR X (compareOp .Gt) (rI0 λ i j=>.bl (decide (j < i))):=opB0 λ _ _ _ _ _ _ _ q=>gt_int q
theorem xa4:OpR X (compareOp .GtE) (rI0 λ i j=>.bl (decide (j<=i))):=opB0 λ _ _ _ _ _ _ _ q=>ge_int q
theorem xv1:OpR X (compareOp .In) (λ x y H Q=>∃ i j,x=.str i /\ y=.str j /\ Q (.bl (!(Builtin.Str.occurrences j i 0 j.length 1).isEmpty)) H):=by
 intro pins s σ H x y v u Q I rx ry h
 obtain ⟨i,j,rfl,rfl,q⟩:=h
 obtain ⟨t,rfl⟩:=rx
 obtain ⟨t',rfl⟩:=ry
 exact in_str (xe0 I q rfl)
theorem zp3:OpR X (compareOp .Is) (λ x y H Q=>y=.non /\ Q (.bl (decide (x=.non))) H):=by
 intro pins s σ H x y v u Q I rx ry h
 obtain ⟨rfl,q⟩:=h
 cases ry
 refine is_none_gen (xe0 I q ?_)
 cases x <;> first
  | (cases rx; rfl)
  | (obtain ⟨t,rfl⟩:=rx; rfl)
theorem xr2:OpR X (compareOp .IsNot) (λ x y H Q=>y=.non /\ Q (.bl (!decide (x=.non))) H):=by
 intro pins s σ H x y v u Q I rx ry h
 obtain ⟨rfl,q⟩:=h
 cases ry
 refine isnot_none_gen (xe0 I q ?_)
 cases x <;> first
  | (cases rx; rfl)
  | (obtain ⟨t,rfl⟩:=rx; rfl)
theorem OpR.or {f:Value->Value->Sem Value} {r r':R2} (h:OpR X f r) (h':OpR X f r'):OpR X f (λ x y H Q=>r x y H Q \/ r' x y H Q):=by
 intro pins s σ H x y v u Q I rx ry q
 rcases q with q | q
 ·exact h pins s σ H x y v u Q I rx ry q
 ·exact h' pins s σ H x y v u Q I rx ry q
theorem zv1 (b:Expr) {op:CmpOp} (h:op ≠ .In:=by decide) (h2:op ≠ .NotIn:=by decide):behindInMarks op b=false:=by
 have e1:(op == CmpOp.In)=false:=by cases op <;> first | rfl | exact absurd rfl h
 have e2:(op == CmpOp.NotIn)=false:=by cases op <;> first | rfl | exact absurd rfl h2
 cases b <;> simp [behindInMarks,e1,e2]
theorem sq2 {op:CmpOp} {r:R2} (ho:OpR X (compareOp op) r) (ha:PE X a ta) (hb:PE X b tb) (hm:behindInMarks op b=false):PE X (.Compare a [op] [b] pos) (tOp r ta tb):=by
 intro pins s σ H Q I h
 exact wpAny_Compare1 (binT ha hb I h λ v u s2 x y H2 I2 rx ry q=>ho pins s2 σ H2 x y v u Q I2 rx ry q) hm
noncomputable def tm2 (t:TE):TT:=λ σ H Q=>t σ H λ x H'=>∃ k,x=.bl k /\ Q k H'
theorem zp2 {op:CmpOp} {r:R2} (ho:OpR X (compareOp op) r) (ha:PE X a ta) (hb:PE X b tb) (hm:behindInMarks op b=false):PT X (.Compare a [op] [b] pos) (tm2 (tOp r ta tb)):=by
 intro pins s σ H Q I h
 refine wpAny_isTrue_Compare1 (thn (ha pins s σ H _ I h) λ v s1 ⟨x,H1,I1,r1,q1⟩=>thn (hb pins s1 σ H1 _ I1 q1) λ u s2 ⟨y,H2,I2,r2,q2⟩ =>
  thn (ho pins s2 σ H2 x y v u _ I2 r1 r2 q2) λ c s3 ⟨z,H3,I3,r3,k,e,q3⟩=>?_) hm
 subst e
 cases r3
 exact wpAny_truthy_bool ⟨H3,I3,q3⟩
noncomputable def za3 (r r':R2) (ta tb tc:TE):TE:=λ σ H Q=>ta σ H λ x H1=>tb σ H1 λ y H2=>r x y H2 λ z H3=>∃ k,z=.bl k ∧
 (if k=true then tc σ H3 λ w' H4=>r' y w' H4 Q else Q (.bl false) H3)
theorem yc2 {op op':CmpOp} {r r':R2} (ho:OpR X (compareOp op) r) (ho':OpR X (compareOp op') r') (ha:PE X a ta) (hb:PE X b tb) (hc:PE X c tc)
    (hm:lastMarks [op,op'] [b,c]=false:=by with_unfolding_all rfl):PT X (.Compare a [op,op'] [b,c] pos) (tm2 (za3 r r' ta tb tc)):=by
 intro pins s σ H Q I h
 refine isTrue_chain (thn (ha pins s σ H _ I h) λ v s1 ⟨x,H1,I1,r1,q1⟩=>test_link (thn (hb pins s1 σ H1 _ I1 q1) λ u s2 ⟨y,H2,I2,r2,q2⟩ =>
  thn (ho pins s2 σ H2 x y v u _ I2 r1 r2 q2) λ d s3 ⟨z,H3,I3,r3,k,e,q3⟩=>?_)) hm
 subst e
 cases r3
 refine wpAny_truthy_bool ?_
 cases k with
 | false =>
  obtain ⟨k',e',q'⟩:=q3
  cases e'
  exact ite_ff ⟨H3,I3,q'⟩
 | true =>
  refine ite_tt (test_last (thn (hc pins s3 σ H3 _ I3 q3) λ w' s4 ⟨z',H4,I4,r4,q4⟩=>thn (ho' pins s4 σ H4 y z' u w' _ I4 r2 r4 q4) λ d' s5 ⟨z2,H5,I5,r5,k2,e2,q5⟩=>?_))
  subst e2
  cases r5
  exact wpAny_truthy_bool ⟨H5,I5,q5⟩
theorem te1:(sizeLine:Nat) < 2 ^ 63:=by rw [sizeLine_eq]; decide
theorem up1:OpR X (binaryOp .Add) (λ x y H Q=>∃ i j,x=.str i /\ y=.str j /\ i.length + j.length<=sizeLine /\ Q (.str (i ++ j)) H):=by
 intro pins s σ H x y v u Q I rx ry h
 obtain ⟨i,j,rfl,rfl,hz,q⟩:=h
 obtain ⟨t,rfl⟩:=rx
 obtain ⟨t',rfl⟩:=ry
 exact add_str (λ t' tk=>⟨.str (i ++ j),H,I.tok _,⟨_,rfl⟩,q⟩) hz
theorem vz0 {x:V} {us:List Value} (r:Vals [x] us):∃ u,us=[u] /\ RelV x u:=by
 cases r with
 | cons r1 r2=>cases r2; exact ⟨_,rfl,r1⟩
theorem ul2 {x y:V} {us:List Value} (r:Vals [x,y] us):∃ u w',us=[u,w'] /\ RelV x u /\ RelV y w':=by
 cases r with
 | cons r1 r2 =>
  cases r2 with
  | cons r3 r4=>cases r4; exact ⟨_,_,rfl,r1,r3⟩
theorem xh2:CallR X (.builtin "abs") (λ xs H Q=>∃ i,xs=[.int i] /\ Q (.int (if i < 0 then -i else i)) H):=by
 intro pins s σ H xs us Q I r h
 obtain ⟨i,rfl,q⟩:=h
 obtain ⟨u,rfl,t,rfl⟩:=vz0 r
 exact call_abs_int λ u tk=>⟨.int (if i < 0 then -i else i),H,I.tok _,⟨_,rfl⟩,q⟩
theorem sy1 (hc:X.calm=true):CallR X (.builtin "max") (λ xs H Q=>∃ i j,xs=[.int i,.int j] /\ Q (.int (if j > i then j else i)) H):=by
 intro pins s σ H xs us Q I r h
 obtain ⟨i,j,rfl,q⟩:=h
 obtain ⟨u,w',rfl,⟨t,rfl⟩,⟨t',rfl⟩⟩:=ul2 r
 refine max_two_ints (I.ok.hd hc) λ h' tk k=>⟨_,H,I.kept k,?_,q⟩
 by_cases hj:j > i
 ·rw [if_pos hj,if_pos hj]; exact ⟨_,rfl⟩
 ·rw [if_neg hj,if_neg hj]; exact ⟨_,rfl⟩
theorem call_int1:CallR X (.type "int") (λ xs H Q=>(∃ i,xs=[.int i] /\ Q (.int i) H) \/ ∃ k,xs=[.bl k] /\ Q (.int (if k then 1 else 0)) H):=by
 intro pins s σ H xs us Q I r h
 rcases h with ⟨i,rfl,q⟩ | ⟨k,rfl,q⟩
 ·obtain ⟨u,rfl,t,rfl⟩:=vz0 r
  exact call_int_int ⟨.int i,H,I,⟨_,rfl⟩,q⟩
 ·obtain ⟨u,rfl,r1⟩:=vz0 r
  cases r1
  exact call_int_bool ⟨.int (if k then 1 else 0),H,I.tok _,⟨_,rfl⟩,q⟩
end
end L2
namespace L2
open PySem PySem.Spec PyProof.Rows
structure ObjM (h:Heap) (x dx C:Addr) (mA:Str->Option Value):Prop where
 obj:h.get? x=some (PySem.W.instObj C dx)
 ns:h.Ns1 dx mA
 ne:dx ≠ x
section
variable {prog:Program} {w:World} {A:Around} {E:Value->Shared->Prop} {s:Shared} {K:PySem.W.Frag} {x dx C f:Addr} {mA:Str->Option Value} {name:Str} {v:Value}
end
section
variable {P:Program} {w:World} {H H':Hp} {h h':Heap} {a C dx:Addr} {fs fs':List (Str × V)}
end
structure Cls (K:PySem.W.Frag) (C:Addr):Prop where
 pg:PySem.W.plainGet K C Str.empty=true
 hd:PySem.W.hasDictIn K C=true
 po:PySem.W.plainOver K C=true
 sa:PySem.W.findIn K (.ref C) "__setattr__" = some (some (.builtin "object.__setattr__"))
structure Con (K:PySem.W.Frag) (C:Addr) (f:Str) (v:V) (u:Value):Prop where
 at_:PySem.W.findIn K (.ref C) f=some (some u)
 rel:RelV v u
 get:PySem.W.specialIn K u "__get__" = some none
 cp:PySem.W.copiedNames.contains f=false
structure Meth (K:PySem.W.Frag) (C:Addr) (m:Str) (f:Addr):Prop where
 at_:PySem.W.findIn K (.ref C) m=some (some (.ref f))
 fn:PySem.W.isFn K (.ref f)=true
 kp:PySem.W.keepIn K (.ref f)=true
section
variable {X:Cx} {pins:List (Addr × Obj)} {σ:St} {H:Hp} {s:Shared} {a C dx:Addr} {fs:List (Str × V)} {f:Str} {v:V} {A:Around} {E:Value->Shared->Prop}
end
section
variable {X:Cx} {o e value:Expr} {f:Str} {pos pos' tpos:Pos} {ta tv:TE}
end
section
variable {X:Cx} {pins:List (Addr × Obj)} {σ:St} {H:Hp} {s:Shared} {A:Around} {E:Value->Shared->Prop} {Q:Value->Shared->Prop} {c:Value} {b:Bool}
inductive TyOf (K:PySem.W.Frag) (H:Hp):V->Value->Prop where
 | non:TyOf K H .non (.type "NoneType")
 | bl (x:Bool):TyOf K H (.bl x) (.type "bool")
 | int (i:Int):TyOf K H (.int i) (.type "int")
 | str (x:Str):TyOf K H (.str x) (.type "str")
 | flt (x:UInt64):TyOf K H (.flt x) (.type "float")
 | lst {a:Addr} {xs:List V} (e:H a=some (.lst xs)):TyOf K H (.ref a) (.type "list")
 | frz {a:Addr} {o:Obj} {xs:List V} (e:H a=some (.frz o (.lst xs))):TyOf K H (.ref a) (.type "list")
 | tup {a:Addr} {xs:List V} (e:H a=some (.tup xs)):TyOf K H (.ref a) (.type "tuple")
 | dK {a:Addr} {kvs:List (Key × V)} (e:H a=some (.dK kvs)):TyOf K H (.ref a) (.type "dict")
 | dT {a:Addr} {kvs:List (List Key × V)} (e:H a=some (.dT kvs)):TyOf K H (.ref a) (.type "dict")
 | ins {a C dx:Addr} {fs:List (Str × V)} (e:H a=some (.ins C dx fs)) (cl:Cls K C) (ha:PySem.W.findIn K (.ref C) "__class__" = some (some (.builtin "object.__class__")))
     (hn:PySem.W.specialIn K (.builtin "object.__class__") "__get__" = some (some (.builtin "getset_descriptor.__get__"))) (htk:PySem.W.takesIn K (.builtin "object.__class__")=some true)
     (hm:PySem.W.mroIn K C (.type "object")=some true):TyOf K H (.ref a) (.ref C)
end
end L2
namespace L2
open PySem PySem.Spec PyProof.Rows
structure Room (k:Nat) (A:Around):Prop where
 hd:A.handled=none
 dp:A.depth + 3 * k + 5 < recursionLimit
 un:A.units + 16 * k + 200 < cLine
theorem Room.mono {j k:Nat} {A:Around} (r:Room k A) (h:j<=k):Room j A:=⟨r.hd,by have:=r.dp; omega,by have:=r.un; omega⟩
theorem Room.deeper {k:Nat} {A:Around} (r:Room (k + 1) A) (env:Env):Room k (A.deeper env) :=
 ⟨r.hd,by have:=r.dp; show A.depth + 1 + 3 * k + 5 < _; omega,by have:=r.un; show A.units + 3 + 16 * k + 200 < _; omega⟩
theorem Room.depth {k:Nat} {A:Around} (r:Room k A):A.depth < recursionLimit:=by have:=r.dp; omega
noncomputable def tNil:TA:=λ _ H Q=>Q [] H
noncomputable def vu3 (ta:TE) (tr:TA):TA:=λ σ H Q=>ta σ H λ x H1=>tr σ H1 λ xs H2=>Q (x :: xs) H2
section
variable {X:Cx} {e:Expr} {es:List Expr} {te:TE} {t:TA} {pos:Pos}
theorem wj2:PA X [] tNil:=λ _ _ _ _ H Q I h=>Calls.spliced_nil ⟨[],H,I,.nil,h⟩
theorem vh1 (ha:PE X e te) (hr:PA X es t) (hs:starEach (e :: es) X.env=(false,eval e X.env) :: starEach es X.env:=by rfl):PA X (e :: es) (vu3 te t):=by
 intro pos pins s σ H Q I h
 rw [hs]
 show wpAny _ _ (spliced ((false,eval e X.env) :: backTo pos (starEach es X.env))) _ _ s
 refine Calls.spliced_cons (thn (ha pins s σ H _ I h) λ u s1 ⟨x,H1,I1,r1,q1⟩=>?_)
 exact thn (hr pos pins s1 σ H1 _ I1 q1) λ us s2 ⟨xs,H2,I2,r2,q2⟩=>⟨x :: xs,H2,I2,.cons r1 r2,q2⟩
noncomputable def tTup (t:TA):TE:=λ σ H Q=>t σ H λ xs H1=>xs.length<=sizeLine /\ ∀ p,H1 p=none->Q (.ref p) (upd H1 p (.tup xs))
noncomputable def tLst (t:TA):TE:=λ σ H Q=>t σ H λ xs H1=>xs.length<=sizeLine /\ ∀ p,H1 p=none->Q (.ref p) (upd H1 p (.lst xs))
theorem yn3 {x1} (h:PA X es t):PE X (.Tuple es x1 pos) (tTup t):=by
 intro pins s σ H Q I hq
 refine wpAny_Tuple_spliced (thn (h pos pins s σ H _ I hq) λ us s1 ⟨xs,H1,I1,r,z,q⟩=>⟨by rw [<- r.length]; exact z,?_⟩)
 have hf:H1 s1.heap.objs.size=none:=I1.hok.fresh (Nat.le_refl _)
 refine ⟨.ref s1.heap.objs.size,upd H1 s1.heap.objs.size (.tup xs),I1.laid (t':=s1.toks) (λ b u e=>Heap.get?_push_of_some _ e) (Nat.le_refl _) ?_,rfl,q _ hf⟩
 exact ⟨z,us,r,⟨_,Heap.get?_push_size _ rfl,rfl,_,rfl⟩⟩
theorem sn3 (h:PA X es t):PE X (.List es pos) (tLst t):=by
 intro pins s σ H Q I hq
 refine wpAny_List_spliced (thn (h pos pins s σ H _ I hq) λ us s1 ⟨xs,H1,I1,r,z,q⟩=>⟨by rw [<- r.length]; exact z,?_⟩)
 have hf:H1 s1.heap.objs.size=none:=I1.hok.fresh (Nat.le_refl _)
 refine ⟨.ref s1.heap.objs.size,upd H1 s1.heap.objs.size (.lst xs),I1.laid (t':=s1.toks) (λ b u e=>Heap.get?_push_of_some _ e) (Nat.le_refl _) ?_,rfl,q _ hf⟩
 exact ⟨z,us,0,r,Heap.get?_push_size _ rfl⟩
end
noncomputable abbrev Sp:=List V->Hp->VK->XK->Prop
noncomputable abbrev CXT:=List Env->Hp->Shared->XK->Value->Shared->Prop
structure Env0 (P:Program) (w:World) (K:PySem.W.Frag) (mg:Str->Option Value) (base:Heap) (A:Around) (outer:List Env) (s:Shared) (H:Hp):Prop where
 frames:A.frames=some outer
 mod:Mod K mg base
 bs:∀ b o,base.get? b=some o->s.heap.get? b=some o /\ H b=none
 bsz:base.objs.size<=s.heap.objs.size
 funs:s.heap.FunFrames base outer
 frf:∀ b ∈ frs outer,H b=none
 hok:HOk P w H s.heap
 bare:AllBare s.gens
noncomputable def CE (outer:List Env) (P:Program) (w:World) (H:Hp) (s:Shared) (Q:VK) (u:Value) (s':Shared):Prop :=
 ∃ v H',s'.os=s.os /\ AllBare s'.gens /\ Un (frs outer) [] H H' s.heap s'.heap /\ HOk P w H' s'.heap /\ RelV v u /\ Q v H'
noncomputable def CR (CX:CXT) (outer:List Env) (P:Program) (w:World) (H:Hp) (s:Shared) (Q:VK) (E:XK) (r:Result) (s':Shared):Prop :=
 match r with
 | .ok (.ret u)=>CE outer P w H s Q u s'
 | .ok _=>False
 | .error e=>CX outer H s E e s'
structure FnOk (P:Program) (w:World) (K:PySem.W.Frag) (mg:Str->Option Value) (base:Heap) (CX:CXT) (k:Nat) (f:Addr) (fd:FuncData) (ps:List Str) (sp:Sp):Prop where
 len:∀ vs H Q E,sp vs H Q E->vs.length=ps.length
 run:∀ (A:Around) (outer:List Env) (s:Shared) (H:Hp) (args:Args) (us:List Value) (vs:List V) (Q:VK) (E:XK),Room k A->Env0 P w K mg base A outer s H->BindsTo s fd args (ps.zip us)->Vals vs us->sp vs H Q E ->
  codeAny (model P w) A (.call (.ref f) args) (CR CX outer P w H s Q E) s
theorem FnOk.mono {P:Program} {w:World} {K:PySem.W.Frag} {mg:Str->Option Value} {base:Heap} {CX:CXT} {j k:Nat} {f:Addr} {fd:FuncData} {ps:List Str} {sp:Sp} (F:FnOk P w K mg base CX j f fd ps sp) (h:j<=k) :
    FnOk P w K mg base CX k f fd ps sp:=⟨F.len,λ A outer s H args us vs Q E hr=>F.run A outer s H args us vs Q E (hr.mono h)⟩
section
variable {X:Cx} {pins:List (Addr × Obj)} {σ:St} {H:Hp} {s s':Shared}
theorem Inv.env0 (I:Inv X pins σ H s):Env0 X.prog X.w X.K X.mg X.base X.A X.stack s H :=
 ⟨I.ok.frames,I.ok.mod,I.bs,Nat.le_trans I.ok.bsz I.sz,I.stack,I.stkFree,I.hok,I.bare⟩
theorem Inv.after {Q:VK} {u:Value} (I:Inv X pins σ H s) (h:CE X.stack X.prog X.w H s Q u s'):EP X pins σ Q u s':=by
 obtain ⟨v,H',os,bare,un,hok,r,q⟩:=h
 obtain ⟨hh,g,d,t,os'⟩:=s'
 obtain rfl:os'=s.os:=os
 exact ⟨v,H',I.call (h':=hh) (g':=g) (d':=d) (t':=t) (ch:=[]) un hok bare (λ b z=>absurd z (by simp)),r,q⟩
end
noncomputable def wa3 (sp:Sp) (dvs:List V) (E:XK) (t:TA):TE:=λ σ H Q=>t σ H λ vs H1=>sp (vs ++ dvs) H1 Q E
noncomputable def Binds (K:PySem.W.Frag) (fd:FuncData) (ps:List Str) (ds:List Value):Prop :=
 ∀ (s:Shared) (us:List Value),K.In s.heap->(us ++ ds).length=ps.length->BindsTo s fd ⟨us,[]⟩ (ps.zip (us ++ ds))
theorem Binds.all {K:PySem.W.Frag} {fd:FuncData} {ps:List Str} (h:∀ us:List Value,us.length=ps.length->bindArgs fd ⟨us,[]⟩=pure (ps.zip us)):Binds K fd ps []:=λ s us _ hl=>by
 rw [List.append_nil] at hl ⊢
 exact .of_eq (h us hl)
noncomputable def wz0 (CX:CXT) (X:Cx) (E:XK):Prop:=∀ (pins:List (Addr × Obj)) (σ:St) (H:Hp) (s:Shared) (e:Value) (s':Shared),Inv X pins σ H s->CX X.stack H s E e s'->X.xe e s'
section
variable {X:Cx} {CX:CXT} {k:Nat} {f C:Addr} {fd:FuncData} {ps:List Str} {sp:Sp} {dvs:List V} {ds:List Value} {E:XK} {x m:Str} {p pos apos:Pos} {e o:Expr} {es:List Expr} {ta:TE} {t:TA}
theorem ui2 {pins:List (Addr × Obj)} {σ:St} {H:Hp} {s:Shared} {Q:VK} {us:List Value} {vs:List V} (F:FnOk X.prog X.w X.K X.mg X.base CX k f fd ps sp) (hr:Room k X.A) (hb:Binds X.K fd ps ds) (hd:Vals dvs ds) (hx:wz0 CX X E)
    (I:Inv X pins σ H s) (r:Vals vs us) (h:sp (vs ++ dvs) H Q E):wpAny (model X.prog X.w) X.A (call (.ref f) us) (EP X pins σ Q) X.xe s:=by
 have r2:Vals (vs ++ dvs) (us ++ ds):=r.append hd
 have hl:(us ++ ds).length=ps.length:=by rw [<- r2.length]; exact F.len _ _ _ _ h
 refine wpAny_call (codeAny_mono (F.run X.A X.stack s H ⟨us,[]⟩ (us ++ ds) (vs ++ dvs) Q E hr I.env0 (hb s us I.kIn hl) r2 h) λ r s' hq=>?_)
 cases r with
 | error e=>exact hx pins σ H s e s' I hq
 | ok fl =>
  cases fl with
  | ret u=>exact I.after hq
  | next=>exact False.elim hq
  | brk=>exact False.elim hq
  | cont=>exact False.elim hq
theorem wh1 (F:FnOk X.prog X.w X.K X.mg X.base CX k f fd ps sp) (hr:Room k X.A) (hg:Gl X x) (hm:X.mg x=some (.ref f)) (hk:PySem.W.keepIn X.K (.ref f)=true) (hb:Binds X.K fd ps ds) (hd:Vals dvs ds) (hx:wz0 CX X E)
    (ha:PA X (e :: es) t) (hdb:(x == ("__debug__" : Str))=false:=by decide) (he:starEach (e :: es) X.env=(false,eval e X.env) :: starEach es X.env:=by rfl) (hpl:(backTo pos (starEach es X.env)).any (·.1)=false:=by rfl) :
    PE X (.Call (.Name x p) (e :: es) [] pos) (wa3 sp dvs E t):=by
 intro pins s σ H Q I h
 refine wpAny_Call_Name_kw (wg0 I hg hm ?_ hdb)
 refine PySem.W.callWith_K (h₀:=X.base) I.ok.mod.kin hk (thn (ha pos pins s σ H _ I h) λ us s1 ⟨vs,H1,I1,r,q⟩=>⟨I1.kIn,?_⟩) he hpl
 exact ui2 F hr hb hd hx I1 r q
structure Mk (K:PySem.W.Frag) (C f:Addr):Prop where
 makes:PySem.W.makesIn K C=true
 init:PySem.W.findIn K (.ref C) "__init__" = some (some (.ref f))
 fn:PySem.W.isFn K (.ref f)=true
 kp:PySem.W.keepIn K (.ref C)=true
end
section
variable {X:Cx} {CX:CXT} {k:Nat} {f C:Addr} {fd:FuncData} {ps ks:List Str} {sp:Sp} {E:XK} {x m:Str} {p pos apos kpos:Pos} {e o:Expr} {es:List Expr} {kws:List Keyword} {te ta:TE} {t tk:TA} {nm:Option Str}
structure KBinds (K:PySem.W.Frag) (fd:FuncData) (ps ks:List Str) (g:List Value->List Value->List Value) (gV:List V->List V->List V):Prop where
 to:∀ (s:Shared) (us ws:List Value),K.In s.heap->(g us ws).length=ps.length->BindsTo s fd ⟨us,ks.zip ws⟩ (ps.zip (g us ws))
 rel:∀ {vs:List V} {us:List Value} {zs:List V} {ws:List Value},Vals vs us->Vals zs ws->Vals (gV vs zs) (g us ws)
variable {g:List Value->List Value->List Value} {gV:List V->List V->List V}
end
structure FnScope (N P:List Str) (sc:Scope):Prop where
 kind:sc.kind=.function
 co:sc.isCoroutine=false
 gen:sc.isGenerator=false
 nd:N.Nodup
 pre:N.take P.length=P
 par:∀ x ∈ P,sc.names.lookup x=some .local \/ sc.names.lookup x=some .cell
 nofree:∀ y ∈ sc.names,y.2 ≠ .free
theorem yg1 {kindOf:Str->Option NameKind} {x:Str}:∀ {binds:List (Str × Value)} {m:Str->Option Value},(∀ v,(x,v) ∉ binds)->bindL kindOf binds m x=m x
 | [],_,_=>rfl
 | (n,v) :: r,m,h=>by
  unfold bindL
  rw [yg1 λ w hw=>h w (List.mem_cons_of_mem _ hw)]
  split
  ·have:x ≠ n:=by rintro rfl; exact h v List.mem_cons_self
   simp [this]
  ·rfl
theorem wg1 {kindOf:Str->Option NameKind} {x:Str}:∀ {binds:List (Str × Value)} {m:Str->Option Value},(∀ v,(x,v) ∉ binds)->bindC kindOf binds m x=m x
 | [],_,_=>rfl
 | (n,v) :: r,m,h=>by
  unfold bindC
  rw [wg1 λ w hw=>h w (List.mem_cons_of_mem _ hw)]
  split
  ·rfl
  ·have:x ≠ n:=by rintro rfl; exact h v List.mem_cons_self
   simp [this]
theorem zg1 {kindOf:Str->Option NameKind} {x:Str} {v:Value}:∀ {P:List Str} {vs:List Value} {i:Nat} {m:Str->Option Value},P.Nodup->P[i]?=some x->vs[i]?=some v->kindOf x=some .local ->
    bindL kindOf (P.zip vs) m x=some v
 | [],_,_,_,_,h,_,_=>by simp at h
 | _ :: _,[],_,_,_,_,h,_=>by simp at h
 | p :: P,w :: vs,0,m,nd,h1,h2,hk=>by
  simp at h1 h2; subst h1; subst h2
  show bindL kindOf ((p,w) :: P.zip vs) m p=_
  unfold bindL
  rw [yg1 λ v hv=>(List.nodup_cons.mp nd).1 (List.of_mem_zip hv).1,if_pos hk]
  simp
 | p :: P,w :: vs,i + 1,m,nd,h1,h2,hk=>by
  show bindL kindOf ((p,w) :: P.zip vs) m x=_
  unfold bindL
  exact zg1 (i:=i) (List.nodup_cons.mp nd).2 (by simpa using h1) (by simpa using h2) hk
theorem vg1 {kindOf:Str->Option NameKind} {x:Str} {v:Value}:∀ {P:List Str} {vs:List Value} {i:Nat} {m:Str->Option Value},P.Nodup->P[i]?=some x->vs[i]?=some v->kindOf x ≠ some .local ->
    bindC kindOf (P.zip vs) m x=some v
 | [],_,_,_,_,h,_,_=>by simp at h
 | _ :: _,[],_,_,_,_,h,_=>by simp at h
 | p :: P,w :: vs,0,m,nd,h1,h2,hk=>by
  simp at h1 h2; subst h1; subst h2
  show bindC kindOf ((p,w) :: P.zip vs) m p=_
  unfold bindC
  rw [wg1 λ v hv=>(List.nodup_cons.mp nd).1 (List.of_mem_zip hv).1,if_neg hk]
  simp
 | p :: P,w :: vs,i + 1,m,nd,h1,h2,hk=>by
  show bindC kindOf ((p,w) :: P.zip vs) m x=_
  unfold bindC
  exact vg1 (i:=i) (List.nodup_cons.mp nd).2 (by simpa using h1) (by simpa using h2) hk
noncomputable def start (N:List Str) (vs:List V):St:=vs.map some ++ List.replicate (N.length - vs.length) none
noncomputable def cxOf (CX:CXT) (P:Program) (w:World) (K:PySem.W.Frag) (mg:Str->Option Value) (base:Heap) (N:List Str) (qual:Str) (scope:Scope) (f:Addr) (cd:Value) (A:Around) (outer:List Env) (s:Shared) (H:Hp) (E:XK):Cx where
 prog:=P
 w:=w
 K:=K
 mg:=mg
 base:=base
 A:=A.deeper (envOfC qual scope s.heap.objs.size f cd)
 N:=N
 s₀:=s
 H₀:=H
 env:=envOfC qual scope s.heap.objs.size f cd
 outer:=outer
 stack:=envOfC qual scope s.heap.objs.size f cd :: outer
 ex:=[]
 calm:=true
 fn:=λ _=>true
 pn:=[]
 xe:=λ e s'=>wpAny (model P w) (A.deeper (envOfC qual scope s.heap.objs.size f cd)) (leaving (envOfC qual scope s.heap.objs.size f cd) e) (λ _ s''=>CX outer H s E e s'') (λ e' s''=>CX outer H s E e' s'') s'
theorem yc1 {sc:Scope} {n:Nat} {x:Str} (h:sc.names.lookup x=some .cell):∃ c,(cellsFrom n sc.names []).lookup x=some c:=by
 have q:=PySem.W.cellsFrom_some sc.names n [] (.inl h)
 exact Option.isSome_iff_exists.mp q
theorem xf1 {CX:CXT} {P:Program} {w:World} {K:PySem.W.Frag} {mg:Str->Option Value} {base:Heap} {N ps:List Str} {qual:Str} {scope:Scope} {f:Addr} {cd:Value} {A:Around} {outer:List Env} {s s1:Shared} {H:Hp} {E:XK} {us:List Value} {vs:List V}
    (S:FnScope N ps scope) (hd:A.handled=none) (e0:Env0 P w K mg base A outer s H) (hl:vs.length=ps.length) (r:Vals vs us)
    (x:InCallC s s.heap.objs.size (bindL (envOfC qual scope s.heap.objs.size f cd).kindOf (ps.zip us) λ _=>none) (cellsFrom (s.heap.objs.size + 1) scope.names []) (bindC (envOfC qual scope s.heap.objs.size f cd).kindOf (ps.zip us) λ _=>none) s1) :
    Inv (cxOf CX P w K mg base N qual scope f cd A outer s H E) [] (start N vs) H s1:=by
 have hpl:ps.length<=N.length:=by have:=congrArg List.length S.pre; rw [List.length_take] at this; omega
 obtain ⟨h1,tk,rfl,hk⟩:=x.done
 have noA:∀ b:Addr,b ∉ (cxOf CX P w K mg base N qual scope f cd A outer s H E).ex:=λ b z=>absurd (show b ∈ ([]:List Addr) from z) (by simp)
 refine ⟨⟨e0.mod,S.kind,rfl,rfl,Nat.le_refl _,λ y z c h1 h2=>?_,λ y hy=>?_,λ y c _ h=>?_,λ _=>hd,Around.frames_deeper e0.frames,.inr ⟨rfl,rfl⟩,λ b z=>absurd z (noA b),e0.bs,e0.bsz,λ b _ _=>noA b,λ b z=>absurd z (noA b),e0.funs,e0.frf⟩,
  rfl,e0.bare,Un.kept hk,⟨_,x.toInCall.ns,λ i y v h1 h2 h3=>?_⟩,λ y c h=>⟨_,x.cell y c h⟩,e0.hok.fresh (Nat.le_refl _),λ y c h=>?_,λ p hp=>absurd (show p ∈ ([]:List (Addr × Obj)) from hp) (by simp),e0.hok.kept hk,?_⟩
 ·exact name_of_addr x.apart (PySem.mem_of_lookup h1) (PySem.mem_of_lookup h2)
 ·have hy:scope.names.lookup y=some .cell \/ scope.names.lookup y=some .free:=hy
  rcases hy with hy | hy
  ·exact yc1 hy
  ·exact absurd rfl (S.nofree _ (PySem.mem_of_lookup hy))
 ·exact Nat.le_of_lt (x.above y c (PySem.mem_of_lookup h))
 ·have hi:i < vs.length:=by
    unfold start at h2
    by_cases hi:i < vs.length
    ·exact hi
    ·rw [List.getElem?_append_right (by simpa using hi)] at h2
     rw [List.getElem?_replicate] at h2
     split at h2 <;> cases h2
  have ha:vs[i]?=some v:=by
   unfold start at h2
   rw [List.getElem?_append_left (by simpa using hi),List.getElem?_map] at h2
   cases e:vs[i]? with
   | none=>rw [e] at h2; cases h2
   | some a=>rw [e] at h2; cases h2; rfl
  obtain ⟨u,hu,rv⟩:=r.get ha
  have hp:ps[i]?=some y:=by
   rw [<- S.pre,List.getElem?_take_of_lt (by omega)]; exact h1
  have ndP:ps.Nodup:=by rw [<- S.pre]; exact S.nd.sublist (List.take_sublist _ _)
  refine ⟨u,rv,?_⟩
  rcases S.par y (List.mem_of_getElem? hp) with k | k
  ·exact .inl ⟨k,zg1 ndP hp hu k⟩
  ·obtain ⟨c,e⟩:=yc1 (n:=s.heap.objs.size + 1) k
   refine .inr ⟨.inl k,c,e,?_⟩
   have q:=x.cell y c e
   rw [vg1 ndP hp hu (by show scope.names.lookup y ≠ _; rw [k]; decide)] at q
   exact q
 ·exact e0.hok.fresh (Nat.le_of_lt (x.above y c (PySem.mem_of_lookup h)))
 ·unfold start
  show _=N.length
  rw [List.length_append,List.length_map,List.length_replicate]
  omega
theorem sr3 {CX:CXT} {P:Program} {w:World} {K:PySem.W.Frag} {mg:Str->Option Value} {base:Heap} {k:Nat} {f:Addr} {name qual:Str} {params:Arguments} {body:List Stmt} {scope:Scope} {dV kV doc pm cdv ct oc:Value} {an od:Option Addr}
    {osl:Array (Option Value)} {N ps:List Str} {sp:Sp} (lk:K.lookup f=some ⟨oc,od,.func (PySem.W.fnOf name qual params body scope dV kV doc pm an cdv ct),osl⟩) (hcd:PySem.W.codeIn K cdv qual=true) (S:FnScope N ps scope)
    (len:∀ vs H Q E,sp vs H Q E->vs.length=ps.length)
    (hbody:∀ (A:Around) (outer:List Env) (s:Shared) (H:Hp) (vs:List V) (Q:VK) (E:XK),Room k (A.deeper (envOfC qual scope s.heap.objs.size f cdv))->sp vs H Q E ->
     ∃ t,PSs (cxOf CX P w K mg base N qual scope f cdv A outer s H E) body t /\ t { nx:=λ _ H'=>Q .non H',rt:=Q } (start N vs) H) :
    FnOk P w K mg base CX (k + 1) f (PySem.W.fnOf name qual params body scope dV kV doc pm an cdv ct) ps sp:=by
 refine ⟨len,λ A outer s H args us vs Q E hr e0 hb r hsp=>?_⟩
 have hl:=len _ _ _ _ hsp
 have KX:K.In s.heap:=e0.mod.kin.keeps λ b o e=>(e0.bs b o e).1
 have lim:s.heap.NoLimit:=e0.mod.nolimit.keeps λ b o e=>(e0.bs b o e).1
 have hkind:∀ y ∈ ps.zip us,scope.names.lookup y.1=some .local \/ (scope.names.lookup y.1=some .cell /\ ((cellsFrom (s.heap.objs.size + 1) scope.names []).lookup y.1).isSome=true):=λ ⟨n,v⟩ hy=>by
  rcases S.par n (List.of_mem_zip hy).1 with q | q
  ·exact .inl q
  ·exact .inr ⟨q,PySem.W.cellsFrom_some _ _ _ (.inl q)⟩
 refine codeAny_call_function hr.depth (KX _ _ lk) rfl S.co S.gen rfl (PySem.W.codeRec_of KX hcd) (hb _ _ _ _ ?_)
 refine wpAny_newFunctionEnv_cells S.kind hkind λ env he s1 x=>?_
 subst he
 refine ⟨lim.keeps x.toInCall.keep,codeAny_func ?_⟩
 obtain ⟨t,ht,hq⟩:=hbody A outer s H vs Q E (hr.deeper _) hsp
 have I:Inv (cxOf CX P w K mg base N qual scope f cdv A outer s H E) [] (start N vs) H s1:=xf1 S hr.hd e0 hl r x
 refine wpAny_mono (ht [] s1 (start N vs) H _ I hq) (λ fl s' hs=>?_) λ e s' hs=>hs
 have fin:∀ {σ':St} {H':Hp} {v:V} {u:Value},Inv (cxOf CX P w K mg base N qual scope f cdv A outer s H E) [] σ' H' s'->RelV v u->Q v H'->CE outer P w H s Q u s' :=
  λ {σ' H' v u} J rv q=>⟨v,H',J.os,J.bare,J.base,J.hok,rv,q⟩
 cases fl with
 | ret u =>
  obtain ⟨v,σ',H',J,rv,q⟩:=hs
  exact fin J rv q
 | next =>
  obtain ⟨σ',H',J,q⟩:=hs
  exact fin (v:=V.non) (u:=Value.none) J rfl q
 | brk =>
  obtain ⟨_,_,_,q⟩:=hs
  exact False.elim q
 | cont =>
  obtain ⟨_,_,_,q⟩:=hs
  exact False.elim q
end L2
namespace L2
open PySem PySem.Spec PyProof.Rows
section
variable {X:Cx} {x:Str} {p pos:Pos} {e:Expr} {es:List Expr} {t:TA} {id T:String} {r:List V->Hp->VK->Prop}
noncomputable def tCB (r:List V->Hp->VK->Prop) (t:TA):TE:=λ σ H Q=>t σ H λ vs H1=>r vs H1 Q
theorem zk1 (hc:CallR X (.builtin id) r) (hg:Gl X x) (hm:X.mg x=none) (hv:bootBuiltins x=some (.builtin id)) (ha:PA X (e :: es) t) (hn:x ≠ "__name__" := by decide) (hdb:(x == ("__debug__" : Str))=false:=by decide)
    (he:starEach (e :: es) X.env=(false,eval e X.env) :: starEach es X.env:=by rfl) (hpl:(backTo pos (starEach es X.env)).any (·.1)=false:=by rfl):PE X (.Call (.Name x p) (e :: es) [] pos) (tCB r t):=by
 intro pins s σ H Q I h
 refine wpAny_Call_Name_kw (vk1 I hg hm hv ?_ hn hdb)
 exact PyProof.Rows.callWith_builtin1 (thn (ha pos pins s σ H _ I h) λ us s1 ⟨vs,H1,I1,r1,q1⟩=>hc pins s1 σ H1 vs us Q I1 r1 q1) he hpl
theorem uu1 (hc:CallR X (.type T) r) (hg:Gl X x) (hm:X.mg x=none) (hv:bootBuiltins x=some (.type T)) (ha:PA X (e :: es) t) (hn:x ≠ "__name__" := by decide) (hdb:(x == ("__debug__" : Str))=false:=by decide)
    (he:starEach (e :: es) X.env=(false,eval e X.env) :: starEach es X.env:=by rfl) (hpl:(backTo pos (starEach es X.env)).any (·.1)=false:=by rfl):PE X (.Call (.Name x p) (e :: es) [] pos) (tCB r t):=by
 intro pins s σ H Q I h
 refine wpAny_Call_Name_kw (vk1 I hg hm hv ?_ hn hdb)
 exact PyProof.Rows.callWith_type1 (thn (ha pos pins s σ H _ I h) λ us s1 ⟨vs,H1,I1,r1,q1⟩=>hc pins s1 σ H1 vs us Q I1 r1 q1) he hpl
end
end L2
namespace HT
open PySem PyProof.Rows
section
open PySem.SeqAt
open PySem.AutoSeq1 (wpAny_loadPart')
open PySem.MeetsSeq PySem.MeetsSeq2 PySem.MeetsSeq3
end
section
variable {prog:Program} {w:World} {A:Around} {E:Value->Shared->Prop} {s:Shared}
theorem cat_tup {t b:Addr} {vs ws:List Value} {Q:Value->Shared->Prop} (ht:IsTup s.heap t vs.toArray) (hb:IsTup s.heap b ws.toArray) (hv:vs ≠ [])
    (h1:ws=[]->Q (.ref t) s) (h2:ws ≠ []->Q (.ref s.heap.objs.size) { s with heap:=s.heap.push { cls:=.type "tuple",data:=.seq (vs ++ ws).toArray } })
    (hsz:vs.length + ws.length<=sizeLine):wpAny (model prog w) A (binaryOp .Add (.ref t) (.ref b)) Q E s:=by
 obtain ⟨⟨cls,dd,data,sl⟩,ho,hc,n,hd⟩:=id ht
 obtain ⟨⟨cls2,dd2,data2,sl2⟩,ho2,hc2,n2,hd2⟩:=id hb
 simp only at hc hd hc2 hd2
 subst hc hd hc2 hd2
 have e:vs.toArray ++ ws.toArray=(vs ++ ws).toArray:=by simp
 by_cases hw:ws=[]
 ·exact concat_meets ⟨_,ho,rfl⟩ ⟨_,ho2,rfl⟩ noFill_tuple_add seq_tuple_add PySem.F.slot_tuple_add PySem.F.entry_tuple_add (PySem.F.args_tuple_add_2 _ _)
    (tuple_addW1 t b vs.toArray ws.toArray n n2 dd dd2 sl sl2 (by simpa using hv) (by simp [hw])) ⟨ho,ho2,h1 hw⟩
 ·refine concat_meets ⟨_,ho,rfl⟩ ⟨_,ho2,rfl⟩ noFill_tuple_add seq_tuple_add PySem.F.slot_tuple_add PySem.F.entry_tuple_add (PySem.F.args_tuple_add_2 _ _)
    (tuple_addW2 t b vs.toArray ws.toArray n n2 dd dd2 sl sl2 (by simpa using hv) (by simpa using hw) (by rw [List.size_toArray,List.size_toArray]; exact hsz)) ⟨ho,ho2,?_⟩
  rw [e]
  exact h2 hw
noncomputable def sIx (n d:Nat):Option Int->Nat
 | none=>d
 | some v=>if v < 0 then (v + (n:Int)).toNat else min v.toNat n
theorem yd3 (n d:Nat) (hd:d<=n) (o:Option Int):sIx n d o<=n:=by
 cases o with
 | none=>exact hd
 | some v =>
  show (if v < 0 then (v + (n:Int)).toNat else min v.toNat n)<=n
  by_cases hv:v < 0
  ·rw [if_pos hv]; omega
  ·rw [if_neg hv]; exact Nat.min_le_right _ _
theorem sx1 (v:Int) (n d:Nat):(if v < 0 then max (v + (n:Int)) 0 else min v (n:Int))=((sIx n d (some v):Nat):Int):=by
 show (if v < 0 then max (v + (n:Int)) 0 else min v (n:Int))=(((if v < 0 then (v + (n:Int)).toNat else min v.toNat n):Nat):Int)
 by_cases hv:v < 0
 ·simp only [if_pos hv]; omega
 ·simp only [if_neg hv]; omega
theorem uq1 (lo hi:Option Int) (n:Nat):Builtin.Slice.sliceAdjust lo hi 1 (n:Int)=(((sIx n 0 lo:Nat):Int),((sIx n n hi:Nat):Int)):=by
 have h1:¬ ((1:Int) < 0):=by omega
 unfold Builtin.Slice.sliceAdjust
 simp only [h1,if_false]
 refine Prod.ext ?_ ?_
 ·cases lo with
  | none=>rfl
  | some v=>exact sx1 v n 0
 ·cases hi with
  | none=>rfl
  | some v=>exact sx1 v n n
theorem vp1 (i j:Nat):Builtin.Slice.slicePlaces (i:Int) (j:Int) 1=j - i:=by
 unfold Builtin.Slice.slicePlaces
 have h1:(1:Int) > 0:=by omega
 simp only [h1,if_true,Int.ediv_one]
 split <;> omega
theorem uy0 {v:Value} {o:Option Int} {Q:Option Int->Shared->Prop} (p:IsPart v o) (h:Q o s):wpAny (model prog w) A (Builtin.Slice.slicePartIndex v) Q E s:=by
 cases p with
 | none=>exact slicePart_none h
 | int i t=>exact slicePart_int h
theorem sliceApplied_gen {sl:Addr} {vl vu:Value} {lo hi:Option Int} {n:Nat} {Q:Int × Int × Nat->Shared->Prop} (hs:s.heap.IsSliceOf sl vl vu .none) (pl:IsPart vl lo) (pu:IsPart vu hi)
    (h:Q (((sIx n 0 lo:Nat):Int),1,sIx n n hi - sIx n 0 lo) s):wpAny (model prog w) A (Builtin.Slice.sliceApplied (.ref sl) (pure (n:Int))) Q E s:=by
 obtain ⟨os,hos,hcs,hds⟩:=id hs
 unfold Builtin.Slice.sliceApplied Builtin.Slice.sliceFields
 refine wpAny_bind (wpAny_bind (wpAny_field hos hds (x:=vl) rfl (wpAny_bind (wpAny_field hos hds (x:=vu) rfl (wpAny_bind (wpAny_field hos hds (x:=.none) rfl (wpAny_pure ?_)))))))
 refine wpAny_bind (slicePart_none ?_)
 show wpAny _ _ (if ((1:Int) == 0)=true then _ else _) _ _ s
 rw [if_neg (by decide)]
 refine wpAny_bind (uy0 pl (wpAny_bind (uy0 pu (wpAny_bind (wpAny_pure ?_)))))
 show wpAny _ _ (match Builtin.Slice.sliceAdjust lo hi 1 (n:Int) with | (lo,hi)=>pure (lo,(1:Int),Builtin.Slice.slicePlaces lo hi 1)) _ _ s
 rw [uq1 lo hi n]
 show wpAny _ _ (pure (((sIx n 0 lo:Nat):Int),(1:Int),Builtin.Slice.slicePlaces ((sIx n 0 lo:Nat):Int) ((sIx n n hi:Nat):Int) 1)) _ _ s
 rw [vp1]
 exact wpAny_pure h
theorem uc2 (xs:Array Value) (i k:Nat):((List.range k).filterMap λ (m:Nat)=>xs[((i:Int) + (m:Int) * 1).toNat]?).toArray=((xs.toList.drop i).take k).toArray:=by
 have e:(λ (m:Nat)=>xs[((i:Int) + (m:Int) * 1).toNat]?)=λ m=>xs[i + m]?:=by
  funext m
  have:((i:Int) + (m:Int) * 1).toNat=i + m:=by omega
  rw [this]
 rw [e]
 have:=pick_run xs i k
 rw [List.filterMap_map] at this
 have e2:((λ x=>xs[x]?) ∘ λ x=>i + x)=λ m=>xs[i + m]?:=rfl
 rw [e2] at this
 rw [this]
theorem getItem_tuple_cut {t sl:Addr} {items:Array Value} {vl vu:Value} {lo hi:Option Int} {Q:Value->Shared->Prop} (ht:IsTup s.heap t items) (hs:s.heap.IsSliceOf sl vl vu .none) (pl:IsPart vl lo) (pu:IsPart vu hi)
    (hw:¬ (sIx items.size 0 lo=0 /\ sIx items.size items.size hi=items.size))
    (h:Q (.ref s.heap.objs.size) { s with heap:=s.heap.push { cls:=.type "tuple",data:=.seq ((items.toList.drop (sIx items.size 0 lo)).take (sIx items.size items.size hi - sIx items.size 0 lo)).toArray } })
    (hsz:items.size<=sizeLine):wpAny (model prog w) A (getItem (.ref t) (.ref sl)) Q E s:=by
 have htake:sizeOk (.seq ((items.toList.drop (sIx items.size 0 lo)).take (sIx items.size items.size hi - sIx items.size 0 lo)).toArray):=by
  show ((items.toList.drop (sIx items.size 0 lo)).take (sIx items.size items.size hi - sIx items.size 0 lo)).toArray.size<=sizeLine
  rw [List.size_toArray,List.length_take,List.length_drop,Array.length_toList]
  omega
 have hj:sIx items.size items.size hi<=items.size:=yd3 _ _ (Nat.le_refl _) hi
 obtain ⟨os,hos,hcs,hds⟩:=id hs
 have hTs:s.TypeIs (.ref sl) "slice" := ⟨os,hos,hcs⟩
 unfold getItem
 try with_reducible refine wpAny_holding ?_
 first | refine wpAny_bind (wpAny_pure ?_) | skip
 refine wpAny_bind (wpAny_sequenceKey ht.typeIs (by decide) ?_)
 refine wpAny_bind (wpAny_callSpecial?_slot (name:=Str.ofString "__getitem__") ht.typeIs PyProof.Rows.slot_tuple_getitem
  (wpAny_call_entry PyProof.Rows.slot_tuple_getitem ht.typeIs entry_tuple_getitem ?_ (args_tuple_getitem _ _)))
 show wpAny _ _ (Builtin.Tuple.tupleItemsOf (.ref t) >>= _) _ _ s
 refine wpAny_bind (tupleItemsOf_ ht ?_)
 refine wpAny_bind (wpAny_typeOf hTs ?_)
 rw [if_pos (by decide)]
 refine wpAny_bind (sliceApplied_gen hs pl pu ?_)
 have hno:¬ ((((sIx items.size 0 lo:Nat):Int) == 0 && (1:Int) == 1 && (sIx items.size items.size hi - sIx items.size 0 lo) == items.size)=true):=by
  intro q
  rw [Bool.and_eq_true,Bool.and_eq_true] at q
  have q1:((sIx items.size 0 lo:Nat):Int)=0:=eq_of_beq q.1.1
  have q2:sIx items.size items.size hi - sIx items.size 0 lo=items.size:=eq_of_beq q.2
  exact hw ⟨by omega,by omega⟩
 show wpAny _ _ (if (((sIx items.size 0 lo:Nat):Int) == 0 && (1:Int) == 1 && (sIx items.size items.size hi - sIx items.size 0 lo) == items.size)=true then _ else _) _ _ s
 rw [if_neg hno,uc2]
 first
  | exact wpAny_bind (m:=Builtin.Tuple.tupleExact _) (wpAny_newObj_type (wpAny_pure ⟨_,rfl,wpAny_pure h⟩) htake)
  | exact wpAny_bind (m:=Builtin.Tuple.tupleExact _) (wpAny_newObj_type (wpAny_bind (wpAny_pure (wpAny_pure ⟨_,rfl,wpAny_pure h⟩))) htake)
  | exact wpAny_bind (wpAny_bind (m:=Builtin.Tuple.tupleExact _) (wpAny_newObj_type (wpAny_pure (wpAny_pure ⟨_,rfl,wpAny_pure h⟩)) htake))
  | exact wpAny_bind (wpAny_bind (m:=Builtin.Tuple.tupleExact _) (wpAny_newObj_type (wpAny_pure ⟨_,rfl,wpAny_pure h⟩) htake))
end
end HT
namespace L2
open PySem PySem.Spec PyProof.Rows
noncomputable abbrev TO:=St->Hp->(Option Int->Hp->Prop)->Prop
noncomputable def PO (X:Cx) (e:Option Expr) (t:TO):Prop :=
 ∀ (pins:List (Addr × Obj)) (s:Shared) (σ:St) (H:Hp) (Q:Option Int->Hp->Prop),Inv X pins σ H s->t σ H Q ->
  wpAny (model X.prog X.w) X.A (evalPart e X.env) (λ u s'=>∃ o H',Inv X pins σ H' s' /\ IsPart u o /\ Q o H') X.xe s
noncomputable def sm2:TO:=λ _ H Q=>Q none H
noncomputable def yu3 (t:TE):TO:=λ σ H Q=>t σ H λ x H1=>∃ i,x=.int i /\ Q (some i) H1
theorem xq1 {ns:List Int}:∀ {us:List Value},Vals (ns.map V.int) us->IntsAre us ns:=by
 induction ns with
 | nil=>intro us r; rw [List.map_nil] at r; cases r; exact .nil
 | cons n ns ih =>
  intro us r
  rw [List.map_cons] at r
  cases r with
  | cons r1 r2 =>
   obtain ⟨t,e⟩:=r1
   subst e
   exact .cons n t (ih r2)
section
variable {X:Cx} {e:Expr} {te:TE} {lo hi:Option Expr} {tl th:TO} {pos p2:Pos}
theorem zq2:PO X none sm2:=by
 intro pins s σ H Q I h
 rw [evalPart_none]
 exact wpAny_pure ⟨none,H,I,.none,h⟩
theorem yq2 (h:PE X e te):PO X (some e) (yu3 te):=by
 intro pins s σ H Q I hw
 rw [evalPart_some]
 refine thn (h pins s σ H _ I hw) λ u s1 ⟨x,H1,I1,r1,q1⟩=>?_
 obtain ⟨i,rfl,q⟩:=q1
 obtain ⟨t,rfl⟩:=r1
 exact ⟨some i,H1,I1,.int i t,q⟩
noncomputable def SlR (X:Cx) (r:V->Option Int->Option Int->Hp->VK->Prop):Prop :=
 ∀ (pins:List (Addr × Obj)) (s:Shared) (σ:St) (H:Hp) (x:V) (v vl vu:Value) (lo hi:Option Int) (sl:Addr) (Q:VK),Inv X pins σ H s->RelV x v->s.heap.IsSliceOf sl vl vu .none->IsPart vl lo->IsPart vu hi->r x lo hi H Q ->
  ∃ T id,typeLookup (.type T) "__getitem__" = pure (some (.builtin id)) /\ s.TypeIs v T /\ wpAny (model X.prog X.w) X.A (getItem v (.ref sl)) (EP X pins σ Q) X.xe s
theorem SlR.or {r r':V->Option Int->Option Int->Hp->VK->Prop} (h:SlR X r) (h':SlR X r'):SlR X (λ x lo hi H Q=>r x lo hi H Q \/ r' x lo hi H Q):=by
 intro pins s σ H x v vl vu lo hi sl Q I rx hs pl pu q
 rcases q with q | q
 ·exact h pins s σ H x v vl vu lo hi sl Q I rx hs pl pu q
 ·exact h' pins s σ H x v vl vu lo hi sl Q I rx hs pl pu q
noncomputable def tSl (r:V->Option Int->Option Int->Hp->VK->Prop) (te:TE) (tl th:TO):TE:=λ σ H Q=>te σ H λ x H1=>tl σ H1 λ l H2=>th σ H2 λ u H3=>r x l u H3 Q
theorem sc2 {r:V->Option Int->Option Int->Hp->VK->Prop} (hr:SlR X r) (he:PE X e te) (hl:PO X lo tl) (hu:PO X hi th):PE X (.Subscript e (.Slice lo hi none p2) pos) (tSl r te tl th):=by
 intro pins s σ H Q I h
 refine Subscript_ (thn (he pins s σ H _ I h) λ v s1 ⟨x,H1,I1,r1,q1⟩=>?_)
 refine wpAny_Slice (thn (hl pins s1 σ H1 _ I1 q1) λ vl s2 ⟨l,H2,I2,pl,q2⟩=>thn (hu pins s2 σ H2 _ I2 q2) λ vu s3 ⟨u,H3,I3,pu,q3⟩=>?_)
 rw [evalPart_none]
 refine wpAny_pure ?_
 have I4:Inv X pins σ H3 { s3 with heap:=s3.heap.push { cls:=.type "slice",data:=.fields #[vl,vu,.none] } }:=I3.kept (t':=s3.toks) λ b ob q=>Heap.get?_push_of_some _ q
 obtain ⟨T,id,hT,ht,hg⟩:=hr pins { s3 with heap:=s3.heap.push { cls:=.type "slice",data:=.fields #[vl,vu,.none] } } σ H3 x v vl vu l u s3.heap.objs.size Q I4 r1 (Heap.IsSliceOf.new ..) pl pu q3
 show wpAny (model X.prog X.w) X.A (subscriptTail e (.Slice lo hi none p2) v (.ref s3.heap.objs.size)) (EP X pins σ Q) X.xe { s3 with heap:=s3.heap.push { cls:=.type "slice",data:=.fields #[vl,vu,.none] } }
 exact tail_any (ops:=[.ref s3.heap.objs.size,v]) ht hT hg (by with_unfolding_all rfl)
noncomputable def cutV (xs:List V) (lo hi:Option Int):List V:=(xs.drop (HT.sIx xs.length 0 lo)).take (HT.sIx xs.length xs.length hi - HT.sIx xs.length 0 lo)
theorem wx0 (xs:List V) (lo hi:Option Int):(cutV xs lo hi).length<=xs.length:=by
 unfold cutV
 rw [List.length_take,List.length_drop]
 omega
noncomputable def rSlT (K:PySem.W.Frag):V->Option Int->Option Int->Hp->VK->Prop:=λ x lo hi H Q=>∃ a xs,x=.ref a /\ SqT K H a xs ∧
 ¬ (HT.sIx xs.length 0 lo=0 /\ HT.sIx xs.length xs.length hi=xs.length) /\ ∀ p,H p=none->Q (.ref p) (upd H p (.tup (cutV xs lo hi)))
theorem ta3:SlR X (rSlT X.K):=by
 intro pins s σ H x v vl vu lo hi sl Q I rx hs pl pu h
 obtain ⟨a,xs,rfl,hx,hw,q⟩:=h
 cases rx
 obtain ⟨its,r,ht,hz⟩:=I.tuple hx
 have hlen:its.toArray.size=xs.length:=by rw [List.size_toArray]; exact r.length.symm
 refine ⟨"tuple",_,PyProof.Rows.slot_tuple_getitem.lookup,ht.typeIs,?_⟩
 refine HT.getItem_tuple_cut ht hs pl pu (by rw [hlen]; exact hw) ?_ (by rw [hlen]; exact hz)
 rw [hlen]
 refine ⟨.ref s.heap.objs.size,_,I.laid (t':=s.toks) (o:=.tup (cutV xs lo hi)) (λ b ob q=>Heap.get?_push_of_some _ q) (Nat.le_refl _) ?_,rfl,q _ (I.hok.fresh (Nat.le_refl _))⟩
 exact ⟨Nat.le_trans (wx0 xs lo hi) hz,_,(r.drop (HT.sIx xs.length 0 lo)).take (HT.sIx xs.length xs.length hi - HT.sIx xs.length 0 lo),IsTup.new _ _⟩
noncomputable def sx3 (K:PySem.W.Frag):R2:=λ x y H Q=>∃ a b xs ys,x=.ref a /\ y=.ref b /\ SqT K H a xs /\ SqT K H b ys /\ xs ≠ [] /\ xs.length + ys.length<=sizeLine ∧
 (ys=[]->Q (.ref a) H) /\ (ys ≠ []->∀ p,H p=none->Q (.ref p) (upd H p (.tup (xs ++ ys))))
theorem Vals.nil_iff {xs:List V} {us:List Value} (r:Vals xs us):us=[] ↔ xs=[]:=by
 cases r with
 | nil=>simp
 | cons _ _=>simp
theorem zr2:OpR X (binaryOp .Add) (sx3 X.K):=by
 intro pins s σ H x y v u Q I rx ry h
 obtain ⟨a,b,xs,ys,rfl,rfl,ha,hb,hx,hz,q1,q2⟩:=h
 cases rx
 cases ry
 obtain ⟨its,r1,p1,_⟩:=I.tuple ha
 obtain ⟨its2,r2,p2,_⟩:=I.tuple hb
 refine HT.cat_tup p1 p2 (λ z=>hx (r1.nil_iff.mp z)) (λ z=>⟨.ref a,H,I,rfl,q1 (r2.nil_iff.mp z)⟩) (λ z=>?_) (by rw [<- r1.length,<- r2.length]; exact hz)
 refine ⟨.ref s.heap.objs.size,_,I.laid (t':=s.toks) (o:=.tup (xs ++ ys)) (λ b ob q=>Heap.get?_push_of_some _ q) (Nat.le_refl _) ?_,rfl,q2 (λ w=>z (r2.nil_iff.mpr w)) _ (I.hok.fresh (Nat.le_refl _))⟩
 exact ⟨by rw [List.length_append]; exact hz,_,r1.append r2,IsTup.new _ _⟩
end
end L2
namespace L2
open PySem PySem.Spec PyProof.Rows
noncomputable def ixN (n:Nat) (i:Int):Option Nat:=if 0<=i then (if i < n then some i.toNat else none) else if -(n:Int)<=i then some (i + n).toNat else none
noncomputable def atI {α:Type} (xs:List α) (i:Int):Option α:=(ixN xs.length i).bind λ j=>xs[j]?
theorem sv1 {n:Nat} {i:Int} {j:Nat} (h:ixN n i=some j):seqIndex? i n=some j /\ j < n /\ -(n:Int)<=i /\ i < n:=by
 unfold ixN at h
 by_cases h0:0<=i
 ·rw [if_pos h0] at h
  by_cases h1:i < n
  ·rw [if_pos h1] at h
   have e:i.toNat=j:=Option.some.inj h
   exact ⟨by rw [seqIndex_of h0 h1,e],by omega,by omega,h1⟩
  ·rw [if_neg h1] at h; cases h
 ·rw [if_neg h0] at h
  by_cases h1 : -(n:Int)<=i
  ·rw [if_pos h1] at h
   have e:(i + n).toNat=j:=Option.some.inj h
   exact ⟨by rw [seqIndex_neg (by omega) h1,e],by omega,h1,by omega⟩
  ·rw [if_neg h1] at h; cases h
theorem zz1 {α:Type} {xs:List α} {i:Int} {v:α} (h:atI xs i=some v):∃ j,seqIndex? i xs.length=some j /\ xs[j]?=some v /\ j < xs.length /\ -(xs.length:Int)<=i /\ i < xs.length:=by
 unfold atI at h
 cases e:ixN xs.length i with
 | none=>rw [e] at h; cases h
 | some j =>
  rw [e] at h
  obtain ⟨h1,h2,h3,h4⟩:=sv1 e
  exact ⟨j,h1,h,h2,h3,h4⟩
theorem vu0 {α:Type} (xs:List α) (v:α):atI (xs ++ [v]) (-1)=some v:=by
 have hl:(xs ++ [v]).length=xs.length + 1:=by simp
 have e:ixN (xs ++ [v]).length (-1)=some xs.length:=by
  unfold ixN
  rw [hl,if_neg (by decide),if_pos (by omega)]
  congr 1
  omega
 unfold atI
 rw [e]
 show (xs ++ [v])[xs.length]?=some v
 simp
noncomputable def uz1 (b:Expr):Prop:=∀ o i,subscripted b false o i=operate [o,i] (getItem o i)
noncomputable def IxR (X:Cx) (r:R2):Prop :=
 ∀ (value slice:Expr) (pins:List (Addr × Obj)) (s:Shared) (σ:St) (H:Hp) (x y:V) (v u:Value) (Q:VK),Inv X pins σ H s->RelV x v->RelV y u->r x y H Q ->
  subscripted slice false v u=operate [v,u] (getItem v u)->wpAny (model X.prog X.w) X.A (subscriptTail value slice v u) (EP X pins σ Q) X.xe s
noncomputable def MtR (X:Cx) (id:String) (r:V->List V->Hp->VK->Prop):Prop :=
 ∀ (pins:List (Addr × Obj)) (s:Shared) (σ:St) (H:Hp) (x:V) (xs:List V) (v:Value) (us:List Value) (Q:VK),Inv X pins σ H s->RelV x v->Vals xs us->r x xs H Q ->
  wpAny (model X.prog X.w) X.A (call (.builtin id) (v :: us)) (EP X pins σ Q) X.xe s
section
variable {X:Cx} {a b:Expr} {ta tb:TE} {pos:Pos}
theorem IxR.or {r r':R2} (h:IxR X r) (h':IxR X r'):IxR X (λ x y H Q=>r x y H Q \/ r' x y H Q):=by
 intro value slice pins s σ H x y v u Q I rx ry q hs
 rcases q with q | q
 ·exact h value slice pins s σ H x y v u Q I rx ry q hs
 ·exact h' value slice pins s σ H x y v u Q I rx ry q hs
theorem xz3 {r:R2} (hr:IxR X r) (ha:PE X a ta) (hb:PE X b tb) (hs:uz1 b):PE X (.Subscript a b pos) (tOp r ta tb):=by
 intro pins s σ H Q I h
 exact Subscript_ (binT ha hb I h λ v u s2 x y H2 I2 rx ry q=>hr a b pins s2 σ H2 x y v u Q I2 rx ry q (hs _ _))
noncomputable def rIxL (K:PySem.W.Frag):R2:=λ x y H Q=>∃ p xs i v,x=.ref p /\ y=.int i /\ SqL K H p xs /\ atI xs i=some v /\ Q v H
noncomputable def rIxT (K:PySem.W.Frag):R2:=λ x y H Q=>∃ p xs i v,x=.ref p /\ y=.int i /\ SqT K H p xs /\ atI xs i=some v /\ Q v H
theorem ix_list:IxR X (rIxL X.K):=by
 intro value slice pins s σ H x y v u Q I rx ry h hs
 obtain ⟨p,xs,i,z,rfl,rfl,hq,he,q⟩:=h
 cases rx
 obtain ⟨t,rfl⟩:=ry
 obtain ⟨its,r,pl,hz⟩:=I.list hq
 obtain ⟨j,h1,h2,h3,h4,h5⟩:=zz1 he
 obtain ⟨w,ew,rw'⟩:=r.get h2
 have hl:=r.length
 have hn:=te1
 have fin:EP X pins σ Q w s:=⟨z,H,I,rw',q⟩
 by_cases h0:0<=i
 ·have hj:i.toNat=j:=by
    rw [seqIndex_of h0 h5] at h1
    exact Option.some.inj h1
  exact item_listR pl.isList h0 (by omega) (by rw [hj]; simpa using ew) fin hs
 ·have hj:(i + (its.toArray.size:Int)).toNat=j:=by
    rw [seqIndex_neg (by omega) h4] at h1
    rw [List.size_toArray,<- hl]
    exact Option.some.inj h1
  exact subscriptTail_builtinR (x:=w) pl.isList.typeIs slot_list_getitem.lookup
   (wpAny_getItem_list_neg (Q:=λ r s'=>r=w /\ EP X pins σ Q r s') pl.isList (by omega) (by rw [List.size_toArray] <;> omega) (by omega) (by rw [hj]; simpa using ew) ⟨rfl,fin⟩) hs
theorem vk0:IxR X (rIxT X.K):=by
 intro value slice pins s σ H x y v u Q I rx ry h hs
 obtain ⟨p,xs,i,z,rfl,rfl,hq,he,q⟩:=h
 cases rx
 obtain ⟨t,rfl⟩:=ry
 obtain ⟨its,r,pl,hz⟩:=I.tuple hq
 obtain ⟨j,h1,h2,h3,h4,h5⟩:=zz1 he
 obtain ⟨w,ew,rw'⟩:=r.get h2
 have hl:=r.length
 have hn:=te1
 have fin:EP X pins σ Q w s:=⟨z,H,I,rw',q⟩
 exact subscriptTail_builtinR (x:=w) pl.typeIs slot_tuple_getitem.lookup
  (getItem_tuple (j:=j) (Q:=λ r s'=>r=w /\ EP X pins σ Q r s') pl (by omega) (by omega) (by rw [List.size_toArray,<- hl]; exact h1) (by simpa using ew) ⟨rfl,fin⟩) hs
theorem tp1 (its:List Value) (n j:Nat) (u:Value):Obj.mapSeq (·.setIfInBounds j u) { cls:=.type "list",data:=.seq its.toArray n }={ cls:=.type "list",data:=.seq (its.set j u).toArray n }:=by
 simp [Obj.mapSeq]
theorem Inv.lst {pins:List (Addr × Obj)} {σ:St} {H:Hp} {s:Shared} {p:Addr} {xs:List V} (I:Inv X pins σ H s) (h:H p=some (.lst xs)) :
    ∃ (its:List Value) (n:Nat),Vals xs its /\ s.heap.get? p=some { cls:=.type "list",data:=.seq its.toArray n } /\ xs.length<=sizeLine:=by
 obtain ⟨z,its,n,r,e⟩:=I.hok p _ h
 exact ⟨its,n,r,e,z⟩
theorem Inv.lstUpd {pins:List (Addr × Obj)} {σ:St} {H:Hp} {s:Shared} {p:Addr} {xs ys:List V} {its its':List Value} {n n':Nat} {f:Obj->Obj} (I:Inv X pins σ H s) (h:H p=some (.lst xs))
    (ho:s.heap.get? p=some { cls:=.type "list",data:=.seq its.toArray n }) (hf:f { cls:=.type "list",data:=.seq its.toArray n }={ cls:=.type "list",data:=.seq its'.toArray n' }) (r:Vals ys its') (hz:ys.length<=sizeLine) (t:Nat) :
    Inv X pins σ (upd H p (.lst ys)) { s with heap:=s.heap.update p f,toks:=t }:=by
 have e:(s.heap.update p f).get? p=some { cls:=.type "list",data:=.seq its'.toArray n' }:=by
  rw [Heap.get?_update_self f ho (by rw [hf] <;> rfl),hf]
 refine I.write (x:=p) (e:=p) (by rw [h]; trivial) (.inl rfl) (λ b u hb q=>(Heap.get?_update_other _ _ (Ne.symm hb)).trans q) ⟨_,e⟩ ?_
 exact ⟨hz,its',n',r,e⟩
noncomputable def ux3:V->V->V->Hp->(Hp->Prop)->Prop:=λ o i v H Q=>∃ p xs k j,o=.ref p /\ i=.int k /\ H p=some (.lst xs) /\ ixN xs.length k=some j /\ Q (upd H p (.lst (xs.set j v)))
theorem xb2:PSet X ux3:=by
 intro pins s σ H o i v ov iv u Q I ro ri rv h
 obtain ⟨p,xs,k,j,rfl,rfl,hp,hj,q⟩:=h
 cases ro
 obtain ⟨t,rfl⟩:=ri
 obtain ⟨its,n,r,ho,hz⟩:=I.lst hp
 obtain ⟨h1,h2,h3,h4⟩:=sv1 hj
 have hl:=r.length
 have hn:=te1
 have I':Inv X pins σ (upd H p (.lst (xs.set j v))) { s with heap:=s.heap.update p (Obj.mapSeq (·.setIfInBounds j u)) } :=
  I.lstUpd hp ho (tp1 its n j u) (r.set rv j) (by rw [List.length_set]; exact hz) s.toks
 by_cases h0:0<=k
 ·have hk:k.toNat=j:=by
    rw [seqIndex_of h0 h4] at h1
    exact Option.some.inj h1
  exact PySem.W.ki_setAt ho h0 (by omega) (by rw [List.size_toArray,<- hl]; exact h4) (by rw [hk]; exact ⟨_,I',q⟩)
 ·have hk:(k + (its.toArray.size:Int)).toNat=j:=by
    rw [seqIndex_neg (by omega) h3] at h1
    rw [List.size_toArray,<- hl]
    exact Option.some.inj h1
  exact PySem.W.ki_setBack ho (by omega) (by rw [List.size_toArray,<- hl]; exact h3) (by omega) (by rw [hk]; exact ⟨_,I',q⟩)
theorem td1 (lo hi:Option Int) (n:Nat):(sliceBounds lo hi none n).1=((HT.sIx n 0 lo:Nat):Int) /\ (sliceBounds lo hi none n).2.1=((HT.sIx n n hi:Nat):Int) /\ (sliceBounds lo hi none n).2.2=1:=by
 refine ⟨?_,?_,rfl⟩
 ·cases lo with
  | none=>simp [sliceBounds,HT.sIx]
  | some i =>
   simp only [sliceBounds,HT.sIx,Option.getD_none,show (1:Int) > 0 by decide,if_true]
   by_cases h:i < 0
   ·simp only [h,if_true] <;> omega
   ·simp only [h,if_false] <;> omega
 ·cases hi with
  | none=>simp [sliceBounds,HT.sIx]
  | some i =>
   simp only [sliceBounds,HT.sIx,Option.getD_none,show (1:Int) > 0 by decide,if_true]
   by_cases h:i < 0
   ·simp only [h,if_true] <;> omega
   ·simp only [h,if_false] <;> omega
theorem va1 (its:List Value) (lo hi:Option Int):slicePick its.toArray lo hi none=((its.drop (HT.sIx its.length 0 lo)).take (HT.sIx its.length its.length hi - HT.sIx its.length 0 lo)).toArray:=by
 obtain ⟨h1,h2,h3⟩:=td1 lo hi its.toArray.size
 unfold slicePick
 rw [h1,h2,h3]
 simp only [sliceRange_one,pick_run,List.size_toArray] <;> rfl
noncomputable def rSlL (K:PySem.W.Frag):V->Option Int->Option Int->Hp->VK->Prop:=λ x lo hi H Q=>∃ a xs,x=.ref a /\ SqL K H a xs /\ ∀ p,H p=none->Q (.ref p) (upd H p (.lst (cutV xs lo hi)))
theorem zn2:SlR X (rSlL X.K):=by
 intro pins s σ H x v vl vu lo hi sl Q I rx hs pl pu h
 obtain ⟨a,xs,rfl,hx,q⟩:=h
 cases rx
 obtain ⟨its,r,ht,hz⟩:=I.list hx
 have hlen:=r.length
 refine ⟨"list",_,slot_list_getitem.lookup,ht.isList.typeIs,?_⟩
 refine wpAny_getItem_list_slice ht.isList hs pl pu .none (by simp) ?_ (by rw [List.size_toArray] <;> omega)
 rw [va1,<- hlen]
 refine ⟨.ref s.heap.objs.size,_,I.laid (t':=s.toks) (o:=.lst (cutV xs lo hi)) (λ b ob q=>Heap.get?_push_of_some _ q) (Nat.le_refl _) ?_,rfl,q _ (I.hok.fresh (Nat.le_refl _))⟩
 exact ⟨Nat.le_trans (wx0 xs lo hi) hz,_,0,(r.drop (HT.sIx xs.length 0 lo)).take (HT.sIx xs.length xs.length hi - HT.sIx xs.length 0 lo),Heap.get?_push_size _ rfl⟩
noncomputable def tb1:V->Bool
 | .non=>true
 | .bl _=>true
 | .int _=>true
 | .str _=>true
 | _=>false
noncomputable def eqV:V->V->Bool
 | .non,.non=>true
 | .bl a,.bl b=>a == b
 | .bl a,.int b=>(if a then 1 else 0) == b
 | .int a,.bl b=>a == (if b then 1 else 0)
 | .int a,.int b=>a == b
 | .str a,.str b=>a == b
 | _,_=>false
theorem ws3 {A:Around} {s:Shared} {y x:V} {u v:Value} (ry:RelV y u) (rx:RelV x v) (fy:tb1 y=true) (fx:tb1 x=true):SeqAt.EqAt A s u v (eqV y x):=by
 cases y with
 | non =>
  cases ry
  cases x with
  | non=>cases rx; exact SeqAt.EqAt.same _
  | bl b=>cases rx; exact SeqAt.EqAt.none_bool b
  | int b=>obtain ⟨t,rfl⟩:=rx; exact SeqAt.EqAt.none_int b t
  | str b=>obtain ⟨t,rfl⟩:=rx; exact SeqAt.EqAt.none_str b t
  | _=>exact absurd (show false=true from fx) Bool.false_ne_true
 | bl a =>
  cases ry
  cases x with
  | non=>cases rx; exact SeqAt.EqAt.bool_none a
  | bl b=>cases rx; exact SeqAt.EqAt.bool_bool a b
  | int b=>obtain ⟨t,rfl⟩:=rx; exact SeqAt.EqAt.bool_int a b t
  | str b=>obtain ⟨t,rfl⟩:=rx; exact SeqAt.EqAt.bool_str a b t
  | _=>exact absurd (show false=true from fx) Bool.false_ne_true
 | int a =>
  obtain ⟨t',rfl⟩:=ry
  cases x with
  | non=>cases rx; exact SeqAt.EqAt.int_none a t'
  | bl b=>cases rx; exact SeqAt.EqAt.int_bool a t' b
  | int b=>obtain ⟨t,rfl⟩:=rx; exact SeqAt.EqAt.int_int a t' b t
  | str b=>obtain ⟨t,rfl⟩:=rx; exact SeqAt.EqAt.int_str a t' b t
  | _=>exact absurd (show false=true from fx) Bool.false_ne_true
 | str a =>
  obtain ⟨t',rfl⟩:=ry
  cases x with
  | non=>cases rx; exact SeqAt.EqAt.str_none a t'
  | bl b=>cases rx; exact SeqAt.EqAt.str_bool a t' b
  | int b=>obtain ⟨t,rfl⟩:=rx; exact SeqAt.EqAt.str_int a t' b t
  | str b=>obtain ⟨t,rfl⟩:=rx; exact SeqAt.EqAt.str_str a t' b t
  | _=>exact absurd (show false=true from fx) Bool.false_ne_true
 | _=>exact absurd (show false=true from fy) Bool.false_ne_true
noncomputable def eqU (x:V) (u:Value):Bool:=match u with
 | .none=>eqV .non x
 | .bool b=>eqV (.bl b) x
 | .int i _=>eqV (.int i) x
 | .str z _=>eqV (.str z) x
 | _=>false
theorem zk2 {x y:V} {u:Value} (r:RelV y u) (f:tb1 y=true):eqU x u=eqV y x:=by
 cases y with
 | non=>cases r; rfl
 | bl b=>cases r; rfl
 | int i=>obtain ⟨t,rfl⟩:=r; rfl
 | str z=>obtain ⟨t,rfl⟩:=r; rfl
 | _=>exact absurd (show false=true from f) Bool.false_ne_true
theorem wi1 {x:V}:∀ {xs:List V} {us:List Value},Vals xs us->xs.all tb1=true->us.any (eqU x)=xs.any λ y=>eqV y x
 | _,_,.nil,_=>rfl
 | y :: xs,u :: us,.cons r t,f=>by
  rw [List.all_cons,Bool.and_eq_true] at f
  rw [List.any_cons,List.any_cons,zk2 r f.1,wi1 t f.2]
theorem vb1 {A:Around} {s:Shared} {x:V} {v:Value} (rx:RelV x v) (fx:tb1 x=true):∀ {xs:List V} {us:List Value},Vals xs us->xs.all tb1=true->∀ u ∈ us,SeqAt.EqAt A s u v (eqU x u)
 | _,_,.nil,_=>λ u hu=>by cases hu
 | y :: xs,u :: us,.cons r t,f=>λ u' hu=>by
  rw [List.all_cons,Bool.and_eq_true] at f
  rcases List.mem_cons.mp hu with rfl | hu
  ·rw [zk2 r f.1]; exact ws3 r rx f.1 fx
  ·exact vb1 rx fx t f.2 u' hu
noncomputable def inV (x:V) (xs:List V):Bool:=xs.any λ y=>eqV y x
noncomputable def rIn (K:PySem.W.Frag) (neg:Bool):R2:=λ x y H Q=>∃ p xs,y=.ref p /\ (SqL K H p xs \/ SqT K H p xs) /\ tb1 x=true /\ xs.all tb1=true /\ Q (.bl (if neg then !inV x xs else inV x xs)) H
theorem op_in_seq:OpR X (compareOp .In) (rIn X.K false):=by
 intro pins s σ H x y v u Q I rx ry h
 obtain ⟨p,xs,rfl,hq,fx,fs,q⟩:=h
 cases ry
 rcases hq with hq | hq
 ·obtain ⟨its,r,pl,hz⟩:=I.list hq
  refine SeqAt.in_listAt (eqU x) pl.isList (λ w hw=>vb1 rx fx r fs w (by simpa using hw)) ⟨.bl _,H,I,rfl,?_⟩
  rw [show its.toArray.any (eqU x)=its.any (eqU x) by simp,wi1 r fs]
  exact q
 ·obtain ⟨its,r,pl,hz⟩:=I.tuple hq
  refine SeqAt.in_tupleAt (eqU x) pl (λ w hw=>vb1 rx fx r fs w (by simpa using hw)) ⟨.bl _,H,I,rfl,?_⟩
  rw [show its.toArray.any (eqU x)=its.any (eqU x) by simp,wi1 r fs]
  exact q
theorem call_len_seq:CallR X (.builtin "len") (λ xs H Q=>∃ p ys,xs=[.ref p] /\ (SqL X.K H p ys \/ SqT X.K H p ys) /\ Q (.int ys.length) H):=by
 intro pins s σ H xs us Q I r h
 obtain ⟨p,ys,rfl,hq,q⟩:=h
 obtain ⟨u,rfl,rx⟩:=vz0 r
 cases rx
 have hn:=te1
 rcases hq with hq | hq
 ·obtain ⟨its,r',pl,hz⟩:=I.list hq
  have hlen:=r'.length
  exact Calls.call_len_list pl.isList (by simp only [List.size_toArray] <;> omega) ⟨.int ys.length,H,I.tok _,⟨s.toks + 1,by rw [List.size_toArray,hlen]⟩,q⟩
 ·obtain ⟨its,r',pl,hz⟩:=I.tuple hq
  have hlen:=r'.length
  exact len_tuple pl (by simp only [List.size_toArray] <;> omega) ⟨.int ys.length,H,I.tok _,⟨s.toks + 1,by rw [List.size_toArray,hlen]⟩,q⟩
theorem sf1:CallR X (.builtin "len") (λ xs H Q=>∃ z,xs=[.str z] /\ z.length<=sizeLine /\ Q (.int z.length) H):=by
 intro pins s σ H xs us Q I r h
 obtain ⟨z,rfl,hz,q⟩:=h
 obtain ⟨u,rfl,t,rfl⟩:=vz0 r
 have hn:=te1
 exact len_str (by omega) ⟨.int z.length,H,I.tok _,⟨_,rfl⟩,q⟩
theorem CallR.or {f:Value} {r r':List V->Hp->VK->Prop} (h:CallR X f r) (h':CallR X f r'):CallR X f (λ xs H Q=>r xs H Q \/ r' xs H Q):=by
 intro pins s σ H xs us Q I rs q
 rcases q with q | q
 ·exact h pins s σ H xs us Q I rs q
 ·exact h' pins s σ H xs us Q I rs q
theorem tf1:CallR X (.type "list") (λ xs H Q=>∃ p ys,xs=[.ref p] /\ (SqL X.K H p ys \/ SqT X.K H p ys) /\ ∀ l,H l=none->Q (.ref l) (upd H l (.lst ys))):=by
 intro pins s σ H xs us Q I r h
 obtain ⟨p,ys,rfl,hq,q⟩:=h
 obtain ⟨u,rfl,rx⟩:=vz0 r
 cases rx
 have fin:∀ (its:List Value),Vals ys its->ys.length<=sizeLine->∀ (h':Heap) (c':Nat),(∀ b o',s.heap.get? b=some o'->h'.get? b=some o') ->
     h'.get? s.heap.objs.size=some { cls:=.type "list",dict:=none,data:=.seq its.toArray c',slots:=#[] }->EP X pins σ Q (.ref s.heap.objs.size) { s with heap:=h' }:=λ its r' hz h' c' kp e =>
  ⟨.ref s.heap.objs.size,_,I.laid (t':=s.toks) kp (Nat.le_refl _) (show ObjOk X.prog X.w _ h' _ (.lst ys) from ⟨hz,its,c',r',e⟩),rfl,q _ (I.hok.fresh (Nat.le_refl _))⟩
 rcases hq with hq | hq
 ·obtain ⟨its,r',pl,hz⟩:=I.list hq
  have hlen:=r'.length
  obtain ⟨o,ho,hc,n,hd⟩:=pl.isList
  exact call_list_seq p (.inl rfl) ho hc hd (λ h' c' kp e=>fin its r' hz h' c' kp e) (by simp only [List.size_toArray] <;> omega)
 ·obtain ⟨its,r',pl,hz⟩:=I.tuple hq
  have hlen:=r'.length
  obtain ⟨o,ho,hc,n,hd⟩:=pl
  exact call_list_seq p (.inr rfl) ho hc hd (λ h' c' kp e=>fin its r' hz h' c' kp e) (by simp only [List.size_toArray] <;> omega)
theorem zc1:CallR X (.type "tuple") (λ xs H Q=>∃ p ys,xs=[.ref p] /\ ((SqL X.K H p ys /\ ∀ l,H l=none->Q (.ref l) (upd H l (.tup ys))) \/ (SqT X.K H p ys /\ Q (.ref p) H))):=by
 intro pins s σ H xs us Q I r h
 obtain ⟨p,ys,rfl,h⟩:=h
 obtain ⟨u,rfl,rx⟩:=vz0 r
 cases rx
 rcases h with ⟨hq,q⟩ | ⟨hq,q⟩
 ·obtain ⟨its,r',pl,hz⟩:=I.list hq
  have hlen:=r'.length
  refine call_tuple_list pl.isList (λ h' kp=>?_) (by simp only [List.size_toArray] <;> omega)
  have I1:Inv X pins σ H { s with heap:=h' }:=I.kept (t':=s.toks) kp
  have I2:Inv X pins σ (upd H h'.objs.size (.tup ys)) { s with heap:=h'.push { cls:=.type "tuple",data:=.seq its.toArray } } :=
   I1.laid (t':=s.toks) (λ b o e=>Heap.get?_push_of_some _ e) (Nat.le_refl _) (show ObjOk X.prog X.w _ _ _ (.tup ys) from ⟨hz,its,r',IsTup.new _ _⟩)
  exact ⟨.ref h'.objs.size,_,I2,rfl,q _ (I1.hok.fresh (Nat.le_refl _))⟩
 ·obtain ⟨its,r',pl,hz⟩:=I.tuple hq
  exact call_tuple_same pl ⟨.ref p,H,I,rfl,q⟩
noncomputable def tyV (K:PySem.W.Frag) (T:String) (x:V) (H:Hp):Prop:=match x with
 | .str _=>T = "str"
 | .int _=>T = "int"
 | .ref p=>(T = "list" /\ ∃ xs,SqL K H p xs) \/ (T = "tuple" /\ ∃ o,K.lookup p=some o /\ o.cls=.type "tuple" /\ o.dict=none) ∨
     (T = "dict" /\ ((∃ kvs,H p=some (.dK kvs)) \/ ∃ kvs,H p=some (.dT kvs))) \/ (T = "set" /\ ∃ S n,H p=some (.set S n))
 | _=>False
theorem vx2 {pins:List (Addr × Obj)} {σ:St} {H:Hp} {s:Shared} {T:String} {x:V} {v:Value} (I:Inv X pins σ H s) (r:RelV x v) (ty:tyV X.K T x H) :
    s.TypeIs v T /\ ∀ a,v=.ref a->∃ ob,s.heap.get? a=some ob /\ ob.dict=none:=by
 cases x with
 | str z =>
  obtain ⟨t,rfl⟩:=r
  cases (show T = "str" from ty)
  exact ⟨typeIs_str s z t,λ _ e=>nomatch e⟩
 | int i =>
  obtain ⟨t,rfl⟩:=r
  cases (show T = "int" from ty)
  exact ⟨typeIs_int s i t,λ _ e=>nomatch e⟩
 | ref p =>
  cases r
  rcases ty with ⟨rfl,xs,hq⟩ | ⟨rfl,o,hk,hc,hd⟩ | ⟨rfl,hk⟩ | ⟨rfl,S,n,hk⟩
  ·obtain ⟨its,_,pl,_⟩:=I.list hq
   refine ⟨pl.isList.typeIs,λ a e=>?_⟩
   cases e
   obtain ⟨o,n,e,c,hd,_⟩:=pl
   exact ⟨o,e,hd⟩
  ·refine ⟨⟨o,I.kIn p o hk,hc⟩,λ a e=>?_⟩
   cases e
   exact ⟨o,I.kIn _ o hk,hd⟩
  ·have z:∃ o,s.heap.get? p=some o /\ o.ExactDict:=by
     rcases hk with ⟨kvs,hk⟩ | ⟨kvs,hk⟩
     ·obtain ⟨_,_,_,_,o,_,_,e,ex,_⟩:=I.hok p _ hk
      exact ⟨o,e,ex⟩
     ·obtain ⟨_,_,_,_,o,_,_,e,ex,_⟩:=I.hok p _ hk
      exact ⟨o,e,ex⟩
   obtain ⟨o,e,ex⟩:=z
   refine ⟨⟨o,e,ex.1⟩,λ a e2=>?_⟩
   cases e2
   exact ⟨o,e,ex.2.1⟩
  ·obtain ⟨o,_,_,_,e,ex,_⟩:=I.hok p _ hk
   refine ⟨⟨o,e,ex.1⟩,λ a e2=>?_⟩
   cases e2
   exact ⟨o,e,ex.2.1⟩
 | _=>exact False.elim ty
noncomputable def tBM (K:PySem.W.Frag) (T:String) (r:V->List V->Hp->VK->Prop) (to:TE) (t:TA):TE:=λ σ H Q=>to σ H λ x H1=>tyV K T x H1 /\ t σ H1 λ xs H2=>r x xs H2 Q
variable {o e:Expr} {es:List Expr} {to:TE} {t:TA} {name:Str} {apos cpos:Pos} {T id:String} {r:V->List V->Hp->VK->Prop}
theorem zz3 (pa:PlainAttrs T) (slot:Slot T name id) (hty:typeOf (.builtin id)=pure (.type "method_descriptor")) (hm:MtR X id r) (ho:PE X o to) (ha:PA X (e :: es) t)
    (hbase:attributeBase o name X.env (eval o X.env)=eval o X.env:=by rfl)
    (hfew:((backTo cpos (starEach (e :: es) X.env)).all (λ x=>!x.1) && (backToKw cpos (keywordEach [] X.env)).all (λ x=>x.1.isSome)
     && decide ((e :: es).length + ([]:List Keyword).length + (if ([]:List Keyword).isEmpty then 0 else 1) < 30))=true:=by rfl)
    (hline:(apos.endLine == cpos.line)=true:=by rfl) (hs:starEach (e :: es) X.env=(false,eval e X.env) :: starEach es X.env:=by rfl) (hplain:(backTo cpos (starEach es X.env)).any (·.1)=false:=by rfl) :
    PE X (.Call (.Attribute o name apos) (e :: es) [] cpos) (tBM X.K T r to t):=by
 intro pins s σ H Q I h
 refine wpAny_Call_method_late hbase hfew hline rfl (thn (ho pins s σ H _ I h) λ v s1 ⟨x,H1,I1,r1,ty,q1⟩=>?_)
 obtain ⟨h1,h2⟩:=vx2 I1 r1 ty
 refine ⟨T,id,pa,slot,hty,h1,h2,?_⟩
 have hA:=ha cpos pins s1 σ H1 _ I1 q1
 rw [hs] at hA ⊢
 refine Calls.callWith_builtin (by show (false || (backTo cpos (starEach es X.env)).any (·.1))=false; rw [hplain] <;> rfl) (Calls.evalArgs_plain ?_)
 exact thn hA λ us s2 ⟨vs,H2,I2,r2,q2⟩=>hm pins s2 σ H2 x vs v us Q I2 r1 r2 q2
end
end L2
namespace L2
open PySem PySem.Spec PyProof.Rows
noncomputable def MtM (X:Cx) (id:String) (r:V->List V->Hp->VK->Prop):Prop :=
 ∀ (pins:List (Addr × Obj)) (s:Shared) (σ:St) (H:Hp) (x:V) (xs:List V) (v:Value) (us:List Value) (Q:VK),Inv X pins σ H s->RelV x v->Vals xs us->r x xs H Q ->
  wpAny (model X.prog X.w) X.A (call (.builtin id) (v :: us)) (EP X pins σ Q) X.xe s
theorem Vals.one:∀ {x:V} {us:List Value},Vals [x] us->∃ u,us=[u] /\ RelV x u
 | _,_,.cons r .nil=>⟨_,rfl,r⟩
theorem Vals.rep {xs:List V} {us:List Value} (h:Vals xs us):∀ k:Nat,Vals (List.replicate k xs).flatten (List.replicate k us).flatten
 | 0=>.nil
 | k + 1=>by
  rw [List.replicate_succ,List.replicate_succ,List.flatten_cons,List.flatten_cons]
  exact Vals.append h (Vals.rep h k)
theorem tw0 (its:List Value):∀ (k:Nat) (acc:List Value),
    List.foldl (λ x1 x2=>x1 ++ x2) acc.toArray (List.replicate k its.toArray)=(acc ++ (List.replicate k its).flatten).toArray
 | 0,acc=>by simp
 | k + 1,acc=>by
  have e:acc.toArray ++ its.toArray=(acc ++ its).toArray:=by simp
  have e2:(acc ++ its) ++ (List.replicate k its).flatten=acc ++ (List.replicate (k + 1) its).flatten:=by
   rw [List.replicate_succ,List.flatten_cons,List.append_assoc]
  rw [<- e2,<- tw0 its k (acc ++ its),<- e,List.replicate_succ,List.foldl_cons]
section
variable {X:Cx} {pins:List (Addr × Obj)} {σ:St} {H:Hp} {s:Shared} {l b:Addr} {xs ys zs:List V}
theorem Inv.lset {its its':List Value} {n:Nat} {f:Array Value->Array Value} {t':Nat} (I:Inv X pins σ H s) (hH:H l=some (.lst xs))
    (e:s.heap.get? l=some { cls:=.type "list",data:=.seq its.toArray n }) (hf:f its.toArray=its'.toArray) (hv:Vals ys its') (hz:ys.length<=sizeLine) :
    Inv X pins σ (upd H l (.lst ys)) { s with heap:=s.heap.update l (Obj.mapSeq f),toks:=t' }:=by
 have q:=PySem.IsL.update e f
 rw [hf] at q
 refine I.write (x:=l) (e:=l) (by rw [hH]; exact trivial) (.inl rfl) (λ b' u hb hu=>(Heap.get?_update_other s.heap (Obj.mapSeq f) (Ne.symm hb)).trans hu) ⟨_,q⟩ ?_
 exact ⟨hz,its',_,hv,q⟩
theorem Inv.lnew {its:List Value} {t':Nat} (I:Inv X pins σ H s) (hv:Vals ys its) (hz:ys.length<=sizeLine) :
    Inv X pins σ (upd H s.heap.objs.size (.lst ys)) { s with heap:=s.heap.push { cls:=.type "list",data:=.seq its.toArray },toks:=t' } :=
 I.laid (λ _ _ q=>Heap.get?_push_of_some _ q) (Nat.le_refl _) ⟨hz,its,0,hv,Heap.get?_push_size _ rfl⟩
theorem Inv.fresh (I:Inv X pins σ H s):H s.heap.objs.size=none:=I.hok.fresh (Nat.le_refl _)
theorem Inv.lstM (I:Inv X pins σ H s) (hH:H l=some (.lst xs)):xs.length<=sizeLine /\ ∃ (its:List Value) (n:Nat),Vals xs its /\ xs.length=its.length /\ s.heap.get? l=some { cls:=.type "list",data:=.seq its.toArray n }:=by
 obtain ⟨z,its,n,r,e⟩:=I.hok l _ hH
 exact ⟨z,its,n,r,r.length,e⟩
theorem zd2 {n:Nat} (h:n<=sizeLine):Builtin.List.listTooLong n=false:=by
 unfold Builtin.List.listTooLong
 exact decide_eq_false (by omega)
end
section
variable {X:Cx}
noncomputable def vo2:V->List V->Hp->VK->Prop:=λ x vs H Q=>∃ l xs y,x=.ref l /\ vs=[y] /\ H l=some (.lst xs) /\ xs.length < sizeLine /\ Q .non (upd H l (.lst (xs ++ [y])))
theorem ue1:MtM X "list.append" vo2:=by
 intro pins s σ H x vs v us Q I rx rv h
 obtain ⟨l,xs,y,rfl,rfl,hH,hz,q⟩:=h
 cases rx
 obtain ⟨u,rfl,ru⟩:=rv.one
 obtain ⟨z,its,n,r,hl,e⟩:=I.lstM hH
 refine call_meets F.slot_list_append ⟨_,e,rfl⟩ F.entry_list_append (F.args_list_append_2 _ _) (PySem.list_append l its.toArray n u (by rw [List.size_toArray]; omega)) ⟨e,?_⟩
 refine ⟨.non,_,I.lset (its':=its ++ [u]) hH e (by simp) (r.append (.cons ru .nil)) ?_,rfl,q⟩
 rw [List.length_append,List.length_singleton]
 omega
noncomputable def rCat:R2:=λ x y H Q=>∃ l b xs zs,x=.ref l /\ y=.ref b /\ H l=some (.lst xs) /\ H b=some (.lst zs) /\ xs.length + zs.length<=sizeLine /\ ∀ p,H p=none->Q (.ref p) (upd H p (.lst (xs ++ zs)))
theorem op_cat:OpR X (binaryOp .Add) rCat:=by
 intro pins s σ H x y v u Q I rx ry h
 obtain ⟨l,b,xs,zs,rfl,rfl,hH,hB,hz,q⟩:=h
 cases rx
 cases ry
 obtain ⟨z,its,n,r,hl,e⟩:=I.lstM hH
 obtain ⟨z2,its2,n2,r2,hl2,e2⟩:=I.lstM hB
 refine PySem.P.add_list e e2 ?_ (by rw [List.size_toArray,List.size_toArray]; omega)
 have ea:its.toArray ++ its2.toArray=(its ++ its2).toArray:=by simp
 rw [ea]
 exact ⟨.ref _,_,I.lnew (t':=s.toks) (r.append r2) (by rw [List.length_append]; omega),rfl,q _ I.fresh⟩
noncomputable def rRep:R2:=λ x y H Q=>∃ l k xs,x=.ref l /\ y=.int k /\ H l=some (.lst xs) /\ -(2 ^ 63)<=k /\ k < 2 ^ 63 /\ xs.length * k.toNat<=sizeLine ∧
 ∀ p,H p=none->Q (.ref p) (upd H p (.lst (List.replicate k.toNat xs).flatten))
theorem th1 {α:Type} (xs:List α) (k:Nat):(List.replicate k xs).flatten.length=k * xs.length:=by
 induction k with
 | zero=>simp
 | succ k ih=>rw [List.replicate_succ,List.flatten_cons,List.length_append,ih,Nat.succ_mul,Nat.add_comm]
theorem to3:OpR X (binaryOp .Mult) rRep:=by
 intro pins s σ H x y v u Q I rx ry h
 obtain ⟨l,k,xs,rfl,rfl,hH,h1,h2,hz,q⟩:=h
 cases rx
 obtain ⟨t,rfl⟩:=ry
 obtain ⟨z,its,n,r,hl,e⟩:=I.lstM hH
 have hlen:its.toArray.size * k.toNat<=sizeLine:=by rw [List.size_toArray,<- hl]; exact hz
 have hcap:¬ its.toArray.size * k.toNat > (2 ^ 63 - 1) / 8:=by
  have:(sizeLine:Nat)<=(2 ^ 63 - 1) / 8:=by decide
  omega
 have hfit:¬ (!Builtin.List.listFitsIndex k)=true:=by
  rw [fitsIndex_both h1 h2]
  exact Bool.false_ne_true
 have hlong:¬ Builtin.List.listTooLong (its.toArray.size * k.toNat)=true:=by
  rw [zd2 hlen]
  exact Bool.false_ne_true
 have hnew:List.foldl (λ x1 x2=>x1 ++ x2) #[] (List.replicate (if its.toArray.isEmpty=true then 0 else k.toNat) its.toArray)=(List.replicate k.toNat its).flatten.toArray:=by
  have f0:∀ m:Nat,List.foldl (λ x1 x2=>x1 ++ x2) #[] (List.replicate m its.toArray)=(List.replicate m its).flatten.toArray:=λ m=>by
   have:=tw0 its m []
   rw [List.nil_append] at this
   exact this
  rw [f0]
  cases its with
  | nil=>simp
  | cons a r'=>rw [if_neg (by simp)]
 refine wpAny_binaryOp_repeat_ref (T := "list") (U := "int") (by decide) ⟨_,e,rfl⟩ (λ s'=>typeIs_int s' k t) noFill_list_mul F.fills_int_mul F.slot_int_rmul repeat_list F.slot_int_index.lookup
  (call_meets F.slot_int_rmul (typeIs_int s k t) F.entry_int_rmul (F.args_int_rmul_2 _ _) (int___rmul___int_list k t l its.toArray n)
   ⟨e,rfl,⟨_,e,rfl⟩,call_meets F.slot_list_mul ⟨_,e,rfl⟩ F.entry_list_mul (F.args_list_mul_2 _ _) (AutoListH.list___mul___list_int_3 l its.toArray n k t hfit hcap hlong) ⟨e,?_⟩⟩)
 rw [hnew]
 exact ⟨.ref _,_,I.lnew (t':=s.toks) (r.rep k.toNat) (by rw [th1,Nat.mul_comm]; exact hz),rfl,q _ I.fresh⟩
end
section
variable {prog:Program} {w:World} {A:Around} {E:Value->Shared->Prop} {s:Shared}
end
section
variable {X:Cx}
end
end L2
namespace Att
open PySem PySem.W PySem.Calls PyProof.Rows
theorem ww0 {P:Params} {h:Heap}:∀ (ns:List Int) (vs:List Value),WellAll P h vs (ns.map WData.int)->IntsAre vs ns:=by
 intro ns
 induction ns with
 | nil =>
  intro vs w
  rw [List.map_nil] at w
  cases w
  exact .nil
 | cons n ns ih =>
  intro vs w
  rw [List.map_cons] at w
  cases w with
  | cons a b =>
   cases a
   exact .cons _ _ (ih _ b)
theorem st1 {l:OpenLaw} {n:Nat} (hn:l.most=some n) {P:Params} {h:Heap} {args:List WData} {vals:List Value}
    (hpre:l.row.toRowW.claim.pre args=true) (hwl:WellAll P h vals args) :
    ∃ a vs ns,vals=[Value.ref a] /\ args=[WData.list (ns.map WData.int)] /\ h.get? a=some { cls:=.type "list",data:=.seq vs.toArray } /\ IntsAre vs ns /\ ns.length<=n:=by
 have hsh:WShape.hasAll [] args [.list .int]=true:=(pre_splitW hpre).1
 have hc:l.pre.holds [] { args:=args }=true:=(pre_splitW hpre).2
 obtain ⟨d,r,rfl,h1,h2⟩:=hasAllW_cons hsh
 obtain rfl:=hasAllW_nil h2
 obtain ⟨xs,rfl,h3⟩:=hasW_list h1
 obtain ⟨ns,rfl⟩:=items_int h3
 have hlen:ns.length<=n:=by
  unfold OpenLaw.pre at hc
  have h4:(WTm.not (.lt (.lit (.int (n:Int))) (.len (.arg 0)))).holds [] { args:=[.list (ns.map .int)] }=true:=by
   have h4:=(holds_andW hc).1
   rw [hn] at h4
   exact h4
  have h5:=condW_of h4 (w_not (w_lt w_lit (w_len_list (w_arg rfl))))
  rw [List.length_map] at h5
  refine Nat.le_of_not_lt λ q=>?_
  have q':(n:Int) < ((ns.length:Nat):Int):=by omega
  first
   | (rw [decide_eq_true q'] at h5; exact absurd h5 (by decide))
   | (simp at h5; omega)
 cases hwl with
 | cons w1 w2 =>
  cases w2
  cases w1 with
  | list ho hall=>exact ⟨_,_,ns,rfl,rfl,ho,ww0 ns _ hall,hlen⟩
theorem wu1 (l:OpenLaw) (args:List WData):l.row.toRowW.claim.post args (.bool true) args=true :=
 postW_of (r:=l.row.toRowW) (X:=(true == true))
  (show WShape.has [] (.bool true) .bool=true by first | rfl | decide | simp [WShape.has,WShape.arms,WShape.armsAll])
  (show (WTm.eq .res (.lit (.bool true))).value [] { args:=args,res:=some (.bool true),after:=args }=some (.bool (true == true)) from w_eq_bool (w_res rfl) w_lit) rfl
theorem attach_call {l:OpenLaw} {n:Nat} {q:Program} {loose:List Str} {XP:(Str->Option Value)->Heap->Prop} {YP:World->Heap->Prop} {d:DefRec}
    (hn:l.most=some n) (hdf:d.params.defaults=[])
    (call:∀ (w:World) (s₀ s₁:Shared) (mg mb:Str->Option Value) (fa:Addr) (o:Obj) (pm cd doc:Value) (a:Addr) (vs:List Value) (ns:List Int),
     Ground q loose [] XP w s₀ mg mb s₁.heap->YP w s₁.heap ->
     s₁.heap.get? fa=some o->o.data=.func (docDef d.name d.params d.body d.scope pm cd doc)->s₁.heap.CodeRec cd d.name->mg d.name=some (.ref fa) ->
     s₁.heap.get? a=some { cls:=.type "list",data:=.seq vs.toArray }->IntsAre vs ns->ns.length<=n->s₁.gens = #[] ->
     codeAny (model l.prog w) callerA (.call (.ref fa) ⟨[.ref a],[]⟩) (λ r s'=>r=.ok (.ret (.bool true)) /\ OldK s₁.heap s'.heap /\ s'.os=s₁.os /\ AllBare s'.gens) s₁) :
    WalkO q loose XP YP l.row.toRowW d [] (λ f vs=>PySem.call f vs):=by
 intro w s₀ s₁ mg mb G Y fa o pm cd doc dV kV ho hd hcd hD hmg hg args vals as hpre hlay hrd hwl hlo
 obtain rfl:dV=.none:=Dflts.none hD hdf
 obtain rfl:kV=.none:=Dflts.noKw hD
 obtain ⟨a,vs,ns,rfl,rfl,hobj,hints,hlen⟩:=st1 hn hpre hwl
 refine enter_call (codeAny_mono (call w s₀ s₁ mg mb fa o pm cd doc a vs ns G Y ho (fd_plain hd) hcd hmg hobj hints hlen hg) λ r s' hq=>?_)
 obtain ⟨rfl,h2,h3,h4⟩:=hq
 exact ⟨.inl ⟨.bool true,.bool true,[],rfl,λ _=>rfl,.bool true,wu1 l _,λ _=>⟨List.Pairwise.nil,λ _ hm=>(nomatch hm)⟩⟩,h2,h3,h4⟩
section
variable {prog:Program} {w:World} {A:Around} {E:Value->Shared->Prop} {s:Shared} {K:Frag}
noncomputable def ledger (h:Heap) (L d:Addr):List (Addr × Obj):=(List.range h.objs.size).filterMap λ a=>if a=L \/ a=d then none else (h.get? a).map λ o=>(a,o)
end
end Att
namespace L2
open PySem PySem.Spec PyProof.Rows
theorem uc1:∀ {vs:List Value} {ns:List Int},IntsAre vs ns->Vals (ns.map V.int) vs
 | _,_,.nil=>.nil
 | _,_,.cons n t h=>.cons ⟨t,rfl⟩ (uc1 h)
noncomputable def Only (H:Hp):Prop:=∀ b,H b=none \/ ∃ o xs,H b=some (.frz o (.lst xs))
theorem sd2 {P:Program} {w:World} {K:PySem.W.Frag} {mg mb:Str->Option Value} {CX:CXT} {k:Nat} {fa a:Addr} {fd:FuncData} {x:Str} {sp:Sp} {s₁:Shared} {vs:List Value} {ns:List Int}
    (KX:K.In s₁.heap) (hns:s₁.heap.Ns mainGlobals mg) (hb:s₁.heap.Ns builtinsNs mb) (hbb:∀ x:Str,x ≠ "__name__" -> mb x=bootBuiltins x) (hlim:s₁.heap.NoLimit) (hg:s₁.gens = #[])
    (ha:s₁.heap.get? a=some { cls:=.type "list",data:=.seq vs.toArray }) (hi:IntsAre vs ns) (hl:ns.length<=sizeLine) (hr:Room k callerA)
    (F:∀ base:Heap,K.In base->base.Ns mainGlobals mg->FnOk P w K mg base CX k fa fd [x] sp) (hbind:∀ (s:Shared) (u:Value),BindsTo s fd ⟨[u],[]⟩ [(x,u)])
    (hsp:∀ H:Hp,Only H->SqL K H a (ns.map V.int)->sp [.ref a] H (λ v _=>v=.bl true) λ _ _ _=>False)
    (hCX:∀ H e s',CX [] H s₁ (λ _ _ _=>False) e s'->False) :
    codeAny (model P w) callerA (.call (.ref fa) ⟨[.ref a],[]⟩) (λ r s'=>r=.ok (.ret (.bool true)) /\ OldK s₁.heap s'.heap /\ s'.os=s₁.os /\ AllBare s'.gens) s₁:=by
 have rv:=uc1 hi
 have lenV:=hi.length
 have core:∀ H:Hp,Only H->SqL K H a (ns.map V.int)->HOk P w H s₁.heap->(∀ b,H b ≠ none->b=a)->(H a ≠ none->K.lookup a=none) ->
     codeAny (model P w) callerA (.call (.ref fa) ⟨[.ref a],[]⟩) (λ r s'=>r=.ok (.ret (.bool true)) /\ OldK s₁.heap s'.heap /\ s'.os=s₁.os /\ AllBare s'.gens) s₁:=by
  intro H hO hS hok hA hK
  have base_of:∀ {b:Addr} {o:Obj},s₁.heap.get? b=some o->H b=none->(hidT s₁.heap H).get? b=some o:=λ e n=>yf2 e n
  have noA:∀ {b:Addr} {o:Obj} {es:Array DictEntry} {ep:Nat},s₁.heap.get? b=some o->o.data=.dict es ep->H b=none:=λ {b o es ep} e d=>by
   cases q:H b with
   | none=>rfl
   | some u =>
    have e':b=a:=hA b (by rw [q]; simp)
    subst e'
    rw [ha] at e; cases e
    have d':Data.seq vs.toArray _=Data.dict es ep:=d
    cases d'
  have nsK:∀ {b:Addr} {m:Str->Option Value},s₁.heap.Ns b m->(hidT s₁.heap H).Ns b m:=λ {b m} ⟨o,es,ep,e,d,r⟩=>⟨o,es,ep,base_of e (noA e d),d,r⟩
  have hKb:K.In (hidT s₁.heap H):=λ b o e=>base_of (KX b o e) (by
   cases q:H b with
   | none=>rfl
   | some u =>
    have e':b=a:=hA b (by rw [q]; simp)
    subst e'
    rw [hK (by rw [q]; simp)] at e; cases e)
  have hM:Mod K mg (hidT s₁.heap H):=⟨hKb,nsK hns,⟨mb,nsK hb,hbb⟩,let ⟨mc,h1,h2⟩:=hlim; ⟨mc,nsK h1,h2⟩⟩
  have e0:Env0 P w K mg (hidT s₁.heap H) callerA [] s₁ H:=⟨rfl,hM,λ b o e=>vr2 e,Nat.le_of_eq (ww1 _ _),trivial,λ b hb=>absurd (show b ∈ ([]:List Addr) from hb) (by simp),hok,.of_eq hg⟩
  refine codeAny_mono ((F _ hKb (nsK hns)).run callerA [] s₁ H ⟨[.ref a],[]⟩ [.ref a] [.ref a] _ _ hr e0 (hbind s₁ (.ref a)) (.cons rfl .nil) (hsp H hO hS)) λ r s' h=>?_
  cases r with
  | error e=>exact (hCX H e s' h).elim
  | ok fl =>
   cases fl with
   | next=>exact False.elim h
   | brk=>exact False.elim h
   | cont=>exact False.elim h
   | ret u =>
    obtain ⟨v,H',os,bare,un,hok',r',q⟩:=h
    have q':v=.bl true:=q
    subst q'
    obtain rfl:u=Value.bool true:=r'
    refine ⟨rfl,OldK.of_keep λ b o e=>?_,os,bare⟩
    cases q:H b with
    | none=>exact un.keep b o e q (by intro z; exact absurd (show b ∈ ([]:List Addr) from z) (by simp)) (by simp)
    | some u =>
     rcases hO b with z | ⟨ob,xs,z⟩
     ·rw [q] at z; cases z
     ·have z2:=un.frzs b ob _ z
      obtain ⟨e1,_⟩:=hok b _ z
      obtain ⟨e2,_⟩:=hok' b _ z2
      rw [e] at e1; cases e1
      exact e2
 cases hk:K.lookup a with
 | some o =>
  have e:=KX a o hk
  rw [ha] at e
  cases e
  refine core (λ _=>none) (λ _=>.inl rfl) (.inr ⟨_,vs.toArray,_,hk,rfl,rfl,rfl,by rw [List.size_toArray,lenV]; exact hl,by simpa using rv⟩) (λ b u z=>by have z':(none:Option HO)=some u:=z; cases z') (λ b z=>absurd rfl z) λ z=>absurd rfl z
 | none =>
  refine core (λ b=>if b=a then some (.frz { cls:=.type "list",data:=.seq vs.toArray } (.lst (ns.map V.int))) else none) (λ b=>?_) (.inl (.inr ⟨{ cls:=.type "list",data:=.seq vs.toArray },if_pos rfl⟩)) (λ b u z=>?_) (λ b z=>?_) λ _=>hk
  ·by_cases hb:b=a
   ·exact .inr ⟨_,_,if_pos hb⟩
   ·exact .inl (if_neg hb)
  ·by_cases hb:b=a
   ·have z':=(if_pos hb).symm.trans z
    cases z'
    subst hb
    exact ⟨ha,by rw [List.length_map]; exact hl,vs,_,rv,ha⟩
   ·have z':=(if_neg hb).symm.trans z
    cases z'
  ·by_cases hb:b=a
   ·exact hb
   ·exact absurd (if_neg hb) z
end L2
namespace L2
open PySem PySem.Spec PyProof.Rows
noncomputable abbrev KOf {K:PySem.W.Frag} {h:Heap} (_:K.In h):PySem.W.Frag:=K
theorem walk_of {l:PySem.W.OpenLaw} {n k:Nat} {q:Program} {loose:List Str} {XP:(Str->Option Value)->Heap->Prop} {YP:World->Heap->Prop} {d:DefRec} {K:Params->PySem.W.Frag} {CX:World->CXT} {sp:World->Sp} {x:Str}
    (hn:l.most=some n) (hn2:n<=sizeLine) (hdf:d.params.defaults=[]) (hr:Room k callerA)
    (hY:∀ (w:World) (h:Heap),YP w h->(K w.params).In h)
    (F:∀ (w:World) (mg:Str->Option Value) (fa:Addr) (h:Heap),(K w.params).In h->h.Ns mainGlobals mg->mg d.name=some (.ref fa) ->
     ∃ fd:FuncData,(∀ (s:Shared) (u:Value),BindsTo s fd ⟨[u],[]⟩ [(x,u)]) ∧
      ∀ base:Heap,(K w.params).In base->base.Ns mainGlobals mg->FnOk l.prog w (K w.params) mg base (CX w) k fa fd [x] (sp w))
    (hsp:∀ (w:World) (H:Hp) (a:Addr) (ns:List Int),ns.length<=n->Only H->SqL (K w.params) H a (ns.map V.int)->sp w [.ref a] H (λ v _=>v=.bl true) λ _ _ _=>False)
    (hCX:∀ (w:World) (H:Hp) (s:Shared) (e:Value) (s':Shared),CX w [] H s (λ _ _ _=>False) e s'->False) :
    PySem.W.WalkO q loose XP YP l.row.toRowW d [] (λ f vs=>PySem.call f vs):=by
 refine Att.attach_call hn hdf λ w s₀ s₁ mg mb fa o pm cd doc a vs ns G Y ho hd hcd hmg hobj hints hlen hg=>?_
 have KX:=hY w _ Y
 obtain ⟨fd,hb,hF⟩:=F w mg fa _ KX G.T.g hmg
 exact sd2 KX G.T.g G.T.b G.T.builtins G.T.nolimit hg hobj hints (Nat.le_trans hlen hn2) hr hF hb (λ H hO hS=>hsp w H a ns hlen hO hS) λ H e s'=>hCX w H s₁ e s'
end L2
namespace L2
open PySem PySem.Spec PyProof.Rows
noncomputable abbrev CX0:CXT:=λ _ _ _ _ _ _=>False
noncomputable abbrev E0:XK:=λ _ _ _=>False
theorem vz3 {X:Cx}:wz0 CX0 X E0:=λ _ _ _ _ _ _ _ h=>h.elim
structure Fun (K:PySem.W.Frag) (x qual:Str) (st:Stmt) (f:Addr) (fd:FuncData):Prop where
 ex:∃ (oc:Value) (od:Option Addr) (kV doc pm:Value) (an:Option Addr) (cdv ct:Value) (osl:Array (Option Value)),
  fd=PySem.W.fnOf x qual (up0 st) (wc0 st) (ta0 st) .none kV doc pm an cdv ct /\ K.lookup f=some ⟨oc,od,.func fd,osl⟩ /\ PySem.W.codeIn K cdv qual=true
 kp:PySem.W.keepIn K (.ref f)=true
section
variable {P:Program} {w:World} {K:PySem.W.Frag} {mg:Str->Option Value} {base:Heap}
theorem Fun.ok {x qual:Str} {st:Stmt} {f:Addr} {fd:FuncData} {N ps:List Str} {k:Nat} {sp:Sp} (F:Fun K x qual st f fd) (S:FnScope N ps (ta0 st)) (len:∀ vs H Q E,sp vs H Q E->vs.length=ps.length)
    (hbody:∀ (cdv:Value) (A:Around) (outer:List Env) (s:Shared) (H:Hp) (vs:List V) (Q:VK) (E:XK),Room k (A.deeper (envOfC qual (ta0 st) s.heap.objs.size f cdv))->sp vs H Q E ->
     ∃ t,PSs (cxOf CX0 P w K mg base N qual (ta0 st) f cdv A outer s H E).nox (wc0 st) t /\ t { nx:=λ _ H'=>Q .non H',rt:=Q } (start N vs) H):FnOk P w K mg base CX0 (k + 1) f fd ps sp:=by
 obtain ⟨oc,od,kV,doc,pm,an,cdv,ct,osl,rfl,lk,hcd⟩:=F.ex
 refine sr3 lk hcd S len λ A outer s H vs Q E hr hsp=>?_
 obtain ⟨t,h,q⟩:=hbody cdv A outer s H vs Q E hr hsp
 exact ⟨t,h.nox,q⟩
theorem Fun.binds {x qual:Str} {st:Stmt} {f:Addr} {fd:FuncData} {ps:List Str} (F:Fun K x qual st f fd)
    (h:∀ (kV doc pm:Value) (an:Option Addr) (cdv ct:Value) (us:List Value),us.length=ps.length->bindArgs (PySem.W.fnOf x qual (up0 st) (wc0 st) (ta0 st) .none kV doc pm an cdv ct) ⟨us,[]⟩=pure (ps.zip us)):Binds K fd ps []:=by
 obtain ⟨oc,od,kV,doc,pm,an,cdv,ct,osl,rfl,lk,hcd⟩:=F.ex
 exact .all (h kV doc pm an cdv ct)
theorem sj2 {x qual:Str} {st:Stmt} {f:Addr} {oc:Value} {od an:Option Addr} {osl:Array (Option Value)} {kV doc pm cdv ct:Value} (l:K.lookup f=some ⟨oc,od,.func (PySem.W.fnOf x qual (up0 st) (wc0 st) (ta0 st) .none kV doc pm an cdv ct),osl⟩)
    (c:PySem.W.codeIn K cdv qual=true) (k:PySem.W.keepIn K (.ref f)=true):Fun K x qual st f (PySem.W.fnOf x qual (up0 st) (wc0 st) (ta0 st) .none kV doc pm an cdv ct):=⟨⟨oc,od,kV,doc,pm,an,cdv,ct,osl,rfl,l,c⟩,k⟩
end
section
variable {X:Cx}
end
end L2
namespace Pv
open PySem
inductive D where
 | non | bl (b:Bool) | int (i:Int) | str (x:Str) | tup (l:List D) | fls (l:List D) | ref (a:Addr) | ty (n:String) | exc (c:Str)
 | ktp (l:List D)
inductive MO where
 | lst (xs:List D)
 | ins (c:Str) (fs:List (Str × D))
 | dct (kvs:List ((Int × Int × Int) × D))
 | dcl (kvs:List (List Int × D))
noncomputable abbrev Mu:=Addr->Option MO
noncomputable def updM (μ:Mu) (a:Addr) (o:MO):Mu:=λ b=>if b=a then some o else μ b
theorem sa0 {μ:Mu} {a:Addr} {o:MO}:updM μ a o a=some o:=by unfold updM; rw [if_pos rfl]
theorem xc0 {μ:Mu} {a b:Addr} {o:MO} (h:b ≠ a):updM μ a o b=μ b:=by unfold updM; rw [if_neg h]
theorem sj0 {μ:Mu} {a:Addr} {o u:MO}:updM (updM μ a o) a u=updM μ a u:=by
 funext b; unfold updM; by_cases h:b=a <;> simp [h]
noncomputable def Ext (μ μ':Mu):Prop:=∀ a o,μ a=some o->μ' a=some o
theorem Ext.refl (μ:Mu):Ext μ μ:=λ _ _ h=>h
theorem Ext.trans {a b c:Mu} (h:Ext a b) (k:Ext b c):Ext a c:=λ x o q=>k x o (h x o q)
theorem Ext.new {μ:Mu} {p:Addr} {o:MO} (h:μ p=none):Ext μ (updM μ p o):=λ a u q=>by
 rw [xc0]; exact q
 intro e; subst e; rw [h] at q; cases q
noncomputable def ExtB (p:Addr) (μ μ':Mu):Prop:=∀ a o,a ≠ p->μ a=some o->μ' a=some o
theorem ExtB.trans {p:Addr} {a b c:Mu} (h:ExtB p a b) (k:ExtB p b c):ExtB p a c:=λ x o n q=>k x o n (h x o n q)
theorem Ext.b {μ μ':Mu} (p:Addr) (e:Ext μ μ'):ExtB p μ μ':=λ a o _ q=>e a o q
theorem ExtB.upd {μ:Mu} {p:Addr} {o:MO}:ExtB p μ (updM μ p o):=λ a u n q=>by rw [xc0 n]; exact q
theorem zk0 {μ:Mu} {p q:Addr} {o:MO} (h:μ p=some o) (k:μ q=none):p ≠ q:=by
 intro e; subst e; rw [h] at k; cases k
noncomputable abbrev St3:=List (Option D)
noncomputable def getI:St3->Nat->Option D
 | [],_=>none
 | o :: _,0=>o
 | _ :: r,i + 1=>getI r i
theorem sh1:∀ (ρ:St3) (i:Nat),getI ρ i=(ρ[i]?).getD none
 | [],i=>by simp [getI]
 | o :: _,0=>by simp [getI]
 | _ :: r,i + 1=>by simp [getI,sh1 r i]
noncomputable abbrev VK3:=D->Mu->Prop
noncomputable abbrev TE3:=St3->Mu->VK3->Prop
noncomputable abbrev TT3:=St3->Mu->(Bool->Mu->Prop)->Prop
noncomputable abbrev TA3:=St3->Mu->(List D->Mu->Prop)->Prop
structure Ends3 where
 nx:St3->Mu->Prop
 rt:VK3
 bk:St3->Mu->Prop:=λ _ _=>False
 ct:St3->Mu->Prop:=λ _ _=>False
noncomputable abbrev TS3:=Ends3->St3->Mu->Prop
noncomputable abbrev R3:=D->D->Mu->VK3->Prop
noncomputable abbrev Sp3:=List D->Mu->VK3->Prop
noncomputable abbrev C3:=List D->Mu->VK3->Prop
noncomputable abbrev TG3:=D->St3->Mu->(St3->Mu->Prop)->Prop
noncomputable abbrev TGs3:=List D->St3->Mu->(St3->Mu->Prop)->Prop
noncomputable abbrev TI3:=St3->Mu->(List D->(Mu->Prop)->Mu->Prop)->Prop
noncomputable def v3 (i:Nat):TE3:=λ ρ μ Q=>match getI ρ i with
 | some d=>Q d μ
 | none=>False
noncomputable def c3 (d:D):TE3:=λ _ μ Q=>Q d μ
noncomputable def o3 (r:R3) (ta tb:TE3):TE3:=λ ρ μ Q=>ta ρ μ λ x μ1=>tb ρ μ1 λ y μ2=>r x y μ2 Q
noncomputable def un3 (r:D->Mu->VK3->Prop) (ta:TE3):TE3:=λ ρ μ Q=>ta ρ μ λ x μ1=>r x μ1 Q
noncomputable def b3 (t:TE3):TT3:=λ ρ μ Q=>t ρ μ λ d μ1=>match d with
 | .bl c=>Q c μ1
 | _=>False
noncomputable def and3 (t u:TT3):TT3:=λ ρ μ Q=>t ρ μ λ c μ1=>if c=true then u ρ μ1 Q else Q false μ1
noncomputable def or3 (t u:TT3):TT3:=λ ρ μ Q=>t ρ μ λ c μ1=>if c=true then Q true μ1 else u ρ μ1 Q
noncomputable def not3 (t:TT3):TT3:=λ ρ μ Q=>t ρ μ λ c μ1=>Q (!c) μ1
noncomputable def vq1 (t u:TE3):TE3:=λ ρ μ Q=>t ρ μ λ d μ1=>match d with
 | .bl c=>if c=true then u ρ μ1 Q else Q (.bl false) μ1
 | _=>False
noncomputable def orV3 (t u:TE3):TE3:=λ ρ μ Q=>t ρ μ λ d μ1=>match d with
 | .bl c=>if c=true then Q (.bl true) μ1 else u ρ μ1 Q
 | _=>False
noncomputable def if3 (c:TT3) (t u:TE3):TE3:=λ ρ μ Q=>c ρ μ λ b μ1=>if b=true then t ρ μ1 Q else u ρ μ1 Q
noncomputable def nil3:TA3:=λ _ μ Q=>Q [] μ
noncomputable def za0 (t:TE3) (u:TA3):TA3:=λ ρ μ Q=>t ρ μ λ d μ1=>u ρ μ1 λ ds μ2=>Q (d :: ds) μ2
noncomputable def tup3 (t:TA3):TE3:=λ ρ μ Q=>t ρ μ λ ds μ1=>ds.length<=sizeLine /\ Q (.tup ds) μ1
noncomputable def lst3 (t:TA3):TE3:=λ ρ μ Q=>t ρ μ λ ds μ1=>ds.length<=sizeLine /\ ∀ p,μ1 p=none->Q (.ref p) (updM μ1 p (.lst ds))
noncomputable def zb0 (sp:Sp3) (t:TA3):TE3:=λ ρ μ Q=>t ρ μ λ ds μ1=>sp ds μ1 Q
noncomputable def mt3 (r:D->List D->Mu->VK3->Prop) (to:TE3) (t:TA3):TE3:=λ ρ μ Q=>to ρ μ λ x μ1=>match x with
 | .ref p=>match μ1 p with
  | some (.lst _)=>t ρ μ1 λ ds μ2=>r (.ref p) ds μ2 Q
  | _=>False
 | _=>False
noncomputable abbrev TO3:=St3->Mu->(Option Int->Mu->Prop)->Prop
noncomputable def np3:TO3:=λ _ μ Q=>Q none μ
noncomputable def pt3 (t:TE3):TO3:=λ ρ μ Q=>t ρ μ λ d μ1=>match d with
 | .int i=>Q (some i) μ1
 | _=>False
noncomputable def sl3 (r:D->Option Int->Option Int->Mu->VK3->Prop) (te:TE3) (tl th:TO3):TE3:=λ ρ μ Q=>te ρ μ λ x μ1=>tl ρ μ1 λ l μ2=>th ρ μ2 λ u μ3=>r x l u μ3 Q
noncomputable def sIx3 (n d:Nat):Option Int->Nat
 | none=>d
 | some v=>if v < 0 then (v + (n:Int)).toNat else min v.toNat n
noncomputable def cut3 {α:Type} (xs:List α) (lo hi:Option Int):List α:=(xs.drop (sIx3 xs.length 0 lo)).take (sIx3 xs.length xs.length hi - sIx3 xs.length 0 lo)
noncomputable def slR:D->Option Int->Option Int->Mu->VK3->Prop:=λ x lo hi μ Q=>match x with
 | .tup l=>Q (.tup (cut3 l lo hi)) μ
 | .str z=>z.length<=sizeLine /\ Q (.str ⟨(cut3 z.cps.toList lo hi).toArray⟩) μ
 | .ref p=>match μ p with
  | some (.lst l)=>∀ r,μ r=none->Q (.ref r) (updM μ r (.lst (cut3 l lo hi)))
  | _=>False
 | .fls l=>∀ r,μ r=none->Q (.ref r) (updM μ r (.lst (cut3 l lo hi)))
 | _=>False
noncomputable def tc0:TS3:=λ D ρ μ=>D.nx ρ μ
noncomputable def seq3 (t u:TS3):TS3:=λ D ρ μ=>t { D with nx:=u D } ρ μ
noncomputable def yl0 (t:TE3):TS3:=λ D ρ μ=>t ρ μ λ _ μ1=>D.nx ρ μ1
noncomputable def ret3 (t:TE3):TS3:=λ D ρ μ=>t ρ μ D.rt
noncomputable def ifs3 (c:TT3) (t u:TS3):TS3:=λ D ρ μ=>c ρ μ λ b μ1=>if b=true then t D ρ μ1 else u D ρ μ1
noncomputable def gn3 (i:Nat):TG3:=λ d ρ μ Q=>Q (ρ.set i (some d)) μ
noncomputable def yq1:TGs3:=λ ds ρ μ Q=>match ds with
 | []=>Q ρ μ
 | _=>False
noncomputable def sr0 (t:TG3) (u:TGs3):TGs3:=λ ds ρ μ Q=>match ds with
 | d :: r=>t d ρ μ λ ρ1 μ1=>u r ρ1 μ1 Q
 | []=>False
noncomputable def zf2 (n:Nat) (t:TGs3):TG3:=λ d ρ μ Q=>match d with
 | .tup l=>l.length=n /\ t l ρ μ Q
 | _=>False
noncomputable def set3 (i:Nat) (t:TE3):TS3:=λ D ρ μ=>t ρ μ λ d μ1=>D.nx (ρ.set i (some d)) μ1
noncomputable def asg3 (t:TE3) (g:TG3):TS3:=λ D ρ μ=>t ρ μ λ d μ1=>g d ρ μ1 D.nx
noncomputable def ixN (n:Nat) (i:Int):Option Nat:=if 0<=i then (if i < n then some i.toNat else none) else if -(n:Int)<=i then some (i + n).toNat else none
noncomputable def atI {α:Type} (xs:List α) (i:Int):Option α:=(ixN xs.length i).bind λ j=>xs[j]?
noncomputable def sub3 (to ti:TE3):TG3:=λ d ρ μ Q=>to ρ μ λ o μ1=>ti ρ μ1 λ i μ2=>match o,i with
 | .ref p,.int k=>match μ2 p with
  | some (.lst xs)=>match ixN xs.length k with
   | some j=>Q ρ (updM μ2 p (.lst (xs.set j d)))
   | none=>False
  | _=>False
 | _,_=>False
noncomputable def zq1 (S:Mu->Prop) (g:TG3) (tb:TS3) (D':Ends3):List D->St3->Mu->Prop
 | [],ρ,μ=>S μ /\ D'.nx ρ μ
 | x :: r,ρ,μ=>S μ /\ ∃ N:St3->Mu->Prop,(∀ ρ' μ',N ρ' μ'->zq1 S g tb D' r ρ' μ') /\ g x ρ μ λ ρ1 μ1=>tb { D' with nx:=N,ct:=N,bk:=D'.nx } ρ1 μ1
noncomputable def for3 (ti:TI3) (g:TG3) (tb:TS3):TS3:=λ D' ρ μ=>ti ρ μ λ l S μ1=>zq1 S g tb D' l ρ μ1
theorem tl0 {S:Mu->Prop} {g:TG3} {tb:TS3} {D':Ends3} (W:List D->St3->Mu->Prop) {l:List D} {ρ:St3} {μ:Mu} (h0:W l ρ μ) (hS:∀ l ρ μ,W l ρ μ->S μ) (hn:∀ ρ μ,W [] ρ μ->D'.nx ρ μ)
    (hs:∀ x r ρ μ,W (x :: r) ρ μ->g x ρ μ λ ρ1 μ1=>tb { D' with nx:=W r,ct:=W r,bk:=D'.nx } ρ1 μ1):zq1 S g tb D' l ρ μ:=by
 induction l generalizing ρ μ with
 | nil=>exact ⟨hS _ _ _ h0,hn _ _ h0⟩
 | cons x r ih=>exact ⟨hS _ _ _ h0,W r,λ ρ' μ' q=>ih q,hs x r ρ μ h0⟩
noncomputable def is3 (t:TE3):TI3:=λ ρ μ R=>t ρ μ λ d μ1=>match d with
 | .tup l=>R l (λ _=>True) μ1
 | .fls l=>R l (λ _=>True) μ1
 | .str z=>R (z.cps.toList.map λ c=>D.str ⟨#[c]⟩) (λ _=>True) μ1
 | .ref p=>match μ1 p with
  | some (.lst l)=>R l (λ μ=>μ p=some (.lst l)) μ1
  | _=>False
 | _=>False
noncomputable def rngD (lo:Int) (n:Nat):List D:=(List.range n).map λ i=>.int (lo + (i:Nat))
noncomputable def ir3 (t:TA3):TI3:=λ ρ μ R=>t ρ μ λ ds μ1=>match ds with
 | [.int j]=>(-(2 ^ 62)<=j /\ j < 2 ^ 62) /\ R (rngD 0 j.toNat) (λ _=>True) μ1
 | _=>False
noncomputable def zt3 (S:Mu->Prop) (p:Addr) (g:TG3) (tc:TT3) (te:TE3) (Q:VK3) (l:List D) (ρ0:St3) (μ0:Mu):Prop :=
 ∃ W:List D->List D->St3->Mu->Prop,W l [] ρ0 μ0 /\ (∀ l ys ρ μ,W l ys ρ μ->S μ /\ μ p=some (.lst ys)) /\ (∀ ys ρ μ,W [] ys ρ μ->Q (.ref p) μ) ∧
  ∀ x r ys ρ μ,W (x :: r) ys ρ μ->ys.length < sizeLine /\ g x ρ μ λ ρ1 μ1=>tc ρ1 μ1 λ b μ2 =>
   if b=true then te ρ1 μ2 λ d μ3=>μ3 p=some (.lst ys) /\ W r (ys ++ [d]) ρ1 (updM μ3 p (.lst (ys ++ [d]))) else W r ys ρ1 μ2
noncomputable def tx1 (js:List (Option Nat)) (ti:TI3) (g:TG3) (tc:TT3) (te:TE3):TE3:=λ ρ μ Q=>ti ρ μ λ l S μ1=>∀ p,μ1 p=none->zt3 S p g tc te Q l (js.map λ j=>j.bind (getI ρ)) (updM μ1 p (.lst []))
noncomputable def CPow (i j:Int):Prop:=0<=j /\ j<=1000000 /\ i.natAbs < 2 ^ 64
noncomputable def Big:Nat:=2 ^ 1000
noncomputable def CMul (i j:Int):Prop:=((-(2 ^ 64) < i /\ i < 2 ^ 64) \/ (-(2 ^ 64) < j /\ j < 2 ^ 64)) \/ (i.natAbs < Big /\ j.natAbs < Big)
noncomputable def int2 (C:Int->Int->Prop) (g:Int->Int->D):R3:=λ x y μ Q=>match x,y with
 | .int i,.int j=>C i j /\ Q (g i j) μ
 | _,_=>False
noncomputable def uk0 (g:Int->Int->D):R3:=λ x y μ Q=>match x,y with
 | .int i,.int j=>Q (g i j) μ
 | _,_=>False
noncomputable def subR:R3:=uk0 λ i j=>.int (i - j)
noncomputable def mulR:R3:=λ x y μ Q=>match x,y with
 | .int i,.int j=>CMul i j /\ Q (.int (i * j)) μ
 | .tup l,.int k=>((-(2 ^ 62)<=k /\ k < 2 ^ 62) /\ l.length * k.toNat<=1000000) /\ Q (.tup (List.replicate k.toNat l).flatten) μ
 | .ref p,.int k=>match μ p with
  | some (.lst l)=>((-(2 ^ 62)<=k /\ k < 2 ^ 62) /\ l.length * k.toNat<=1000000) /\ ∀ r,μ r=none->Q (.ref r) (updM μ r (.lst (List.replicate k.toNat l).flatten))
  | _=>False
 | _,_=>False
noncomputable def modR:R3:=int2 (λ _ j=>0 < j) λ i j=>.int (i % j)
noncomputable def tf2:R3:=int2 (λ _ j=>0 < j /\ j < 2 ^ 120) λ i j=>.int (i / j)
noncomputable def powR:R3:=int2 CPow λ i j=>.int (i ^ j.toNat)
noncomputable def ltR:R3:=uk0 λ i j=>.bl (decide (i < j))
noncomputable def leR:R3:=uk0 λ i j=>.bl (decide (i<=j))
noncomputable def gtR:R3:=uk0 λ i j=>.bl (decide (j < i))
noncomputable def geR:R3:=uk0 λ i j=>.bl (decide (j<=i))
noncomputable def negR:D->Mu->VK3->Prop:=λ x μ Q=>match x with
 | .int i=>Q (.int (-i)) μ
 | _=>False
noncomputable def addR:R3:=λ x y μ Q=>match x,y with
 | .int i,.int j=>Q (.int (i + j)) μ
 | .str i,.str j=>i.length + j.length<=sizeLine /\ Q (.str (i ++ j)) μ
 | .ref p,.ref q=>match μ p,μ q with
  | some (.lst xs),some (.lst ys)=>xs.length + ys.length<=sizeLine /\ ∀ r,μ r=none->Q (.ref r) (updM μ r (.lst (xs ++ ys)))
  | _,_=>False
 | .tup l,.tup m=>l.length + m.length<=sizeLine /\ Q (.tup (l ++ m)) μ
 | _,_=>False
noncomputable def eqS:D->D->Option Bool
 | .int i,.int j=>some (decide (i=j))
 | .bl i,.bl j=>some (decide (i=j))
 | .str i,.str j=>some (decide (i=j))
 | .non,.non=>some true
 | .non,.int _=>some false
 | .int _,.non=>some false
 | .non,.str _=>some false
 | .str _,.non=>some false
 | .int _,.str _=>some false
 | .str _,.int _=>some false
 | _,_=>none
mutual
noncomputable def dat:D->Option PyData
 | .non=>some .none
 | .bl b=>some (.bool b)
 | .int i=>some (.int i)
 | .str x=>if PyData.strOk x=true then some (.str x) else none
 | .tup l=>match dats l with
  | some ps=>some (.tuple ps)
  | none=>none
 | .ktp l=>match dats l with
  | some ps=>some (.tuple ps)
  | none=>none
 | _=>none
noncomputable def dats:List D->Option (List PyData)
 | []=>some []
 | d :: r=>match dat d with
  | some p=>match dats r with
   | some ps=>some (p :: ps)
   | none=>none
  | none=>none
end
noncomputable def datM (μ:Mu):D->Option PyData
 | .ref p=>match μ p with
  | some (.lst l)=>match dats l with
   | some ps=>some (.list ps)
   | none=>none
  | _=>none
 | d=>dat d
noncomputable def eqR:R3:=λ x y μ Q=>match eqS x y with
 | some c=>Q (.bl c) μ
 | none=>match datM μ x,datM μ y with
  | some p,some q=>(p.depth<=64 /\ q.depth<=64) /\ Q (.bl (PyData.eqv p q)) μ
  | _,_=>False
noncomputable def neR:R3:=λ x y μ Q=>match eqS x y with
 | some c=>Q (.bl (!c)) μ
 | none=>match datM μ x,datM μ y with
  | some p,some q=>(p.depth<=64 /\ q.depth<=64) /\ Q (.bl (!PyData.eqv p q)) μ
  | _,_=>False
theorem xt0 (i j:Int) (μ:Mu) (Q:VK3):eqR (.int i) (.int j) μ Q=Q (.bl (decide (i=j))) μ:=rfl
theorem tm0 (i j:Str) (μ:Mu) (Q:VK3):eqR (.str i) (.str j) μ Q=Q (.bl (decide (i=j))) μ:=rfl
theorem yx0 {x y:D} {μ:Mu} {Q:VK3} {p q:PyData} (e:eqS x y=none) (h1:datM μ x=some p) (h2:datM μ y=some q) (d1:p.depth<=64) (d2:q.depth<=64):eqR x y μ Q=Q (.bl (PyData.eqv p q)) μ:=by
 unfold eqR; rw [e]; simp only [h1,h2,d1,d2,true_and,and_self]
theorem yp0 {x y:D} {μ:Mu} {Q:VK3} {p q:PyData} (e:eqS x y=none) (h1:datM μ x=some p) (h2:datM μ y=some q) (d1:p.depth<=64) (d2:q.depth<=64):neR x y μ Q=Q (.bl (!PyData.eqv p q)) μ:=by
 unfold neR; rw [e]; simp only [h1,h2,d1,d2,true_and,and_self]
noncomputable def strs?:List D->Option (List Str)
 | []=>some []
 | .str x :: r=>match strs? r with
  | some l=>some (x :: l)
  | none=>none
 | _ :: _=>none
noncomputable def inD (neg:Bool):R3:=λ x y μ Q=>match datM μ x,datM μ y with
 | some d,some (.list xs)=>(d.depth<=64 /\ (PyData.list xs).depth<=64) /\ Q (.bl (if neg then !(xs.any λ e=>PyData.eqv e d) else xs.any λ e=>PyData.eqv e d)) μ
 | some d,some (.tuple xs)=>(d.depth<=64 /\ (PyData.tuple xs).depth<=64) /\ Q (.bl (if neg then !(xs.any λ e=>PyData.eqv e d) else xs.any λ e=>PyData.eqv e d)) μ
 | _,_=>False
noncomputable def inR (neg:Bool):R3:=λ x y μ Q=>match x,y with
 | .str z,.tup l=>match strs? l with
  | some zs=>Q (.bl (if neg then !zs.contains z else zs.contains z)) μ
  | none=>inD neg (.str z) (.tup l) μ Q
 | .str z,.ktp l=>match strs? l with
  | some zs=>Q (.bl (if neg then !zs.contains z else zs.contains z)) μ
  | none=>inD neg (.str z) (.ktp l) μ Q
 | .str z,.str y=>Q (.bl (if neg then !(!(Builtin.Str.occurrences y z 0 y.length 1).isEmpty) else !(Builtin.Str.occurrences y z 0 y.length 1).isEmpty)) μ
 | x,y=>inD neg x y μ Q
noncomputable def ixR:R3:=λ x y μ Q=>match x,y with
 | .tup l,.int i=>match atI l i with
  | some d=>Q d μ
  | none=>False
 | .ktp l,.int i=>match atI l i with
  | some d=>Q d μ
  | none=>False
 | .fls l,.int i=>match atI l i with
  | some d=>Q d μ
  | none=>False
 | .ref p,.int i=>match μ p with
  | some (.lst l)=>match atI l i with
   | some d=>Q d μ
   | none=>False
  | _=>False
 | _,_=>False
noncomputable def lenR:C3:=λ ds μ Q=>match ds with
 | [.tup l]=>Q (.int l.length) μ
 | [.fls l]=>Q (.int l.length) μ
 | [.str z]=>z.length<=sizeLine /\ Q (.int z.length) μ
 | [.ref p]=>match μ p with
  | some (.lst l)=>Q (.int l.length) μ
  | _=>False
 | _=>False
noncomputable def absR:C3:=λ ds μ Q=>match ds with
 | [.int i]=>Q (.int (if i < 0 then -i else i)) μ
 | _=>False
noncomputable def intR:C3:=λ ds μ Q=>match ds with
 | [.int i]=>Q (.int i) μ
 | [.bl b]=>Q (.int (if b then 1 else 0)) μ
 | [.str z]=>match PySem.intText? z with
  | some n=>z.length<=640 /\ Q (.int n) μ
  | none=>False
 | _=>False
noncomputable def tupR:C3:=λ ds μ Q=>match ds with
 | [.tup l]=>Q (.tup l) μ
 | [.ref p]=>match μ p with
  | some (.lst l)=>Q (.tup l) μ
  | _=>False
 | _=>False
noncomputable def ints?:List D->Option (List Int)
 | []=>some []
 | .int x :: r=>match ints? r with
  | some l=>some (x :: l)
  | none=>none
 | _ :: _=>none
noncomputable def tyN (μ:Mu):D->Option String
 | .int _=>some "int"
 | .bl _=>some "bool"
 | .str _=>some "str"
 | .tup _=>some "tuple"
 | .non=>some "NoneType"
 | .ref p=>match μ p with
  | some (.lst _)=>some "list"
  | _=>none
 | _=>none
noncomputable def isIn (t T:String):Option Bool :=
 if t=T then some true
 else if t = "bool" /\ T = "int" then some true
 else if (t = "int" \/ t = "str" \/ t = "tuple" \/ t = "bool" \/ t = "NoneType" \/ t = "list") /\ (T = "int" \/ T = "str" \/ T = "tuple" \/ T = "bool" \/ T = "list") then some false
 else none
noncomputable def isiR:C3:=λ ds μ Q=>match ds with
 | [d,.ty T]=>match tyN μ d with
  | some t=>match isIn t T with
   | some b=>Q (.bl b) μ
   | none=>False
  | none=>False
 | _=>False
noncomputable def appR:D->List D->Mu->VK3->Prop:=λ x ds μ Q=>match x,ds with
 | .ref p,[d]=>match μ p with
  | some (.lst l)=>l.length < sizeLine /\ Q .non (updM μ p (.lst (l ++ [d])))
  | _=>False
 | _,_=>False
theorem atI0 {α:Type} {a:α} {r:List α}:atI (a :: r) 0=some a:=by
 unfold atI ixN; rw [if_pos (by decide),if_pos (by simp only [List.length_cons]; omega)]; rfl
theorem atI1 {α:Type} {a b:α} {r:List α}:atI (a :: b :: r) 1=some b:=by
 unfold atI ixN; rw [if_pos (by decide),if_pos (by simp only [List.length_cons]; omega)]; rfl
theorem atI2 {α:Type} {a b c:α} {r:List α}:atI (a :: b :: c :: r) 2=some c:=by
 unfold atI ixN; rw [if_pos (by decide),if_pos (by simp only [List.length_cons]; omega)]; rfl
theorem ixN0 {n:Nat}:ixN (n + 1) 0=some 0:=by
 unfold ixN; rw [if_pos (by decide),if_pos (by omega)]; rfl
theorem ixN1 {n:Nat}:ixN (n + 1 + 1) 1=some 1:=by
 unfold ixN; rw [if_pos (by decide),if_pos (by omega)]; rfl
theorem yz1 {α:Type} {l:List α} {i:Int} (h0:0<=i) (h1:i < l.length):∃ d,d ∈ l /\ atI l i=some d:=by
 have hn:i.toNat < l.length:=by omega
 refine ⟨l[i.toNat],List.getElem_mem hn,?_⟩
 unfold atI ixN
 rw [if_pos h0,if_pos h1]
 exact List.getElem?_eq_getElem hn
noncomputable def uc0 (N:List Str) (ds:List D):St3:=ds.map some ++ List.replicate (N.length - ds.length) none
end Pv
namespace Pv
open PySem L2
noncomputable abbrev Fg:=PySem.W.Frag
structure Kp (H H':Hp):Prop where
 tup:∀ b xs,H b=some (.tup xs)->H' b=some (.tup xs)
 frz:∀ b o u,H b=some (.frz o u)->H' b=some (.frz o u)
theorem Kp.refl (H:Hp):Kp H H:=⟨λ _ _ h=>h,λ _ _ _ h=>h⟩
theorem Kp.trans {a b c:Hp} (h:Kp a b) (k:Kp b c):Kp a c:=⟨λ x xs q=>k.tup x xs (h.tup x xs q),λ x o u q=>k.frz x o u (h.frz x o u q)⟩
theorem Kp.new {H:Hp} {p:Addr} {o:HO} (h:H p=none):Kp H (upd H p o) :=
 ⟨λ b xs q=>by rw [td0 (xi0 q h)]; exact q,λ b o u q=>by rw [td0 (xi0 q h)]; exact q⟩
theorem Kp.wr {H:Hp} {p:Addr} {o:HO} {xs:List V} (h:H p=some (.lst xs)):Kp H (upd H p o) :=
 ⟨λ b ys q=>by rw [td0 (xq3 q h (by intro z; cases z))]; exact q,λ b o u q=>by rw [td0 (xq3 q h (by intro z; cases z))]; exact q⟩
noncomputable def SqF (K:Fg) (H:Hp) (a:Addr) (xs:List V):Prop :=
 (∃ o,H a=some (.frz o (.lst xs))) \/ ∃ (o:Obj) (its:Array Value) (n:Nat),K.lookup a=some o /\ o.cls=.type "list" /\ o.dict=none /\ o.data=.seq its n /\ its.size<=sizeLine /\ Vals xs its.toList
theorem SqF.l {K:Fg} {H:Hp} {a:Addr} {xs:List V} (h:SqF K H a xs):SqL K H a xs:=by
 rcases h with ⟨o,h⟩ | h
 ·exact .inl (.inr ⟨o,h⟩)
 ·exact .inr h
theorem SqF.mono {K:Fg} {H H':Hp} {a:Addr} {xs:List V} (k:Kp H H') (h:SqF K H a xs):SqF K H' a xs:=by
 rcases h with ⟨o,h⟩ | h
 ·exact .inl ⟨o,k.frz _ _ _ h⟩
 ·exact .inr h
theorem SqT.mono {K:Fg} {H H':Hp} {a:Addr} {xs:List V} (k:Kp H H') (h:SqT K H a xs):SqT K H' a xs:=by
 rcases h with h | h
 ·rcases h with h | ⟨o,h⟩
  ·exact .inl (.inl (k.tup _ _ h))
  ·exact .inl (.inr ⟨o,k.frz _ _ _ h⟩)
 ·exact .inr h
mutual
inductive RelD (K:Fg) (H:Hp):D->V->Prop where
 | non:RelD K H .non .non
 | bl (b:Bool):RelD K H (.bl b) (.bl b)
 | int (i:Int):RelD K H (.int i) (.int i)
 | str (x:Str):RelD K H (.str x) (.str x)
 | ref (a:Addr):RelD K H (.ref a) (.ref a)
 | ty (n:String):RelD K H (.ty n) (.ty n)
 | tup {a:Addr} {l:List D} {vs:List V}:H a=some (.tup vs)->RelDs K H l vs->RelD K H (.tup l) (.ref a)
 | ktp {a:Addr} {l:List D} {vs:List V}:SqT K H a vs->RelDs K H l vs->RelD K H (.ktp l) (.ref a)
 | fls {a:Addr} {l:List D} {vs:List V}:SqF K H a vs->RelDs K H l vs->RelD K H (.fls l) (.ref a)
 | exc {a C:Addr} {c:Str} {ob:Obj} {u:HO}:H a=some (.frz ob u)->ob.cls=.ref C->PySem.W.nsIn K mainGlobals c=some (some (.ref C))->RelD K H (.exc c) (.ref a)
inductive RelDs (K:Fg) (H:Hp):List D->List V->Prop where
 | nil:RelDs K H [] []
 | cons {d:D} {v:V} {l:List D} {vs:List V}:RelD K H d v->RelDs K H l vs->RelDs K H (d :: l) (v :: vs)
end
mutual
theorem RelD.mono {K:Fg} {H H':Hp} (k:Kp H H'):∀ {d:D} {v:V},RelD K H d v->RelD K H' d v
 | _,_,.non=>.non
 | _,_,.bl b=>.bl b
 | _,_,.int b=>.int b
 | _,_,.str b=>.str b
 | _,_,.ref b=>.ref b
 | _,_,.ty b=>.ty b
 | _,_,.tup h r=>.tup (k.tup _ _ h) (RelDs.mono k r)
 | _,_,.ktp h r=>.ktp (SqT.mono k h) (RelDs.mono k r)
 | _,_,.fls h r=>.fls (SqF.mono k h) (RelDs.mono k r)
 | _,_,.exc h r1 r2=>.exc (k.frz _ _ _ h) r1 r2
theorem RelDs.mono {K:Fg} {H H':Hp} (k:Kp H H'):∀ {d:List D} {v:List V},RelDs K H d v->RelDs K H' d v
 | _,_,.nil=>.nil
 | _,_,.cons h r=>.cons (RelD.mono k h) (RelDs.mono k r)
end
theorem RelDs.length {K:Fg} {H:Hp}:∀ {l:List D} {vs:List V},RelDs K H l vs->l.length=vs.length
 | _,_,.nil=>rfl
 | _,_,.cons _ r=>congrArg (· + 1) r.length
theorem RelDs.get {K:Fg} {H:Hp}:∀ {l:List D} {vs:List V} {i:Nat} {d:D},RelDs K H l vs->l[i]?=some d->∃ v,vs[i]?=some v /\ RelD K H d v
 | _,_,_,_,.nil,e=>by simp at e
 | _,_,0,_,.cons h _,e=>by simp at e; subst e; exact ⟨_,rfl,h⟩
 | _,_,i + 1,d,.cons _ r,e=>by
  obtain ⟨v,h1,h2⟩:=RelDs.get (i:=i) (d:=d) r (by simpa using e)
  exact ⟨v,by simpa using h1,h2⟩
theorem RelDs.append {K:Fg} {H:Hp}:∀ {l m:List D} {vs us:List V},RelDs K H l vs->RelDs K H m us->RelDs K H (l ++ m) (vs ++ us)
 | _,_,_,_,.nil,q=>q
 | _,_,_,_,.cons h r,q=>.cons h (RelDs.append r q)
theorem RelDs.set {K:Fg} {H:Hp} {d:D} {v:V} (hd:RelD K H d v):∀ {l:List D} {vs:List V} (i:Nat),RelDs K H l vs->RelDs K H (l.set i d) (vs.set i v)
 | _,_,_,.nil=>.nil
 | _,_,0,.cons _ r=>.cons hd r
 | _,_,i + 1,.cons h r=>.cons h (RelDs.set hd i r)
theorem RelDs.take {K:Fg} {H:Hp}:∀ {l:List D} {vs:List V} (n:Nat),RelDs K H l vs->RelDs K H (l.take n) (vs.take n)
 | _,_,0,r=>by simp only [List.take_zero]; exact .nil
 | _,_,n + 1,.nil=>by simp only [List.take_nil]; exact .nil
 | _,_,n + 1,.cons h r=>by simp only [List.take_succ_cons]; exact .cons h (RelDs.take n r)
theorem RelDs.drop {K:Fg} {H:Hp}:∀ {l:List D} {vs:List V} (n:Nat),RelDs K H l vs->RelDs K H (l.drop n) (vs.drop n)
 | _,_,0,r=>by simp only [List.drop_zero]; exact r
 | _,_,n + 1,.nil=>by simp only [List.drop_nil]; exact .nil
 | _,_,n + 1,.cons h r=>by simp only [List.drop_succ_cons]; exact RelDs.drop n r
theorem RelDs.rep {K:Fg} {H:Hp} {l:List D} {vs:List V} (r:RelDs K H l vs):∀ k:Nat,RelDs K H (List.replicate k l).flatten (List.replicate k vs).flatten
 | 0=>.nil
 | k + 1=>by rw [List.replicate_succ,List.replicate_succ,List.flatten_cons,List.flatten_cons]; exact r.append (RelDs.rep r k)
inductive RelFs (K:Fg) (H:Hp):List (Str × D)->List (Str × V)->Prop where
 | nil:RelFs K H [] []
 | cons {f:Str} {d:D} {v:V} {l:List (Str × D)} {vs:List (Str × V)}:RelD K H d v->RelFs K H l vs->RelFs K H ((f,d) :: l) ((f,v) :: vs)
theorem RelFs.mono {K:Fg} {H H':Hp} (k:Kp H H') {l:List (Str × D)} {vs:List (Str × V)} (r:RelFs K H l vs):RelFs K H' l vs:=by
 induction r with
 | nil=>exact .nil
 | cons h _ ih=>exact .cons (h.mono k) ih
noncomputable def kT (t:Int × Int × Int):List Key:=[.inl t.1,.inl t.2.1,.inl t.2.2]
inductive RelKs (K:Fg) (H:Hp):List ((Int × Int × Int) × D)->List (List Key × V)->Prop where
 | nil:RelKs K H [] []
 | cons {t:Int × Int × Int} {d:D} {v:V} {l:List ((Int × Int × Int) × D)} {vs:List (List Key × V)}:RelD K H d v->RelKs K H l vs->RelKs K H ((t,d) :: l) ((kT t,v) :: vs)
theorem RelKs.mono {K:Fg} {H H':Hp} (k:Kp H H') {l:List ((Int × Int × Int) × D)} {vs:List (List Key × V)} (r:RelKs K H l vs):RelKs K H' l vs:=by
 induction r with
 | nil=>exact .nil
 | cons h _ ih=>exact .cons (h.mono k) ih
noncomputable def kL (k:List Int):List Key:=k.map Sum.inl
inductive RelKl (K:Fg) (H:Hp):List (List Int × D)->List (List Key × V)->Prop where
 | nil:RelKl K H [] []
 | cons {t:List Int} {d:D} {v:V} {l:List (List Int × D)} {vs:List (List Key × V)}:RelD K H d v->RelKl K H l vs->RelKl K H ((t,d) :: l) ((kL t,v) :: vs)
theorem RelKl.mono {K:Fg} {H H':Hp} (k:Kp H H') {l:List (List Int × D)} {vs:List (List Key × V)} (r:RelKl K H l vs):RelKl K H' l vs:=by
 induction r with
 | nil=>exact .nil
 | cons h _ ih=>exact .cons (h.mono k) ih
structure RelM (K:Fg) (μ:Mu) (H:Hp):Prop where
 lst:∀ p xs,μ p=some (.lst xs)->∃ vs,H p=some (.lst vs) /\ RelDs K H xs vs
 ins:∀ p c fs,μ p=some (.ins c fs)->∃ C dx vs,PySem.W.nsIn K mainGlobals c=some (some (.ref C)) /\ H p=some (.ins C dx vs) /\ H dx=some (.own p) /\ RelFs K H fs vs
 dct:∀ p kvs,μ p=some (.dct kvs)->∃ vs,H p=some (.dT vs) /\ RelKs K H kvs vs
 dcl:∀ p kvs,μ p=some (.dcl kvs)->∃ vs,H p=some (.dT vs) /\ RelKl K H kvs vs
instance {K:Fg} {μ:Mu} {H:Hp}:CoeFun (RelM K μ H) (λ _=>∀ p xs,μ p=some (.lst xs)->∃ vs,H p=some (.lst vs) /\ RelDs K H xs vs):=⟨RelM.lst⟩
theorem RelM.free {K:Fg} {μ:Mu} {H:Hp} (m:RelM K μ H) {p:Addr} (h:H p=none):μ p=none:=by
 cases e:μ p with
 | none=>rfl
 | some o =>
  cases o with
  | lst xs =>
   obtain ⟨vs,q,_⟩:=m.lst p xs e
   rw [h] at q; cases q
  | ins c fs =>
   obtain ⟨C,dx,vs,_,q,_⟩:=m.ins p c fs e
   rw [h] at q; cases q
  | dct kvs =>
   obtain ⟨vs,q,_⟩:=m.dct p kvs e
   rw [h] at q; cases q
  | dcl kvs =>
   obtain ⟨vs,q,_⟩:=m.dcl p kvs e
   rw [h] at q; cases q
theorem RelM.newT {K:Fg} {μ:Mu} {H:Hp} {p:Addr} {o:HO} (h:H p=none) (m:RelM K μ H):RelM K μ (upd H p o):=by
 have ne:∀ {q:Addr} {u:HO},H q=some u->q ≠ p:=λ {q u} e z=>by subst z; rw [h] at e; cases e
 refine ⟨λ q xs e=>?_,λ q c fs e=>?_,λ q kvs e=>?_,λ q kvs e=>?_⟩
 ·obtain ⟨vs,q1,r⟩:=m.lst q xs e
  exact ⟨vs,by rw [td0 (ne q1)]; exact q1,r.mono (Kp.new h)⟩
 ·obtain ⟨C,dx,vs,n,q1,q2,r⟩:=m.ins q c fs e
  exact ⟨C,dx,vs,n,by rw [td0 (ne q1)]; exact q1,by rw [td0 (ne q2)]; exact q2,r.mono (Kp.new h)⟩
 ·obtain ⟨vs,q1,r⟩:=m.dct q kvs e
  exact ⟨vs,by rw [td0 (ne q1)]; exact q1,r.mono (Kp.new h)⟩
 ·obtain ⟨vs,q1,r⟩:=m.dcl q kvs e
  exact ⟨vs,by rw [td0 (ne q1)]; exact q1,r.mono (Kp.new h)⟩
theorem RelM.newL {K:Fg} {μ:Mu} {H:Hp} {p:Addr} {xs:List D} {vs:List V} (h:H p=none) (r:RelDs K H xs vs) (m:RelM K μ H):RelM K (updM μ p (.lst xs)) (upd H p (.lst vs)):=by
 have m':=m.newT (o:=.lst vs) h
 refine ⟨λ q ys e=>?_,λ q c fs e=>?_,λ q kvs e=>?_,λ q kvs e=>?_⟩
 ·by_cases z:q=p
  ·subst z
   rw [sa0] at e; cases e
   exact ⟨vs,tg0,r.mono (Kp.new h)⟩
  ·rw [xc0 z] at e
   exact m'.lst q ys e
 ·by_cases z:q=p
  ·subst z
   rw [sa0] at e; cases e
  ·rw [xc0 z] at e
   exact m'.ins q c fs e
 ·by_cases z:q=p
  ·subst z
   rw [sa0] at e; cases e
  ·rw [xc0 z] at e
   exact m'.dct q kvs e
 ·by_cases z:q=p
  ·subst z
   rw [sa0] at e; cases e
  ·rw [xc0 z] at e
   exact m'.dcl q kvs e
theorem RelM.wr {K:Fg} {μ:Mu} {H:Hp} {p:Addr} {xs:List D} {vs ws:List V} (h:H p=some (.lst ws)) (r:RelDs K H xs vs) (m:RelM K μ H):RelM K (updM μ p (.lst xs)) (upd H p (.lst vs)):=by
 refine ⟨λ q ys e=>?_,λ q c fs e=>?_,λ q kvs e=>?_,λ q kvs e=>?_⟩
 ·by_cases z:q=p
  ·subst z
   rw [sa0] at e; cases e
   exact ⟨vs,tg0,r.mono (Kp.wr h)⟩
  ·rw [xc0 z] at e
   rw [td0 z]
   obtain ⟨us,q1,r1⟩:=m.lst q ys e
   exact ⟨us,q1,r1.mono (Kp.wr h)⟩
 ·by_cases z:q=p
  ·subst z
   rw [sa0] at e; cases e
  ·rw [xc0 z] at e
   obtain ⟨C,dx,us,n,q1,q2,r1⟩:=m.ins q c fs e
   refine ⟨C,dx,us,n,by rw [td0 z]; exact q1,?_,r1.mono (Kp.wr h)⟩
   rw [td0]
   ·exact q2
   ·intro y; subst y; rw [h] at q2; cases q2
 ·by_cases z:q=p
  ·subst z
   rw [sa0] at e; cases e
  ·rw [xc0 z] at e
   rw [td0 z]
   obtain ⟨us,q1,r1⟩:=m.dct q kvs e
   exact ⟨us,q1,r1.mono (Kp.wr h)⟩
 ·by_cases z:q=p
  ·subst z
   rw [sa0] at e; cases e
  ·rw [xc0 z] at e
   rw [td0 z]
   obtain ⟨us,q1,r1⟩:=m.dcl q kvs e
   exact ⟨us,q1,r1.mono (Kp.wr h)⟩
structure RSt (K:Fg) (H:Hp) (ρ:St3) (σ:St):Prop where
 len:ρ.length=σ.length
 at':∀ i d,getI ρ i=some d->∃ v,σ[i]?=some (some v) /\ RelD K H d v
theorem RSt.mono {K:Fg} {H H':Hp} {ρ:St3} {σ:St} (k:Kp H H') (s:RSt K H ρ σ):RSt K H' ρ σ:=⟨s.len,λ i d e=>let ⟨v,h,r⟩:=s.at' i d e; ⟨v,h,r.mono k⟩⟩
theorem ub1:∀ (ρ:St3) (i j:Nat) (d:Option D),getI (ρ.set i d) j=if i=j /\ i < ρ.length then d else getI ρ j
 | [],i,j,d=>by simp [getI]
 | o :: r,0,0,d=>by simp [getI]
 | o :: r,0,j + 1,d=>by simp [getI]
 | o :: r,i + 1,0,d=>by simp [getI]
 | o :: r,i + 1,j + 1,d=>by simp only [List.set_cons_succ,getI,ub1 r i j d,List.length_cons]; simp
theorem RSt.set {K:Fg} {H:Hp} {ρ:St3} {σ:St} {d:D} {v:V} (i:Nat) (r:RelD K H d v) (s:RSt K H ρ σ):RSt K H (ρ.set i (some d)) (σ.set i (some v)):=by
 refine ⟨by simp [s.len],λ j e h=>?_⟩
 rw [ub1] at h
 split at h
 ·next c =>
  obtain ⟨rfl,c2⟩:=c
  cases h
  exact ⟨v,by rw [List.getElem?_set_self (by rw [<- s.len]; exact c2)],r⟩
 ·next c =>
  obtain ⟨u,q,r'⟩:=s.at' j e h
  have hj:j < σ.length:=(List.getElem?_eq_some_iff.mp q).1
  by_cases z:i=j
  ·subst z; exact absurd ⟨rfl,by rw [s.len]; exact hj⟩ c
  ·exact ⟨u,by rw [List.getElem?_set_ne z]; exact q,r'⟩
theorem RSt.start {K:Fg} {H:Hp} {ds:List D} {vs:List V} (N:List Str) (r:RelDs K H ds vs):RSt K H (uc0 N ds) (L2.start N vs):=by
 have hl:=r.length
 refine ⟨by simp [uc0,L2.start,hl],λ i d e=>?_⟩
 rw [sh1] at e
 unfold uc0 at e
 unfold L2.start
 by_cases c:i < ds.length
 ·rw [List.getElem?_append_left (by simpa using c),List.getElem?_map] at e
  cases q:ds[i]? with
  | none=>rw [q] at e; cases e
  | some d' =>
   rw [q] at e
   have e':d'=d:=by simpa using e
   subst e'
   obtain ⟨v,h1,h2⟩:=r.get q
   exact ⟨v,by rw [List.getElem?_append_left (by rw [List.length_map]; omega),List.getElem?_map,h1]; rfl,h2⟩
 ·rw [List.getElem?_append_right (by simpa using c),List.getElem?_replicate] at e
  split at e <;> simp at e
noncomputable abbrev Ks (K:Fg) (H:Hp) (Q3:VK3) (Q:VK):Prop:=∀ d μ' v H',Q3 d μ'->Kp H H'->RelD K H' d v->RelM K μ' H'->Q v H'
theorem Ks.after {K:Fg} {H H1:Hp} {Q3:VK3} {Q:VK} (k:Ks K H Q3 Q) (e:Kp H H1):Ks K H1 Q3 Q:=λ d μ v H' q e'=>k d μ v H' q (e.trans e')
noncomputable def RdE (K:Fg) (tv:TE) (t:TE3):Prop:=∀ σ H Q ρ μ Q3,RSt K H ρ σ->RelM K μ H->t ρ μ Q3->Ks K H Q3 Q->tv σ H Q
noncomputable def RE (X:Cx) (e:Expr) (t:TE3):Prop:=∃ tv,PE X e tv /\ RdE X.K tv t
noncomputable def RdT (K:Fg) (tv:TT) (t:TT3):Prop:=∀ σ H Q ρ μ Q3,RSt K H ρ σ->RelM K μ H->t ρ μ Q3->(∀ b μ' H',Q3 b μ'->Kp H H'->RelM K μ' H'->Q b H')->tv σ H Q
noncomputable def RT (X:Cx) (e:Expr) (t:TT3):Prop:=∃ tv,PT X e tv /\ RdT X.K tv t
noncomputable def RW (X:Cx) (e:Expr) (t:TT3):Prop:=∃ tv,PW X e tv /\ RdT X.K tv t
noncomputable def RdA (K:Fg) (tv:TA) (t:TA3):Prop:=∀ σ H Q ρ μ Q3,RSt K H ρ σ->RelM K μ H->t ρ μ Q3->(∀ ds μ' vs H',Q3 ds μ'->Kp H H'->RelDs K H' ds vs->RelM K μ' H'->Q vs H')->tv σ H Q
noncomputable def RA (X:Cx) (es:List Expr) (t:TA3):Prop:=∃ tv,PA X es tv /\ RdA X.K tv t
structure KsD (K:Fg) (H:Hp) (D3:Ends3) (D:Ends):Prop where
 nx:∀ ρ μ σ H',D3.nx ρ μ->Kp H H'->RSt K H' ρ σ->RelM K μ H'->D.nx σ H'
 bk:∀ ρ μ σ H',D3.bk ρ μ->Kp H H'->RSt K H' ρ σ->RelM K μ H'->D.bk σ H'
 ct:∀ ρ μ σ H',D3.ct ρ μ->Kp H H'->RSt K H' ρ σ->RelM K μ H'->D.ct σ H'
 rt:Ks K H D3.rt D.rt
theorem KsD.after {K:Fg} {H H1:Hp} {D3:Ends3} {D:Ends} (k:KsD K H D3 D) (e:Kp H H1):KsD K H1 D3 D :=
 ⟨λ ρ μ σ H' q e'=>k.nx ρ μ σ H' q (e.trans e'),λ ρ μ σ H' q e'=>k.bk ρ μ σ H' q (e.trans e'),λ ρ μ σ H' q e'=>k.ct ρ μ σ H' q (e.trans e'),k.rt.after e⟩
noncomputable def RdS (K:Fg) (tv:TS) (t:TS3):Prop:=∀ σ H D ρ μ D3,RSt K H ρ σ->RelM K μ H->t D3 ρ μ->KsD K H D3 D->tv D σ H
noncomputable def RS (X:Cx) (st:Stmt) (t:TS3):Prop:=∃ tv,PS X st tv /\ RdS X.K tv t
noncomputable def RSs (X:Cx) (st:List Stmt) (t:TS3):Prop:=∃ tv,PSs X st tv /\ RdS X.K tv t
noncomputable def RdG (K:Fg) (tv:TG) (t:TG3):Prop:=∀ v d σ H Q ρ μ Q3,RSt K H ρ σ->RelM K μ H->RelD K H d v->t d ρ μ Q3->(∀ ρ' μ' σ' H',Q3 ρ' μ'->Kp H H'->RSt K H' ρ' σ'->RelM K μ' H'->Q σ' H')->tv v σ H Q
noncomputable def RG (X:Cx) (e:Expr) (t:TG3):Prop:=∃ tv,PG X e tv /\ RdG X.K tv t
noncomputable def RdGs (K:Fg) (tv:TGs) (t:TGs3):Prop:=∀ vs ds σ H Q ρ μ Q3,RSt K H ρ σ->RelM K μ H->RelDs K H ds vs->t ds ρ μ Q3->(∀ ρ' μ' σ' H',Q3 ρ' μ'->Kp H H'->RSt K H' ρ' σ'->RelM K μ' H'->Q σ' H')->tv vs σ H Q
noncomputable def RGs (X:Cx) (es:List Expr) (t:TGs3):Prop:=∃ tv,PGs X es tv /\ RdGs X.K tv t
noncomputable def RdO (K:Fg) (r:R2) (r3:R3):Prop:=∀ x y v u H Q μ Q3,RelM K μ H->RelD K H x v->RelD K H y u->r3 x y μ Q3->Ks K H Q3 Q->r v u H Q
noncomputable def RO (X:Cx) (f:Value->Value->Sem Value) (r3:R3):Prop:=∃ r,OpR X f r /\ RdO X.K r r3
noncomputable def RdU (K:Fg) (r:V->Hp->VK->Prop) (r3:D->Mu->VK3->Prop):Prop:=∀ x v H Q μ Q3,RelM K μ H->RelD K H x v->r3 x μ Q3->Ks K H Q3 Q->r v H Q
noncomputable def RU (X:Cx) (f:Value->Sem Value) (r3:D->Mu->VK3->Prop):Prop:=∃ r,UnR X f r /\ RdU X.K r r3
noncomputable def RdC (K:Fg) (r:List V->Hp->VK->Prop) (r3:C3):Prop:=∀ xs vs H Q μ Q3,RelM K μ H->RelDs K H xs vs->r3 xs μ Q3->Ks K H Q3 Q->r vs H Q
noncomputable def RC (X:Cx) (f:Value) (r3:C3):Prop:=∃ r,CallR X f r /\ RdC X.K r r3
noncomputable def RX (X:Cx) (r3:R3):Prop:=∃ r,IxR X r /\ RdO X.K r r3
end Pv
namespace Pv
open PySem L2
section
variable {X:Cx} {a b c e:Expr} {ta tb tc te:TE3} {pos:Pos}
theorem ya0 (i:Nat) {x:Str} (hN:X.N[i]?=some x:=by rfl) (hv:Vis X.env.scope x:=by first | exact Or.inl rfl | exact Or.inr (Or.inl rfl) | exact Or.inr (Or.inr rfl)) (hd:(x == ("__debug__" : Str))=false:=by decide)
    (hcd:(x == ("__classdict__" : Str))=false:=by decide):RE X (.Name x pos) (v3 i):=by
 refine ⟨_,xn3 hN hv hd hcd,λ σ H Q ρ μ Q3 s m h k=>?_⟩
 unfold v3 at h
 cases q:getI ρ i with
 | none=>rw [q] at h; exact h.elim
 | some d =>
  rw [q] at h
  obtain ⟨v,e,r⟩:=s.at' i d q
  exact ⟨v,e,k d μ v H h (Kp.refl H) r m⟩
theorem RdE.cst {K:Fg} {d:D} {v:V} (r:∀ H,RelD K H d v):RdE K (tC v) (c3 d):=λ σ H Q ρ μ Q3 s m h k=>k d μ v H h (Kp.refl H) (r H) m
theorem wa0 {i:Int} {j}:RE X (.Constant (.int i) j pos) (c3 (.int i)):=⟨_,xo3,RdE.cst λ _=>.int i⟩
theorem xh0 {i:Bool} {j}:RE X (.Constant (.bool i) j pos) (c3 (.bl i)):=⟨_,wz3,RdE.cst λ _=>.bl i⟩
theorem wh0 {j}:RE X (.Constant .none j pos) (c3 .non):=⟨_,vn3,RdE.cst λ _=>.non⟩
theorem wb0 {x:Str} {j}:RE X (.Constant (.str x) j pos) (c3 (.str x)):=⟨_,zn3,RdE.cst λ _=>.str x⟩
noncomputable def Gd (K:Fg) (mg:Str->Option Value) (x:Str) (d:D):Prop:=∃ u v,mg x=some u /\ RelV v u /\ ∀ H,RelD K H d v
theorem re_g {x:Str} {d:D} (g:Gd X.K X.mg x d) (hg:Gl X x:=by rfl) (hd:(x == ("__debug__" : Str))=false:=by decide):RE X (.Name x pos) (c3 d):=by
 obtain ⟨u,v,hm,r,rd⟩:=g
 exact ⟨_,tq2 hg hm r hd,RdE.cst rd⟩
theorem zo2 {x:Str} {T:String} (hm:X.mg x=none) (hv:bootBuiltins x=some (.type T)) (hg:Gl X x:=by rfl) (hn:x ≠ "__name__" := by decide) (hd:(x == ("__debug__" : Str))=false:=by decide):RE X (.Name x pos) (c3 (.ty T)) :=
 ⟨_,tu1 hg hm hv (show RelV (.ty T) (.type T) from rfl) hn hd,RdE.cst λ _=>.ty T⟩
theorem xd0 {op:Operator} {r3:R3} (ho:RO X (binaryOp op) r3) (ha:RE X a ta) (hb:RE X b tb):RE X (.BinOp a op b pos) (o3 r3 ta tb):=by
 obtain ⟨r,po,ro⟩:=ho
 obtain ⟨va,pa,ra⟩:=ha
 obtain ⟨vb,pb,rb⟩:=hb
 exact ⟨_,sy3 po pa pb,λ σ H Q ρ μ Q3 s m h k=>ra σ H _ ρ μ _ s m h λ x μ1 v H1 h1 k1 r1 m1=>rb σ H1 _ ρ μ1 _ (s.mono k1) m1 h1 λ y μ2 u H2 h2 k2 r2 m2 =>
  ro x y v u H2 Q μ2 Q3 m2 (r1.mono k2) r2 h2 (k.after (k1.trans k2))⟩
theorem zp1 {op:UnaryOp} {r3:D->Mu->VK3->Prop} (ho:RU X (unaryOp op) r3) (ha:RE X a ta):RE X (.UnaryOp op a pos) (un3 r3 ta):=by
 obtain ⟨r,po,ro⟩:=ho
 obtain ⟨va,pa,ra⟩:=ha
 exact ⟨_,uy3 po pa,λ σ H Q ρ μ Q3 s m h k=>ra σ H _ ρ μ _ s m h λ x μ1 v H1 h1 k1 r1 m1=>ro x v H1 Q μ1 Q3 m1 r1 h1 (k.after k1)⟩
theorem RdE.op {K:Fg} {r:R2} {r3:R3} {va vb:TE} (ra:RdE K va ta) (rb:RdE K vb tb) (ro:RdO K r r3):RdE K (tOp r va vb) (o3 r3 ta tb):=λ σ H Q ρ μ Q3 s m h k =>
 ra σ H _ ρ μ _ s m h λ x μ1 v H1 h1 k1 r1 m1=>rb σ H1 _ ρ μ1 _ (s.mono k1) m1 h1 λ y μ2 u H2 h2 k2 r2 m2=>ro x y v u H2 Q μ2 Q3 m2 (r1.mono k2) r2 h2 (k.after (k1.trans k2))
theorem RdT.test {K:Fg} {va:TE} (ra:RdE K va ta):RdT K (tm2 va) (b3 ta):=λ σ H Q ρ μ Q3 s m h k=>by
 refine ra σ H _ ρ μ _ s m h λ d μ1 v H1 h1 k1 r1 m1=>?_
 cases r1 with
 | bl c=>exact ⟨c,rfl,k c μ1 H1 h1 k1 m1⟩
 | _=>exact False.elim h1
theorem yj0 {op:CmpOp} {r3:R3} (ho:RO X (compareOp op) r3) (ha:RE X a ta) (hb:RE X b tb) (hm:behindInMarks op b=false:=by first | exact zv1 _ | with_unfolding_all rfl):RE X (.Compare a [op] [b] pos) (o3 r3 ta tb):=by
 obtain ⟨r,po,ro⟩:=ho
 obtain ⟨va,pa,ra⟩:=ha
 obtain ⟨vb,pb,rb⟩:=hb
 exact ⟨_,sq2 po pa pb hm,ra.op rb ro⟩
theorem sb0 {op:CmpOp} {r3:R3} (ho:RO X (compareOp op) r3) (ha:RE X a ta) (hb:RE X b tb) (hm:behindInMarks op b=false:=by first | exact zv1 _ | with_unfolding_all rfl):RT X (.Compare a [op] [b] pos) (b3 (o3 r3 ta tb)):=by
 obtain ⟨r,po,ro⟩:=ho
 obtain ⟨va,pa,ra⟩:=ha
 obtain ⟨vb,pb,rb⟩:=hb
 exact ⟨_,zp2 po pa pb hm,RdT.test (ra.op rb ro)⟩
theorem zl0 (ha:RE X a ta) (he:∀ whole,isTrue a X.env whole=(do let v <- whole; standAt a.pos; holding [v] (truthy v)):=by intro _; rfl):RT X a (b3 ta):=by
 obtain ⟨va,pa,ra⟩:=ha
 exact ⟨_,vl3 pa he,RdT.test ra⟩
variable {tA tB':TT3} {rest:List Expr}
theorem RW.pt (h:RW X a tA):RT X a tA:=let ⟨t,p,r⟩:=h; ⟨t,p.pt,r⟩
theorem yk0 (h:RW X a tA):RT X a tA:=h.pt
theorem vl0 (h:RT X a tA):RW X (.BoolOp .And [a] pos) tA:=let ⟨t,p,r⟩:=h; ⟨t,xp2 p,r⟩
theorem zm0 (h:RT X a tA):RW X (.BoolOp .Or [a] pos) tA:=let ⟨t,p,r⟩:=h; ⟨t,zl3 p,r⟩
theorem uo0 (ha:RT X a tA) (hb:RW X (.BoolOp .And (b :: rest) pos) tB'):RW X (.BoolOp .And (a :: b :: rest) pos) (and3 tA tB'):=by
 obtain ⟨va,pa,ra⟩:=ha
 obtain ⟨vb,pb,rb⟩:=hb
 refine ⟨_,wl3 pa pb,λ σ H Q ρ μ Q3 s m h k=>ra σ H _ ρ μ _ s m h λ c μ1 H1 h1 k1 m1=>?_⟩
 cases c with
 | true=>exact rb σ H1 Q ρ μ1 Q3 (s.mono k1) m1 h1 λ b μ' H' q e=>k b μ' H' q (k1.trans e)
 | false=>exact k _ _ _ h1 k1 m1
theorem zq0 (ha:RT X a tA) (hb:RW X (.BoolOp .Or (b :: rest) pos) tB'):RW X (.BoolOp .Or (a :: b :: rest) pos) (or3 tA tB'):=by
 obtain ⟨va,pa,ra⟩:=ha
 obtain ⟨vb,pb,rb⟩:=hb
 refine ⟨_,wy3 pa pb,λ σ H Q ρ μ Q3 s m h k=>ra σ H _ ρ μ _ s m h λ c μ1 H1 h1 k1 m1=>?_⟩
 cases c with
 | true=>exact k _ _ _ h1 k1 m1
 | false=>exact rb σ H1 Q ρ μ1 Q3 (s.mono k1) m1 h1 λ b μ' H' q e=>k b μ' H' q (k1.trans e)
theorem to0 (ha:RT X a tA):RT X (.UnaryOp .Not a pos) (not3 tA):=by
 obtain ⟨va,pa,ra⟩:=ha
 exact ⟨_,ul3 pa,λ σ H Q ρ μ Q3 s m h k=>ra σ H _ ρ μ _ s m h λ c μ1 H1 h1 k1 m1=>k _ _ _ h1 k1 m1⟩
theorem xz0 {op} (h:RE X a ta):RE X (.BoolOp op [a] pos) ta:=let ⟨t,p,r⟩:=h; ⟨t,wn3 p,r⟩
theorem xk1 (ha:RE X a ta) (hb:RE X (.BoolOp .And (b :: rest) pos) tb):RE X (.BoolOp .And (a :: b :: rest) pos) (vq1 ta tb):=by
 obtain ⟨va,pa,ra⟩:=ha
 obtain ⟨vb,pb,rb⟩:=hb
 refine ⟨_,yo3 pa pb,λ σ H Q ρ μ Q3 s m h k=>ra σ H _ ρ μ _ s m h λ d μ1 v H1 h1 k1 r1 m1=>?_⟩
 cases r1 with
 | bl c =>
  refine ⟨c,rfl,?_⟩
  cases c with
  | true=>exact rb σ H1 Q ρ μ1 Q3 (s.mono k1) m1 h1 (k.after k1)
  | false=>exact k _ _ _ _ h1 k1 (.bl _) m1
 | _=>exact False.elim h1
theorem xh3 (ha:RE X a ta) (hb:RE X (.BoolOp .Or (b :: rest) pos) tb):RE X (.BoolOp .Or (a :: b :: rest) pos) (orV3 ta tb):=by
 obtain ⟨va,pa,ra⟩:=ha
 obtain ⟨vb,pb,rb⟩:=hb
 refine ⟨_,ty3 pa pb,λ σ H Q ρ μ Q3 s m h k=>ra σ H _ ρ μ _ s m h λ d μ1 v H1 h1 k1 r1 m1=>?_⟩
 cases r1 with
 | bl c =>
  refine ⟨c,rfl,?_⟩
  cases c with
  | true=>exact k _ _ _ _ h1 k1 (.bl _) m1
  | false=>exact rb σ H1 Q ρ μ1 Q3 (s.mono k1) m1 h1 (k.after k1)
 | _=>exact False.elim h1
theorem xe1 (hc:RT X c tA) (ha:RE X a ta) (hb:RE X b tb):RE X (.IfExp c a b pos) (if3 tA ta tb):=by
 obtain ⟨vc,pc,rc⟩:=hc
 obtain ⟨va,pa,ra⟩:=ha
 obtain ⟨vb,pb,rb⟩:=hb
 refine ⟨_,xd2 pc pa pb,λ σ H Q ρ μ Q3 s m h k=>rc σ H _ ρ μ _ s m h λ c μ1 H1 h1 k1 m1=>?_⟩
 cases c with
 | true=>exact ra σ H1 Q ρ μ1 Q3 (s.mono k1) m1 h1 (k.after k1)
 | false=>exact rb σ H1 Q ρ μ1 Q3 (s.mono k1) m1 h1 (k.after k1)
variable {es:List Expr} {t:TA3}
theorem va0:RA X [] nil3:=⟨_,wj2,λ σ H Q ρ μ Q3 s m h k=>k [] μ [] H h (Kp.refl H) .nil m⟩
theorem xa0 (ha:RE X e te) (hr:RA X es t) (hs:starEach (e :: es) X.env=(false,eval e X.env) :: starEach es X.env:=by rfl):RA X (e :: es) (za0 te t):=by
 obtain ⟨va,pa,ra⟩:=ha
 obtain ⟨vb,pb,rb⟩:=hr
 exact ⟨_,vh1 pa pb hs,λ σ H Q ρ μ Q3 s m h k=>ra σ H _ ρ μ _ s m h λ d μ1 v H1 h1 k1 r1 m1=>rb σ H1 _ ρ μ1 _ (s.mono k1) m1 h1 λ ds μ2 vs H2 h2 k2 r2 m2 =>
  k _ _ _ _ h2 (k1.trans k2) (.cons (r1.mono k2) r2) m2⟩
theorem ub0 {x1} (h:RA X es t):RE X (.Tuple es x1 pos) (tup3 t):=by
 obtain ⟨va,pa,ra⟩:=h
 refine ⟨_,yn3 pa,λ σ H Q ρ μ Q3 s m h k=>ra σ H _ ρ μ _ s m h λ ds μ1 vs H1 h1 k1 r1 m1=>⟨by rw [<- r1.length]; exact h1.1,λ p hp=>?_⟩⟩
 exact k _ _ _ _ h1.2 (k1.trans (Kp.new hp)) (.tup tg0 (r1.mono (Kp.new hp))) (m1.newT hp)
theorem xf0 (h:RA X es t):RE X (.List es pos) (lst3 t):=by
 obtain ⟨va,pa,ra⟩:=h
 refine ⟨_,sn3 pa,λ σ H Q ρ μ Q3 s m h k=>ra σ H _ ρ μ _ s m h λ ds μ1 vs H1 h1 k1 r1 m1=>⟨by rw [<- r1.length]; exact h1.1,λ p hp=>?_⟩⟩
 exact k _ _ _ _ (h1.2 p (m1.free hp)) (k1.trans (Kp.new hp)) (.ref p) (m1.newL hp r1)
variable {st:Stmt} {sts:List Stmt} {t3 u3:TS3}
theorem tb0:RSs X [] tc0:=⟨_,vp2,λ σ H D ρ μ D3 s m h k=>k.nx ρ μ σ H h (Kp.refl H) s m⟩
theorem xb0 (h:RS X st t3):RSs X [st] t3:=let ⟨t,p,r⟩:=h; ⟨t,wp2 p,r⟩
theorem ua0 (h1:RS X st t3) (h2:RSs X sts u3):RSs X (st :: sts) (seq3 t3 u3):=by
 obtain ⟨va,pa,ra⟩:=h1
 obtain ⟨vb,pb,rb⟩:=h2
 refine ⟨_,zc2 pa pb,λ σ H D ρ μ D3 s m h k=>ra σ H _ ρ μ _ s m h ⟨λ ρ1 μ1 σ1 H1 h1 k1 s1 m1=>rb σ1 H1 D ρ1 μ1 D3 s1 m1 h1 (k.after k1),k.bk,k.ct,k.rt⟩⟩
theorem ul0 (he:RE X e te) (hs:swapsWith e none pos.line X.env=pure false:=by rfl):RS X (.Expr e pos) (yl0 te):=by
 obtain ⟨va,pa,ra⟩:=he
 exact ⟨_,xq2 pa hs,λ σ H D ρ μ D3 s m h k=>ra σ H _ ρ μ _ s m h λ d μ1 v H1 h1 k1 r1 m1=>k.nx ρ μ1 σ H1 h1 k1 (s.mono k1) m1⟩
theorem yc0 (he:RE X e te):RS X (.Return (some e) pos) (ret3 te):=by
 obtain ⟨va,pa,ra⟩:=he
 exact ⟨_,ym3 pa,λ σ H D ρ μ D3 s m h k=>ra σ H _ ρ μ _ s m h k.rt⟩
theorem zd0 {as bs:List Stmt} (hc:RT X c tA) (ha:RSs X as t3) (hb:RSs X bs u3):RS X (.If c as bs pos) (ifs3 tA t3 u3):=by
 obtain ⟨vc,pc,rc⟩:=hc
 obtain ⟨va,pa,ra⟩:=ha
 obtain ⟨vb,pb,rb⟩:=hb
 refine ⟨_,vy3 pc pa pb,λ σ H D ρ μ D3 s m h k=>rc σ H _ ρ μ _ s m h λ c μ1 H1 h1 k1 m1=>?_⟩
 cases c with
 | true=>exact ra σ H1 D ρ μ1 D3 (s.mono k1) m1 h1 (k.after k1)
 | false=>exact rb σ H1 D ρ μ1 D3 (s.mono k1) m1 h1 (k.after k1)
theorem yg0 {i:Nat} {x:Str} (hN:X.N.Nodup) (hi:X.N[i]?=some x:=by rfl) (hx:Loc X.env.scope x:=by first | exact Or.inl rfl | exact Or.inr rfl) (hf:X.fn x=true \/ X.env.scope.names.lookup x=some .local:=by first | exact .inl rfl | exact .inr rfl) :
    RG X (.Name x pos) (gn3 i):=⟨_,vq2 hN hi hx hf,λ v d σ H Q ρ μ Q3 s m r h k=>k _ _ _ _ h (Kp.refl H) (s.set i r) m⟩
theorem yh1:RGs X [] yq1:=⟨_,wq2,λ vs ds σ H Q ρ μ Q3 s m r h k=>by
 cases r with
 | nil=>exact ⟨rfl,k _ _ _ _ h (Kp.refl H) s m⟩
 | cons _ _=>exact False.elim h⟩
theorem sp0 {g:TG3} {gs:TGs3} (h1:RG X e g) (h2:RGs X es gs) (hs:(assignEach (e :: es) X.env).map (·.2)=assign e X.env :: (assignEach es X.env).map (·.2):=by rfl):RGs X (e :: es) (sr0 g gs):=by
 obtain ⟨va,pa,ra⟩:=h1
 obtain ⟨vb,pb,rb⟩:=h2
 refine ⟨_,tc2 pa pb hs,λ vs ds σ H Q ρ μ Q3 s m r h k=>?_⟩
 cases r with
 | nil=>exact False.elim h
 | cons r1 r2=>exact ⟨_,_,rfl,ra _ _ σ H _ ρ μ _ s m r1 h λ ρ1 μ1 σ1 H1 h1 k1 s1 m1=>rb _ _ σ1 H1 Q ρ1 μ1 Q3 s1 m1 (r2.mono k1) h1 λ ρ' μ' σ' H' q e=>k ρ' μ' σ' H' q (k1.trans e)⟩
theorem ti2 {kk:Nat} {gs:TGs3} {n:Nat} (hc:X.calm=true) (h:RGs X es gs) (hn:(assignEach es X.env).length=n:=by rfl) (hst:(assignEach es X.env).findIdx? (·.1)=none:=by rfl):RG X (.Tuple es kk pos) (zf2 n gs):=by
 obtain ⟨va,pa,ra⟩:=h
 refine ⟨_,um3 hc pa hn hst,λ v d σ H Q ρ μ Q3 s m r h k=>?_⟩
 cases r with
 | tup hq rs =>
  obtain ⟨hl,h⟩:=h
  exact ⟨_,_,rfl,(SqT.of hq),by rw [<- rs.length]; exact hl,ra _ _ σ H Q ρ μ Q3 s m rs h k⟩
 | _=>exact False.elim h
theorem vc0 {i:Nat} {x:Str} {pos':Pos} (hN:X.N.Nodup) (he:RE X e te) (hi:X.N[i]?=some x:=by rfl) (hx:Loc X.env.scope x:=by first | exact Or.inl rfl | exact Or.inr rfl) (hs:swapsWith e (some (.Name x pos')) pos.line X.env=pure false:=by rfl)
    (hf:X.fn x=true \/ X.env.scope.names.lookup x=some .local:=by first | exact .inl rfl | exact .inr rfl):RS X (.Assign [.Name x pos'] e pos) (set3 i te):=by
 obtain ⟨va,pa,ra⟩:=he
 exact ⟨_,xm3 hN hi hx pa hs hf,λ σ H D ρ μ D3 s m h k=>ra σ H _ ρ μ _ s m h λ d μ1 v H1 h1 k1 r1 m1=>k.nx _ _ _ _ h1 k1 ((s.mono k1).set i r1) m1⟩
theorem ty0 {tg:Expr} {g:TG3} (he:RE X e te) (hg:RG X tg g) (hs:swapsWithSole [tg] e pos.line X.env=pure false:=by rfl) (hw:swappedStores [tg] e X.env=pure none:=by rfl)
    (h1:(assignEach [tg] X.env).map (·.2)=[assign tg X.env]:=by rfl):RS X (.Assign [tg] e pos) (asg3 te g):=by
 obtain ⟨va,pa,ra⟩:=he
 obtain ⟨vg,pg,rg⟩:=hg
 exact ⟨_,wm3 pa pg hs hw h1,λ σ H D ρ μ D3 s m h k=>ra σ H _ ρ μ _ s m h λ d μ1 v H1 h1 k1 r1 m1=>rg v d σ H1 _ ρ μ1 _ (s.mono k1) m1 r1 h1 λ ρ' μ' σ' H' q e=>k.nx ρ' μ' σ' H' q (k1.trans e)⟩
theorem zr3 (n:Nat) (i:Int):L2.ixN n i=ixN n i:=rfl
theorem xu1 {o i:Expr} {to ti:TE3} (ho:RE X o to) (hi:RE X i ti)
    (ha:∀ v,assign (.Subscript o i pos) X.env v=(do
     let ov <- holding [v] (eval o X.env)
     let iv <- holding [v,ov] (eval i X.env)
     standAt pos
     holding [v,ov,iv] (setItem ov iv v)
     release [v,ov,iv] []):=by intro _; rfl):RG X (.Subscript o i pos) (sub3 to ti):=by
 obtain ⟨va,pa,ra⟩:=ho
 obtain ⟨vb,pb,rb⟩:=hi
 refine ⟨_,tm3 pa pb xb2 ha,λ v d σ H Q ρ μ Q3 s m r h k=>ra σ H _ ρ μ _ s m h λ o' μ1 ov H1 h1 k1 r1 m1=>rb σ H1 _ ρ μ1 _ (s.mono k1) m1 h1 λ i' μ2 iv H2 h2 k2 r2 m2=>?_⟩
 cases r1 with
 | ref p =>
  cases r2 with
  | int kk =>
   dsimp only at h2
   cases e:μ2 p with
   | none=>rw [e] at h2; exact h2.elim
   | some oo =>
    cases oo with
    | ins _ _=>rw [e] at h2; exact h2.elim
    | dct _=>rw [e] at h2; exact h2.elim
    | dcl _=>rw [e] at h2; exact h2.elim
    | lst xs =>
     rw [e] at h2
     dsimp only at h2
     cases e2:ixN xs.length kk with
     | none=>rw [e2] at h2; exact h2.elim
     | some j =>
      rw [e2] at h2
      obtain ⟨vs,hv,rv⟩:=m2 p xs e
      have kk':=k1.trans k2
      refine ⟨p,vs,kk,j,rfl,rfl,hv,by rw [<- rv.length]; exact e2,k _ _ _ _ h2 (kk'.trans (Kp.wr hv)) (s.mono (kk'.trans (Kp.wr hv))) (m2.wr hv (rv.set (r.mono kk') j))⟩
  | _=>exact False.elim h2
 | _=>cases r2 <;> exact False.elim h2
end
end Pv
namespace Pv
open PySem PySem.Spec PyProof.Rows L2
noncomputable def ItOk (K:Fg) (J:It) (l:List D) (S:Mu->Prop) (H0:Hp):Prop:=∀ i H μ,Kp H0 H->RelM K μ H->S μ ->
 (∀ d,l[i]?=some d->J.go i H /\ ∀ x H2,J.yld i H x H2->Kp H H2 /\ RelM K μ H2 /\ RelD K H2 d x) /\ (l.length<=i->J.stop i H)
noncomputable def RdI (K:Fg) (wi:TI) (ti:TI3):Prop:=∀ σ H R ρ μ R3,RSt K H ρ σ->RelM K μ H->ti ρ μ R3->(∀ l S μ' J H',R3 l S μ'->Kp H H'->RelM K μ' H'->ItOk K J l S H'->R J H')->wi σ H R
noncomputable def RI (X:Cx) (tg iter:Expr) (ti:TI3):Prop:=∃ wi,PI X tg iter wi /\ RdI X.K wi ti
section
variable {X:Cx} {tg iter a b c e:Expr} {ta tb te:TE3} {pos:Pos}
noncomputable def Its (z:Str):It:=⟨λ i _=>i < z.cps.size,λ i H x H'=>H'=H /\ ∃ c,z.cps[i]?=some c /\ x=.str ⟨#[c]⟩,λ i _=>z.cps.size<=i⟩
theorem ti1 {P:Program} {w:World} {K:Fg} {tg:Expr} (T:String) (x:Str) (t:Tok) (it:Addr)
    (hT:["enumerate", "zip", "dict_itemiterator", "dict_reverseitemiterator", "odict_iterator", "itertools.zip_longest", "itertools.pairwise"].contains T=false)
    (W:∀ A:Around,A.handled=none->Walks P w A it [it] [it] x.cps.size (SignAt x) (λ i h=>h.IsStrIter it T x t i))
    (sf:∀ (A:Around) (i:Nat) (s:Shared) (Q:Value->Shared->Prop) (E:Value->Shared->Prop),s.heap.IsStrIter it T x t i->Q (.ref it) s->wpAny (model P w) A (pyIter (.ref it)) Q E s) :
    Turn P w K tg (Its x) [it] it (λ i h=>h.IsStrIter it T x t i /\ i<=x.cps.size) where
 mem:=by simp
 obj:=λ i h st b hb=>by
  have e:b=it:=by simpa using hb
  subst e
  obtain ⟨⟨o,e,c,d⟩,_⟩:=st
  exact ⟨o,e,λ v z=>by rw [d] at z; cases z⟩
 keep:=λ i h h' st k=>by
  obtain ⟨⟨o,e,c,d⟩,l⟩:=st
  exact ⟨⟨o,k it (by simp) o e,c,d⟩,l⟩
 item:=by
  intro X hP hw hK hc i pins s σ H E I hf st hg
  subst hP hw hK
  obtain ⟨f0,f1,f2,f3,f4,f5⟩:=hf it (by simp)
  refine (W X.A (I.ok.hd hc)).item i s _ E hg st.1 λ v h' tk hP hst' hk=>?_
  obtain ⟨c,u,ec,rfl⟩:=hP
  have I1:Inv X pins σ H { s with heap:=h',toks:=tk }:=I.turned (t':=tk) (λ b o hb e=>hk b o (by simpa using hb) e) f0 f1 f3 f4 f5
  obtain ⟨o,e,c1,d⟩:=id hst'
  exact ⟨_,rfl,wf2 (s:={ s with heap:=h',toks:=tk }) e c1 d hT ⟨.str ⟨#[c]⟩,H,I1,⟨u,rfl⟩,⟨rfl,c,ec,rfl⟩,⟨hst',hg⟩,λ b hb=>(hf b hb).1⟩⟩
 done:=by
  intro X hP hw hK hc i pins s σ H E I hf st hg
  subst hP hw hK
  have hg':x.cps.size<=i:=hg
  obtain ⟨f0,f1,f2,f3,f4,f5⟩:=hf it (by simp)
  have e1:i=x.cps.size:=Nat.le_antisymm st.2 hg'
  subst e1
  exact (W X.A (I.ok.hd hc)).done s _ E st.1 λ h' tk hk=>⟨rfl,I.turned (t':=tk) (λ b o hb e=>hk b o (by simpa using hb) e) f0 f1 f3 f4 f5⟩
 self:=λ A i s Q E st h=>sf A i s Q E st.1 h
noncomputable def iSeq (K:Fg) (tl:TE):TI:=λ σ H R=>tl σ H λ x H1=>(∃ z,x=.str z /\ R (Its z) H1) \/ ∃ a,x=.ref a /\ (((∃ xs,SqL K H1 a xs) /\ R (Itl K a) H1) \/ ((∃ xs,SqT K H1 a xs) /\ R (Itt K a) H1))
theorem vm3 {l:Expr} {tl:TE} (hl:PE X l tl):PI X tg l (iSeq X.K tl):=by
 intro pins s σ H R I h
 refine thn (hl pins s σ H _ I h) λ v s1 ⟨x,H1,I1,r1,q1⟩=>?_
 have fp:∀ b ∈ [s1.heap.objs.size],FpOk X pins H1 b:=λ b hb=>by
  have e:b=s1.heap.objs.size:=by simpa using hb
  subst e
  exact I1.fpOk (Nat.le_refl _) (I1.hok.fresh (Nat.le_refl _))
 rcases q1 with ⟨z,e,q⟩ | ⟨a,e,q⟩
 ·subst e
  obtain ⟨t,rfl⟩:=r1
  cases ha:z.cps.all (· < 128)
  ·refine wpAny_pyIter_wide ha ?_
   exact ⟨s1.heap.objs.size,[s1.heap.objs.size],_,_,H1,rfl,I1.kept (t':=s1.toks) λ b o e=>Heap.get?_push_of_some _ e,ti1 "str_iterator" z t _ (by decide) (λ A hA=>Walks.strWide hA _ z t) (λ _ _ _ _ _ st h=>wpAny_pyIter_striter_wide st h),⟨⟨_,Heap.get?_push_size _ rfl,rfl,rfl⟩,Nat.zero_le _⟩,fp,q⟩
  ·refine wpAny_pyIter_ascii ha ?_
   exact ⟨s1.heap.objs.size,[s1.heap.objs.size],_,_,H1,rfl,I1.kept (t':=s1.toks) λ b o e=>Heap.get?_push_of_some _ e,ti1 "str_ascii_iterator" z t _ (by decide) (λ A hA=>Walks.strAscii hA _ z t) (λ _ _ _ _ _ st h=>wpAny_pyIter_striter_ascii st h),⟨⟨_,Heap.get?_push_size _ rfl,rfl,rfl⟩,Nat.zero_le _⟩,fp,q⟩
 subst e
 cases r1
 rcases q with ⟨⟨xs,hq⟩,q⟩ | ⟨⟨xs,hq⟩,q⟩
 ·obtain ⟨its,rv,p,hz⟩:=I1.list hq
  refine wpAny_pyIter_list p.isList ?_
  exact ⟨s1.heap.objs.size,[s1.heap.objs.size],_,_,H1,rfl,I1.kept (t':=s1.toks) λ b o e=>Heap.get?_push_of_some _ e,wr1 a _,⟨_,Heap.get?_push_size _ rfl,rfl,rfl⟩,fp,q⟩
 ·obtain ⟨its,rv,p,hz⟩:=I1.tuple hq
  refine wpAny_pyIter_tuple (show s1.heap.IsTuple a its.toArray from p) ?_
  exact ⟨s1.heap.objs.size,[s1.heap.objs.size],_,_,H1,rfl,I1.kept (t':=s1.toks) λ b o e=>Heap.get?_push_of_some _ e,ul1 a _,⟨_,Heap.get?_push_size _ rfl,rfl,rfl⟩,fp,q⟩
theorem ze2 {K:Fg} {H0:Hp} {a:Addr} {l:List D} {vs:List V} (h:SqT K H0 a vs) (r:RelDs K H0 l vs):ItOk K (Itt K a) l (λ _=>True) H0:=λ i H μ k m _=>by
 refine ⟨λ d e=>?_,λ hl=>⟨vs,SqT.mono k h,by rw [<- r.length]; exact hl⟩⟩
 obtain ⟨v,e1,r1⟩:=r.get e
 refine ⟨⟨vs,v,SqT.mono k h,e1⟩,λ x H2 y=>?_⟩
 obtain ⟨rfl,y⟩:=y
 have e2:=y vs (SqT.mono k h)
 rw [e1] at e2; cases e2
 exact ⟨Kp.refl _,m,r1.mono k⟩
theorem te2 {K:Fg} {H0:Hp} {a:Addr} {l:List D} {vs:List V} (h:SqF K H0 a vs) (r:RelDs K H0 l vs):ItOk K (Itl K a) l (λ _=>True) H0:=λ i H μ k m _=>by
 refine ⟨λ d e=>?_,λ hl=>⟨vs,(SqF.mono k h).l,by rw [<- r.length]; exact hl⟩⟩
 obtain ⟨v,e1,r1⟩:=r.get e
 refine ⟨⟨vs,v,(SqF.mono k h).l,e1⟩,λ x H2 y=>?_⟩
 obtain ⟨rfl,y⟩:=y
 have e2:=y vs (SqF.mono k h).l
 rw [e1] at e2; cases e2
 exact ⟨Kp.refl _,m,r1.mono k⟩
theorem ue2 {K:Fg} {H0:Hp} {a:Addr} {l:List D}:ItOk K (Itl K a) l (λ μ=>μ a=some (.lst l)) H0:=λ i H μ k m s=>by
 obtain ⟨vs,h,r⟩:=m a l s
 refine ⟨λ d e=>?_,λ hl=>⟨vs,SqL.of h,by rw [<- r.length]; exact hl⟩⟩
 obtain ⟨v,e1,r1⟩:=r.get e
 refine ⟨⟨vs,v,SqL.of h,e1⟩,λ x H2 y=>?_⟩
 obtain ⟨rfl,y⟩:=y
 have e2:=y vs (SqL.of h)
 rw [e1] at e2; cases e2
 exact ⟨Kp.refl _,m,r1⟩
theorem we2 {K:Fg} {H0:Hp} (z:Str):ItOk K (Its z) (z.cps.toList.map λ c=>D.str ⟨#[c]⟩) (λ _=>True) H0:=λ i H μ k m _=>by
 refine ⟨λ d e=>?_,λ hl=>by show z.cps.size<=i; simpa using hl⟩
 rw [List.getElem?_map,Array.getElem?_toList] at e
 cases ec:z.cps[i]? with
 | none=>rw [ec] at e; cases e
 | some c =>
  rw [ec] at e
  cases e
  refine ⟨?_,λ x H2 y=>?_⟩
  ·show i < z.cps.size
   rcases Nat.lt_or_ge i z.cps.size with h | h
   ·exact h
   ·rw [Array.getElem?_eq_none h] at ec; cases ec
  ·obtain ⟨rfl,c',ec',rfl⟩:=y
   rw [ec] at ec'; cases ec'
   exact ⟨Kp.refl _,m,.str _⟩
theorem sy0 (ha:RE X a ta):RI X tg a (is3 ta):=by
 obtain ⟨va,pa,ra⟩:=ha
 refine ⟨_,vm3 pa,λ σ H R ρ μ R3 s m h k=>ra σ H _ ρ μ _ s m h λ d μ1 v H1 h1 k1 r1 m1=>?_⟩
 cases r1 with
 | str z=>exact .inl ⟨z,rfl,k _ _ _ _ _ h1 k1 m1 (we2 z)⟩
 | tup hq rs=>exact .inr ⟨_,rfl,.inr ⟨⟨_,(SqT.of hq)⟩,k _ _ _ _ _ h1 k1 m1 (ze2 (SqT.of hq) rs)⟩⟩
 | fls hq rs=>exact .inr ⟨_,rfl,.inl ⟨⟨_,hq.l⟩,k _ _ _ _ _ h1 k1 m1 (te2 hq rs)⟩⟩
 | ref p =>
  dsimp only at h1
  cases e:μ1 p with
  | none=>rw [e] at h1; exact h1.elim
  | some oo =>
   cases oo with
   | ins _ _=>rw [e] at h1; exact h1.elim
   | dct _=>rw [e] at h1; exact h1.elim
   | dcl _=>rw [e] at h1; exact h1.elim
   | lst xs =>
    rw [e] at h1
    obtain ⟨vs,hv,rv⟩:=m1 p xs e
    exact .inr ⟨_,rfl,.inl ⟨⟨_,SqL.of hv⟩,k _ _ _ _ _ h1 k1 m1 ue2⟩⟩
 | _=>exact False.elim h1
theorem vb2 (lo:Int) (n i:Nat):(rngD lo n)[i]?=if i < n then some (.int (lo + i)) else none:=by
 unfold rngD
 rw [List.getElem?_map]
 by_cases h:i < n
 ·rw [List.getElem?_range h,if_pos h]; rfl
 ·rw [List.getElem?_eq_none (by simpa using h),if_neg h]; rfl
theorem wb2 (lo:Int) (n:Nat):(rngD lo n).length=n:=by simp [rngD]
theorem ve2 {K:Fg} {H0:Hp} (lo:Int) (n:Nat):ItOk K (Itr lo n) (rngD lo n) (λ _=>True) H0:=λ i H μ k m _=>by
 refine ⟨λ d e=>?_,λ hl=>by rw [wb2] at hl; exact hl⟩
 rw [vb2] at e
 split at e
 ·next h =>
  cases e
  refine ⟨h,λ x H2 y=>?_⟩
  obtain ⟨rfl,rfl⟩:=y
  exact ⟨Kp.refl _,m,.int _⟩
 ·cases e
theorem so0 {p:Pos} (hm:X.mg "range" = none) (ha:RE X a ta) (hg:Gl X "range" := by rfl) (hs:starEach [a] X.env=[(false,eval a X.env)]:=by rfl):RI X tg (.Call (.Name "range" p) [a] [] pos) (ir3 (za0 ta nil3)):=by
 obtain ⟨va,pa,ra⟩:=xa0 ha va0 hs
 refine ⟨_,vu1 hg hm pa hs,λ σ H R ρ μ R3 s m h k=>ra σ H _ ρ μ _ s m h λ ds μ1 vs H1 h1 k1 r1 m1=>?_⟩
 cases r1 with
 | nil=>exact False.elim h1
 | cons r1 r2 =>
  cases r2 with
  | cons _ _=>cases r1 <;> exact False.elim h1
  | nil =>
   cases r1 with
   | int j=>exact ⟨j,rfl,h1.1.1,h1.1.2,k _ _ _ _ _ h1.2 k1 m1 (ve2 _ _)⟩
   | _=>exact False.elim h1
theorem tq0 {body:List Stmt} {ti:TI3} {g:TG3} {tb:TS3} (hp:PassesOwn (model X.prog X.w) X.A X.env X.xe) (hc:X.calm=true) (hi:RI X tg iter ti) (hg:RG X tg g) (hb:RSs X body tb)
    (hs:∀ x,foldedSetIterable iter X.env x=pure x:=by intro _; rfl):RS X (.For tg iter body [] pos) (for3 ti g tb):=by
 obtain ⟨wi,pi,ri⟩:=hi
 obtain ⟨vg,pg,rg⟩:=hg
 obtain ⟨vb,pb,rb⟩:=hb
 refine ⟨_,zm3 hp hc pi pg pb hs,λ σ H D ρ μ D3 s m h k=>ri σ H _ ρ μ _ s m h λ l S μ1 J H1 h1 k1 m1 ok=>?_⟩
 refine ⟨λ i n σ2 H2=>n=l.length - i /\ i<=l.length /\ ∃ ρ2 μ2,RSt X.K H2 ρ2 σ2 /\ RelM X.K μ2 H2 /\ Kp H1 H2 /\ zq1 S g tb D3 (l.drop i) ρ2 μ2,⟨l.length,rfl,Nat.zero_le _,ρ,μ1,s.mono k1,m1,Kp.refl _,h1⟩,?_⟩
 rintro i n σ2 H2 ⟨rfl,hi,ρ2,μ2,s2,m2,k2,h2⟩
 by_cases hlt:i < l.length
 ·rw [List.drop_eq_getElem_cons hlt] at h2
  obtain ⟨hS,N,hN,h2⟩:=h2
  obtain ⟨ok1,_⟩:=ok i H2 μ2 k2 m2 hS
  obtain ⟨go,yl⟩:=ok1 l[i] (List.getElem?_eq_getElem hlt)
  refine .inr ⟨go,λ σ3 H3=>∃ ρ3 μ3,N ρ3 μ3 /\ RSt X.K H3 ρ3 σ3 /\ RelM X.K μ3 H3 /\ Kp H1 H3,λ σ3 H3 ⟨ρ3,μ3,hn,s3,m3,k3⟩=>⟨l.length - (i + 1),by omega,rfl,hlt,ρ3,μ3,s3,m3,k3,hN _ _ hn⟩,λ x H3 y=>?_⟩
  obtain ⟨k3,m3,r3⟩:=yl x H3 y
  refine rg x l[i] σ2 H3 _ ρ2 μ2 _ (s2.mono k3) m3 r3 h2 λ ρ4 μ4 σ4 H4 h4 k4 s4 m4=>?_
  have k14:Kp H1 H4:=k2.trans (k3.trans k4)
  exact rb σ4 H4 _ ρ4 μ4 _ s4 m4 h4 ⟨λ ρ5 μ5 σ5 H5 h5 k5 s5 m5=>⟨ρ5,μ5,h5,s5,m5,k14.trans k5⟩,λ ρ5 μ5 σ5 H5 h5 k5 s5 m5=>k.nx _ _ _ _ h5 (k1.trans (k14.trans k5)) s5 m5,
   λ ρ5 μ5 σ5 H5 h5 k5 s5 m5=>⟨ρ5,μ5,h5,s5,m5,k14.trans k5⟩,λ d μ5 v H5 h5 k5 r5 m5=>k.rt _ _ _ _ h5 (k1.trans (k14.trans k5)) r5 m5⟩
 ·have e:i=l.length:=by omega
  subst e
  rw [List.drop_length] at h2
  obtain ⟨hS,h2⟩:=h2
  exact .inl ⟨(ok _ H2 μ2 k2 m2 hS).2 (Nat.le_refl _),k.nx _ _ _ _ h2 (k1.trans k2) s2 m2⟩
noncomputable def lift (K:Fg) (sp:Sp3):Sp:=λ vs H Q _=>∃ ds μ Q3,RelDs K H ds vs /\ RelM K μ H /\ sp ds μ Q3 /\ Ks K H Q3 Q
noncomputable def Cal (P:Program) (w:World) (K:Fg) (mg:Str->Option Value) (base:Heap) (k:Nat) (x:Str) (ps:List Str) (sp:Sp3):Prop :=
 ∃ f fd,FnOk P w K mg base CX0 k f fd ps (lift K sp) /\ mg x=some (.ref f) /\ PySem.W.keepIn K (.ref f)=true /\ Binds K fd ps []
theorem Cal.mono {P:Program} {w:World} {K:Fg} {mg:Str->Option Value} {base:Heap} {j k:Nat} {x:Str} {ps:List Str} {sp:Sp3} (c:Cal P w K mg base j x ps sp) (h:j<=k):Cal P w K mg base k x ps sp:=by
 obtain ⟨f,fd,F,r⟩:=c
 exact ⟨f,fd,F.mono h,r⟩
variable {es:List Expr} {t:TA3} {x:Str} {p:Pos}
theorem zc0 {k:Nat} {ps:List Str} {sp:Sp3} (c:Cal X.prog X.w X.K X.mg X.base k x ps sp) (hr:Room k X.A) (ha:RA X (e :: es) t) (hg:Gl X x:=by rfl) (hdb:(x == ("__debug__" : Str))=false:=by decide)
    (he:starEach (e :: es) X.env=(false,eval e X.env) :: starEach es X.env:=by rfl) (hpl:(backTo pos (starEach es X.env)).any (·.1)=false:=by rfl):RE X (.Call (.Name x p) (e :: es) [] pos) (zb0 sp t):=by
 obtain ⟨f,fd,F,hm,hk,hb⟩:=c
 obtain ⟨va,pa,ra⟩:=ha
 refine ⟨_,wh1 F hr hg hm hk hb .nil vz3 pa hdb he hpl,λ σ H Q ρ μ Q3 s m h k=>ra σ H _ ρ μ _ s m h λ ds μ1 vs H1 h1 k1 r1 m1=>?_⟩
 rw [List.append_nil]
 exact ⟨ds,μ1,Q3,r1,m1,h1,k.after k1⟩
theorem vd0 {r:C3} {id:String} (hc:RC X (.builtin id) r) (hm:X.mg x=none) (hv:bootBuiltins x=some (.builtin id)) (ha:RA X (e :: es) t) (hg:Gl X x:=by rfl) (hn:x ≠ "__name__" := by decide) (hdb:(x == ("__debug__" : Str))=false:=by decide)
    (he:starEach (e :: es) X.env=(false,eval e X.env) :: starEach es X.env:=by rfl) (hpl:(backTo pos (starEach es X.env)).any (·.1)=false:=by rfl):RE X (.Call (.Name x p) (e :: es) [] pos) (zb0 r t):=by
 obtain ⟨r',pc,rc⟩:=hc
 obtain ⟨va,pa,ra⟩:=ha
 exact ⟨_,zk1 pc hg hm hv pa hn hdb he hpl,λ σ H Q ρ μ Q3 s m h k=>ra σ H _ ρ μ _ s m h λ ds μ1 vs H1 h1 k1 r1 m1=>rc ds vs H1 Q μ1 Q3 m1 r1 h1 (k.after k1)⟩
theorem vv0 {r:C3} {T:String} (hc:RC X (.type T) r) (hm:X.mg x=none) (hv:bootBuiltins x=some (.type T)) (ha:RA X (e :: es) t) (hg:Gl X x:=by rfl) (hn:x ≠ "__name__" := by decide) (hdb:(x == ("__debug__" : Str))=false:=by decide)
    (he:starEach (e :: es) X.env=(false,eval e X.env) :: starEach es X.env:=by rfl) (hpl:(backTo pos (starEach es X.env)).any (·.1)=false:=by rfl):RE X (.Call (.Name x p) (e :: es) [] pos) (zb0 r t):=by
 obtain ⟨r',pc,rc⟩:=hc
 obtain ⟨va,pa,ra⟩:=ha
 exact ⟨_,uu1 pc hg hm hv pa hn hdb he hpl,λ σ H Q ρ μ Q3 s m h k=>ra σ H _ ρ μ _ s m h λ ds μ1 vs H1 h1 k1 r1 m1=>rc ds vs H1 Q μ1 Q3 m1 r1 h1 (k.after k1)⟩
theorem vb0 {r3:R3} (hx:RX X r3) (ha:RE X a ta) (hb:RE X b tb) (hs:uz1 b:=by intro _ _; rfl):RE X (.Subscript a b pos) (o3 r3 ta tb):=by
 obtain ⟨r,po,ro⟩:=hx
 obtain ⟨va,pa,ra⟩:=ha
 obtain ⟨vb,pb,rb⟩:=hb
 exact ⟨_,xz3 po pa pb hs,ra.op rb ro⟩
end
section
variable {P:Program} {w:World} {K:Fg} {mg:Str->Option Value} {base:Heap}
theorem tw1 {x:Str} {st:Stmt} {f:Addr} {fd:FuncData} {N ps:List Str} {k:Nat} {sp:Sp3} {t:TS3} (F:Fun K x x st f fd) (S:FnScope N ps (ta0 st))
    (len:∀ ds μ Q,sp ds μ Q->ds.length=ps.length)
    (body:∀ (cdv:Value) (A:Around) (outer:List Env) (s:Shared) (H:Hp) (E:XK),Room k (A.deeper (envOfC x (ta0 st) s.heap.objs.size f cdv))->RSs (cxOf CX0 P w K mg base N x (ta0 st) f cdv A outer s H E).nox (wc0 st) t)
    (rd:∀ ds μ Q,sp ds μ Q->t { nx:=λ _ μ'=>Q .non μ',rt:=Q } (uc0 N ds) μ):FnOk P w K mg base CX0 (k + 1) f fd ps (lift K sp):=by
 refine F.ok S (λ vs H Q E h=>?_) (λ cdv A outer s H vs Q E hr h=>?_)
 ·obtain ⟨ds,μ,Q3,r,m,q,ks⟩:=h
  rw [<- r.length]; exact len _ _ _ q
 ·obtain ⟨ds,μ,Q3,r,m,q,ks⟩:=h
  obtain ⟨tv,p,rt⟩:=body cdv A outer s H E hr
  exact ⟨tv,p,rt _ H _ _ μ _ (RSt.start N r) m (rd ds μ Q3 q) ⟨λ ρ μ' σ H' h' k' s' m'=>ks _ _ _ _ h' k' .non m',λ ρ μ' σ H' h'=>False.elim h',λ ρ μ' σ H' h'=>False.elim h',ks⟩⟩
theorem zj0 {x:Str} {st:Stmt} {f:Addr} {fd:FuncData} {N ps:List Str} {k:Nat} {sp:Sp3} {t:TS3} (F:Fun K x x st f fd) (hm:mg x=some (.ref f)) (hb:Binds K fd ps []) (S:FnScope N ps (ta0 st))
    (len:∀ ds μ Q,sp ds μ Q->ds.length=ps.length)
    (body:∀ (cdv:Value) (A:Around) (outer:List Env) (s:Shared) (H:Hp) (E:XK),Room k (A.deeper (envOfC x (ta0 st) s.heap.objs.size f cdv))->RSs (cxOf CX0 P w K mg base N x (ta0 st) f cdv A outer s H E).nox (wc0 st) t)
    (rd:∀ ds μ Q,sp ds μ Q->t { nx:=λ _ μ'=>Q .non μ',rt:=Q } (uc0 N ds) μ):Cal P w K mg base (k + 1) x ps sp :=
 ⟨f,fd,tw1 F S len body rd,hm,F.kp,hb⟩
theorem xs0 {x:Str} {st:Stmt} {f:Addr} {fd:FuncData} {ps:List Str} {sp:Sp3} (F:Fun K x x st f fd) (hm:mg x=some (.ref f)) (hb:Binds K fd ps []) (no:∀ ds μ Q,¬ sp ds μ Q):Cal P w K mg base 0 x ps sp:=by
 have no':∀ vs H Q E,¬ lift K sp vs H Q E:=λ vs H Q E ⟨ds,μ,Q3,_,_,q,_⟩=>no _ _ _ q
 exact ⟨f,fd,⟨λ vs H Q E h=>absurd h (no' vs H Q E),λ A outer s H args us vs Q E _ _ _ _ h=>absurd h (no' vs H Q E)⟩,hm,F.kp,hb⟩
end
end Pv
namespace Pv
open PySem PySem.Spec PyProof.Rows L2
section
variable {X:Cx}
theorem RdO.i0 {K:Fg} {g3:Int->Int->D} {g:Int->Int->V} (hg:∀ i j H,RelD K H (g3 i j) (g i j)):RdO K (rI0 g) (uk0 g3):=λ x y v u H Q μ Q3 m rx ry h k=>by
 cases rx with
 | int i =>
  cases ry with
  | int j=>exact ⟨i,j,rfl,rfl,k _ _ _ _ h (Kp.refl _) (hg i j H) m⟩
  | _=>exact False.elim h
 | _=>cases ry <;> exact False.elim h
theorem RdO.i2 {K:Fg} {C:Int->Int->Prop} {g3:Int->Int->D} {g:Int->Int->V} (hg:∀ i j H,RelD K H (g3 i j) (g i j)):RdO K (rI C g) (int2 C g3):=λ x y v u H Q μ Q3 m rx ry h k=>by
 cases rx with
 | int i =>
  cases ry with
  | int j=>exact ⟨i,j,rfl,rfl,h.1,k _ _ _ _ h.2 (Kp.refl _) (hg i j H) m⟩
  | _=>exact False.elim h
 | _=>cases ry <;> exact False.elim h
theorem uv0:RO X (binaryOp .Sub) subR:=⟨_,uo3,RdO.i0 λ _ _ _=>.int _⟩
theorem ze1:RO X (binaryOp .Mod) modR:=⟨_,yp3,RdO.i2 λ _ _ _=>.int _⟩
theorem sb2:RO X (binaryOp .Pow) powR:=⟨_,so3,RdO.i2 λ _ _ _=>.int _⟩
theorem log2_lt {n k:Nat} (hk:0 < k) (h:n < 2 ^ k):n.log2 < k:=by
 rcases Nat.eq_zero_or_pos n with h0 | hp
 ·rw [h0]; simpa using hk
 ·exact (Nat.log2_lt (Nat.ne_of_gt hp)).mpr h
theorem yd2:OpR X (binaryOp .FloorDiv) (rI (λ _ j=>0 < j /\ j < 2 ^ 120) λ i j=>.int (i / j)):=opI λ i j _ _ _ _ _ hc q=>by
 have h1:(0:Int) < j:=hc.1
 have h2:j < 2 ^ 120:=hc.2
 refine floordiv_int (by omega) (by rw [Int.fdiv_eq_ediv_of_nonneg i (by omega)]; exact q) (.inl (PyProof.noPylong_of_log2 ?_))
 have h3:j.natAbs < 2 ^ 120:=by omega
 exact Nat.lt_trans (log2_lt (by decide) h3) (by decide)
theorem yj2:RO X (binaryOp .FloorDiv) tf2:=⟨_,yd2,RdO.i2 λ _ _ _=>.int _⟩
theorem CMul.mulok {i j:Int} (h:CMul i j):IntMulOk i j:=by
 rcases h with h | ⟨h1,h2⟩
 ·exact L2.CMul.ok h
 ·unfold IntMulOk
  intro e
  rw [Bool.and_eq_true] at e
  have e2:=e.2
  unfold Builtin.Int.intTooBig at e2
  have hb:∀ x:Int,x.natAbs < Big->Builtin.Int.intBits x<=1000:=λ x hx=>by
   unfold Builtin.Int.intBits
   split
   ·exact Nat.zero_le _
   ·exact log2_lt (by decide) hx
  have b1:=hb i h1
  have b2:=hb j h2
  have e3:=of_decide_eq_true e2
  have e4:(2000:Nat) < bitsLine:=by decide
  omega
theorem op_mulB:OpR X (binaryOp .Mult) (rI CMul λ i j=>.int (i * j)):=opI λ _ _ _ _ _ _ _ hc q=>mul_int q hc.mulok
theorem wp1:RU X (unaryOp .USub) negR:=⟨_,wx2,λ x v H Q μ Q3 m r h k=>by
 cases r with
 | int i=>exact ⟨i,rfl,k _ _ _ _ h (Kp.refl _) (.int _) m⟩
 | _=>exact False.elim h⟩
theorem q_lt:RO X (compareOp .Lt) ltR:=⟨_,uz3,RdO.i0 λ _ _ _=>.bl _⟩
theorem q_le:RO X (compareOp .LtE) leR:=⟨_,tz3,RdO.i0 λ _ _ _=>.bl _⟩
theorem q_gt:RO X (compareOp .Gt) gtR:=⟨_,sz3,RdO.i0 λ _ _ _=>.bl _⟩
theorem q_ge:RO X (compareOp .GtE) geR:=⟨_,xa4,RdO.i0 λ _ _ _=>.bl _⟩
noncomputable def xy3 (K:Fg):R2:=λ x y H Q=>∃ a b xs ys,x=.ref a /\ y=.ref b /\ SqT K H a xs /\ SqT K H b ys /\ xs.length + ys.length<=sizeLine ∧
 (xs=[]->Q (.ref b) H) /\ (ys=[]->Q (.ref a) H) /\ (∀ p,H p=none->Q (.ref p) (upd H p (.tup (xs ++ ys))))
theorem wr2:OpR X (binaryOp .Add) (xy3 X.K):=by
 intro pins s σ H x y v u Q I rx ry h
 obtain ⟨a,b,xs,ys,rfl,rfl,ha,hb,hz,q1,q2,q3⟩:=h
 by_cases hx:xs=[]
 ·cases rx
  cases ry
  obtain ⟨its,r,ht,_⟩:=I.tuple ha
  obtain ⟨its2,r2,ht2,_⟩:=I.tuple hb
  have hi:its=[]:=by subst hx; cases r; rfl
  obtain ⟨⟨cls,dd,data,sl⟩,ho,hc,n,hd⟩:=id ht
  obtain ⟨⟨cls2,dd2,data2,sl2⟩,ho2,hc2,n2,hd2⟩:=id ht2
  simp only at hc hd hc2 hd2
  subst hc hd hc2 hd2
  exact concat_meets ⟨_,ho,rfl⟩ ⟨_,ho2,rfl⟩ noFill_tuple_add seq_tuple_add PySem.F.slot_tuple_add PySem.F.entry_tuple_add (PySem.F.args_tuple_add_2 _ _)
   (tuple_addW0 a b its.toArray its2.toArray n n2 dd dd2 sl sl2 (by simp [hi])) ⟨ho,ho2,⟨.ref b,H,I,rfl,q1 hx⟩⟩
 ·exact zr2 pins s σ H _ _ v u Q I rx ry ⟨a,b,xs,ys,rfl,rfl,ha,hb,hx,hz,q2,λ _=>q3⟩
theorem te0:RO X (binaryOp .Add) addR:=by
 refine ⟨_,(op_add.or up1).or (op_cat.or wr2),λ x y v u H Q μ Q3 m rx ry h k=>?_⟩
 cases rx with
 | int i =>
  cases ry with
  | int j=>exact .inl (.inl ⟨i,j,rfl,rfl,k _ _ _ _ h (Kp.refl _) (.int _) m⟩)
  | _=>exact False.elim h
 | str i =>
  cases ry with
  | str j=>exact .inl (.inr ⟨i,j,rfl,rfl,h.1,k _ _ _ _ h.2 (Kp.refl _) (.str _) m⟩)
  | _=>exact False.elim h
 | ref p =>
  cases ry with
  | ref q =>
   dsimp only [addR] at h
   cases e:μ p with
   | none=>rw [e] at h; exact h.elim
   | some oo =>
    cases oo with
    | ins _ _=>rw [e] at h; exact h.elim
    | dct _=>rw [e] at h; exact h.elim
    | dcl _=>rw [e] at h; exact h.elim
    | lst xs =>
     cases e2:μ q with
     | none=>rw [e,e2] at h; exact h.elim
     | some o2 =>
      cases o2 with
      | ins _ _=>rw [e,e2] at h; exact h.elim
      | dct _=>rw [e,e2] at h; exact h.elim
      | dcl _=>rw [e,e2] at h; exact h.elim
      | lst ys =>
       rw [e,e2] at h
       obtain ⟨vs,hv,rv⟩:=m p xs e
       obtain ⟨us,hu,ru⟩:=m q ys e2
       refine .inr (.inl ⟨p,q,vs,us,rfl,rfl,hv,hu,by rw [<- rv.length,<- ru.length]; exact h.1,λ t ht=>?_⟩)
       exact k _ _ _ _ (h.2 t (m.free ht)) (Kp.new ht) (.ref t) (m.newL ht (rv.append ru))
  | _=>exact False.elim h
 | tup hq rs =>
  cases ry with
  | tup hq2 rs2 =>
   rename_i a l vs b l2 us
   refine .inr (.inr ⟨a,b,vs,us,rfl,rfl,(SqT.of hq),(SqT.of hq2),by rw [<- rs.length,<- rs2.length]; exact h.1,λ e=>?_,λ e=>?_,λ t ht=>?_⟩)
   ·subst e; cases rs
    exact k _ _ _ _ h.2 (Kp.refl _) (.tup hq2 rs2) m
   ·subst e; cases rs2
    have h2:=h.2
    rw [List.append_nil] at h2
    exact k _ _ _ _ h2 (Kp.refl _) (.tup hq rs) m
   ·exact k _ _ _ _ h.2 (Kp.new ht) (.tup tg0 ((rs.append rs2).mono (Kp.new ht))) (m.newT ht)
  | _=>exact False.elim h
 | _=>cases ry <;> exact False.elim h
theorem RelDs.atI {K:Fg} {H:Hp} {l:List D} {vs:List V} {i:Int} {d:D} (r:RelDs K H l vs) (e:Pv.atI l i=some d):∃ v,L2.atI vs i=some v /\ RelD K H d v:=by
 unfold Pv.atI at e
 unfold L2.atI
 rw [zr3,<- r.length]
 cases q:ixN l.length i with
 | none=>rw [q] at e; cases e
 | some j =>
  rw [q] at e
  exact r.get e
theorem q_ix:RX X ixR:=by
 refine ⟨_,ix_list.or vk0,λ x y v u H Q μ Q3 m rx ry h k=>?_⟩
 cases ry with
 | int i =>
  cases rx with
  | tup hq rs =>
   rename_i a l vs
   dsimp only [ixR] at h
   cases e:Pv.atI l i with
   | none=>rw [e] at h; exact h.elim
   | some d =>
    rw [e] at h
    obtain ⟨w,e1,r1⟩:=rs.atI e
    exact .inr ⟨a,vs,i,w,rfl,rfl,(SqT.of hq),e1,k _ _ _ _ h (Kp.refl _) r1 m⟩
  | ktp hq rs =>
   rename_i a l vs
   dsimp only [ixR] at h
   cases e:Pv.atI l i with
   | none=>rw [e] at h; exact h.elim
   | some d =>
    rw [e] at h
    obtain ⟨w,e1,r1⟩:=rs.atI e
    exact .inr ⟨a,vs,i,w,rfl,rfl,hq,e1,k _ _ _ _ h (Kp.refl _) r1 m⟩
  | fls hq rs =>
   rename_i a l vs
   dsimp only [ixR] at h
   cases e:Pv.atI l i with
   | none=>rw [e] at h; exact h.elim
   | some d =>
    rw [e] at h
    obtain ⟨w,e1,r1⟩:=rs.atI e
    exact .inl ⟨a,vs,i,w,rfl,rfl,hq.l,e1,k _ _ _ _ h (Kp.refl _) r1 m⟩
  | ref p =>
   dsimp only [ixR] at h
   cases e0:μ p with
   | none=>rw [e0] at h; exact h.elim
   | some oo =>
    cases oo with
    | ins _ _=>rw [e0] at h; exact h.elim
    | dct _=>rw [e0] at h; exact h.elim
    | dcl _=>rw [e0] at h; exact h.elim
    | lst l =>
     rw [e0] at h
     dsimp only at h
     obtain ⟨vs,hv,rs⟩:=m p l e0
     cases e:Pv.atI l i with
     | none=>rw [e] at h; exact h.elim
     | some d =>
      rw [e] at h
      obtain ⟨w,e1,r1⟩:=rs.atI e
      exact .inl ⟨p,vs,i,w,rfl,rfl,SqL.of hv,e1,k _ _ _ _ h (Kp.refl _) r1 m⟩
  | _=>exact False.elim h
 | _=>cases rx <;> exact False.elim h
theorem xa1 {K:Fg} {H:Hp}:∀ {l:List D} {vs:List V} {zs:List Str},RelDs K H l vs->strs? l=some zs->vs=zs.map V.str
 | _,_,zs,.nil,e=>by simp [strs?] at e; subst e; rfl
 | _,_,zs,.cons h r,e=>by
  cases h with
  | str x =>
   simp only [strs?] at e
   split at e
   ·next ys e1 =>
    simp only [Option.some.injEq] at e
    subst e
    rw [xa1 r e1]; rfl
   ·cases e
  | _=>simp [strs?] at e
theorem tk1 (z:Str) (zs:List Str):inV (.str z) (zs.map V.str)=zs.contains z:=by
 unfold inV
 rw [List.any_map]
 induction zs with
 | nil=>rfl
 | cons y r ih =>
  rw [List.any_cons,ih,List.contains_cons]
  congr 1
  show (y == z)=(z == y)
  rw [Bool.eq_iff_iff,beq_iff_eq,beq_iff_eq]
  exact eq_comm
theorem zf1 (zs:List Str):(zs.map V.str).all tb1=true:=by
 rw [List.all_map,List.all_eq_true]; intro _ _; rfl
theorem xp0:RC X (.builtin "len") lenR:=by
 refine ⟨_,call_len_seq.or sf1,λ xs vs H Q μ Q3 m r h k=>?_⟩
 cases r with
 | nil=>exact False.elim h
 | cons r1 r2 =>
  cases r2 with
  | cons _ _=>cases r1 <;> exact False.elim h
  | nil =>
   cases r1 with
   | tup hq rs =>
    rename_i a l vs
    refine .inl ⟨a,vs,rfl,.inr (SqT.of hq),?_⟩
    rw [<- rs.length]
    exact k _ _ _ _ h (Kp.refl _) (.int _) m
   | fls hq rs =>
    rename_i a l vs
    refine .inl ⟨a,vs,rfl,.inl hq.l,?_⟩
    rw [<- rs.length]
    exact k _ _ _ _ h (Kp.refl _) (.int _) m
   | str z=>exact .inr ⟨z,rfl,h.1,k _ _ _ _ h.2 (Kp.refl _) (.int _) m⟩
   | ref p =>
    dsimp only [lenR] at h
    cases e:μ p with
    | none=>rw [e] at h; exact h.elim
    | some oo =>
     cases oo with
     | ins _ _=>rw [e] at h; exact h.elim
     | dct _=>rw [e] at h; exact h.elim
     | dcl _=>rw [e] at h; exact h.elim
     | lst l =>
      rw [e] at h
      obtain ⟨vs,hv,rs⟩:=m p l e
      refine .inl ⟨p,vs,rfl,.inl (SqL.of hv),?_⟩
      rw [<- rs.length]
      exact k _ _ _ _ h (Kp.refl _) (.int _) m
   | _=>exact False.elim h
theorem yl3:RC X (.builtin "abs") absR:=by
 refine ⟨_,xh2,λ xs vs H Q μ Q3 m r h k=>?_⟩
 cases r with
 | nil=>exact False.elim h
 | cons r1 r2 =>
  cases r2 with
  | cons _ _=>cases r1 <;> exact False.elim h
  | nil =>
   cases r1 with
   | int i=>exact ⟨i,rfl,k _ _ _ _ h (Kp.refl _) (.int _) m⟩
   | _=>exact False.elim h
theorem uo2:RC X (.type "tuple") tupR:=by
 refine ⟨_,zc1,λ xs vs H Q μ Q3 m r h k=>?_⟩
 cases r with
 | nil=>exact False.elim h
 | cons r1 r2 =>
  cases r2 with
  | cons _ _=>cases r1 <;> exact False.elim h
  | nil =>
   cases r1 with
   | tup hq rs=>exact ⟨_,_,rfl,.inr ⟨(SqT.of hq),k _ _ _ _ h (Kp.refl _) (.tup hq rs) m⟩⟩
   | ref p =>
    dsimp only [tupR] at h
    cases e:μ p with
    | none=>rw [e] at h; exact h.elim
    | some oo =>
     cases oo with
     | ins _ _=>rw [e] at h; exact h.elim
     | dct _=>rw [e] at h; exact h.elim
     | dcl _=>rw [e] at h; exact h.elim
     | lst l =>
      rw [e] at h
      obtain ⟨vs,hv,rs⟩:=m p l e
      exact ⟨p,vs,rfl,.inl ⟨SqL.of hv,λ t ht=>k _ _ _ _ h (Kp.new ht) (.tup tg0 (rs.mono (Kp.new ht))) (m.newT ht)⟩⟩
   | _=>exact False.elim h
theorem uk1 {K:Fg} {H:Hp}:∀ {l:List D} {vs:List V} {zs:List Int},RelDs K H l vs->ints? l=some zs->vs=zs.map V.int
 | _,_,zs,.nil,e=>by simp [ints?] at e; subst e; rfl
 | _,_,zs,.cons h r,e=>by
  cases h with
  | int x =>
   simp only [ints?] at e
   split at e
   ·next ys e1 =>
    simp only [Option.some.injEq] at e
    subst e
    rw [uk1 r e1]; rfl
   ·cases e
  | _=>simp [ints?] at e
end
end Pv
namespace Pv
open PySem PySem.Spec PyProof.Rows L2
section
variable {X:Cx} {pins:List (Addr × Obj)} {σ:L2.St} {H:Hp} {s:Shared}
mutual
theorem wj0 (I:Inv X pins σ H s):∀ {d:D} {v:V} {p:PyData} {u:Value},RelD X.K H d v->dat d=some p->RelV v u->∃ as,Reads s.heap u p as
 | _,_,p,u,.non,e,r=>by simp only [dat,Option.some.injEq] at e; subst e; cases r; exact ⟨_,Reads.none⟩
 | _,_,p,u,.bl b,e,r=>by simp only [dat,Option.some.injEq] at e; subst e; cases r; exact ⟨_,Reads.bool b⟩
 | _,_,p,u,.int i,e,r=>by simp only [dat,Option.some.injEq] at e; subst e; obtain ⟨t,rfl⟩:=r; exact ⟨_,Reads.int i t⟩
 | _,_,p,u,.str x,e,r=>by
  simp only [dat] at e
  split at e
  ·simp only [Option.some.injEq] at e; subst e; obtain ⟨t,rfl⟩:=r; exact ⟨_,Reads.str x t⟩
  ·cases e
 | _,_,p,u,.ref a,e,r=>by simp [dat] at e
 | _,_,p,u,.ty n,e,r=>by simp [dat] at e
 | _,_,p,u,.fls _ _,e,r=>by simp [dat] at e
 | _,_,p,u,.exc _ _ _,e,r=>by simp [dat] at e
 | _,_,p,u,.tup hq rs,e,r=>by
  simp only [dat] at e
  split at e
  ·next ps e1 =>
   simp only [Option.some.injEq] at e; subst e
   cases r
   obtain ⟨its,rv,⟨o,ho,hc,n,hd⟩,hz⟩:=I.tuple (SqT.of hq)
   obtain ⟨as,q⟩:=zn0 I rs e1 rv
   exact ⟨_,Reads.tuple ho hc hd (by simpa using q)⟩
  ·cases e
 | _,_,p,u,.ktp hq rs,e,r=>by
  simp only [dat] at e
  split at e
  ·next ps e1 =>
   simp only [Option.some.injEq] at e; subst e
   cases r
   obtain ⟨its,rv,⟨o,ho,hc,n,hd⟩,hz⟩:=I.tuple hq
   obtain ⟨as,q⟩:=zn0 I rs e1 rv
   exact ⟨_,Reads.tuple ho hc hd (by simpa using q)⟩
  ·cases e
theorem zn0 (I:Inv X pins σ H s):∀ {l:List D} {vs:List V} {ps:List PyData} {us:List Value},RelDs X.K H l vs->dats l=some ps->Vals vs us->∃ as,ReadsAll s.heap us ps as
 | _,_,ps,us,.nil,e,r=>by simp only [dats,Option.some.injEq] at e; subst e; cases r; exact ⟨_,ReadsAll.nil⟩
 | _,_,ps,us,.cons h rs,e,r=>by
  simp only [dats] at e
  split at e
  ·next p e1 =>
   split at e
   ·next qs e2 =>
    simp only [Option.some.injEq] at e; subst e
    cases r with
    | cons r1 r2 =>
     obtain ⟨as,q1⟩:=wj0 I h e1 r1
     obtain ⟨bs,q2⟩:=zn0 I rs e2 r2
     exact ⟨_,ReadsAll.cons q1 q2⟩
   ·cases e
  ·cases e
end
theorem wm0 (I:Inv X pins σ H s) {μ:Mu} (m:RelM X.K μ H) {d:D} {v:V} {p:PyData} {u:Value} (h:RelD X.K H d v) (e:datM μ d=some p) (r:RelV v u):∃ as,Reads s.heap u p as:=by
 cases h with
 | ref a =>
  simp only [datM] at e
  split at e
  ·next l e0 =>
   split at e
   ·next ps e1 =>
    simp only [Option.some.injEq] at e; subst e
    cases r
    obtain ⟨vs,hv,rs⟩:=m a l e0
    obtain ⟨its,rv,pl,hz⟩:=I.list (SqL.of hv)
    obtain ⟨o,ho,hc,n,hd⟩:=pl.isList
    obtain ⟨as,q⟩:=zn0 I rs e1 rv
    exact ⟨_,Reads.list ho hc hd (by simpa using q)⟩
   ·cases e
  ·cases e
 | non=>exact wj0 I .non e r
 | bl b=>exact wj0 I (.bl b) e r
 | int i=>exact wj0 I (.int i) e r
 | str x=>exact wj0 I (.str x) e r
 | ty n=>exact wj0 I (.ty n) e r
 | tup hq rs=>exact wj0 I (.tup hq rs) e r
 | ktp hq rs=>exact wj0 I (.ktp hq rs) e r
 | fls hq rs=>exact wj0 I (.fls hq rs) e r
 | exc a1 a2 a3=>simp [datM,dat] at e
mutual
theorem zg0:∀ (d:D) (p:PyData),dat d=some p->p.canLay0=true
 | .non,p,e=>by simp only [dat,Option.some.injEq] at e; subst e; rfl
 | .bl b,p,e=>by simp only [dat,Option.some.injEq] at e; subst e; rfl
 | .int b,p,e=>by simp only [dat,Option.some.injEq] at e; subst e; rfl
 | .str x,p,e=>by
  simp only [dat] at e
  split at e
  ·next h=>simp only [Option.some.injEq] at e; subst e; exact h
  ·cases e
 | .tup l,p,e=>by
  simp only [dat] at e
  split at e
  ·next ps e1=>simp only [Option.some.injEq] at e; subst e; simp only [PyData.canLay0]; exact tn0 l ps e1
  ·cases e
 | .ktp l,p,e=>by
  simp only [dat] at e
  split at e
  ·next ps e1=>simp only [Option.some.injEq] at e; subst e; simp only [PyData.canLay0]; exact tn0 l ps e1
  ·cases e
 | .fls _,p,e=>by simp [dat] at e
 | .ref _,p,e=>by simp [dat] at e
 | .ty _,p,e=>by simp [dat] at e
theorem tn0:∀ (l:List D) (ps:List PyData),dats l=some ps->PyData.canLayAll0 ps=true
 | [],ps,e=>by simp only [dats,Option.some.injEq] at e; subst e; rfl
 | d :: r,ps,e=>by
  simp only [dats] at e
  split at e
  ·next p e1 =>
   split at e
   ·next qs e2 =>
    simp only [Option.some.injEq] at e; subst e
    simp only [PyData.canLayAll0,Bool.and_eq_true]
    exact ⟨zg0 d p e1,tn0 r qs e2⟩
   ·cases e
  ·cases e
end
theorem zi1 {μ:Mu} {d:D} {p:PyData} (e:datM μ d=some p):p.canLay0=true:=by
 cases d with
 | ref a =>
  simp only [datM] at e
  split at e
  ·next l e0 =>
   split at e
   ·next ps e1=>simp only [Option.some.injEq] at e; subst e; simp only [PyData.canLay0]; exact tn0 l ps e1
   ·cases e
  ·cases e
 | non=>exact zg0 _ p e
 | bl b=>exact zg0 _ p e
 | int i=>exact zg0 _ p e
 | str x=>exact zg0 _ p e
 | ty n=>exact zg0 _ p e
 | tup l=>exact zg0 _ p e
 | ktp l=>exact zg0 _ p e
 | fls l=>exact zg0 _ p e
 | exc c=>simp [datM,dat] at e
theorem ug0 {μ:Mu} {d:D} {p:PyData} (e:datM μ d=some p) (h:p.depth<=64):PySem.SeqAt.shaped p=true:=by
 unfold PySem.SeqAt.shaped
 rw [zi1 e,decide_eq_true h]; rfl
noncomputable def rEqD (K:Fg) (neg:Bool):R2:=λ x y H Q=>∃ d e μ p q,RelM K μ H /\ RelD K H d x /\ RelD K H e y /\ datM μ d=some p /\ datM μ e=some q /\ p.depth<=64 /\ q.depth<=64 /\ Q (.bl (if neg then !PyData.eqv p q else PyData.eqv p q)) H
theorem vp3 (hu:X.A.units + 64 < cLine):OpR X (compareOp .Eq) (rEqD X.K false):=by
 intro pins s σ H x y v u Q I rx ry h
 obtain ⟨d,e,μ,p,q,m,rd,re,e1,e2,h1,h2,k⟩:=h
 obtain ⟨as,q1⟩:=wm0 I m rd e1 rx
 obtain ⟨bs,q2⟩:=wm0 I m re e2 ry
 exact eq_dataH q1 q2 (ug0 e1 h1) (ug0 e2 h2) hu ⟨.bl _,H,I,rfl,k⟩
theorem xp3 (hu:X.A.units + 64 < cLine):OpR X (compareOp .NotEq) (rEqD X.K true):=by
 intro pins s σ H x y v u Q I rx ry h
 obtain ⟨d,e,μ,p,q,m,rd,re,e1,e2,h1,h2,k⟩:=h
 obtain ⟨as,q1⟩:=wm0 I m rd e1 rx
 obtain ⟨bs,q2⟩:=wm0 I m re e2 ry
 exact ne_dataH q1 q2 (ug0 e1 h1) (ug0 e2 h2) hu ⟨.bl _,H,I,rfl,k⟩
theorem zs3 {K:Fg} {H:Hp} {x y:D} {v u:V} {c:Bool} (rx:RelD K H x v) (ry:RelD K H y u) (e:eqS x y=some c):scal v u=true /\ decide (v=u)=c:=by
 unfold eqS at e
 split at e <;> first | (cases e; done) | (cases rx; cases ry; cases e; exact ⟨rfl,rfl⟩) | (cases rx; cases ry; cases e; refine ⟨rfl,?_⟩; simp)
theorem hu64 {A:Around} {k:Nat} (hr:Room k A):A.units + 64 < cLine:=by have:=hr.un; omega
noncomputable def rInD (K:Fg) (neg:Bool):R2:=λ x y H Q=>∃ d e μ p xs,∃ b:Bool,RelM K μ H /\ RelD K H d x /\ RelD K H e y /\ datM μ d=some p /\ datM μ e=some (if b then .list xs else .tuple xs) /\ p.depth<=64 /\ (if b then PyData.list xs else PyData.tuple xs).depth<=64 ∧
 Q (.bl (if neg then !(xs.any λ e=>PyData.eqv e p) else xs.any λ e=>PyData.eqv e p)) H
theorem wp3 (hu:X.A.units + 65 < cLine):OpR X (compareOp .In) (rInD X.K false):=by
 intro pins s σ H x y v u Q I rx ry h
 obtain ⟨d,e,μ,p,xs,b,m,rd,re,e1,e2,h1,h2,k⟩:=h
 obtain ⟨as,q1⟩:=wm0 I m rd e1 rx
 obtain ⟨bs,q2⟩:=wm0 I m re e2 ry
 cases b
 ·exact PySem.SeqAt.in_tuple_reads q2 q1 (PySem.SeqAt.canLay_of_shaped (ug0 e2 h2)) (PySem.SeqAt.canLay_of_shaped (ug0 e1 h1)) (room_in_shaped (ug0 e1 h1) hu) ⟨.bl _,H,I,rfl,k⟩
 ·exact PySem.SeqAt.in_list_reads q2 q1 (PySem.SeqAt.canLay_of_shaped (ug0 e2 h2)) (PySem.SeqAt.canLay_of_shaped (ug0 e1 h1)) (room_in_shaped (ug0 e1 h1) hu) ⟨.bl _,H,I,rfl,k⟩
theorem hu65 {A:Around} {k:Nat} (hr:Room k A):A.units + 65 < cLine:=by have:=hr.un; omega
theorem ys2 {K:Fg} {neg:Bool} {x y:D} {v u:V} {H:Hp} {Q:VK} {μ:Mu} {Q3:VK3} (m:RelM K μ H) (rx:RelD K H x v) (ry:RelD K H y u) (h:inD neg x y μ Q3) (k:Ks K H Q3 Q):rInD K neg v u H Q:=by
 unfold inD at h
 split at h
 ·next d xs e1 e2=>exact ⟨x,y,μ,d,xs,true,m,rx,ry,e1,e2,h.1.1,h.1.2,k _ _ _ _ h.2 (Kp.refl _) (.bl _) m⟩
 ·next d xs e1 e2=>exact ⟨x,y,μ,d,xs,false,m,rx,ry,e1,e2,h.1.1,h.1.2,k _ _ _ _ h.2 (Kp.refl _) (.bl _) m⟩
 ·exact h.elim
theorem RdO.inn {K:Fg} {neg:Bool}:RdO K (λ x y H Q=>(rIn K neg x y H Q \/ ∃ i j,x=.str i /\ y=.str j /\ Q (.bl (if neg then !(!(Builtin.Str.occurrences j i 0 j.length 1).isEmpty) else !(Builtin.Str.occurrences j i 0 j.length 1).isEmpty)) H) \/ rInD K neg x y H Q) (inR neg):=λ x y v u H Q μ Q3 m rx ry h k=>by
 unfold inR at h
 split at h
 ·next z l =>
  cases e:strs? l with
  | none=>rw [e] at h; exact .inr (ys2 m rx ry h k)
  | some zs =>
   rw [e] at h
   cases rx
   cases ry with
   | tup hq rs =>
    rename_i a vs
    have ev:=xa1 rs e
    refine .inl <| .inl ⟨a,vs,rfl,.inr (SqT.of hq),rfl,by rw [ev]; exact zf1 zs,?_⟩
    rw [ev,tk1]
    exact k _ _ _ _ h (Kp.refl _) (.bl _) m
 ·next z l =>
  cases e:strs? l with
  | none=>rw [e] at h; exact .inr (ys2 m rx ry h k)
  | some zs =>
   rw [e] at h
   cases rx
   cases ry with
   | ktp hq rs =>
    rename_i a vs
    have ev:=xa1 rs e
    refine .inl <| .inl ⟨a,vs,rfl,.inr hq,rfl,by rw [ev]; exact zf1 zs,?_⟩
    rw [ev,tk1]
    exact k _ _ _ _ h (Kp.refl _) (.bl _) m
 ·next z y =>
  cases rx
  cases ry
  exact .inl <| .inr ⟨z,y,rfl,rfl,k _ _ _ _ h (Kp.refl _) (.bl _) m⟩
 ·exact .inr (ys2 m rx ry h k)
theorem q_in (hu:X.A.units + 65 < cLine):RO X (compareOp .In) (inR false):=⟨_,(op_in_seq.or xv1).or (wp3 hu),RdO.inn⟩
theorem q_eq (hu:X.A.units + 64 < cLine):RO X (compareOp .Eq) eqR:=by
 refine ⟨_,op_eq.or (vp3 hu),λ x y v u H Q μ Q3 m rx ry h k=>?_⟩
 unfold eqR at h
 cases e:eqS x y with
 | some c =>
  rw [e] at h
  obtain ⟨h1,h2⟩:=zs3 rx ry e
  refine .inl ⟨h1,?_⟩
  rw [h2]
  exact k _ _ _ _ h (Kp.refl _) (.bl _) m
 | none =>
  rw [e] at h
  dsimp only at h
  cases e1:datM μ x with
  | none=>rw [e1] at h; exact h.elim
  | some p =>
   cases e2:datM μ y with
   | none=>rw [e1,e2] at h; exact h.elim
   | some q =>
    rw [e1,e2] at h
    exact .inr ⟨x,y,μ,p,q,m,rx,ry,e1,e2,h.1.1,h.1.2,k _ _ _ _ h.2 (Kp.refl _) (.bl _) m⟩
theorem q_ne (hu:X.A.units + 64 < cLine):RO X (compareOp .NotEq) neR:=by
 refine ⟨_,op_ne.or (xp3 hu),λ x y v u H Q μ Q3 m rx ry h k=>?_⟩
 unfold neR at h
 cases e:eqS x y with
 | some c =>
  rw [e] at h
  obtain ⟨h1,h2⟩:=zs3 rx ry e
  refine .inl ⟨h1,?_⟩
  rw [h2]
  exact k _ _ _ _ h (Kp.refl _) (.bl _) m
 | none =>
  rw [e] at h
  dsimp only at h
  cases e1:datM μ x with
  | none=>rw [e1] at h; exact h.elim
  | some p =>
   cases e2:datM μ y with
   | none=>rw [e1,e2] at h; exact h.elim
   | some q =>
    rw [e1,e2] at h
    exact .inr ⟨x,y,μ,p,q,m,rx,ry,e1,e2,h.1.1,h.1.2,k _ _ _ _ h.2 (Kp.refl _) (.bl _) m⟩
theorem xs2 (K:Fg):∀ t ∈ ["int", "str", "tuple", "bool", "NoneType", "list"],∀ T ∈ ["int", "str", "tuple", "bool", "list"],PySem.W.kitOne K (.type t) (.type T)=some (t == T || (t == "bool" && T == "int")):=by
 intro t ht T hT
 simp only [List.mem_cons,List.not_mem_nil,or_false] at ht hT
 rcases ht with rfl | rfl | rfl | rfl | rfl | rfl <;> rcases hT with rfl | rfl | rfl | rfl | rfl <;> with_unfolding_all rfl
theorem vr3 {K:Fg} {t T:String} {b:Bool} (e:isIn t T=some b) (ht:t ∈ ["int", "str", "tuple", "bool", "NoneType", "list"]) (hT:T ∈ ["int", "str", "tuple", "bool", "list"]):PySem.W.kitOne K (.type t) (.type T)=some b:=by
 rw [xs2 K t ht T hT]
 simp only [List.mem_cons,List.not_mem_nil,or_false] at ht hT
 rcases ht with rfl | rfl | rfl | rfl | rfl | rfl <;> rcases hT with rfl | rfl | rfl | rfl | rfl <;> simp [isIn] at e <;> subst e <;> rfl
theorem ur3 {t T:String} {b:Bool} (e:isIn t T=some b) (ht:t ∈ ["int", "str", "tuple", "bool", "NoneType", "list"]):T ∈ ["int", "str", "tuple", "bool", "list"] \/ (t=T /\ b=true):=by
 unfold isIn at e
 simp only [List.mem_cons,List.not_mem_nil,or_false] at ht ⊢
 split at e
 ·next h=>simp only [Option.some.injEq] at e; exact .inr ⟨h,e.symm⟩
 ·split at e
  ·next h=>rw [h.2]; simp
  ·split at e
   ·next h=>rcases h.2 with rfl | rfl | rfl | rfl | rfl <;> simp
   ·cases e
theorem ye2 (K:Fg) (t:String):PySem.W.kitOne K (.type t) (.type t)=some true:=by
 unfold PySem.W.kitOne
 rw [if_pos (by simp)]
noncomputable def rIsi (K:Fg):List V->Hp->VK->Prop:=λ xs H Q=>∃ d v μ t T b,xs=[v,.ty T] /\ RelM K μ H /\ RelD K H d v /\ tyN μ d=some t /\ isIn t T=some b /\ Q (.bl b) H
theorem sg2:CallR X (.builtin "isinstance") (rIsi X.K):=by
 intro pins s σ H xs us Q I r h
 obtain ⟨d,v,μ,t,T,b,rfl,m,rd,e1,e2,q⟩:=h
 obtain ⟨u,w',rfl,rx,ry⟩:=ul2 r
 cases ry
 have fin:∀ tk,EP X pins σ Q (.bool b) { s with toks:=tk }:=λ tk=>⟨.bl b,H,I.tok tk,rfl,q⟩
 have hk:∀ t',t' ∈ ["int", "str", "tuple", "bool", "NoneType", "list"]->isIn t' T=some b->PySem.W.kitOne X.K (.type t') (.type T)=some b:=λ t' h1 h2=>by
  rcases ur3 h2 h1 with z | ⟨rfl,rfl⟩
  ·exact vr3 h2 h1 z
  ·exact ye2 _ _
 cases rd with
 | non=>simp only [tyN,Option.some.injEq] at e1; subst e1; cases rx; exact PySem.W.kia_one PySem.W.kitx_none I.kIn True.intro (hk _ (by simp) e2) (λ z=>nomatch z) fin
 | bl y=>simp only [tyN,Option.some.injEq] at e1; subst e1; cases rx; exact PySem.W.kia_one PySem.W.kitx_bool I.kIn True.intro (hk _ (by simp) e2) (λ z=>nomatch z) fin
 | int i=>simp only [tyN,Option.some.injEq] at e1; subst e1; obtain ⟨tk,rfl⟩:=rx; exact PySem.W.kia_one PySem.W.kitx_int I.kIn True.intro (hk _ (by simp) e2) (λ z=>nomatch z) fin
 | str y=>simp only [tyN,Option.some.injEq] at e1; subst e1; obtain ⟨tk,rfl⟩:=rx; exact PySem.W.kia_one PySem.W.kitx_str I.kIn True.intro (hk _ (by simp) e2) (λ z=>nomatch z) fin
 | tup hq rs =>
  simp only [tyN,Option.some.injEq] at e1; subst e1; cases rx
  obtain ⟨its,rv,⟨o,ho,hc,_⟩,hz⟩:=I.tuple (SqT.of hq)
  exact PySem.W.kia_one PySem.W.kitx_tuple I.kIn ⟨o,ho,hc⟩ (hk _ (by simp) e2) (λ z=>nomatch z) fin
 | ref p =>
  simp only [tyN] at e1
  split at e1
  ·next l e0 =>
   simp only [Option.some.injEq] at e1; subst e1; cases rx
   obtain ⟨vs,hv,rs⟩:=m p l e0
   obtain ⟨its,rv,pl,hz⟩:=I.list (SqL.of hv)
   obtain ⟨o,ho,hc,_⟩:=pl.isList
   exact PySem.W.kia_one PySem.W.kitx_list I.kIn ⟨o,ho,hc⟩ (hk _ (by simp) e2) (λ z=>nomatch z) fin
  ·cases e1
 | ty n=>simp [tyN] at e1
 | fls _ _=>simp [tyN] at e1
 | ktp _ _=>simp [tyN] at e1
 | exc _ _ _=>simp [tyN] at e1
theorem to2:RC X (.builtin "isinstance") isiR:=by
 refine ⟨_,sg2,λ xs vs H Q μ Q3 m r h k=>?_⟩
 cases r with
 | nil=>exact False.elim h
 | cons r1 r2 =>
  cases r2 with
  | nil=>exact False.elim h
  | cons r2 r3 =>
   cases r3 with
   | cons _ _=>cases r2 <;> exact False.elim h
   | nil =>
    cases r2 with
    | ty T =>
     rename_i d v
     dsimp only [isiR] at h
     cases e:tyN μ d with
     | none=>rw [e] at h; exact h.elim
     | some t =>
      rw [e] at h
      dsimp only at h
      cases e2:isIn t T with
      | none=>rw [e2] at h; exact h.elim
      | some b =>
       rw [e2] at h
       exact ⟨d,v,μ,t,T,b,rfl,m,r1,e,e2,k _ _ _ _ h (Kp.refl _) (.bl _) m⟩
    | _=>exact False.elim h
variable {o e:Expr} {es:List Expr} {to:TE3} {t:TA3} {apos cpos:Pos}
theorem zw3 {name:Str} {id:String} {r:V->List V->Hp->VK->Prop} {r3:D->List D->Mu->VK3->Prop} (slot:Slot "list" name id) (hty:typeOf (.builtin id)=pure (.type "method_descriptor")) (hm:MtR X id r)
    (hrd:∀ p xs v vs H Q μ Q3,RelM X.K μ H->RelD X.K H (.ref p) v->RelDs X.K H xs vs->r3 (.ref p) xs μ Q3->Ks X.K H Q3 Q->r v vs H Q) (ho:RE X o to) (ha:RA X (e :: es) t)
    (hbase:attributeBase o name X.env (eval o X.env)=eval o X.env)
    (hfew:((backTo cpos (starEach (e :: es) X.env)).all (λ x=>!x.1) && (backToKw cpos (keywordEach [] X.env)).all (λ x=>x.1.isSome)
     && decide ((e :: es).length + ([]:List Keyword).length + (if ([]:List Keyword).isEmpty then 0 else 1) < 30))=true)
    (hline:(apos.endLine == cpos.line)=true) (hs:starEach (e :: es) X.env=(false,eval e X.env) :: starEach es X.env) (hplain:(backTo cpos (starEach es X.env)).any (·.1)=false) :
    RE X (.Call (.Attribute o name apos) (e :: es) [] cpos) (mt3 r3 to t):=by
 obtain ⟨va,pa,ra⟩:=ho
 obtain ⟨vb,pb,rb⟩:=ha
 refine ⟨_,zz3 PySem.F.plainAttrs_list slot hty hm pa pb hbase hfew hline hs hplain,λ σ H Q ρ μ Q3 s m h k=>ra σ H _ ρ μ _ s m h λ d μ1 v H1 h1 k1 r1 m1=>?_⟩
 cases r1 with
 | ref p =>
  dsimp only at h1
  cases e0:μ1 p with
  | none=>rw [e0] at h1; exact h1.elim
  | some oo =>
   cases oo with
   | ins _ _=>rw [e0] at h1; exact h1.elim
   | dct _=>rw [e0] at h1; exact h1.elim
   | dcl _=>rw [e0] at h1; exact h1.elim
   | lst l =>
    rw [e0] at h1
    obtain ⟨vs,hv,rs⟩:=m1 p l e0
    refine ⟨.inl ⟨rfl,vs,SqL.of hv⟩,rb σ H1 _ ρ μ1 _ (s.mono k1) m1 h1 λ xs μ2 ys H2 h2 k2 r2 m2=>?_⟩
    exact hrd p xs _ ys H2 Q μ2 Q3 m2 (.ref p) r2 h2 (k.after (k1.trans k2))
 | _=>exact False.elim h1
theorem tr0 (ho:RE X o to) (ha:RA X (e :: es) t) (hbase:attributeBase o "append" X.env (eval o X.env)=eval o X.env:=by rfl)
    (hfew:((backTo cpos (starEach (e :: es) X.env)).all (λ x=>!x.1) && (backToKw cpos (keywordEach [] X.env)).all (λ x=>x.1.isSome)
     && decide ((e :: es).length + ([]:List Keyword).length + (if ([]:List Keyword).isEmpty then 0 else 1) < 30))=true:=by rfl)
    (hline:(apos.endLine == cpos.line)=true:=by rfl) (hs:starEach (e :: es) X.env=(false,eval e X.env) :: starEach es X.env:=by rfl) (hplain:(backTo cpos (starEach es X.env)).any (·.1)=false:=by rfl) :
    RE X (.Call (.Attribute o "append" apos) (e :: es) [] cpos) (mt3 appR to t):=by
 refine zw3 PySem.F.slot_list_append PySem.F.type_list_append ue1 (λ p xs v vs H Q μ Q3 m rp rx h k=>?_) ho ha hbase hfew hline hs hplain
 cases rp
 cases rx with
 | nil=>exact False.elim h
 | cons r1 r2 =>
  cases r2 with
  | cons _ _=>exact False.elim h
  | nil =>
   dsimp only [appR] at h
   cases e0:μ p with
   | none=>rw [e0] at h; exact h.elim
   | some oo =>
    cases oo with
    | ins _ _=>rw [e0] at h; exact h.elim
    | dct _=>rw [e0] at h; exact h.elim
    | dcl _=>rw [e0] at h; exact h.elim
    | lst l =>
     rw [e0] at h
     obtain ⟨vs,hv,rs⟩:=m p l e0
     exact ⟨p,vs,_,rfl,rfl,hv,by rw [<- rs.length]; exact h.1,k _ _ _ _ h.2 (Kp.wr hv) .non (m.wr hv (rs.append (.cons r1 .nil)))⟩
end
end Pv
namespace Pv
open PySem PySem.Spec PyProof.Rows L2
noncomputable abbrev sk0 (X:Cx) (NN:List Str) (scope:Scope) (cl:List (Str × Addr)) (C:Addr) (fp:List Addr) (s₀:Shared) (H₀:Hp) (pn:List (Addr × Obj)):Cx :=
 { X with N:=NN,s₀:=s₀,H₀:=H₀,env:=compEnvC scope cl C X.env,outer:=X.stack,ex:=fp,fn:=λ _=>false,pn:=pn,xe:=λ _ _=>False }
structure CompSc (X:Cx) (NN:List Str) (scope:Scope) (cl:List (Str × Addr)) (js:List (Option Nat)):Prop where
 clos:closureFor scope X.env=pure cl
 cell:∀ y ∈ scope.names,y.2 ≠ .cell
 kind:scope.kind=.function
 names:∀ y ∈ scope.names,y.2=.local->scope.names.lookup y.1=some .local
 sub:∀ x c,cl.lookup x=some c->X.env.cells.lookup x=some c
 has:∀ x,((relabel scope X.env).names.lookup x=some .cell \/ (relabel scope X.env).names.lookup x=some .free)->∃ c,cl.lookup x=some c
 len:js.length=NN.length
 out:∀ (i j:Nat),js[i]?=some (some j)->∃ x,NN[i]?=some x /\ X.N[j]?=some x /\ Vis X.env.scope x /\ X.env.scope.names.lookup x ≠ some .local /\ ((relabel scope X.env).names.lookup x=some .cell \/ (relabel scope X.env).names.lookup x=some .free)
theorem ws0 {α:Type} {x:Str} {k:α}:∀ {l:List (Str × α)},l.lookup x=some k->(x,k) ∈ l
 | [],h=>by simp at h
 | (n,k') :: r,h=>by
  rw [List.lookup_cons] at h
  split at h
  ·next e=>simp only [Option.some.injEq] at h; subst h; rw [eq_of_beq e]; exact List.mem_cons_self
  ·exact List.mem_cons_of_mem _ (ws0 h)
noncomputable def vw0 (js:List (Option Nat)) (σ:L2.St):L2.St:=js.map λ j=>j.bind λ j=>(σ[j]?).bind id
noncomputable def PTs (X:Cx) (ifs:List Expr) (t:TT):Prop:=∀ (pins:List (Addr × Obj)) (s:Shared) (σ:L2.St) (H:Hp) (Q:Bool->Hp->Prop),Inv X pins σ H s->t σ H Q ->
 wpAny (model X.prog X.w) X.A (forIn ifs true λ c r=>if r=true then do let ok <- isTrue c X.env (eval c X.env); pure (ForInStep.yield ok) else pure (ForInStep.yield r)) (TP X pins σ Q) X.xe s
theorem yp2 {X:Cx} {c:Expr} {t:TT} (h:PT X c t):PTs X [c] t:=λ pins s σ H Q I q=>wpAny_tests_one (h pins s σ H Q I q)
noncomputable def za2 (js:List (Option Nat)) (wi:TI) (g:TG) (tc:TT) (te:TE):TE:=λ σ H Q=>wi σ H λ J H1=>∀ p,H1 p=none ->
 ∃ W:Nat->Nat->L2.St->Hp->Prop,(∃ m,W 0 m (vw0 js σ) (upd H1 p (.lst []))) /\ ∀ i m σ' H',W i m σ' H' ->
  ((J.stop i H' /\ Q (.ref p) H') \/ (J.go i H' /\ ∀ x H2,J.yld i H' x H2->g x σ' H2 λ σ3 H3=>tc σ3 H3 λ b H4 =>
   if b=true then te σ3 H4 λ y H5=>∃ ys,H5 p=some (.lst ys) /\ ys.length < sizeLine /\ ∃ m',m' < m /\ W (i + 1) m' σ3 (upd H5 p (.lst (ys ++ [y]))) else ∃ m',m' < m /\ W (i + 1) m' σ3 H4))
section
variable {X:Cx} {NN:List Str} {scope:Scope} {cl:List (Str × Addr)} {js:List (Option Nat)}
theorem vt2 {pins:List (Addr × Obj)} {σ:L2.St} {H:Hp} {s:Shared} {fp:List Addr} {pn:List (Addr × Obj)} (hc:X.calm=true) (S:CompSc X NN scope cl js) (I:Inv X pins σ H s) (f:∀ b ∈ fp,FpOk X pins H b /\ b < s.heap.objs.size) :
    (sk0 X NN scope cl s.heap.objs.size fp s H pn).Ok where
 mod:=I.ok.mod
 kind:=S.kind
 glob:=I.ok.glob
 blt:=I.ok.blt
 above:=Nat.le_refl _
 inj:=λ x y c h1 h2=>I.ok.inj x y c (S.sub x c h1) (S.sub y c h2)
 has:=λ x h=>S.has x h
 cab:=λ x c h=>by cases h
 hd:=λ _=>I.ok.hd hc
 frames:=I.ok.frames
 stk:=.inl rfl
 exf:=λ b hb=>⟨Nat.ne_of_lt (f b hb).2,λ x c e=>(f b hb).1.2.2.2.2.1 x c (S.sub x c e)⟩
 bs:=I.bs
 bsz:=Nat.le_trans I.ok.bsz I.sz
 noex:=λ b o e hb=>by
  rcases (f b hb).1.2.2.2.1 with z | z
  ·exact I.ok.noex b o e z
  ·exact absurd (Nat.lt_of_lt_of_le (Heap.lt_size e) (Nat.le_trans I.ok.bsz z)) (Nat.lt_irrefl _)
 exfs:=λ b hb hfs=>by
  rcases List.mem_cons.mp (I.stkSub b hfs) with z | z
  ·exact (f b hb).1.2.1 z
  ·exact (f b hb).1.2.2.1 z
 funs:=I.stack
 frf:=I.stkFree
theorem zw1 {js:List (Option Nat)} {σ:L2.St} {i:Nat} {v:V} (h:(vw0 js σ)[i]?=some (some v)):∃ j,js[i]?=some (some j) /\ σ[j]?=some (some v):=by
 unfold vw0 at h
 rw [List.getElem?_map] at h
 cases q:js[i]? with
 | none=>rw [q] at h; cases h
 | some o =>
  rw [q] at h
  cases o with
  | none=>simp at h
  | some j =>
   refine ⟨j,rfl,?_⟩
   simp only [Option.map_some,Option.bind_some,Option.some.injEq] at h
   cases e:σ[j]? with
   | none=>rw [e] at h; simp at h
   | some w=>rw [e] at h; simp only [Option.bind_some,id] at h; rw [h]
theorem ux1 {pins:List (Addr × Obj)} {σ:L2.St} {H:Hp} {s:Shared} {fp:List Addr} {h₁:Heap} {m:Str->Option Value} {tk:Nat} (hc:X.calm=true) (S:CompSc X NN scope cl js) (I:Inv X pins σ H s) (f:∀ b ∈ fp,FpOk X pins H b /\ b < s.heap.objs.size)
    (hn:h₁.Ns s.heap.objs.size m) (k:∀ b u,s.heap.get? b=some u->h₁.get? b=some u):Inv (sk0 X NN scope cl s.heap.objs.size fp s H (X.pn ++ pins)) [] (vw0 js σ) H { s with heap:=h₁,toks:=tk } where
 ok:=vt2 hc S I f
 os:=rfl
 bare:=I.bare
 base:=Un.kept k
 loc:=by
  refine ⟨m,hn,λ i x v h1 h2 h3=>?_⟩
  obtain ⟨j,e1,e2⟩:=zw1 h2
  obtain ⟨y,q1,q2,q3,q4,q5⟩:=S.out i j e1
  have q1':NN[i]?=some x:=h1
  rw [q1] at q1'; cases q1'
  obtain ⟨mX,_,hl⟩:=I.loc
  obtain ⟨u,r,l⟩:=hl j x v q2 e2 q3
  refine ⟨u,r,.inr ⟨q5,?_⟩⟩
  rcases l with ⟨z,_⟩ | ⟨_,c,hc',hcell⟩
  ·exact absurd z q4
  ·obtain ⟨c',hc2⟩:=S.has x q5
   have e:=S.sub x c' hc2
   rw [hc'] at e; cases e
   obtain ⟨o,ho,hd⟩:=hcell
   exact ⟨c,hc2,o,k _ _ ho,hd⟩
 cell:=λ x c e=>by
  obtain ⟨v,o,ho,hd⟩:=I.cell x c (S.sub x c e)
  exact ⟨v,o,k _ _ ho,hd⟩
 free:=I.hok.fresh (Nat.le_refl _)
 freeC:=λ x c e=>I.freeC x c (S.sub x c e)
 pin:=λ p hp=>by
  have hp':p ∈ X.pn ++ pins:=by simpa using hp
  obtain ⟨h1,h2,h3,h4,h5⟩:=I.pin p hp'
  refine ⟨k _ _ h1,h2,Nat.ne_of_lt (Heap.lt_size h1),λ z=>?_,h5⟩
  rcases List.mem_cons.mp (I.stkSub _ z) with z | z
  ·exact h3 z
  ·exact h4 z
 hok:=I.hok.kept k
 len:=by show (vw0 js σ).length=NN.length; unfold vw0; rw [List.length_map]; exact S.len
end
end Pv
namespace Pv
open PySem PySem.Spec PyProof.Rows L2
theorem ui0:bootBuiltins "len" = some (.builtin "len"):=by decide +kernel
theorem zl2:bootBuiltins "abs" = some (.builtin "abs"):=by decide +kernel
theorem vj0:bootBuiltins "isinstance" = some (.builtin "isinstance"):=by decide +kernel
theorem wc1:bootBuiltins "tuple" = some (.type "tuple"):=by decide +kernel
theorem yl2:bootBuiltins "int" = some (.type "int"):=by decide +kernel
theorem wu2:bootBuiltins "list" = some (.type "list"):=by decide +kernel
theorem wt3:bootBuiltins "max" = some (.builtin "max"):=by decide +kernel
noncomputable def RTs (X:Cx) (ifs:List Expr) (t:TT3):Prop:=∃ tv,PTs X ifs tv /\ RdT X.K tv t
theorem sn2 {X:Cx} {c:Expr} {t:TT3} (h:RT X c t):RTs X [c] t:=let ⟨tv,p,r⟩:=h; ⟨tv,yp2 p,r⟩
theorem se2 {K:Fg} {H:Hp} {ρ:St3} {σ:L2.St} (s:RSt K H ρ σ) (js:List (Option Nat)):RSt K H (js.map λ j=>j.bind (getI ρ)) (vw0 js σ):=by
 refine ⟨by simp [vw0],λ i d e=>?_⟩
 rw [sh1,List.getElem?_map] at e
 unfold vw0
 rw [List.getElem?_map]
 cases q:js[i]? with
 | none=>rw [q] at e; cases e
 | some o =>
  rw [q] at e
  cases o with
  | none=>simp at e
  | some j =>
   have e':getI ρ j=some d:=by simpa using e
   obtain ⟨v,h1,h2⟩:=s.at' j d e'
   exact ⟨v,by simp [h1],h2⟩
theorem RdE.comp {K:Fg} {js:List (Option Nat)} {wi:TI} {g:TG} {tc:TT} {te:TE} {ti:TI3} {g3:TG3} {tc3:TT3} {te3:TE3} (ri:RdI K wi ti) (rg:RdG K g g3) (rt:RdT K tc tc3) (re:RdE K te te3):RdE K (za2 js wi g tc te) (tx1 js ti g3 tc3 te3):=by
 intro σ H Q ρ μ Q3 s m h k
 refine ri σ H _ ρ μ _ s m h λ l S μ1 J H1 h1 k1 m1 ok p hp=>?_
 obtain ⟨W,w0,hS,hn,hs⟩:=h1 p (m1.free hp)
 have kn:Kp H1 (upd H1 p (.lst [])):=Kp.new hp
 refine ⟨λ i n σ2 H2=>n=l.length - i /\ i<=l.length /\ ∃ ρ2 μ2 ys,RSt K H2 ρ2 σ2 /\ RelM K μ2 H2 /\ Kp H1 H2 /\ W (l.drop i) ys ρ2 μ2,⟨l.length,rfl,Nat.zero_le _,_,_,[],(se2 (s.mono k1) js).mono kn,m1.newL hp .nil,kn,w0⟩,?_⟩
 rintro i n σ2 H2 ⟨rfl,hi,ρ2,μ2,ys,s2,m2,k2,w2⟩
 obtain ⟨hS2,hp2⟩:=hS _ _ _ _ w2
 by_cases hlt:i < l.length
 ·rw [List.drop_eq_getElem_cons hlt] at w2
  obtain ⟨hz,h2⟩:=hs _ _ _ _ _ w2
  obtain ⟨ok1,_⟩:=ok i H2 μ2 k2 m2 hS2
  obtain ⟨go,yl⟩:=ok1 l[i] (List.getElem?_eq_getElem hlt)
  refine .inr ⟨go,λ x H3 y=>?_⟩
  obtain ⟨k3,m3,r3⟩:=yl x H3 y
  refine rg x l[i] σ2 H3 _ ρ2 μ2 _ (s2.mono k3) m3 r3 h2 λ ρ4 μ4 σ4 H4 h4 k4 s4 m4=>?_
  refine rt σ4 H4 _ ρ4 μ4 _ s4 m4 h4 λ b μ5 H5 h5 k5 m5=>?_
  have k15:Kp H1 H5:=k2.trans (k3.trans (k4.trans k5))
  cases b with
  | false=>exact ⟨l.length - (i + 1),by omega,rfl,hlt,ρ4,μ5,ys,s4.mono k5,m5,k15,h5⟩
  | true =>
   refine re σ4 H5 _ ρ4 μ5 _ (s4.mono k5) m5 h5 λ d μ6 v H6 h6 k6 r6 m6=>?_
   obtain ⟨vs,hv,rv⟩:=m6 p ys h6.1
   refine ⟨vs,hv,by rw [<- rv.length]; exact hz,l.length - (i + 1),by omega,rfl,hlt,ρ4,_,_,((s4.mono k5).mono k6).mono (Kp.wr hv),m6.wr hv (rv.append (.cons r6 .nil)),(k15.trans k6).trans (Kp.wr hv),h6.2⟩
 ·have e:i=l.length:=by omega
  subst e
  rw [List.drop_length] at w2
  exact .inl ⟨(ok _ H2 μ2 k2 m2 hS2).2 (Nat.le_refl _),k _ _ _ _ (hn _ _ _ w2) (k1.trans k2) (.ref p) m2⟩
section
variable {X:Cx} {elt target iter:Expr} {ifs:List Expr} {pos:Pos} {ti:TI3} {g:TG3} {tc:TT3} {te:TE3} {NN:List Str} {scope:Scope} {cl:List (Str × Addr)} {js:List (Option Nat)}
end
end Pv
namespace Pv
open PySem PySem.Spec PyProof.Rows L2
mutual
inductive TupK (K:Fg):List D->Addr->Prop where
 | mk {a:Addr} {l:List D} {its:Array Value} {n:Nat} {od:Option Addr} {sl:Array (Option Value)}:K.lookup a=some ⟨.type "tuple",od,.seq its n,sl⟩->its.size<=sizeLine->ItK K l its.toList->TupK K l a
inductive ItK (K:Fg):List D->List Value->Prop where
 | nil:ItK K [] []
 | int {i:Int} {t:Tok} {l:List D} {us:List Value}:ItK K l us->ItK K (.int i :: l) (.int i t :: us)
 | str {x:Str} {t:Tok} {l:List D} {us:List Value}:ItK K l us->ItK K (.str x :: l) (.str x t :: us)
 | bl {b:Bool} {l:List D} {us:List Value}:ItK K l us->ItK K (.bl b :: l) (.bool b :: us)
 | tup {a:Addr} {l' l:List D} {us:List Value}:TupK K l' a->ItK K l us->ItK K (.ktp l' :: l) (.ref a :: us)
end
mutual
theorem TupK.rel {K:Fg}:∀ {l:List D} {a:Addr},TupK K l a->∀ H,RelD K H (.ktp l) (.ref a)
 | _,_,.mk h1 h2 h3,H=>by
  obtain ⟨vs,r,rd⟩:=h3.rel
  exact .ktp (.inr ⟨_,_,_,h1,rfl,rfl,h2,r⟩) (rd H)
theorem ItK.rel {K:Fg}:∀ {l:List D} {us:List Value},ItK K l us->∃ vs,Vals vs us /\ ∀ H,RelDs K H l vs
 | _,_,.nil=>⟨[],.nil,λ _=>.nil⟩
 | _,_,.int h=>let ⟨vs,r,rd⟩:=h.rel; ⟨_,.cons (show RelV (.int _) _ from ⟨_,rfl⟩) r,λ H=>.cons (.int _) (rd H)⟩
 | _,_,.str h=>let ⟨vs,r,rd⟩:=h.rel; ⟨_,.cons (show RelV (.str _) _ from ⟨_,rfl⟩) r,λ H=>.cons (.str _) (rd H)⟩
 | _,_,.bl h=>let ⟨vs,r,rd⟩:=h.rel; ⟨_,.cons (show RelV (.bl _) _ from rfl) r,λ H=>.cons (.bl _) (rd H)⟩
 | _,_,.tup h0 h=>let ⟨vs,r,rd⟩:=h.rel; ⟨_,.cons (show RelV (.ref _) _ from rfl) r,λ H=>.cons (h0.rel H) (rd H)⟩
end
section
variable {K:Fg} {h:Heap} {mg:Str->Option Value} {x:Str}
theorem uw1 {i:Int} {t:Tok} (X:K.In h) (G:h.Ns mainGlobals mg) (e:PySem.W.nsIn K mainGlobals x=some (some (.int i t))):Gd K mg x (.int i):=⟨_,.int i,PySem.W.mg_of X G e,⟨_,rfl⟩,λ _=>.int i⟩
theorem vw1 {a:Addr} {l:List D} (X:K.In h) (G:h.Ns mainGlobals mg) (e:PySem.W.nsIn K mainGlobals x=some (some (.ref a))) (r:TupK K l a):Gd K mg x (.ktp l):=⟨_,.ref a,PySem.W.mg_of X G e,rfl,λ H=>r.rel H⟩
end
theorem yf1 {K:Fg} {H:Hp}:∀ ns:List Int,RelDs K H (ns.map D.int) (ns.map V.int)
 | []=>.nil
 | n :: r=>.cons (.int n) (yf1 r)
theorem td2 {K:Fg} {H:Hp} {a:Addr} {ns:List Int} {sp:Sp3} (hO:Only H) (hS:SqL K H a (ns.map V.int)) (h:sp [.fls (ns.map D.int)] (λ _=>none) (λ d _=>d=.bl true)) :
    lift K sp [.ref a] H (λ v _=>v=.bl true) λ _ _ _=>False:=by
 have hF:SqF K H a (ns.map V.int):=by
  rcases hS with (h1 | ⟨o,h1⟩) | h1
  ·rcases hO a with z | ⟨o,xs,z⟩
   ·rw [h1] at z; cases z
   ·rw [h1] at z; cases z
  ·exact .inl ⟨o,h1⟩
  ·exact .inr h1
 refine ⟨_,_,_,.cons (.fls hF (yf1 ns)) .nil,(⟨λ p xs e=>(by cases e),λ p c fs e=>(by cases e),λ p kvs e=>(by cases e),λ p kvs e=>(by cases e)⟩),h,λ d μ' v H' q _ r _=>?_⟩
 subst q
 cases r
 rfl
end Pv
namespace Pv
open PySem PySem.Spec PyProof.Rows L2
open PySem.AutoSeq1 (wpAny_loadPart')
theorem sg1 (l:Addr) (items:Array Value) (n:Nat) (dd:Option Addr) (sl:Array (Option Value)) (x:Int) (u:Tok) (hc0:(decide (x < -(2 ^ 63)) || decide (x ≥ 2 ^ 63))=false) (hc1:(items.isEmpty || x == 1)=true) :
    Meets (Builtin.«tuple.__mul__» ⟨[.ref l,.int x u],[]⟩) (λ _ R s=>s.heap.get? l=some { cls:=.type "tuple",dict:=dd,data:=.seq items n,slots:=sl } /\ R (.ok (.ret (.ref l))) s) :=
 .of_wp λ prog w A R s h=>by
  obtain ⟨hp,g,d,tk,os⟩:=s; obtain ⟨hl,h⟩:=h
  have f1:=AutoSeq1.idx_int
  have f2:=AutoSeq1.sub_tuple_tuple
  wp_walk using wpAny_loadPart' hl
  refine wpAny_ite_false (decide_eq_false (by rw [hc0]; exact Bool.false_ne_true)) ?_
  wp_walk using wpAny_loadPart' hl
  exact ⟨_,rfl,h⟩
theorem tg1 (l:Addr) (items:Array Value) (n:Nat) (dd:Option Addr) (sl:Array (Option Value)) (x:Int) (u:Tok) (hc0:(decide (x < -(2 ^ 63)) || decide (x ≥ 2 ^ 63))=false) (hc1:(items.isEmpty || x == 1)=false) (hc2:(decide (x<=0) || items.isEmpty)=true) :
    Meets (Builtin.«tuple.__mul__» ⟨[.ref l,.int x u],[]⟩) (λ _ R s=>s.heap.get? l=some { cls:=.type "tuple",dict:=dd,data:=.seq items n,slots:=sl } /\ R (.ok (.ret (.ref s.heap.objs.size))) { s with heap:=s.heap.push { cls:=.type "tuple",data:=.seq #[] } }) :=
 .of_wp λ prog w A R s h=>by
  obtain ⟨hp,g,d,tk,os⟩:=s; obtain ⟨hl,h⟩:=h
  have f1:=AutoSeq1.idx_int
  have f2:=AutoSeq1.sub_tuple_tuple
  wp_walk using wpAny_loadPart' hl
  refine wpAny_ite_false (decide_eq_false (by rw [hc0]; exact Bool.false_ne_true)) ?_
  wp_walk using wpAny_loadPart' hl
  exact ⟨_,rfl,h⟩
theorem ug1 (l:Addr) (items:Array Value) (n:Nat) (dd:Option Addr) (sl:Array (Option Value)) (x:Int) (u:Tok) (hc0:(decide (x < -(2 ^ 63)) || decide (x ≥ 2 ^ 63))=false) (hc1:(items.isEmpty || x == 1)=false) (hc2:(decide (x<=0) || items.isEmpty)=false)
    (hc3:¬ ((items.size:Int) * x > (2 ^ 63 - 1) / 8)) (hc4:Builtin.Tuple.tupleTooMany ((items.size:Int) * x)=false) (hz:((List.replicate x.toNat items).foldl (· ++ ·) #[]).size<=sizeLine) :
    Meets (Builtin.«tuple.__mul__» ⟨[.ref l,.int x u],[]⟩) (λ _ R s=>s.heap.get? l=some { cls:=.type "tuple",dict:=dd,data:=.seq items n,slots:=sl } /\ R (.ok (.ret (.ref s.heap.objs.size))) { s with heap:=s.heap.push { cls:=.type "tuple",data:=.seq ((List.replicate x.toNat items).foldl (· ++ ·) #[]) } }) :=
 .of_wp λ prog w A R s h=>by
  obtain ⟨hp,g,d,tk,os⟩:=s; obtain ⟨hl,h⟩:=h
  have f1:=AutoSeq1.idx_int
  have f2:=AutoSeq1.sub_tuple_tuple
  wp_walk using wpAny_loadPart' hl
  refine wpAny_ite_false (decide_eq_false (by rw [hc0]; exact Bool.false_ne_true)) ?_
  wp_walk using wpAny_loadPart' hl
  refine wpAny_ite_false (decide_eq_false hc3) ?_
  wp_walk using wpAny_loadPart' hl
  all_goals try (refine wpAny_ite_false (decide_eq_false (by rw [hc4]; exact Bool.false_ne_true)) ?_)
  have hsz:((List.replicate x.toNat items).foldl (· ++ ·) #[]).size<=sizeLine:=hz
  wp_walk using wpAny_loadPart' hl
  exact ⟨_,rfl,h⟩
theorem sv0:fillsNumberSlot (.type "tuple") "mul" = pure false :=
 PySem.fillsNumberSlot_seq (id := "tuple.__mul__") (r:=some (.builtin "tuple.__rmul__")) F.slot_tuple_mul.lookup (by decide +kernel) F.slot_tuple_rmul.lookup (by decide +kernel)
theorem zv0:seqRepeat? (.type "tuple")=pure (some (.builtin "tuple.__mul__")):=by
 unfold seqRepeat?
 rw [PySem.seqSlot_of F.slot_tuple_mul.lookup (T := "tuple") (name := "__mul__") (id := "tuple.__mul__") (by decide +kernel),PySem.seqSlot_of F.slot_tuple_rmul.lookup (T := "tuple") (name := "__rmul__") (id := "tuple.__rmul__") (by decide +kernel)]
 rfl
theorem vy0 (a:Int) (t:Tok) (l:Addr) (its:Array Value) (n:Nat) (dd:Option Addr) (sl:Array (Option Value)) :
    Meets (Builtin.«int.__rmul__» ⟨[.int a t,.ref l],[]⟩) (λ _ R s=>s.heap.get? l=some ⟨.type "tuple",dd,.seq its n,sl⟩ /\ R (.ok (.ret .notImplemented)) s) :=
 .of_wp λ prog w A R s h=>by
  obtain ⟨hp,g,d,tk,os⟩:=s
  obtain ⟨hl,h⟩:=h
  wp_walk using wpAny_loadPart' hl
  exact ⟨_,rfl,h⟩
section
variable {X:Cx}
noncomputable def tx3 (K:Fg):R2:=λ x y H Q=>∃ a k xs,x=.ref a /\ y=.int k /\ SqT K H a xs /\ -(2 ^ 62)<=k /\ k < 2 ^ 62 /\ xs.length * k.toNat<=1000000 /\ (xs=[] \/ k=1->Q (.ref a) H) /\ ∀ p,H p=none->Q (.ref p) (upd H p (.tup (List.replicate k.toNat xs).flatten))
theorem op_repT:OpR X (binaryOp .Mult) (tx3 X.K):=by
 intro pins s σ H x y v u Q I rx ry h
 obtain ⟨a,k,xs,rfl,rfl,hq,h1,h2,hz,q1,q2⟩:=h
 cases rx
 obtain ⟨t,rfl⟩:=ry
 obtain ⟨its,r,⟨⟨cls,dd,data,sl⟩,ho,hc,n,hd⟩,hl⟩:=I.tuple hq
 simp only at hc hd
 subst hc hd
 have hlen:its.length=xs.length:=r.length.symm
 have c0:(decide (k < -(2 ^ 63)) || decide (k ≥ 2 ^ 63))=false:=by
  rw [decide_eq_false (by omega),decide_eq_false (by omega)]; rfl
 refine wpAny_binaryOp_repeat_ref (T := "tuple") (U := "int") (by decide) ⟨_,ho,rfl⟩ (λ s'=>typeIs_int s' k t) sv0 F.fills_int_mul F.slot_int_rmul zv0 F.slot_int_index.lookup
  (call_meets F.slot_int_rmul (typeIs_int s k t) F.entry_int_rmul (F.args_int_rmul_2 _ _) (vy0 k t a its.toArray n dd sl) ⟨ho,rfl,⟨_,ho,rfl⟩,?_⟩)
 by_cases e1:xs=[] \/ k=1
 ·refine call_meets F.slot_tuple_mul ⟨_,ho,rfl⟩ F.entry_tuple_mul (F.args_tuple_mul_2 _ _) (sg1 a its.toArray n dd sl k t c0 ?_) ⟨ho,⟨.ref a,H,I,rfl,q1 e1⟩⟩
  rcases e1 with e1 | e1
  ·subst e1; cases r; rfl
  ·subst e1; simp
 ·have hne:its ≠ []:=λ z=>e1 (.inl (by subst z; cases r; rfl))
  have hk1:k ≠ 1:=λ z=>e1 (.inr z)
  have c1:(its.toArray.isEmpty || k == 1)=false:=by simp [hne,hk1]
  have hf:H s.heap.objs.size=none:=I.hok.fresh (Nat.le_refl _)
  by_cases e2:k<=0
  ·have hk0:k.toNat=0:=by omega
   refine call_meets F.slot_tuple_mul ⟨_,ho,rfl⟩ F.entry_tuple_mul (F.args_tuple_mul_2 _ _) (tg1 a its.toArray n dd sl k t c0 c1 (by simp [e2])) ⟨ho,?_⟩
   refine ⟨.ref _,upd H s.heap.objs.size (.tup []),I.laid (t':=s.toks) (λ b ob q=>Heap.get?_push_of_some _ q) (Nat.le_refl _) ⟨by rw [sizeLine_eq]; decide,[],.nil,IsTup.new _ _⟩,rfl,?_⟩
   have:=q2 _ hf
   rw [hk0] at this
   exact this
  ·have fr:List.foldl (· ++ ·) #[] (List.replicate k.toNat its.toArray)=(List.replicate k.toNat its).flatten.toArray:=by
     have:=tw0 its k.toNat []
     rw [List.nil_append] at this
     exact this
   have hb:(1000000:Nat)<=sizeLine:=by rw [sizeLine_eq]; decide
   have hm:(its.toArray.size:Int) * k<=1000000:=by
    rw [List.size_toArray,hlen]
    have:((xs.length * k.toNat:Nat):Int)<=1000000:=by omega
    rw [Int.natCast_mul,Int.toNat_of_nonneg (by omega)] at this
    exact this
   have hsz:(List.replicate k.toNat its).flatten.length<=sizeLine:=by rw [th1,Nat.mul_comm,hlen]; omega
   refine call_meets F.slot_tuple_mul ⟨_,ho,rfl⟩ F.entry_tuple_mul (F.args_tuple_mul_2 _ _) (ug1 a its.toArray n dd sl k t c0 c1 (by simp [hne]; omega) (by omega) ?_ (by rw [fr,List.size_toArray]; exact hsz)) ⟨ho,?_⟩
   ·unfold Builtin.Tuple.tupleTooMany
    rw [decide_eq_false (by omega)]
   ·rw [fr]
    refine ⟨.ref _,upd H s.heap.objs.size (.tup (List.replicate k.toNat xs).flatten),I.laid (t':=s.toks) (λ b ob q=>Heap.get?_push_of_some _ q) (Nat.le_refl _) ⟨?_,_,r.rep k.toNat,IsTup.new _ _⟩,rfl,q2 _ hf⟩
    rw [th1,Nat.mul_comm]; omega
theorem ta1:RO X (binaryOp .Mult) mulR:=by
 refine ⟨_,op_mulB.or (op_repT.or to3),λ x y v u H Q μ Q3 m rx ry h k=>?_⟩
 cases ry with
 | int j =>
  cases rx with
  | int i=>exact .inl ⟨i,j,rfl,rfl,h.1,k _ _ _ _ h.2 (Kp.refl _) (.int _) m⟩
  | tup hq rs =>
   rename_i a l vs
   refine .inr (.inl ⟨a,j,vs,rfl,rfl,(SqT.of hq),h.1.1.1,h.1.1.2,by rw [<- rs.length]; exact h.1.2,λ e=>?_,λ p hp=>?_⟩)
   ·rcases e with e | e
    ·subst e; cases rs
     have h2:=h.2
     have e:(List.replicate j.toNat ([]:List D)).flatten=[]:=by simp
     rw [e] at h2
     exact k _ _ _ _ h2 (Kp.refl _) (.tup hq .nil) m
    ·subst e
     have h2:=h.2
     have e:(List.replicate (1:Int).toNat l).flatten=l:=by simp
     rw [e] at h2
     exact k _ _ _ _ h2 (Kp.refl _) (.tup hq rs) m
   ·exact k _ _ _ _ h.2 (Kp.new hp) (.tup tg0 ((rs.rep _).mono (Kp.new hp))) (m.newT hp)
  | ref p =>
   dsimp only [mulR] at h
   cases e:μ p with
   | none=>rw [e] at h; exact h.elim
   | some oo =>
    cases oo with
    | ins _ _=>rw [e] at h; exact h.elim
    | dct _=>rw [e] at h; exact h.elim
    | dcl _=>rw [e] at h; exact h.elim
    | lst l =>
     rw [e] at h
     obtain ⟨vs,hv,rv⟩:=m p l e
     have hb:(1000000:Nat)<=sizeLine:=by rw [sizeLine_eq]; decide
     refine .inr (.inr ⟨p,j,vs,rfl,rfl,hv,by have:=h.1.1.1; omega,by have:=h.1.1.2; omega,by rw [<- rv.length]; exact Nat.le_trans h.1.2 hb,λ t ht=>?_⟩)
     exact k _ _ _ _ (h.2 t (m.free ht)) (Kp.new ht) (.ref t) (m.newL ht (rv.rep _))
  | _=>exact False.elim h
 | _=>cases rx <;> exact False.elim h
theorem xz1:CallR X (.type "int") (λ xs H Q=>∃ z n,xs=[.str z] /\ PySem.intText? z=some n /\ z.length<=640 /\ Q (.int n) H):=by
 intro pins s σ H xs us Q I r h
 obtain ⟨z,n,rfl,e,hl,q⟩:=h
 obtain ⟨u,rfl,t,rfl⟩:=vz0 r
 exact PySem.W.KIN.call_text e hl ⟨.int n,H,I.tok _,⟨_,rfl⟩,q⟩
theorem zy3:RC X (.type "int") intR:=by
 refine ⟨_,call_int1.or xz1,λ xs vs H Q μ Q3 m r h k=>?_⟩
 cases r with
 | nil=>exact False.elim h
 | cons r1 r2 =>
  cases r2 with
  | cons _ _=>cases r1 <;> exact False.elim h
  | nil =>
   cases r1 with
   | int i=>exact .inl (.inl ⟨i,rfl,k _ _ _ _ h (Kp.refl _) (.int _) m⟩)
   | bl b=>exact .inl (.inr ⟨b,rfl,k _ _ _ _ h (Kp.refl _) (.int _) m⟩)
   | str z =>
    dsimp only [intR] at h
    cases e:PySem.intText? z with
    | none=>rw [e] at h; exact h.elim
    | some n =>
     rw [e] at h
     exact .inr ⟨z,n,rfl,e,h.1,k _ _ _ _ h.2 (Kp.refl _) (.int _) m⟩
   | _=>exact False.elim h
theorem vr1 {prog:Program} {w:World} {A:Around} {E:Value->Shared->Prop} {s:Shared} {t sl:Addr} {items:Array Value} {vl vu:Value} {lo hi:Option Int} {Q:Value->Shared->Prop} (ht:IsTup s.heap t items) (hs:s.heap.IsSliceOf sl vl vu .none) (pl:IsPart vl lo) (pu:IsPart vu hi)
    (hw:HT.sIx items.size 0 lo=0 /\ HT.sIx items.size items.size hi=items.size) (h:Q (.ref t) s):wpAny (model prog w) A (getItem (.ref t) (.ref sl)) Q E s:=by
 obtain ⟨os,hos,hcs,hds⟩:=id hs
 have hTs:s.TypeIs (.ref sl) "slice" := ⟨os,hos,hcs⟩
 unfold getItem
 try with_reducible refine wpAny_holding ?_
 first | refine wpAny_bind (wpAny_pure ?_) | skip
 refine wpAny_bind (wpAny_sequenceKey ht.typeIs (by decide) ?_)
 refine wpAny_bind (wpAny_callSpecial?_slot ht.typeIs (name:=Str.ofString "__getitem__") PyProof.Rows.slot_tuple_getitem (wpAny_call_entry PyProof.Rows.slot_tuple_getitem ht.typeIs entry_tuple_getitem ?_ (args_tuple_getitem _ _)))
 show wpAny _ _ (Builtin.Tuple.tupleItemsOf (.ref t) >>= _) _ _ s
 refine wpAny_bind (tupleItemsOf_ ht ?_)
 refine wpAny_bind (wpAny_typeOf hTs ?_)
 rw [if_pos (by decide)]
 refine wpAny_bind (HT.sliceApplied_gen hs pl pu ?_)
 rw [hw.1,hw.2]
 show wpAny _ _ (if ((((0:Nat):Int) == 0 && (1:Int) == 1 && (items.size - 0) == items.size)=true) then _ else _) _ _ s
 rw [if_pos (by simp)]
 refine wpAny_bind (m:=Builtin.Tuple.tupleIsExact _) (wpAny_bind (wpAny_typeOf ht.typeIs (wpAny_pure ?_)))
 rw [if_pos (by decide)]
 refine wpAny_bind (wpAny_rule ?_)
 first
  | exact wpAny_pure ⟨_,rfl,wpAny_pure h⟩
  | exact wpAny_bind (wpAny_pure (wpAny_pure ⟨_,rfl,wpAny_pure h⟩))
  | exact wpAny_bind (wpAny_bind (wpAny_pure (wpAny_pure (wpAny_pure ⟨_,rfl,wpAny_pure h⟩))))
noncomputable def rSlA (K:Fg):V->Option Int->Option Int->Hp->VK->Prop:=λ x lo hi H Q=>∃ a xs,x=.ref a /\ SqT K H a xs /\ (cutV xs lo hi=xs->Q (.ref a) H) /\ ∀ p,H p=none->Q (.ref p) (upd H p (.tup (cutV xs lo hi)))
theorem sl_tupA:SlR X (rSlA X.K):=by
 intro pins s σ H x v vl vu lo hi sl Q I rx hs pl pu h
 obtain ⟨a,xs,rfl,hx,q1,q2⟩:=h
 by_cases hw:HT.sIx xs.length 0 lo=0 /\ HT.sIx xs.length xs.length hi=xs.length
 ·cases rx
  obtain ⟨its,r,ht,hz⟩:=I.tuple hx
  have hlen:its.toArray.size=xs.length:=by rw [List.size_toArray]; exact r.length.symm
  have e:cutV xs lo hi=xs:=by unfold cutV; rw [hw.1,hw.2]; simp
  exact ⟨"tuple",_,PyProof.Rows.slot_tuple_getitem.lookup,ht.typeIs,vr1 ht hs pl pu (by rw [hlen]; exact hw) ⟨.ref a,H,I,rfl,q1 e⟩⟩
 ·exact ta3 pins s σ H _ v vl vu lo hi sl Q I rx hs pl pu ⟨a,xs,rfl,hx,hw,q2⟩
theorem tn2:∀ (n d:Nat) (o:Option Int),HT.sIx n d o=sIx3 n d o
 | _,_,none=>rfl
 | _,_,some _=>rfl
theorem RelDs.cut {K:Fg} {H:Hp} {l:List D} {vs:List V} (r:RelDs K H l vs) (lo hi:Option Int):RelDs K H (cut3 l lo hi) (cutV vs lo hi):=by
 unfold cut3 cutV
 rw [<- r.length]
 simp only [tn2]
 exact (r.drop _).take _
noncomputable def RdP (K:Fg) (tv:TO) (t:TO3):Prop:=∀ σ H Q ρ μ Q3,RSt K H ρ σ->RelM K μ H->t ρ μ Q3->(∀ o μ' H',Q3 o μ'->Kp H H'->RelM K μ' H'->Q o H')->tv σ H Q
noncomputable def RP (X:Cx) (e:Option Expr) (t:TO3):Prop:=∃ tv,PO X e tv /\ RdP X.K tv t
theorem wd0:RP X none np3:=⟨_,zq2,λ σ H Q ρ μ Q3 s m h k=>k _ _ _ h (Kp.refl _) m⟩
theorem yd0 {e:Expr} {te:TE3} (h:RE X e te):RP X (some e) (pt3 te):=by
 obtain ⟨tv,p,r⟩:=h
 refine ⟨_,yq2 p,λ σ H Q ρ μ Q3 s m h k=>r σ H _ ρ μ _ s m h λ d μ1 v H1 h1 k1 r1 m1=>?_⟩
 cases r1 with
 | int i=>exact ⟨i,rfl,k _ _ _ h1 k1 m1⟩
 | _=>exact False.elim h1
noncomputable def RL (X:Cx) (r3:D->Option Int->Option Int->Mu->VK3->Prop):Prop:=∃ r,SlR X r /\ ∀ x v lo hi H Q μ Q3,RelM X.K μ H->RelD X.K H x v->r3 x lo hi μ Q3->Ks X.K H Q3 Q->r v lo hi H Q
noncomputable def rSlS:V->Option Int->Option Int->Hp->VK->Prop:=λ x lo hi H Q=>∃ z:Str,x=.str z /\ z.length<=sizeLine /\ Q (.str ⟨(cut3 z.cps.toList lo hi).toArray⟩) H
theorem ua3 (lo hi:Option Int) (n:Nat):Builtin.Str.strSliceIndices lo hi 1 n=sliceRange ((sIx3 n 0 lo:Nat):Int) ((sIx3 n n hi:Nat):Int) 1:=by
 unfold Builtin.Str.strSliceIndices
 have a1:∀ (d:Nat) (v:Option Int),(match v with | none=>((d:Nat):Int) | some i=>(if (1:Int) > 0 then max 0 (min (if i < 0 then i + (n:Int) else i) (n:Int)) else max (-1) (min (if i < 0 then i + (n:Int) else i) ((n:Int) - 1))))=((sIx3 n d v:Nat):Int):=λ d v=>by
  cases v with
  | none=>rfl
  | some i =>
   simp only [sIx3,show (1:Int) > 0 by decide,if_true]
   by_cases h:i < 0
   ·simp only [h,if_true]; omega
   ·simp only [h,if_false]; omega
 have e1:=a1 0 lo
 have e2:=a1 n hi
 simp only [show (1:Int) > 0 by decide,if_true] at e1 e2 ⊢
 rw [<- e1,<- e2]
 cases lo <;> cases hi <;> rfl
theorem yb3 (n:Nat) (o:Option Int):sIx3 n n o<=n:=by
 cases o with
 | none=>exact Nat.le_refl _
 | some v =>
  show (if v < 0 then (v + (n:Int)).toNat else min v.toNat n)<=n
  split <;> omega
theorem sa3:SlR X rSlS:=by
 intro pins s σ H x v vl vu lo hi sl Q I rx hs pl pu h
 obtain ⟨z,rfl,hz,q⟩:=h
 obtain ⟨t,rfl⟩:=rx
 refine ⟨"str",_,F.slot_str_getitem.lookup,typeIs_str _ _ _,?_⟩
 have hl:∃ l:Option (Int × Tok),partValue l=vl /\ l.map (·.1)=lo:=by
  cases pl with
  | none=>exact ⟨none,rfl,rfl⟩
  | int i t=>exact ⟨some (i,t),rfl,rfl⟩
 have hu:∃ u:Option (Int × Tok),partValue u=vu /\ u.map (·.1)=hi:=by
  cases pu with
  | none=>exact ⟨none,rfl,rfl⟩
  | int i t=>exact ⟨some (i,t),rfl,rfl⟩
 obtain ⟨l,rfl,rfl⟩:=hl
 obtain ⟨u,rfl,rfl⟩:=hu
 refine wpAny_getItem_str_slice (l:=l) (u:=u) (st:=none) hs rfl ?_
 have e:(slicePicked z l u none).filterMap (z.cps[·]?)=cut3 z.cps.toList (l.map (·.1)) (u.map (·.1)):=by
  unfold slicePicked
  show (Builtin.Str.strSliceIndices _ _ 1 z.length).filterMap (z.cps[·]?)=_
  rw [ua3,sliceRange_one,pick_run]
  unfold cut3
  rw [Array.length_toList]
  rfl
 unfold sliceMade
 split
 ·next hw =>
  have hlen:(slicePicked z l u none).length=z.length:=by
   rw [Bool.and_eq_true] at hw
   simpa using hw.2
  have ez:cut3 z.cps.toList (l.map (·.1)) (u.map (·.1))=z.cps.toList:=by
   have h1:(Builtin.Str.strSliceIndices (l.map (·.1)) (u.map (·.1)) 1 z.length).length=z.length:=hlen
   rw [ua3,sliceRange_one,List.length_map,List.length_range] at h1
   have h2:=yb3 z.length (u.map (·.1))
   have hs:z.length=z.cps.size:=rfl
   unfold cut3
   rw [Array.length_toList,<- hs]
   rcases Nat.eq_zero_or_pos z.length with h0 | h0
   ·have:z.cps.toList=[]:=List.eq_nil_of_length_eq_zero (by rw [Array.length_toList,<- hs]; exact h0)
    rw [this]; simp
   ·have ha:sIx3 z.length 0 (l.map (·.1))=0:=by omega
    rw [ha,List.drop_zero]
    exact List.take_of_length_le (by rw [Array.length_toList,<- hs]; omega)
  rw [ez] at q
  exact ⟨.str z,H,I,⟨t,rfl⟩,q⟩
 ·rw [e]
  refine ⟨?_,.str _,H,I.tok _,⟨_,rfl⟩,q⟩
  refine Nat.le_trans ?_ hz
  show (cut3 z.cps.toList (l.map (·.1)) (u.map (·.1))).toArray.size<=z.cps.size
  rw [List.size_toArray]
  unfold cut3
  rw [List.length_take,List.length_drop,Array.length_toList]
  omega
theorem q_sl:RL X slR:=by
 refine ⟨_,(sl_tupA.or zn2).or sa3,λ x v lo hi H Q μ Q3 m rx h k=>?_⟩
 cases rx with
 | str z=>exact .inr ⟨z,rfl,h.1,k _ _ _ _ h.2 (Kp.refl _) (.str _) m⟩
 | tup hq rs =>
  refine .inl <| .inl ⟨_,_,rfl,(SqT.of hq),λ e=>?_,λ p hp=>k _ _ _ _ h (Kp.new hp) (.tup tg0 ((rs.cut lo hi).mono (Kp.new hp))) (m.newT hp)⟩
  refine k _ _ _ _ h (Kp.refl _) (.tup hq ?_) m
  have:=rs.cut lo hi
  rw [e] at this
  exact this
 | fls hq rs=>exact .inl <| .inr ⟨_,_,rfl,hq.l,λ p hp=>k _ _ _ _ (h p (m.free hp)) (Kp.new hp) (.ref p) (m.newL hp (rs.cut lo hi))⟩
 | ref p =>
  dsimp only [slR] at h
  cases e:μ p with
  | none=>rw [e] at h; exact h.elim
  | some oo =>
   cases oo with
   | ins _ _=>rw [e] at h; exact h.elim
   | dct _=>rw [e] at h; exact h.elim
   | dcl _=>rw [e] at h; exact h.elim
   | lst l =>
    rw [e] at h
    obtain ⟨vs,hv,rs⟩:=m p l e
    exact .inl <| .inr ⟨p,vs,rfl,SqL.of hv,λ t ht=>k _ _ _ _ (h t (m.free ht)) (Kp.new ht) (.ref t) (m.newL ht (rs.cut lo hi))⟩
 | _=>exact False.elim h
theorem sc0 {e:Expr} {te:TE3} {lo hi:Option Expr} {tl th:TO3} {pos p2:Pos} {r3:D->Option Int->Option Int->Mu->VK3->Prop} (hr:RL X r3) (he:RE X e te) (hl:RP X lo tl) (hu:RP X hi th):RE X (.Subscript e (.Slice lo hi none p2) pos) (sl3 r3 te tl th):=by
 obtain ⟨r,pr,rr⟩:=hr
 obtain ⟨va,pa,ra⟩:=he
 obtain ⟨vb,pb,rb⟩:=hl
 obtain ⟨vc,pc,rc⟩:=hu
 exact ⟨_,sc2 pr pa pb pc,λ σ H Q ρ μ Q3 s m h k=>ra σ H _ ρ μ _ s m h λ x μ1 v H1 h1 k1 r1 m1=>rb σ H1 _ ρ μ1 _ (s.mono k1) m1 h1 λ l μ2 H2 h2 k2 m2=>rc σ H2 _ ρ μ2 _ ((s.mono k1).mono k2) m2 h2 λ u μ3 H3 h3 k3 m3 =>
  rr x v l u H3 Q μ3 Q3 m3 (r1.mono (k2.trans k3)) h3 (k.after (k1.trans (k2.trans k3)))⟩
end
end Pv
namespace Pv
open PySem
noncomputable def isN:D->Bool
 | .non=>true
 | _=>false
noncomputable def isNR (neg:Bool):R3:=λ x y μ Q=>match y with
 | .non=>Q (.bl (if neg then !isN x else isN x)) μ
 | _=>False
noncomputable def maxR:C3:=λ ds μ Q=>match ds with
 | [.int i,.int j]=>Q (.int (if j > i then j else i)) μ
 | _=>False
noncomputable def ch3 (r r':R3) (ta tb tc:TE3):TE3:=λ ρ μ Q=>ta ρ μ λ x μ1=>tb ρ μ1 λ y μ2=>r x y μ2 λ d μ3=>match d with
 | .bl true=>tc ρ μ3 λ z μ4=>r' y z μ4 Q
 | .bl false=>Q (.bl false) μ3
 | _=>False
end Pv
namespace Pv
open PySem PySem.Spec PyProof.Rows L2
section
variable {X:Cx}
theorem wr3 {K:Fg} {H:Hp} {x:D} {v:V} (r:RelD K H x v):decide (v=.non)=isN x:=by
 cases r <;> simp [isN]
theorem so2:RO X (compareOp .Is) (isNR false):=by
 refine ⟨_,zp3,λ x y v u H Q μ Q3 m rx ry h k=>?_⟩
 cases ry with
 | non =>
  refine ⟨rfl,?_⟩
  rw [wr3 rx]
  exact k _ _ _ _ h (Kp.refl _) (.bl _) m
 | _=>exact False.elim h
theorem xc2:RO X (compareOp .IsNot) (isNR true):=by
 refine ⟨_,xr2,λ x y v u H Q μ Q3 m rx ry h k=>?_⟩
 cases ry with
 | non =>
  refine ⟨rfl,?_⟩
  rw [wr3 rx]
  exact k _ _ _ _ h (Kp.refl _) (.bl _) m
 | _=>exact False.elim h
theorem yy3 (hc:X.calm=true):RC X (.builtin "max") maxR:=by
 refine ⟨_,sy1 hc,λ xs vs H Q μ Q3 m r h k=>?_⟩
 cases r with
 | nil=>exact False.elim h
 | cons r1 r2 =>
  cases r1 with
  | int i =>
   cases r2 with
   | nil=>exact False.elim h
   | cons r2 r3 =>
    cases r2 with
    | int j =>
     cases r3 with
     | nil=>exact ⟨i,j,rfl,k _ _ _ _ h (Kp.refl _) (.int _) m⟩
     | cons _ _=>exact False.elim h
    | _=>exact False.elim h
  | _=>exact False.elim h
end
end Pv
namespace L2
open PySem PySem.Spec PyProof.Rows
section
variable {κ:Type} [DecidableEq κ]
end
section
variable {prog:Program} {w:World} {K:Type} [DecidableEq K] {knd:HeapKind prog w K} {A:Around} {E:Value->Shared->Prop} {s:Shared}
end
section
variable {P:Program} {w:World} {H:Hp} {h:Heap} {a:Addr}
end
section
variable {X:Cx} {pins:List (Addr × Obj)} {σ:St} {H:Hp} {s:Shared} {a:Addr} {y v:V} {u r:Value} {o:Option V} {A:Around} {E:Value->Shared->Prop}
end
section
variable {X:Cx} {pins:List (Addr × Obj)} {σ:St} {H:Hp} {s:Shared} {a:Addr} {kvs:List (Key × V)} {k:Key} {u:Value} {A:Around} {E:Value->Shared->Prop}
end
noncomputable def NoSl (i:Expr):Prop:=∀ ov iv,subscripted i false ov iv=operate [ov,iv] (getItem ov iv)
theorem zs1 {prog:Program} {w:World} {A:Around} {E:Value->Shared->Prop} {s:Shared} {env:Env} {value slice:Expr} {pos:Pos} {T id:String} {Q:Value->Shared->Prop}
    (hl:typeLookup (.type T) "__getitem__" = pure (some (.builtin id))) (hs:NoSl slice)
    (h:wpAny (model prog w) A (eval value env) (λ o s₁=>wpAny (model prog w) A (eval slice env) (λ i s₂=>s₂.TypeIs o T /\ wpAny (model prog w) A (getItem o i) Q E s₂) E s₁) E s) :
    wpAny (model prog w) A (eval (.Subscript value slice pos) env) Q E s:=by
 refine Subscript_ (wpAny_mono h (λ o s₁ h₁=>wpAny_mono h₁ (λ i s₂ h₂=>?_) λ _ _ x=>x) λ _ _ x=>x)
 obtain ⟨hT,h₂⟩:=h₂
 unfold subscriptTail
 refine wpAny_bind ?_
 rw [getitemInPython_of_ne hT.not_modules]
 refine wpAny_bind (wpAny_specialOf hT hl ?_)
 have fin:wpAny (model prog w) A (subscripted slice false o i) (λ r s₃=>wpAny (model prog w) A (letTemporaryGo value o r >>= λ _=>pure r) Q E s₃) E s₂:=by
  rw [hs o i]
  exact wpAny_operating (wpAny_mono h₂ (λ r s₃ h₃=>wpAny_bind (wpAny_letTemporaryGo (wpAny_pure h₃))) λ _ _ x=>x)
 first
  | exact wpAny_pure (wpAny_bind fin)
  | exact wpAny_bind (wpAny_pure (wpAny_bind fin))
  | exact wpAny_bind fin
section
variable {X:Cx} {o i e value:Expr} {pos pos' tpos:Pos} {td ty tv:TE}
end
section
variable {X:Cx} {pos:Pos}
end
structure M1 (X:Cx) (o:Expr) (m:Str) (apos:Pos) (e:Expr) (cpos:Pos):Prop where
 base:attributeBase o m X.env (eval o X.env)=eval o X.env
 few:((backTo cpos (starEach [e] X.env)).all (λ x=>!x.1) && (backToKw cpos (keywordEach [] X.env)).all (λ x=>x.1.isSome)
  && decide (([e]:List Expr).length + ([]:List Keyword).length + (if ([]:List Keyword).isEmpty then 0 else 1) < 30))=true
 line:(apos.endLine == cpos.line)=true
 trees:backTo cpos (starEach [e] X.env)=[(false,eval e X.env)]
structure M2 (X:Cx) (o:Expr) (m:Str) (apos:Pos) (e f:Expr) (cpos:Pos):Prop where
 base:attributeBase o m X.env (eval o X.env)=eval o X.env
 few:((backTo cpos (starEach [e,f] X.env)).all (λ x=>!x.1) && (backToKw cpos (keywordEach [] X.env)).all (λ x=>x.1.isSome)
  && decide (([e,f]:List Expr).length + ([]:List Keyword).length + (if ([]:List Keyword).isEmpty then 0 else 1) < 30))=true
 line:(apos.endLine == cpos.line)=true
 trees:backTo cpos (starEach [e,f] X.env)=[(false,eval e X.env),(false,eval f X.env)]
section
variable {X:Cx} {pins:List (Addr × Obj)} {σ:St} {H:Hp} {s:Shared} {a:Addr} {y d:V} {u r:Value} {o:Option V} {A:Around} {E:Value->Shared->Prop}
end
section
variable {X:Cx} {o e f:Expr} {apos cpos:Pos} {td ty tx:TE}
end
section
variable {X:Cx} {pins:List (Addr × Obj)} {σ:St} {H:Hp} {s:Shared} {a:Addr} {kvs:List (Key × V)} {A:Around} {E:Value->Shared->Prop}
end
section
variable {X:Cx} {pins:List (Addr × Obj)} {σ:St} {H:Hp} {s:Shared} {a:Addr} {y:V} {u:Value} {A:Around} {E:Value->Shared->Prop}
end
end L2
namespace Pv
open PySem
noncomputable def mxR:C3:=λ ds μ Q=>match ds with
 | [.int i,.int j]=>Q (.int (if j > i then j else i)) μ
 | [.ref p]=>match μ p with
  | some (.lst l)=>match ints? l with
   | some ns=>0 < ns.length /\ ∀ m,m ∈ ns->(∀ a,a ∈ ns->a<=m)->Q (.int m) μ
   | none=>False
  | _=>False
 | _=>False
theorem yq3 (i j:Int) (μ:Mu) (Q:VK3):mxR [.int i,.int j] μ Q=Q (.int (if j > i then j else i)) μ:=propext ⟨λ h=>h,λ h=>h⟩
noncomputable abbrev XE3:=Str->Mu->Prop
noncomputable def tf0 (XE:XE3) (x:Str) (t:TA3):TS3:=λ _ ρ μ=>t ρ μ λ ds μ1=>ds.length<=sizeLine /\ XE x μ1
noncomputable def isx3 (t:TE3) (sub:Str->Option Bool):TE3:=λ ρ μ Q=>t ρ μ λ d μ1=>match d with
 | .exc c=>match sub c with
  | some b=>Q (.bl b) μ1
  | _=>False
 | _=>False
noncomputable def try3 (i:Nat) (spx:XE3->Sp3) (st:D->St3->St3) (ok:Str->Bool) (ta:TA3) (ts:TS3):TS3:=λ D' ρ μ=>ta ρ μ λ ds μ1 =>
 spx (λ c μ2=>ok c=true /\ ts { nx:=λ ρ' μ'=>D'.nx (ρ'.set i none) μ',rt:=λ _ _=>False } (ρ.set i (some (.exc c))) μ2) ds μ1 (λ d μ2=>D'.nx (st d ρ) μ2)
noncomputable def NX:XE3:=λ _ _=>False
noncomputable def zb3 (j:Nat):D->St3->St3:=λ d ρ=>ρ.set j (some d)
end Pv
namespace Pv
open PySem PySem.Spec PyProof.Rows L2
open Sem (wp)
noncomputable def F2 (h:Heap) (e:Addr):Prop:=∃ oe vs,h.get? e=some oe /\ oe.data=.fields vs /\ vs[2]?=some .none
structure Kf {α:Type} (e:Addr) (t:Sem α):Prop where
 out:∀ (M:Model) (Γ:PySem.Ctx) (P:α->Pos->Shared->Prop) (E:Value->Pos->Shared->Prop) (p:Pos) (s:Shared),F2 s.heap e->wp M Γ t P E p s->wp M Γ t (λ a p' s'=>P a p' s' /\ F2 s'.heap e) E p s
namespace Kf
variable {α β:Type} {e:Addr}
theorem pure (a:α):Kf e (Pure.pure a:Sem α):=⟨λ _ _ _ _ _ _ f h=>⟨h,f⟩⟩
theorem uns (w:String):Kf e (unsupported w:Sem α):=⟨λ _ _ _ _ _ _ _ h=>h⟩
theorem bind {m:Sem α} {g:α->Sem β} (hm:Kf e m) (hg:∀ a,Kf e (g a)):Kf e (m >>= g):=⟨λ M Γ P E p s f h=>by
 rw [Sem.wp_bind'] at h ⊢
 exact Sem.wp_mono M Γ m (λ a p' s' ⟨h1,f1⟩=>(hg a).out M Γ P E p' s' f1 h1) (λ _ _ _ x=>x) p s (hm.out M Γ _ E p s f h)⟩
theorem ite {c:Prop} [Decidable c] {t u:Sem α} (ht:Kf e t) (hu:Kf e u):Kf e (if c then t else u):=by split <;> assumption
theorem load (a:Addr):Kf e (PySem.load a):=⟨λ _ _ _ _ _ _ f ⟨o,h1,h2⟩=>⟨o,h1,h2,f⟩⟩
theorem stack:Kf e PySem.stack:=⟨λ M Γ P E p s f h=>by
 unfold PySem.stack at h ⊢
 rw [Sem.wp_stack] at h ⊢
 exact ⟨h,f⟩⟩
theorem alloc (o:Obj):Kf e (PySem.alloc o):=⟨λ _ _ _ _ _ _ ⟨oe,vs,h1,h2,h3⟩ h=>⟨h,oe,vs,Heap.get?_push_of_some _ h1,h2,h3⟩⟩
theorem slots (a:Addr) (g:Obj->Array (Option Value)):Kf e (PySem.update a λ o=>{ o with slots:=g o }):=⟨λ _ _ _ _ _ s ⟨oe,vs,h1,h2,h3⟩ ⟨h,k⟩=>⟨h,k,by
 by_cases q:a=e
 ·subst q
  exact ⟨_,vs,Heap.get?_update_self (λ o=>{ o with slots:=g o }) h1 (Obj.isFreed_of_fields h2),h2,h3⟩
 ·exact ⟨oe,vs,(Heap.get?_update_ne _ _ _ _ (Ne.symm q)).trans h1,h2,h3⟩⟩⟩
theorem field (v:Value) (i:Nat):Kf e (PySem.field v i):=⟨λ _ Γ P E p s f h=>by
 rw [wp_field_iff] at h ⊢
 obtain ⟨a,o,vs,x,h1,h2,h3,h4,h5⟩:=h
 exact ⟨a,o,vs,x,h1,h2,h3,h4,h5,f⟩⟩
theorem setField (v:Value) {i:Nat} (x:Value) (hi:i ≠ 2):Kf e (PySem.setField v i x):=⟨λ _ Γ P E p s ⟨oe,vs,h1,h2,h3⟩ h=>by
 rw [wp_setField_iff] at h ⊢
 obtain ⟨a,o,ws,k1,k2,k3,k4,k5⟩:=h
 refine ⟨a,o,ws,k1,k2,k3,k4,k5,?_⟩
 by_cases q:a=e
 ·subst q
  have hd:=Obj.data_mapFields h2 (·.setIfInBounds i x)
  exact ⟨_,_,Heap.get?_update_self (Obj.mapFields (·.setIfInBounds i x)) h1 (Obj.isFreed_of_fields hd),hd,by rw [Array.getElem?_setIfInBounds_ne hi]; exact h3⟩
 ·exact ⟨oe,vs,(Heap.get?_update_ne _ _ _ _ (Ne.symm q)).trans h1,h2,h3⟩⟩
theorem sg3:∀ l:List Env,Kf e (readyFrames l)
 | []=>Kf.pure _
 | env :: outer=>by
  have ih:=sg3 outer
  unfold readyFrames
  unfold behindIsImport keptBack underTheClaimsCaller
  repeat' with_reducible first | assumption | exact Kf.pure _ | exact Kf.uns _ | exact Kf.field _ _ | exact Kf.load _ | exact Kf.stack | exact Kf.slots _ _ | apply Kf.ite | apply Kf.bind | intro _ | split
theorem note (v:Value) (env:Env):Kf e (noteFrame v env):=by
 have r:=λ l=>sg3 (e:=e) l
 unfold noteFrame EntryCells.newEntry newFields newObj newObjAsIs PySem.frameOf frameObject entryPlaceOf frameEnvs
 repeat' with_reducible first | assumption | exact Kf.pure _ | exact Kf.uns _ | exact Kf.field _ _ | exact Kf.load _ | exact Kf.stack | exact Kf.alloc _ | exact Kf.setField _ _ (by decide) | exact r _ | apply Kf.ite | apply Kf.bind | intro _ | split
theorem flight (v:Value) (o:Option Addr):Kf e (setFlight v o):=by
 unfold setFlight
 repeat' with_reducible first | exact Kf.pure _ | exact Kf.field _ _ | exact Kf.setField _ _ (by decide) | apply Kf.ite | apply Kf.bind | intro _ | split
theorem leav (v:Value) (env:Env):Kf e (leaving env v):=Kf.bind (note v env) λ _=>flight v none
theorem any {t:Sem α} (k:Kf e t) {M:Model} {A:Around} {Q:α->Shared->Prop} {E:Value->Shared->Prop} {s:Shared} (f:F2 s.heap e) (h:wpAny M A t Q E s):wpAny M A t (λ a s'=>Q a s' /\ F2 s'.heap e) E s :=
 λ Γ p hΓ=>k.out M Γ _ _ p s f (h Γ p hΓ)
theorem any' {o:Prop} {t:Sem α} (k:Kf e t) {M:Model} {A:Around} {Q:α->Shared->Prop} {E:Value->Shared->Prop} {s:Shared} (f:o->F2 s.heap e) (h:wpAny M A t Q E s):wpAny M A t (λ a s'=>Q a s' /\ (o->F2 s'.heap e)) E s:=by
 by_cases q:o
 ·exact wpAny_mono (k.any (f q) h) (λ _ _ z=>⟨z.1,λ _=>z.2⟩) λ _ _ z=>z
 ·exact wpAny_mono h (λ _ _ z=>⟨z,λ y=>absurd y q⟩) λ _ _ z=>z
end Kf
end Pv
namespace Pv
open PySem PySem.Spec PyProof.Rows L2
noncomputable def CXn (P:Program) (w:World):CXT:=λ outer H s E e s'=>∃ (ea:Addr) (cls a0:Value) (H':Hp) (B:Heap),e=.ref ea /\ s'.os=s.os /\ AllBare s'.gens /\ Un (frs outer) [] H H' s.heap s'.heap /\ HOk P w H' s'.heap ∧
 Heap.FlyingW B outer ea cls a0 s'.heap /\ H' ea=none /\ (∀ b o,s'.heap.get? b=some o->b ∉ frs outer->(∃ o',s.heap.get? b=some o')->B.get? b=some o) /\ (∀ b,H' b ≠ none->∃ o,s'.heap.get? b=some o /\ B.get? b=some o) /\ ∃ o:Option Addr,(o=none->F2 s'.heap ea) /\ E cls o H'
theorem wk1 {P:Program} {w:World} {K:Fg} {mg:Str->Option Value} {base:Heap} {N:List Str} {qual:Str} {scope:Scope} {f:Addr} {cd:Value} {A:Around} {outer:List Env} {s0:Shared} {H0:Hp} {E:XK} :
    wz0 (CXn P w) (cxOf (CXn P w) P w K mg base N qual scope f cd A outer s0 H0 E) E:=by
 intro pins σ H s e s' I h
 obtain ⟨ea,cls,a0,H',B,rfl,os,bare,u2,hok,fl,hea,cov1,cov2,oo,hf2,hE⟩:=h
 have u1:Un (frs outer) [] H0 H s0.heap s.heap:=I.base
 have habove:s0.heap.objs.size<=(envOfC qual scope s0.heap.objs.size f cd).locals:=I.ok.above
 have hloc:∀ {b:Addr} {o:Obj},s0.heap.get? b=some o->b ≠ (envOfC qual scope s0.heap.objs.size f cd).locals:=λ {b o} q z=>by
  have:=Heap.lt_size q
  rw [z] at this
  exact absurd this (Nat.not_lt.mpr habove)
 have hfs:frs ((envOfC qual scope s0.heap.objs.size f cd) :: outer)=(envOfC qual scope s0.heap.objs.size f cd).locals :: frs outer:=rfl
 have hfn:∀ {b:Addr} {o:Obj},s0.heap.get? b=some o->b ∉ frs outer->b ∉ frs ((envOfC qual scope s0.heap.objs.size f cd) :: outer):=λ {b o} q z hm=>by
  rw [hfs] at hm
  rcases List.mem_cons.mp hm with hm | hm
  ·exact hloc q hm
  ·exact z hm
 show wpAny (model P w) (A.deeper (envOfC qual scope s0.heap.objs.size f cd)) (leaving (envOfC qual scope s0.heap.objs.size f cd) (.ref ea)) _ _ s'
 refine wpAny_mono ((Kf.leav _ _).any' hf2 (wpAny_leaves_onW (Q:=λ _ z=>∃ h',z={ s' with heap:=h' } /\ Heap.FlyingW B outer ea cls a0 h' /\ s'.heap.UpToSlots h') I.ok.frames rfl fl λ h' fl' up=>⟨h',rfl,fl',up⟩)) (λ _ z hz=>?_) λ _ _ z=>z
 obtain ⟨⟨h',rfl,fl',up⟩,hf3⟩:=hz
 have far:∀ b o,s0.heap.get? b=some o->b ∉ frs outer->∃ o',s'.heap.get? b=some o' /\ B.get? b=some o' /\ h'.get? b=some o':=λ b o q hb=>by
  obtain ⟨o1,e1⟩:=u1.there b o q (by simp)
  obtain ⟨o2,e2⟩:=u2.there b o1 e1 (by simp)
  have e3:=cov1 b o2 e2 (hfn q hb) ⟨o1,e1⟩
  exact ⟨o2,e2,e3,fl'.1 b o2 e3⟩
 have frm:∀ b o,s'.heap.get? b=some o->b ∈ frs outer->∃ sl,h'.get? b=some { o with slots:=sl }:=λ b o q hb=>by
  have hm:b ∈ ((envOfC qual scope s0.heap.objs.size f cd) :: outer).filterMap (·.frame):=by
   show b ∈ frs _
   rw [hfs]; exact List.mem_cons_of_mem _ hb
  obtain ⟨_,o',ho,hnf⟩:=fl.2.2.1.mem hm
  rw [q] at ho; cases ho
  exact up b o q hnf
 refine ⟨ea,cls,a0,H',B,rfl,os.trans I.os,bare,?_,?_,fl',hea,?_,?_,oo,hf3,hE⟩
 ·refine ⟨λ b o q n hb _=>?_,λ b o q n hb _=>?_,λ b o q n _=>?_,λ b o q _=>?_,λ b xs q=>u2.tups b xs (u1.tups b xs q),λ b o u q=>u2.frzs b o u (u1.frzs b o u q),λ b ps q=>?_⟩
  ·have e1:=u1.keep b o q n hb (by simp)
   have e2:=u2.keep b o e1 (u1.free b o q n (by simp)) (hfn q hb) (by simp)
   obtain ⟨o',e3,_,e5⟩:=far b o q hb
   rw [e2] at e3; cases e3
   exact e5
  ·obtain ⟨sl,e1⟩:=u1.slot b o q n hb (by simp)
   obtain ⟨sl2,e2⟩:=u2.slot b _ e1 (u1.free b o q n (by simp)) (by show b ∈ frs ((envOfC qual scope s0.heap.objs.size f cd) :: outer); rw [hfs]; exact List.mem_cons_of_mem _ hb) (by simp)
   obtain ⟨sl3,e3⟩:=frm b _ e2 hb
   exact ⟨sl3,e3⟩
  ·obtain ⟨o1,e1⟩:=u1.there b o q (by simp)
   exact u2.free b o1 e1 (u1.free b o q n (by simp)) (by simp)
  ·by_cases hb:b ∈ frs outer
   ·obtain ⟨o1,e1⟩:=u1.there b o q (by simp)
    obtain ⟨o2,e2⟩:=u2.there b o1 e1 (by simp)
    obtain ⟨sl,e3⟩:=frm b o2 e2 hb
    exact ⟨_,e3⟩
   ·obtain ⟨o',_,_,e5⟩:=far b o q hb
    exact ⟨o',e5⟩
  ·obtain ⟨m1,e1⟩:=u1.tbls b ps q
   obtain ⟨m2,e2⟩:=u2.tbls b _ e1
   exact ⟨m1 ++ m2,by rw [e2,Array.append_assoc]⟩
 ·refine λ a o e=>(hok a o e).stay (λ b u hb q=>?_) (λ _ h=>h) (λ _ _ h=>h)
  have hne:H' b ≠ none:=by
   rcases hb with rfl | hb
   ·rw [e]; simp
   ·rw [hb]; simp
  obtain ⟨o',e1,e2⟩:=cov2 b hne
  rw [q] at e1; cases e1
  exact fl'.1 b _ e2
 ·intro b o q hb ⟨o',q'⟩
  obtain ⟨o2,_,e4,e5⟩:=far b o' q' hb
  have q2:h'.get? b=some o:=q
  rw [e5] at q2; cases q2
  exact e4
 ·intro b hb
  obtain ⟨o,e1,e2⟩:=cov2 b hb
  exact ⟨o,fl'.1 b o e2,e2⟩
theorem tv0 {P:Program} {w:World} {H:Hp} {h:Heap} {a:Addr} {o:HO} (x:ObjOk P w H h a o):∃ ob,h.get? a=some ob:=by
 induction o with
 | lst xs=>obtain ⟨z,its,n,r,e⟩:=x; exact ⟨_,e⟩
 | tup xs=>obtain ⟨z,its,r,ob,e,c⟩:=x; exact ⟨_,e⟩
 | dK kvs=>obtain ⟨z,y,vs,r,ob,es,ep,e,c⟩:=x; exact ⟨_,e⟩
 | dT kvs=>obtain ⟨z,y,xs,r,ob,es,ep,e,c⟩:=x; exact ⟨_,e⟩
 | set S n=>obtain ⟨ob,es,ep,t,e,c⟩:=x; exact ⟨_,e⟩
 | ins C dx fs=>obtain ⟨d,z,ne,e,mA,_,r⟩:=x; exact ⟨_,e⟩
 | own y=>obtain ⟨ob,e⟩:=x; exact ⟨_,e⟩
 | xd fs=>obtain ⟨mA,⟨od,es,ep,e,c⟩,r⟩:=x; exact ⟨_,e⟩
 | rng lo hi=>obtain ⟨t,u,v,e⟩:=x; exact ⟨_,e⟩
 | frz ob u ih=>obtain ⟨e,q⟩:=x; exact ⟨_,e⟩
 | tbl ps=>exact ⟨_,x⟩
 | met f y=>exact ⟨_,x⟩
 | ext φ=>obtain ⟨p,⟨o,e⟩,st⟩:=x; exact ⟨_,e⟩
section
variable {P:Program} {w:World} {K:Fg} {mg:Str->Option Value} {base:Heap} {N:List Str} {qual:Str} {scope:Scope} {f:Addr} {cd:Value} {A:Around} {outer:List Env} {s0:Shared} {H0:Hp} {E:XK}
theorem zu1 {pins:List (Addr × Obj)} {σ:L2.St} {H:Hp} {s:Shared} {h1:Heap} {e:Addr} {a0:Value} {oe:Obj} {ws:Array Value} {oo:Option Addr} (I:L2.Inv (cxOf (CXn P w) P w K mg base N qual scope f cd A outer s0 H0 E) pins σ H s) (hxk:∀ b o,s.heap.get? b=some o->h1.get? b=some o) (hxn:s.heap.get? e=none) (he:h1.get? e=some oe) (hd:oe.data=.fields ws) (hw1:ws[1]?=some .none) (hw0:ws[0]?=some a0) (hw2:oo=none->ws[2]?=some .none) (hE:E oe.cls oo H) :
    (cxOf (CXn P w) P w K mg base N qual scope f cd A outer s0 H0 E).xe (.ref e) { s with heap:=h1 }:=by
 have u1:Un (frs outer) [] H0 H s0.heap s.heap:=I.base
 have e0:=I.env0
 have habove:s0.heap.objs.size<=(envOfC qual scope s0.heap.objs.size f cd).locals:=I.ok.above
 have hfs:frs ((envOfC qual scope s0.heap.objs.size f cd) :: outer)=(envOfC qual scope s0.heap.objs.size f cd).locals :: frs outer:=rfl
 have hfn:∀ {b:Addr} {o:Obj},s0.heap.get? b=some o->b ∉ frs outer->b ∉ frs ((envOfC qual scope s0.heap.objs.size f cd) :: outer):=λ {b o} q z hm=>by
  rw [hfs] at hm
  rcases List.mem_cons.mp hm with hm | hm
  ·have:=Heap.lt_size q
   rw [hm] at this
   exact absurd this (Nat.not_lt.mpr habove)
  ·exact z hm
 have hin:∀ env ∈ ((envOfC qual scope s0.heap.objs.size f cd) :: outer),∀ b,env.frame=some b->b ∈ frs ((envOfC qual scope s0.heap.objs.size f cd) :: outer):=λ env he b hb=>List.mem_filterMap.mpr ⟨env,he,hb⟩
 have hfun:s.heap.FunFrames base ((envOfC qual scope s0.heap.objs.size f cd) :: outer):=e0.funs
 have hl:=PySem.W.funFrames_hide hfun hin
 show wpAny (model P w) (A.deeper (envOfC qual scope s0.heap.objs.size f cd)) (leaving (envOfC qual scope s0.heap.objs.size f cd) (.ref e)) _ _ _
 have hen:(PySem.W.hideAll s.heap (frs ((envOfC qual scope s0.heap.objs.size f cd) :: outer))).get? e=none:=by
  cases q:(PySem.W.hideAll s.heap (frs ((envOfC qual scope s0.heap.objs.size f cd) :: outer))).get? e with
  | none=>rfl
  | some o=>have:=PySem.W.of_hideAll _ q; rw [hxn] at this; cases this
 refine wpAny_mono ((Kf.leav _ _).any' (λ z=>⟨oe,ws,he,hd,hw2 z⟩) (wpAny_leaving_firstW (Q:=λ _ z=>∃ h',z={ s with heap:=h' } /\ Heap.FlyingW (PySem.W.hideAll s.heap (frs ((envOfC qual scope s0.heap.objs.size f cd) :: outer))) outer e oe.cls a0 h' /\ h1.UpToSlots h') (s:={ s with heap:=h1 }) (a0:=a0) I.ok.frames (hl.of_keeps λ b o hb _=>⟨o,hxk b o hb,rfl⟩) rfl he (λ b o q=>hxk b o (PySem.W.of_hideAll _ q)) hen hd hw1 hw0 λ h' hL=>?_)) (λ _ z hz=>?_) λ _ _ z=>z
 ·obtain ⟨k1,⟨_,_,k2⟩,k3,k4⟩:=hL
  exact ⟨h',rfl,⟨k1,hen,k2,k3⟩,k4⟩
 obtain ⟨⟨h',rfl,fl,up⟩,hf3⟩:=hz
 have inB:∀ b o,s.heap.get? b=some o->b ∉ frs ((envOfC qual scope s0.heap.objs.size f cd) :: outer)->(PySem.W.hideAll s.heap (frs ((envOfC qual scope s0.heap.objs.size f cd) :: outer))).get? b=some o:=λ b o q hb=>PySem.W.hideAll_get _ q hb
 have trk:∀ b,H b ≠ none->∃ o,s.heap.get? b=some o /\ b ∉ frs ((envOfC qual scope s0.heap.objs.size f cd) :: outer):=λ b hb=>by
  cases q:H b with
  | none=>exact absurd q hb
  | some ho =>
   obtain ⟨o,eo⟩:=tv0 (I.hok b ho q)
   refine ⟨o,eo,λ hm=>?_⟩
   have:=e0.frf b hm
   rw [q] at this; cases this
 have frm:∀ b o,s.heap.get? b=some o->b ∈ frs outer->∃ sl,h'.get? b=some { o with slots:=sl }:=λ b o q hb=>by
  have hm:b ∈ ((envOfC qual scope s0.heap.objs.size f cd) :: outer).filterMap (·.frame):=by
   show b ∈ frs _
   rw [hfs]; exact List.mem_cons_of_mem _ hb
  obtain ⟨_,o',ho,hnf⟩:=hfun.mem hm
  rw [q] at ho; cases ho
  exact up b o (hxk b o q) hnf
 refine ⟨e,oe.cls,a0,H,_,rfl,I.os,I.bare,?_,?_,fl,?_,?_,?_,oo,hf3,hE⟩
 ·refine ⟨λ b o q n hb _=>?_,λ b o q n hb _=>?_,λ b o q n _=>u1.free b o q n (by simp),λ b o q _=>?_,λ b xs q=>u1.tups b xs q,λ b o u q=>u1.frzs b o u q,λ b ps q=>u1.tbls b ps q⟩
  ·exact fl.1 b o (inB b o (u1.keep b o q n hb (by simp)) (hfn q hb))
  ·obtain ⟨sl,e1⟩:=u1.slot b o q n hb (by simp)
   obtain ⟨sl2,e2⟩:=frm b _ e1 hb
   exact ⟨sl2,e2⟩
  ·obtain ⟨o1,e1⟩:=u1.there b o q (by simp)
   by_cases hb:b ∈ frs outer
   ·obtain ⟨sl,e2⟩:=frm b o1 e1 hb
    exact ⟨_,e2⟩
   ·exact ⟨o1,fl.1 b o1 (inB b o1 e1 (hfn q hb))⟩
 ·refine λ a o ha=>(I.hok a o ha).stay (λ b u hb q=>?_) (λ _ h=>h) (λ _ _ h=>h)
  have hne:H b ≠ none:=by
   rcases hb with rfl | hb
   ·rw [ha]; simp
   ·rw [hb]; simp
  obtain ⟨o',e1,e2⟩:=trk b hne
  exact fl.1 b u (inB b u q e2)
 ·cases q:H e with
  | none=>rfl
  | some ho =>
   obtain ⟨o,eo⟩:=tv0 (I.hok e ho q)
   rw [hxn] at eo; cases eo
 ·intro b o q hb ⟨o',q'⟩
  obtain ⟨o1,e1⟩:=u1.there b o' q' (by simp)
  have e2:=inB b o1 e1 (hfn q' hb)
  have e3:=fl.1 b o1 e2
  have q2:h'.get? b=some o:=q
  rw [e3] at q2; cases q2
  exact e2
 ·intro b hb
  obtain ⟨o,e1,e2⟩:=trk b hb
  exact ⟨o,fl.1 b o (inB b o e1 e2),inB b o e1 e2⟩
theorem tk3 {pins:List (Addr × Obj)} {σ:L2.St} {H:Hp} {s:Shared} {h1:Heap} {e:Addr} {cls:Value} {us:List Value} (I:L2.Inv (cxOf (CXn P w) P w K mg base N qual scope f cd A outer s0 H0 E) pins σ H s) (hx:Heap.MadeExcOf s.heap h1 e cls us) (hE:E cls none H) :
    (cxOf (CXn P w) P w K mg base N qual scope f cd A outer s0 H0 E).xe (.ref e) { s with heap:=h1 }:=by
 obtain ⟨t,h2,_,_⟩:=hx.there
 exact zu1 (oo:=none) I hx.keeps hx.new h2 rfl rfl rfl (λ _=>rfl) hE
noncomputable def ya3 (E:XK) (C:Addr) (ta:TA):TS:=λ _ σ H=>ta σ H λ vs H1=>vs.length<=sizeLine /\ E (.ref C) none H1
theorem vc2 {x:Str} {C:Addr} {Bn B newId inN nid initId:String} {bm bmN:List Value} {e₀:Expr} {rest:List Expr} {np cpos pos:Pos} {ta:TA}
    (O:OwnCls x C bm newId mg base) (Fn:ExcBaseFacts Bn newId inN bmN) (hBn:bm.contains (.type Bn)=true) (FB:ExcBaseFacts B nid initId bm)
    (hg:Gl (cxOf (CXn P w) P w K mg base N qual scope f cd A outer s0 H0 E) x) (ha:PA (cxOf (CXn P w) P w K mg base N qual scope f cd A outer s0 H0 E) (e₀ :: rest) ta)
    (he:starEach (e₀ :: rest) (envOfC qual scope s0.heap.objs.size f cd)=(false,eval e₀ (envOfC qual scope s0.heap.objs.size f cd)) :: starEach rest (envOfC qual scope s0.heap.objs.size f cd):=by rfl)
    (hplain:(backTo cpos (starEach rest (envOfC qual scope s0.heap.objs.size f cd))).any (·.1)=false:=by rfl) (hd:(x == ("__debug__" : Str))=false:=by decide) :
    PS (cxOf (CXn P w) P w K mg base N qual scope f cd A outer s0 H0 E) (.Raise (some (.Call (.Name x np) (e₀ :: rest) [] cpos)) none pos) (ya3 E C ta):=by
 intro pins s σ H D I h
 obtain ⟨tl,NN,nm,q,bs,hdct,sn,sub,ab,col,dd,k0,k1,k2,k3,k5,mN,hC,hN,hni,T⟩:=O.obj
 refine wpAny_Raise_call_subU (C:=C) (nm:=nm) (q:=q) (N:=NN) (bs:=bs) (bm:=tl) (hdct:=hdct) (sn:=sn) (sub:=sub) (ab:=ab) (col:=col) (dd:=dd) (k0:=k0) (k1:=k1) (k2:=k2) (k3:=k3) (k5:=k5)
  Fn hBn FB (mN:=mN) (T.hasType FB.hasBase) (I.ok.hd rfl) (by
   show (backTo cpos (starEach (e₀ :: rest) (envOfC qual scope s0.heap.objs.size f cd))).any (·.1)=false
   rw [he]; show (false || (backTo cpos (starEach rest (envOfC qual scope s0.heap.objs.size f cd))).any (·.1))=false; rw [hplain]; rfl) hni (wg0 I hg O.bound ⟨rfl,?_⟩ hd)
 have hA:=ha cpos pins s σ H _ I h
 have he':starEach (e₀ :: rest) (cxOf (CXn P w) P w K mg base N qual scope f cd A outer s0 H0 E).env=_:=he
 rw [he'] at hA ⊢
 refine Calls.evalArgs_plain (thn hA λ us s2 ⟨vs,H2,I2,r2,q2⟩=>⟨rfl,?_,I2.bk _ _ hC,hN.keeps I2.bk,T.keeps I2.bk,λ h' e hx=>tk3 I2 hx q2.2⟩)
 rw [<- r2.length]; exact q2.1
noncomputable def EXok (K:Fg) (mg:Str->Option Value) (XE:XE3) (E:XK):Prop:=∀ x C μ' H' o,XE x μ'->mg x=some (.ref C)->RelM K μ' H'->(x = "NoWord" -> o=none)->E (.ref C) o H'
noncomputable def tr2 (K:Fg) (mg:Str->Option Value) (spx:XE3->Sp3):Sp:=λ vs H Q E=>∃ ds μ Q3 XE,RelDs K H ds vs /\ RelM K μ H /\ spx XE ds μ Q3 /\ Ks K H Q3 Q /\ EXok K mg XE E
noncomputable def CalX (P:Program) (w:World) (K:Fg) (mg:Str->Option Value) (base:Heap) (k:Nat) (x:Str) (ps:List Str) (spx:XE3->Sp3):Prop :=
 ∃ f fd,FnOk P w K mg base (CXn P w) k f fd ps (tr2 K mg spx) /\ mg x=some (.ref f) /\ PySem.W.keepIn K (.ref f)=true /\ Binds K fd ps []
theorem CalX.mono {j k:Nat} {x:Str} {ps:List Str} {spx:XE3->Sp3} (c:CalX P w K mg base j x ps spx) (h:j<=k):CalX P w K mg base k x ps spx:=by
 obtain ⟨f,fd,F,r⟩:=c
 exact ⟨f,fd,F.mono h,r⟩
variable {XE:XE3}
theorem ye0 {x:Str} {C:Addr} {Bn B newId inN nid initId:String} {bm bmN:List Value} {e₀:Expr} {rest:List Expr} {np cpos pos:Pos} {ta:TA3} (EX:EXok K mg XE E)
    (O:OwnCls x C bm newId mg base) (Fn:ExcBaseFacts Bn newId inN bmN) (hBn:bm.contains (.type Bn)=true) (FB:ExcBaseFacts B nid initId bm)
    (ha:RA (cxOf (CXn P w) P w K mg base N qual scope f cd A outer s0 H0 E) (e₀ :: rest) ta) (hg:Gl (cxOf (CXn P w) P w K mg base N qual scope f cd A outer s0 H0 E) x:=by rfl)
    (he:starEach (e₀ :: rest) (envOfC qual scope s0.heap.objs.size f cd)=(false,eval e₀ (envOfC qual scope s0.heap.objs.size f cd)) :: starEach rest (envOfC qual scope s0.heap.objs.size f cd):=by rfl)
    (hplain:(backTo cpos (starEach rest (envOfC qual scope s0.heap.objs.size f cd))).any (·.1)=false:=by rfl) (hd:(x == ("__debug__" : Str))=false:=by decide) :
    RS (cxOf (CXn P w) P w K mg base N qual scope f cd A outer s0 H0 E) (.Raise (some (.Call (.Name x np) (e₀ :: rest) [] cpos)) none pos) (tf0 XE x ta):=by
 obtain ⟨va,pa,ra⟩:=ha
 exact ⟨_,vc2 O Fn hBn FB hg pa he hplain hd,λ σ H D ρ μ D3 s m h k=>ra σ H _ ρ μ _ s m h λ ds μ1 vs H1 h1 k1 r1 m1=>⟨by rw [<- r1.length]; exact h1.1,EX x C μ1 H1 none h1.2 O.bound m1 (λ _=>rfl)⟩⟩
theorem zf0 {k:Nat} {ps:List Str} {spx:XE3->Sp3} {x:Str} {e:Expr} {es:List Expr} {p pos:Pos} {t:TA3} (EX:EXok K mg XE E) (c:CalX P w K mg base k x ps spx) (hr:Room k (A.deeper (envOfC qual scope s0.heap.objs.size f cd)))
    (ha:RA (cxOf (CXn P w) P w K mg base N qual scope f cd A outer s0 H0 E) (e :: es) t) (hg:Gl (cxOf (CXn P w) P w K mg base N qual scope f cd A outer s0 H0 E) x:=by rfl) (hdb:(x == ("__debug__" : Str))=false:=by decide)
    (he:starEach (e :: es) (envOfC qual scope s0.heap.objs.size f cd)=(false,eval e (envOfC qual scope s0.heap.objs.size f cd)) :: starEach es (envOfC qual scope s0.heap.objs.size f cd):=by rfl) (hpl:(backTo pos (starEach es (envOfC qual scope s0.heap.objs.size f cd))).any (·.1)=false:=by rfl) :
    RE (cxOf (CXn P w) P w K mg base N qual scope f cd A outer s0 H0 E) (.Call (.Name x p) (e :: es) [] pos) (zb0 (spx XE) t):=by
 obtain ⟨g,fd,F,hm,hk,hb⟩:=c
 obtain ⟨va,pa,ra⟩:=ha
 refine ⟨_,wh1 (X:=cxOf (CXn P w) P w K mg base N qual scope f cd A outer s0 H0 E) F hr hg hm hk hb .nil wk1 pa hdb he hpl,λ σ H Q ρ μ Q3 s m h k=>ra σ H _ ρ μ _ s m h λ ds μ1 vs H1 h1 k1 r1 m1=>?_⟩
 rw [List.append_nil]
 exact ⟨ds,μ1,Q3,XE,r1,m1,h1,k.after k1,EX⟩
theorem xg0 {x:Str} {st:Stmt} {g:Addr} {fd:FuncData} {NN ps:List Str} {k:Nat} {spx:XE3->Sp3} {t:XE3->TS3} (F:Fun K x x st g fd) (hm:mg x=some (.ref g)) (hb:Binds K fd ps []) (S:FnScope NN ps (ta0 st))
    (len:∀ XE ds μ Q,spx XE ds μ Q->ds.length=ps.length)
    (body:∀ (cdv:Value) (A:Around) (outer:List Env) (s:Shared) (H:Hp) (E:XK) (XE:XE3),Room k (A.deeper (envOfC x (ta0 st) s.heap.objs.size g cdv))->EXok K mg XE E ->
     RSs (cxOf (CXn P w) P w K mg base NN x (ta0 st) g cdv A outer s H E) (wc0 st) (t XE))
    (rd:∀ XE ds μ Q,spx XE ds μ Q->t XE { nx:=λ _ μ'=>Q .non μ',rt:=Q } (uc0 NN ds) μ):CalX P w K mg base (k + 1) x ps spx:=by
 refine ⟨g,fd,?_,hm,F.kp,hb⟩
 obtain ⟨oc,od,kV,doc,pm,an,cdv,ct,osl,rfl,lk,hcd⟩:=F.ex
 refine sr3 lk hcd S (λ vs H Q E h=>?_) λ A outer s H vs Q E hr h=>?_
 ·obtain ⟨ds,μ,Q3,XE,r,m,q,ks,ex⟩:=h
  rw [<- r.length]; exact len _ _ _ _ q
 ·obtain ⟨ds,μ,Q3,XE,r,m,q,ks,ex⟩:=h
  obtain ⟨tv,p,rt⟩:=body cdv A outer s H E XE hr ex
  exact ⟨tv,p,rt _ H _ _ μ _ (RSt.start NN r) m (rd XE ds μ Q3 q) ⟨λ ρ μ' σ H' h' k' s' m'=>ks _ _ _ _ h' k' .non m',λ ρ μ' σ H' h'=>False.elim h',λ ρ μ' σ H' h'=>False.elim h',ks⟩⟩
end
end Pv
namespace Pv
open PySem PySem.Spec PyProof.Rows L2 PySem.Calls
section
variable {prog:Program} {w:World} {A:Around} {E:Value->Shared->Prop} {s:Shared} {K:PySem.W.Frag} {x D:Addr} {ox:Obj}
structure ExcK (K:PySem.W.Frag) (D:Addr):Prop where
 ga:PySem.W.findIn K (.ref D) "__getattribute__" = some (some (.builtin "BaseException.__getattribute__"))
 no:PySem.W.findIn K (.ref D) "__getattr__" = some none
 be:PySem.W.mroIn K D (.type "BaseException")=some true
 cd:(PySem.W.clsIn K D).isSome=true
 ca:PySem.W.findIn K (.ref D) "__class__" = some (some (.builtin "object.__class__"))
 gt:PySem.W.specialIn K (.builtin "object.__class__") "__get__" = some (some (.builtin "getset_descriptor.__get__"))
 tk:PySem.W.takesIn K (.builtin "object.__class__")=some true
 ob:PySem.W.mroIn K D (.type "object")=some true
noncomputable def ExcAt (x D:Addr) (h:Heap):Prop:=∃ ob,h.get? x=some ob /\ ob.cls=.ref D
theorem ExcAt.type {M:Model} {h:Heap} (I:ExcAt x D h):PySem.W.Looks M h (typeOf (.ref x)) (.ref D):=by
 obtain ⟨ob,h1,h2⟩:=I
 exact h2 ▸ (PySem.W.Looks.ld h1).andThen .now
theorem sf2 {M:Model} {h:Heap} (Z:ExcK K D) (X:K.In h):PySem.W.Looks M h (Builtin.ObjectAttr.find (.ref x) (.ref D) "__class__") (.bind (.builtin "getset_descriptor.__get__") (.builtin "object.__class__")):=by
 have L1:=PySem.W.looks_findIn (M:=M) X Z.ca
 have L2:=PySem.W.looks_specialIn (M:=M) X Z.gt
 have L3:=PySem.W.looks_takesIn (M:=M) X Z.tk
 refine L1.andThen (PySem.W.Looks.andThen (show PySem.W.Looks M h (Builtin.ObjectAttr.getOf (some (.builtin "object.__class__"))) (some (.builtin "getset_descriptor.__get__")) from L2) ?_)
 exact (show PySem.W.Looks M h (Builtin.ObjectAttr.dataDescriptor? (some (.builtin "object.__class__")) (some (.builtin "getset_descriptor.__get__"))) (some (.builtin "getset_descriptor.__get__",.builtin "object.__class__")) from L3.andThen .now).andThen (PySem.W.Looks.tag .now)
theorem ts2 {R:Result->Shared->Prop} {tp:Value} (Z:ExcK K D) (X:K.In s.heap) (I:ExcAt x D s.heap)
    (h:R (.ok (.ret (.ref D))) s):codeAny (model prog w) A (.call (.builtin "getset_descriptor.__get__") ⟨[.builtin "object.__class__",.ref x,tp],[]⟩) R s:=by
 obtain ⟨ob,h1,h2⟩:=I
 obtain ⟨hh,g,dr,t,os⟩:=s
 have L0:=ExcAt.type (M:=model prog w) (x:=x) (D:=D) (h:=hh) ⟨ob,h1,h2⟩
 have L1:=PySem.W.looks_mroIn (M:=model prog w) X Z.ob
 refine codeAny_call_builtin PySem.W.KF.slot_gs.plain PySem.W.KF.entry_gs (PySem.W.KF.slot_gs.check _ _ _ _ _ _ _ _ PySem.W.KF.type_class (PySem.W.KF.args_gs _ _ _) ?_)
 unfold Builtin.«getset_descriptor.__get__» Builtin.Getset_descriptor.descrGet
 rw [PySem.W.dga_obj]
 refine wpAny_bind (wpAny_pure ?_)
 unfold Builtin.Getset_descriptor.descrGetter Builtin.Getset_descriptor.descrCheckInstance Builtin.Getset_descriptor.descrNameAndClass isInstance
 simp only [PySem.W.KF.owner_class]
 repeat lk
 refine ⟨Code.quiet_builtin _ (by decide +kernel),codeAny_builtin PySem.W.KF.entry_class ?_⟩
 unfold Builtin.«object.__class__» shownTypeOf
 repeat lk
 exact h
theorem sw1 {Q:Option Value->Shared->Prop} (Z:ExcK K D) (X:K.In s.heap) (I:ExcAt x D s.heap) (h:Q (some (.ref D)) { s with toks:=s.toks + 1 }):wpAny (model prog w) A (getAttr? (.ref x) "__class__") Q E s:=by
 obtain ⟨hh,g,d,t,os⟩:=s
 have L0:=I.type (M:=model prog w)
 have L1:=PySem.W.looks_findIn (M:=model prog w) X Z.ga
 have L2:=PySem.W.looks_findIn (M:=model prog w) X Z.no
 have L3:=sf2 (M:=model prog w) (x:=x) Z X
 have L4:=PySem.W.looks_mroIn (M:=model prog w) X Z.be
 unfold getAttr? getAttrBy? getAttrBy
 refine wpAny_bind (wpAny_mkText (wpAny_bind (wpAny_attempt (wpAny_holding (wpAny_bind (L0.at (wpAny_bind (L1.at ?_))))))))
 have hx2:(Value.builtin "BaseException.__getattribute__" == Value.builtin "object.__getattribute__")=false:=by decide +kernel
 simp only [hx2,Bool.and_false,Bool.false_eq_true,if_false]
 unfold getAttrByItsOwn hookBefore
 have hh1:onTheHeap (Value.ref D)=true:=rfl
 simp only [hh1,if_true]
 refine wpAny_bind (L2.at (wpAny_bind (wpAny_attempt (wpAny_holding ?_))))
 unfold callGetattribute boundAndCalled
 simp only [Bool.false_and,Bool.false_eq_true,if_false]
 have hb:bindSpecial (.builtin "BaseException.__getattribute__") (.ref x)=pure (.builtin "BaseException.__getattribute__",[.ref x]):=PySem.F.attr_ValueError.ga.bind _
 rw [hb]
 refine wpAny_bind (wpAny_pure ?_)
 refine wpAny_call (codeAny_call_builtin PySem.F.attr_ValueError.ga.plain F.entry_bexc_ga ?_)
 have hk:builtinKind "BaseException.__getattribute__" = some .slot:=by decide +kernel
 have hsplit:splitId "BaseException.__getattribute__" = some ("BaseException", "__getattribute__"):=by decide +kernel
 have ha:=F.args_bexc_ga (.ref x) (.str "__class__" t)
 simp only [checkBuiltinCall,hk,hsplit]
 refine wpAny_bind ?_
 ·unfold isInstance
  refine wpAny_bind (L0.at (L4.at ?_))
  simp only [Bool.not_true,Bool.false_eq_true,if_false]
  obtain ⟨ob,I1,I2⟩:=id I
  dsimp only at I1
  repeat (any_goals (first | assumption | (with_reducible refine wpAny_loadPart_at I1 ?_; rw [I2]) | with_reducible refine L3.at ?_ | wp_step))
  refine ts2 (s:=⟨hh,g,d,t + 1,os⟩) Z X I (wpAny_pure ?_)
  exact PySem.W.handed_on rfl (wpAny_pure h)
theorem xe2 (Z:ExcK K D):PySem.W.KitX K (.ref x) (.ref D) (ExcAt x D) where
 ty:=λ _ _ _ I=>I.type
 it:=λ _ _ X _=>by
  obtain ⟨cdD,hcD⟩:=Option.isSome_iff_exists.mp Z.cd
  unfold PySem.W.clsIn at hcD
  split at hcD
  ·rename_i c' d' cd' sl' ho
   intro A' Q' E' s' k q
   unfold isType loadHead
   exact wpAny_bind (wpAny_loadPart (k _ _ (X _ _ ho)) (wpAny_pure q))
  ·cases hcD
 ne:=λ h tp dd its n sl X htp=>by
  obtain ⟨cdD,hcD⟩:=Option.isSome_iff_exists.mp Z.cd
  refine Bool.eq_false_iff.mpr λ q=>?_
  have e:D=tp:=Value.ref.inj (beq_iff_eq.mp q)
  subst e
  unfold PySem.W.clsIn at hcD
  split at hcD
  ·rename_i c' d' cd' sl' ho
   have z:=(X _ _ ho).symm.trans htp
   cases z
  ·cases hcD
 ca:=λ X I k=>sw1 Z X I k
end
section
variable {X:Cx} {e:Expr} {te:TE3} {p p2 pos:Pos}
theorem vs2 {P:Program} {w:World} {H:Hp} {h:Heap} (hok:HOk P w H h) {a:Addr} {ob:Obj} {u:HO} (e:H a=some (.frz ob u)):h.get? a=some ob:=(show ObjOk P w H h a (.frz ob u) from hok a _ e).1
theorem tg2 {cV:V} {cv:Value} (rc:∀ u,RelV cV u->u=cv):CallR X (.builtin "isinstance") (λ xs H Q=>∃ a C ob u b,xs=[.ref a,cV] /\ H a=some (.frz ob u) /\ ob.cls=.ref C /\ ExcK X.K C /\ PySem.W.kitOne X.K (.ref C) cv=some b /\ Q (.bl b) H):=by
 intro pins s σ H xs us Q I r h
 obtain ⟨a,C,ob,u,b,rfl,ha,h1,Z,hk,q⟩:=h
 obtain ⟨u1,u2,rfl,r1,r2⟩:=ul2 r
 cases r1
 cases rc _ r2
 have hg:=vs2 I.hok ha
 have hi:ExcAt a C s.heap:=⟨ob,hg,h1⟩
 exact PySem.W.kia_one (xe2 Z) I.kIn hi hk (λ z=>nomatch z) λ tk=>⟨.bl b,H,I.tok tk,rfl,q⟩
theorem zz0 {y:Str} {C:Addr} (hg:Gl X y) (hm:X.mg y=some (.ref C)) (hd:(y == ("__debug__" : Str))=false:=by decide):PE X (.Name y p2) (λ _ H Q=>Q (.ref C) H):=λ pins s σ H Q I h=>wg0 I hg hm ⟨.ref C,H,I,rfl,h⟩ hd
theorem wv0 {y:Str} {cV:V} {cv:Value} {sub:Str->Option Bool} (he:RE X e te) (hc:PE X (.Name y p2) (λ _ H Q=>Q cV H)) (rc:∀ u,RelV cV u->u=cv)
    (hsub:∀ c C b,sub c=some b->PySem.W.nsIn X.K mainGlobals c=some (some (.ref C))->ExcK X.K C /\ PySem.W.kitOne X.K (.ref C) cv=some b)
    (hm:X.mg "isinstance" = none) (hg:Gl X "isinstance" := by rfl)
    (hs:starEach [e,.Name y p2] X.env=(false,eval e X.env) :: starEach [.Name y p2] X.env:=by rfl) (hs2:starEach [.Name y p2] X.env=(false,eval (.Name y p2) X.env) :: starEach [] X.env:=by rfl)
    (hpl:(backTo pos (starEach [.Name y p2] X.env)).any (·.1)=false:=by rfl) :
    RE X (.Call (.Name "isinstance" p) [e,.Name y p2] [] pos) (isx3 te sub):=by
 obtain ⟨va,pa,ra⟩:=he
 refine ⟨_,zk1 (tg2 rc) hg hm vj0 (vh1 pa (vh1 hc wj2 hs2) hs) (by decide) (by decide) hs hpl,λ σ H Q ρ μ Q3 s m h k=>ra σ H _ ρ μ _ s m h λ d μ1 v H1 h1 k1 r1 m1=>?_⟩
 cases r1 with
 | exc a1 a2 a3 =>
  dsimp only at h1
  split at h1
  ·next b eb =>
   obtain ⟨z1,z2⟩:=hsub _ _ b eb a3
   exact ⟨_,_,_,_,b,rfl,a1,a2,z1,z2,k _ _ _ _ h1 k1 (.bl _) m1⟩
  ·exact h1.elim
 | _=>exact False.elim h1
end
end Pv
namespace Pv
open PySem PySem.Spec PyProof.Rows L2 PySem.Calls
section
variable {X:Cx} {pins:List (Addr × Obj)} {σ:L2.St} {H H':Hp} {s s':Shared}
noncomputable abbrev mark (X:Cx) (e:Value):Cx:={ X with A:=X.A.mark (some e),calm:=false,xe:=λ _ _=>False }
theorem wl0 (I:Inv X pins σ H s) (e:Value):Inv (mark X e) pins σ H s :=
 ⟨⟨I.ok.mod,I.ok.kind,I.ok.glob,I.ok.blt,I.ok.above,I.ok.inj,I.ok.has,I.ok.cab,(λ z=>Bool.noConfusion z),I.ok.frames,I.ok.stk,I.ok.exf,I.ok.bs,I.ok.bsz,I.ok.noex,I.ok.exfs,I.ok.funs,I.ok.frf⟩,I.os,I.bare,I.base,I.loc,I.cell,I.free,I.freeC,I.pin,I.hok,I.len⟩
theorem yq0 {e:Value} (ok:X.Ok) (I:Inv (mark X e) pins σ H s):Inv X pins σ H s :=
 ⟨ok,I.os,I.bare,I.base,I.loc,I.cell,I.free,I.freeC,I.pin,I.hok,I.len⟩
theorem xl0 {B h5:Heap} {ea:Addr} {cls a0:Value} (u2:Un (frs X.stack) [] H H' s.heap s'.heap)
    (cov1:∀ b o,s'.heap.get? b=some o->b ∉ frs X.stack->(∃ o',s.heap.get? b=some o')->B.get? b=some o)
    (fl:Heap.FlyingW B X.stack ea cls a0 s'.heap) (st:∀ b o,B.get? b=some o->h5.get? b=some o) (up:s'.heap.UpToSlots h5):Un (frs X.stack) [] H H' s.heap h5:=by
 have frm:∀ b o,s'.heap.get? b=some o->b ∈ frs X.stack->∃ sl,h5.get? b=some { o with slots:=sl }:=λ b o q hb=>by
  obtain ⟨_,o',ho,hnf⟩:=fl.2.2.1.mem hb
  rw [q] at ho; cases ho
  exact up b o q hnf
 refine ⟨λ b o q n hb _=>?_,λ b o q n hb _=>?_,λ b o q n hx=>u2.free b o q n hx,λ b o q hx=>?_,u2.tups,u2.frzs,u2.tbls⟩
 ·exact st b o (cov1 b o (u2.keep b o q n hb (by simp)) hb ⟨o,q⟩)
 ·obtain ⟨sl,e1⟩:=u2.slot b o q n hb (by simp)
  obtain ⟨sl2,e2⟩:=frm b _ e1 hb
  exact ⟨sl2,e2⟩
 ·obtain ⟨o1,e1⟩:=u2.there b o q hx
  by_cases hb:b ∈ frs X.stack
  ·obtain ⟨sl,e2⟩:=frm b o1 e1 hb
   exact ⟨_,e2⟩
  ·exact ⟨o1,st b o1 (cov1 b o1 e1 hb ⟨o,q⟩)⟩
theorem wi0 {B h5:Heap} {P:Program} {w:World} (hok:HOk P w H' s'.heap) (cov2:∀ b,H' b ≠ none->∃ o,s'.heap.get? b=some o /\ B.get? b=some o) (st:∀ b o,B.get? b=some o->h5.get? b=some o):HOk P w H' h5:=by
 refine λ a o e=>(hok a o e).stay (λ b u hb q=>?_) (λ _ h=>h) (λ _ _ h=>h)
 have hne:H' b ≠ none:=by
  rcases hb with rfl | hb
  ·rw [e]; simp
  ·rw [hb]; simp
 obtain ⟨o',e1,e2⟩:=cov2 b hne
 rw [q] at e1; cases e1
 exact st b _ e2
theorem zi2 {fs:List Addr} {h h5:Heap} {ea:Addr} {o:HO} (u:Un fs [] H H' h h5) (he:H' ea=none) (hn:h.get? ea=none):Un fs [] H (upd H' ea o) h h5:=by
 have ne:∀ {b ob},h.get? b=some ob->b ≠ ea:=λ {b ob} q z=>by subst z; rw [hn] at q; cases q
 have ne2:∀ {b u},H' b=some u->b ≠ ea:=λ {b u} q z=>by subst z; rw [he] at q; cases q
 refine ⟨u.keep,u.slot,λ b ob q n hx=>?_,u.there,λ b xs q=>?_,λ b ob v q=>?_,λ b ps q=>?_⟩
 ·rw [td0 (ne q)]; exact u.free b ob q n hx
 ·have:=u.tups b xs q; rw [td0 (ne2 this)]; exact this
 ·have:=u.frzs b ob v q; rw [td0 (ne2 this)]; exact this
 ·obtain ⟨m,e⟩:=u.tbls b ps q; exact ⟨m,by rw [td0 (ne2 e)]; exact e⟩
theorem zr1 {P:Program} {w:World} {h5:Heap} {ea:Addr} {oe:Obj} (hok:HOk P w H' h5) (he:H' ea=none) (hg:h5.get? ea=some oe):HOk P w (upd H' ea (.frz oe (.own 0))) h5:=by
 have ne2:∀ {b u},H' b=some u->b ≠ ea:=λ {b u} q z=>by subst z; rw [he] at q; cases q
 intro a o e
 by_cases ha:a=ea
 ·subst ha
  rw [tg0] at e
  cases e
  exact ⟨hg,⟨_,hg⟩⟩
 ·rw [td0 ha] at e
  exact (hok a o e).stay (λ b u hb q=>q) (λ b q=>by rw [td0 (ne2 q)]; exact q) (λ b xs q=>by rw [td0 (ne2 q)]; exact q)
theorem sw0 {M:Model} {A:Around} {E:Value->Shared->Prop} {K:PySem.W.Frag} {ea C Pc:Addr} {ob:Obj} {Q:Bool->Shared->Prop} (Z:K.In s.heap) (h1:s.heap.get? ea=some ob) (h2:ob.cls=.ref C)
    (k1:PySem.W.kitCls K (.ref C) (.ref Pc)=some true) (k2:PySem.W.kitCls K (.ref Pc) (.type "BaseException")=some true) (k3:PySem.W.kitCls K (.type "type") (.type "tuple")=some false) (hq:Q true s):wpAny M A (excMatches (.ref ea) (.ref Pc)) Q E s:=by
 obtain ⟨a1,a2,a3⟩:=PySem.W.kit_cls (M:=M) Z k1
 obtain ⟨b1,b2,b3⟩:=PySem.W.kit_cls (M:=M) Z k2
 obtain ⟨c1,c2,c3⟩:=PySem.W.kit_cls (M:=M) Z k3
 have L0:=ExcAt.type (M:=M) (x:=ea) (D:=C) (h:=s.heap) ⟨ob,h1,h2⟩
 obtain ⟨hh,g,d,t,os⟩:=s
 unfold excMatches isInstance
 refine wpAny_bind (wpAny_bind (a1.at (c3.at ?_)))
 dsimp only
 simp only [Bool.false_eq_true,if_false,pure_bind,List.forIn_cons,List.forIn_nil]
 unfold isExcClass
 repeat (any_goals (first | assumption | with_reducible refine L0.at ?_ | with_reducible refine a3.at ?_ | with_reducible refine b3.at ?_ | with_reducible refine a2.at ?_ | with_reducible refine a1.at ?_ | wp_step))
theorem ug2 {e:Value} {E':XK} {n x:Str} {i:Nat} {Pc:Addr} {b₀:Stmt} {suite:List Stmt} {np pos:Pos} {Q:Flow->Shared->Prop} {EE:Value->Shared->Prop}
    (I:Inv X pins σ H s) (hst:X.stack=X.env :: X.outer) (hfr:X.env.frame=some X.env.locals) (h:CXn X.prog X.w X.stack H s E' e s')
    (hN:X.N.Nodup) (hi:X.N[i]?=some n) (hloc:X.env.scope.names.lookup n=some .local) (hg:Gl X x) (hm:X.mg x=some (.ref Pc)) (hd:(x == ("__debug__" : Str))=false)
    (hcls:∀ cls o H',E' cls o H'->∃ C,cls=.ref C /\ PySem.W.kitCls X.K (.ref C) (.ref Pc)=some true) (k2:PySem.W.kitCls X.K (.ref Pc) (.type "BaseException")=some true) (k3:PySem.W.kitCls X.K (.type "type") (.type "tuple")=some false)
    (k:∀ ea C H' ob s6 o,Kp H H'->E' (.ref C) o H'->H' ea=none->ob.cls=.ref C->Inv (mark X (.ref ea)) pins (σ.set i (some (.ref ea))) (upd H' ea (.frz ob (.own 0))) s6 ->
     wpAny (model X.prog X.w) (X.A.mark (some (.ref ea))) (execs (b₀ :: suite) X.env) (λ f s₄=>wpAny (model X.prog X.w) X.A (do bindName X.env n .none; unbindBehindTheSuite X.env n pos) (λ _ s₅=>Q f s₅) EE s₄) (λ _ _=>False) s6) :
    wpAny (model X.prog X.w) X.A (noteFrame e X.env) (λ _ s₂=>wpAny (model X.prog X.w) X.A (setFlight e none) (λ _ s₃ =>
     wpAny (model X.prog X.w) X.A (handleBy e X.env [.ExceptHandler (some (.Name x np)) (some n) (b₀ :: suite) pos]) Q EE s₃) EE s₂) EE s':=by
 obtain ⟨ea,cls,a0,H',B,rfl,os,bare,u2,hok,fl,hea,cov1,cov2,oo,hf2,hE⟩:=h
 obtain ⟨C,rfl,k1⟩:=hcls _ _ _ hE
 have fl0:=fl
 rw [hst] at fl
 refine wpAny_looks_onW (by rw [<- hst]; exact I.ok.frames) hfr fl λ h4 held4 sm4=>?_
 refine wpAny_landsW held4 λ h5 fl5 sm5=>?_
 have I5:Inv X pins σ H' { s' with heap:=h5 }:=I.call' (s':={ s' with heap:=h5 }) (ch:=[]) os (xl0 u2 cov1 fl0 fl5.1 (sm4.trans sm5)) (wi0 hok cov2 fl5.1) bare (λ b z=>absurd z (by simp))
 obtain ⟨ob5,hob5,hc5⟩:=fl5.there
 refine wpAny_handleBy_cons (codeAny_handlers_test (wg0 (wl0 I5 (.ref ea)) hg hm ?_ hd)) (by intro q; cases q)
 refine sw0 I5.kIn hob5 hc5 k1 k2 k3 ?_
 refine codeAny_handlers_suite_as ?_
 refine lands_againW (s:={ s' with heap:=h5 }) fl5 λ h6 fl6 sm6=>?_
 obtain ⟨oe,ws,hoe,hoec,hoed,hoe0⟩:=fl6.first
 have hsn:s.heap.get? ea=none:=by
  cases q:s.heap.get? ea with
  | none=>rfl
  | some o =>
   exfalso
   obtain ⟨o1,e1⟩:=u2.there ea o q (by simp)
   by_cases hb:ea ∈ frs X.stack
   ·obtain ⟨_,o',ho,hnf⟩:=fl0.2.2.1.mem hb
    obtain ⟨oe0,vs0,he0,_,hd0,_⟩:=fl0.first
    rw [he0] at ho; cases ho
    exact hnf _ hd0
   ·have:=cov1 ea o1 e1 hb ⟨o,q⟩
    rw [fl0.2.1] at this; cases this
 have I7:Inv X pins σ (upd H' ea (.frz oe (.own 0))) { s' with heap:=h6 }:=I.call' (s':={ s' with heap:=h6 }) (ch:=[]) os (zi2 (xl0 u2 cov1 fl0 fl6.1 ((sm4.trans sm5).trans sm6)) hea hsn) (zr1 (wi0 hok cov2 fl6.1) hea hoe) bare (λ b z=>absurd z (by simp))
 refine xu0 I7 hN hi (.inl hloc) (v:=.ref ea) (u:=.ref ea) rfl (λ s8 I8=>?_) (.inr hloc)
 exact wpAny_mono (k ea C H' oe s8 oo ⟨u2.tups,u2.frzs⟩ hE hea hoec (wl0 I8 (.ref ea))) (λ f s4 z=>z) (λ _ _ z=>z.elim)
theorem zs2 {M:Model} {A:Around} {E:Value->Shared->Prop} {i:Nat} {n:Str} {pos:Pos} {Q:Unit->Shared->Prop} (I:Inv X pins σ H s) (hN:X.N.Nodup) (hi:X.N[i]?=some n) (hk:X.env.scope.names.lookup n=some .local)
    (h:∀ s',Inv X pins (σ.set i none) H s'->Q () s'):wpAny M A (do bindName X.env n .none; unbindBehindTheSuite X.env n pos) Q E s:=by
 obtain ⟨m,hn,hl⟩:=id I.loc
 have hcls:(X.env.scope.kind == .class || (X.env.scope.kind == .module && X.env.locals != X.env.globals))=false:=by rw [I.ok.kind]; rfl
 have hiσ:i < σ.length:=by rw [I.len]; exact (List.getElem?_eq_some_iff.mp hi).1
 have cne:=I.cne
 have tracked:∀ {a:Addr} {h':Heap},(∃ o,s.heap.get? a=some o /\ H a=none)->Heap.SameBut a s.heap h'->HOk X.prog X.w H h':=λ {a h'} ha hs b ob e=>by
  obtain ⟨_,_,hfree⟩:=ha
  refine (I.hok b ob e).stay (λ c w' hc q=>(hs.2 c ?_).trans q) (λ _ q=>q) λ _ _ q=>q
  rintro rfl
  rcases hc with rfl | hc
  ·rw [hfree] at e; cases e
  ·rw [hfree] at hc; cases hc
 refine wpAny_nameGoes_keeps hk hn hcls λ h' v hn' hs=>?_
 obtain ⟨oL,_,_,hoL,_⟩:=id hn
 refine h _ ⟨I.ok,I.os,I.bare,⟨λ b o e n hb hx=>?_,λ b o e n hb hx=>?_,I.base.free,λ b o e hx=>?_,I.base.tups,I.base.frzs,I.base.tbls⟩,⟨_,hn',λ j y v' e1 e2 e3=>?_⟩,λ y c e=>?_,I.free,I.freeC,λ p hp=>?_,tracked ⟨oL,hoL,I.free⟩ hs,by simpa using I.len⟩
 ·exact (hs.2 b (Nat.ne_of_lt (Nat.lt_of_lt_of_le (Heap.lt_size e) I.ok.above))).trans (I.base.keep b o e n hb hx)
 ·obtain ⟨sl,e1⟩:=I.base.slot b o e n hb hx
  exact ⟨sl,(hs.2 b (Nat.ne_of_lt (Nat.lt_of_lt_of_le (Heap.lt_size e) I.ok.above))).trans e1⟩
 ·obtain ⟨o',e1⟩:=I.base.there b o e hx
  exact ⟨o',(hs.2 b (Nat.ne_of_lt (Nat.lt_of_lt_of_le (Heap.lt_size e) I.ok.above))).trans e1⟩
 ·by_cases hj:j=i
  ·subst hj
   rw [List.getElem?_set_self hiσ] at e2
   cases e2
  ·rw [List.getElem?_set_ne (Ne.symm hj)] at e2
   obtain ⟨u',r',q⟩:=hl j y v' e1 e2 e3
   refine ⟨u',r',?_⟩
   rcases q with ⟨k,e⟩ | ⟨k,c,e,z⟩
   ·refine .inl ⟨k,?_⟩
    have:y ≠ n:=λ e=>hj (sa1 hN e1 (e ▸ hi))
    simp [this,e]
   ·exact .inr ⟨k,c,e,z.sameBut hs (cne y c e)⟩
 ·obtain ⟨w',z⟩:=I.cell y c e
  exact ⟨w',z.sameBut hs (cne y c e)⟩
 ·obtain ⟨e,n,ne,nf,d⟩:=I.pin p hp
  exact ⟨(hs.2 p.1 ne).trans e,n,ne,nf,d⟩
noncomputable def tTry (K:Fg) (Pc:Addr) (i:Nat) (sp:Sp) (st:V->L2.St->L2.St) (ta:TA) (ts:Addr->TS):TS:=λ D σ H=>ta σ H λ vs H1=>sp vs H1 (λ v H2=>D.nx (st v σ) H2)
 (λ cls _ H2=>∃ C,cls=.ref C /\ PySem.W.kitCls K (.ref C) (.ref Pc)=some true /\ (Kp H1 H2->∀ ea ob,H2 ea=none->ob.cls=.ref C ->
  ts ea { nx:=λ σ' H'=>D.nx (σ'.set i none) H',rt:=λ _ _=>False,bk:=λ _ _=>False,ct:=λ _ _=>False } (σ.set i (some (.ref ea))) (upd H2 ea (.frz ob (.own 0)))))
variable {k:Nat} {f:Addr} {fd:FuncData} {ps:List Str} {sp:Sp} {fx n x:Str} {i:Nat} {Pc:Addr} {e:Expr} {es:List Expr} {b₀:Stmt} {suite:List Stmt} {p cpos np hpos pos epos:Pos} {ta:TA} {ts:Addr->TS}
theorem tz1 {st:V->L2.St->L2.St} {QV:Value->Shared->Prop} {D:Ends} (F:FnOk X.prog X.w X.K X.mg X.base (CXn X.prog X.w) k f fd ps sp) (hr:Room k X.A) (hgf:Gl X fx) (hmf:X.mg fx=some (.ref f)) (hkf:PySem.W.keepIn X.K (.ref f)=true) (hb:Binds X.K fd ps []) (ha:PA X (e :: es) ta)
    (hsu:∀ ea,PSs (mark X (.ref ea)) (b₀ :: suite) (ts ea))
    (hN:X.N.Nodup) (hi:X.N[i]?=some n) (hloc:X.env.scope.names.lookup n=some .local) (hg:Gl X x) (hm:X.mg x=some (.ref Pc)) (hd:(x == ("__debug__" : Str))=false)
    (k2:PySem.W.kitCls X.K (.ref Pc) (.type "BaseException")=some true) (k3:PySem.W.kitCls X.K (.type "type") (.type "tuple")=some false) (hst:X.stack=X.env :: X.outer) (hfr:X.env.frame=some X.env.locals)
    (hxe:∀ v s,X.xe v s->False)
    (hdb:(fx == ("__debug__" : Str))=false) (he:starEach (e :: es) X.env=(false,eval e X.env) :: starEach es X.env) (hpl:(backTo cpos (starEach es X.env)).any (·.1)=false)
    (I:Inv X pins σ H s) (h:tTry X.K Pc i sp st ta ts D σ H) (kv:∀ v u H2 s2,RelV v u->Inv X pins σ H2 s2->D.nx (st v σ) H2->QV u s2) :
    wpAny (model X.prog X.w) X.A (eval (.Call (.Name fx p) (e :: es) [] cpos) X.env) QV
     (λ ex s₁=>wpAny (model X.prog X.w) X.A (noteFrame ex X.env) (λ _ s₂=>wpAny (model X.prog X.w) X.A (setFlight ex none) (λ _ s₃=>wpAny (model X.prog X.w) X.A (handleBy ex X.env [.ExceptHandler (some (.Name x np)) (some n) (b₀ :: suite) hpos]) (SP X pins D) X.xe s₃) X.xe s₂) X.xe s₁) s:=by
 refine wpAny_Call_Name_kw (wg0 I hgf hmf ?_ hdb)
 refine PySem.W.callWith_K (h₀:=X.base) I.ok.mod.kin hkf (wpAny_mono (ha cpos pins s σ H _ I h) (λ us s1 ⟨vs,H1,I1,r,q⟩=>⟨I1.kIn,?_⟩) λ _ _ z=>(hxe _ _ z).elim) he hpl
 have hl:(us ++ []).length=ps.length:=by rw [List.append_nil,<- r.length]; exact F.len _ _ _ _ q
 have hbb:=hb s1 us I1.kIn hl
 rw [List.append_nil] at hbb
 refine wpAny_call (codeAny_mono (F.run X.A X.stack s1 H1 ⟨us,[]⟩ us vs _ _ hr I1.env0 hbb r q) λ rr s' hq=>?_)
 cases rr with
 | error ex =>
  dsimp only [CR] at hq
  refine ug2 I1 hst hfr hq hN hi hloc hg hm hd (λ cls _ H' hE=>?_) k2 k3 λ ea C H' ob s6 _ hkp hE hea hob I6=>?_
  ·obtain ⟨C,e1,e2,_⟩:=hE
   exact ⟨C,e1,e2⟩
  ·obtain ⟨C',e1,e2,e3⟩:=hE
   cases e1
   refine wpAny_mono (hsu ea pins s6 _ _ _ I6 (e3 hkp ea ob hea hob)) (λ fl s4 z=>?_) λ _ _ z=>z
   cases fl with
   | next =>
    obtain ⟨σ',H4,I4,q4⟩:=z
    exact zs2 (yq0 I1.ok I4) hN hi hloc λ s5 I5=>⟨_,H4,I5,q4⟩
   | brk=>obtain ⟨_,_,_,z⟩:=z; exact z.elim
   | cont=>obtain ⟨_,_,_,z⟩:=z; exact z.elim
   | ret _=>obtain ⟨_,_,_,_,_,z⟩:=z; exact z.elim
 | ok fl =>
  cases fl with
  | ret u =>
   obtain ⟨v,H2,I2,rv,q2⟩:=I1.after hq
   exact kv v u H2 _ rv I2 q2
  | next=>exact False.elim hq
  | brk=>exact False.elim hq
  | cont=>exact False.elim hq
theorem tp2 {j:Nat} {y:Str} {py:Pos} (F:FnOk X.prog X.w X.K X.mg X.base (CXn X.prog X.w) k f fd ps sp) (hr:Room k X.A) (hgf:Gl X fx) (hmf:X.mg fx=some (.ref f)) (hkf:PySem.W.keepIn X.K (.ref f)=true) (hb:Binds X.K fd ps []) (ha:PA X (e :: es) ta)
    (hsu:∀ ea,PSs (mark X (.ref ea)) (b₀ :: suite) (ts ea))
    (hN:X.N.Nodup) (hi:X.N[i]?=some n) (hloc:X.env.scope.names.lookup n=some .local) (hj:X.N[j]?=some y) (hlocy:X.env.scope.names.lookup y=some .local) (hg:Gl X x) (hm:X.mg x=some (.ref Pc)) (hd:(x == ("__debug__" : Str))=false)
    (k2:PySem.W.kitCls X.K (.ref Pc) (.type "BaseException")=some true) (k3:PySem.W.kitCls X.K (.type "type") (.type "tuple")=some false) (hst:X.stack=X.env :: X.outer) (hfr:X.env.frame=some X.env.locals)
    (hxe:∀ v s,X.xe v s->False)
    (hdb:(fx == ("__debug__" : Str))=false) (he:starEach (e :: es) X.env=(false,eval e X.env) :: starEach es X.env) (hpl:(backTo cpos (starEach es X.env)).any (·.1)=false)
    (hs:swapsWith (.Call (.Name fx p) (e :: es) [] cpos) (some (.Name y py)) epos.line X.env=pure false) :
    PS X (.Try [.Assign [.Name y py] (.Call (.Name fx p) (e :: es) [] cpos) epos] [.ExceptHandler (some (.Name x np)) (some n) (b₀ :: suite) hpos] [] [] pos) (tTry X.K Pc i sp (λ v σ=>σ.set j (some v)) ta ts):=by
 intro pins s σ H D I h
 refine wpAny_Try_except (wpAny_execs_cons (wpAny_Assign_Name ?_ hs))
 exact tz1 F hr hgf hmf hkf hb ha hsu hN hi hloc hg hm hd k2 k3 hst hfr hxe hdb he hpl I h (λ v u H2 s2 rv I2 q=>xu0 I2 hN hj (.inl hlocy) rv (λ s3 I3=>wpAny_execs_nil (wpAny_execs_nil ⟨_,H2,I3,q⟩)) (.inr hlocy))
end
end Pv
namespace Pv
open PySem PySem.Spec PyProof.Rows L2 PySem.Calls
theorem RSt.unset {K:Fg} {H:Hp} {ρ:St3} {σ:L2.St} (i:Nat) (s:RSt K H ρ σ):RSt K H (ρ.set i none) (σ.set i none):=by
 refine ⟨by simp [s.len],λ j e h=>?_⟩
 rw [ub1] at h
 split at h
 ·cases h
 ·next c =>
  obtain ⟨v,h1,r⟩:=s.at' j e h
  by_cases hj:i=j
  ·exfalso
   apply c
   refine ⟨hj,?_⟩
   rw [s.len,hj]
   exact (List.getElem?_eq_some_iff.mp h1).1
  ·exact ⟨v,by rw [List.getElem?_set_ne hj]; exact h1,r⟩
theorem RelM.newF {K:Fg} {μ:Mu} {H:Hp} (m:RelM K μ H) {p:Addr} {o:HO} (h:H p=none):RelM K μ (upd H p o):=m.newT h
section
variable {X:Cx} {k:Nat} {ps:List Str} {spx:XE3->Sp3} {fx n x:Str} {i:Nat} {Pc:Addr} {e:Expr} {es:List Expr} {b₀:Stmt} {suite:List Stmt} {p cpos np hpos pos epos:Pos} {ta:TA3} {ts:TS3} {ok:Str->Bool}
theorem zh3 {f:Addr} {va:TA} {tv:Addr->TS} {st:V->L2.St->L2.St} {st3:D->St3->St3} (hstp:∀ {H:Hp} {ρ:St3} {σ:L2.St} {d:D} {v:V},RSt X.K H ρ σ->RelD X.K H d v->RSt X.K H (st3 d ρ) (st v σ))
    (ra:RdA X.K va ta) (rt:∀ ea,RdS X.K (tv ea) ts) (hok:∀ c,ok c=true->∃ C,PySem.W.nsIn X.K mainGlobals c=some (some (.ref C)) /\ X.mg c=some (.ref C) /\ PySem.W.kitCls X.K (.ref C) (.ref Pc)=some true) :
    RdS X.K (tTry X.K Pc i (tr2 X.K X.mg spx) st va tv) (try3 i spx st3 ok ta ts):=by
 intro σ H D ρ μ D3 s m h kd
 refine ra σ H _ ρ μ _ s m h λ ds μ1 vs H1 h1 k1 r1 m1=>?_
 refine ⟨ds,μ1,_,_,r1,m1,h1,λ d μ2 v H2 h2 k2 r2 m2=>?_,λ c C μ2 H2 _ hX hmc m2 _=>?_⟩
 ·exact kd.nx _ _ _ _ h2 (k1.trans k2) (hstp (s.mono (k1.trans k2)) r2) m2
 ·obtain ⟨o1,o2⟩:=hX
  obtain ⟨C',z1,z2,z3⟩:=hok c o1
  rw [hmc] at z2
  cases z2
  refine ⟨C,rfl,z3,λ kp ea ob hea hob=>?_⟩
  have kn:Kp H2 (upd H2 ea (.frz ob (.own 0))):=Kp.new hea
  refine rt ea _ _ _ _ _ _ ((((s.mono (k1.trans kp)).mono kn)).set i (.exc tg0 hob z1)) (m2.newF hea) o2 ⟨λ ρ' μ' σ' H' q k' s' m'=>?_,λ _ _ _ _ q=>False.elim q,λ _ _ _ _ q=>False.elim q,λ _ _ _ _ q=>False.elim q⟩
  exact kd.nx _ _ _ _ q (k1.trans (kp.trans (kn.trans k'))) (s'.unset i) m'
theorem yo2 {j:Nat} {y:Str} {py:Pos} (c:CalX X.prog X.w X.K X.mg X.base k fx ps spx) (hr:Room k X.A) (ha:RA X (e :: es) ta) (hsu:∀ ea,RSs (mark X (.ref ea)) (b₀ :: suite) ts) (hN:X.N.Nodup)
    (hm:X.mg x=some (.ref Pc)) (k2:PySem.W.kitCls X.K (.ref Pc) (.type "BaseException")=some true) (k3:PySem.W.kitCls X.K (.type "type") (.type "tuple")=some false)
    (hok:∀ c,ok c=true->∃ C,PySem.W.nsIn X.K mainGlobals c=some (some (.ref C)) /\ X.mg c=some (.ref C) /\ PySem.W.kitCls X.K (.ref C) (.ref Pc)=some true)
    (hi:X.N[i]?=some n:=by rfl) (hloc:X.env.scope.names.lookup n=some .local:=by rfl) (hj:X.N[j]?=some y:=by rfl) (hlocy:X.env.scope.names.lookup y=some .local:=by rfl) (hg:Gl X x:=by rfl) (hgf:Gl X fx:=by rfl) (hd:(x == ("__debug__" : Str))=false:=by decide)
    (hst:X.stack=X.env :: X.outer:=by rfl) (hfr:X.env.frame=some X.env.locals:=by rfl) (hxe:∀ v s,X.xe v s->False:=by intro _ _ h; exact h)
    (hdb:(fx == ("__debug__" : Str))=false:=by decide) (he:starEach (e :: es) X.env=(false,eval e X.env) :: starEach es X.env:=by rfl) (hpl:(backTo cpos (starEach es X.env)).any (·.1)=false:=by rfl)
    (hs:swapsWith (.Call (.Name fx p) (e :: es) [] cpos) (some (.Name y py)) epos.line X.env=pure false:=by rfl) :
    RS X (.Try [.Assign [.Name y py] (.Call (.Name fx p) (e :: es) [] cpos) epos] [.ExceptHandler (some (.Name x np)) (some n) (b₀ :: suite) hpos] [] [] pos) (try3 i spx (zb3 j) ok ta ts):=by
 obtain ⟨f,fd,F,hmf,hkf,hb⟩:=c
 obtain ⟨va,pa,ra⟩:=ha
 exact ⟨_,tp2 F hr hgf hmf hkf hb pa (ts:=λ ea=>(hsu ea).choose) (λ ea=>(hsu ea).choose_spec.1) hN hi hloc hj hlocy hg hm hd k2 k3 hst hfr hxe hdb he hpl hs,zh3 (f:=f) (λ s r=>s.set j r) ra (λ ea=>(hsu ea).choose_spec.2) hok⟩
end
end Pv
namespace Pv
open PySem PySem.Spec PyProof.Rows L2 PySem.Calls
structure RoomM (k:Nat) (A:Around):Prop where
 dp:A.depth + 3 * k + 5 < recursionLimit
 un:A.units + 16 * k + 200 < cLine
theorem RoomM.mono {j k:Nat} {A:Around} (r:RoomM k A) (h:j<=k):RoomM j A:=⟨by have:=r.dp; omega,by have:=r.un; omega⟩
theorem RoomM.deeper {k:Nat} {A:Around} (r:RoomM (k + 1) A) (env:Env):RoomM k (A.deeper env) :=
 ⟨by have:=r.dp; show A.depth + 1 + 3 * k + 5 < _; omega,by have:=r.un; show A.units + 3 + 16 * k + 200 < _; omega⟩
theorem RoomM.of {k:Nat} {A:Around} (r:Room k A) (e:Option Value):RoomM k (A.mark e):=⟨r.dp,r.un⟩
structure FnOkM (P:Program) (w:World) (K:PySem.W.Frag) (mg:Str->Option Value) (base:Heap) (CX:CXT) (k:Nat) (f:Addr) (fd:FuncData) (ps:List Str) (sp:Sp):Prop where
 len:∀ vs H Q E,sp vs H Q E->vs.length=ps.length
 run:∀ (A:Around) (outer:List Env) (s:Shared) (H:Hp) (args:Args) (us:List Value) (vs:List V) (Q:VK) (E:XK),RoomM k A->Env0 P w K mg base A outer s H->BindsTo s fd args (ps.zip us)->Vals vs us->sp vs H Q E ->
  codeAny (model P w) A (.call (.ref f) args) (CR CX outer P w H s Q E) s
noncomputable abbrev cxM (CX:CXT) (P:Program) (w:World) (K:PySem.W.Frag) (mg:Str->Option Value) (base:Heap) (N:List Str) (qual:Str) (scope:Scope) (f:Addr) (cd:Value) (A:Around) (outer:List Env) (s:Shared) (H:Hp) (E:XK):Cx :=
 { cxOf CX P w K mg base N qual scope f cd A outer s H E with calm:=false }
theorem sp1 {CX:CXT} {P:Program} {w:World} {K:PySem.W.Frag} {mg:Str->Option Value} {base:Heap} {N ps:List Str} {qual:Str} {scope:Scope} {f:Addr} {cd:Value} {A:Around} {outer:List Env} {s s1:Shared} {H:Hp} {E:XK} {us:List Value} {vs:List V}
    (S:FnScope N ps scope) (e0:Env0 P w K mg base A outer s H) (hl:vs.length=ps.length) (r:Vals vs us)
    (x:InCallC s s.heap.objs.size (bindL (envOfC qual scope s.heap.objs.size f cd).kindOf (ps.zip us) λ _=>none) (cellsFrom (s.heap.objs.size + 1) scope.names []) (bindC (envOfC qual scope s.heap.objs.size f cd).kindOf (ps.zip us) λ _=>none) s1) :
    Inv (cxM CX P w K mg base N qual scope f cd A outer s H E) [] (start N vs) H s1:=by
 have I:=xf1 (CX:=CX) (P:=P) (w:=w) (K:=K) (mg:=mg) (base:=base) (E:=E) (A:={ A with handled:=none }) (outer:=outer) S rfl ⟨e0.frames,e0.mod,e0.bs,e0.bsz,e0.funs,e0.frf,e0.hok,e0.bare⟩ hl r x
 exact ⟨⟨I.ok.mod,I.ok.kind,I.ok.glob,I.ok.blt,I.ok.above,I.ok.inj,I.ok.has,I.ok.cab,(λ z=>Bool.noConfusion z),Around.frames_deeper e0.frames,I.ok.stk,I.ok.exf,I.ok.bs,I.ok.bsz,I.ok.noex,I.ok.exfs,I.ok.funs,I.ok.frf⟩,I.os,I.bare,I.base,I.loc,I.cell,I.free,I.freeC,I.pin,I.hok,I.len⟩
theorem tr3 {CX:CXT} {P:Program} {w:World} {K:PySem.W.Frag} {mg:Str->Option Value} {base:Heap} {k:Nat} {f:Addr} {name qual:Str} {params:Arguments} {body:List Stmt} {scope:Scope} {dV kV doc pm cdv ct oc:Value} {an od:Option Addr}
    {osl:Array (Option Value)} {N ps:List Str} {sp:Sp} (lk:K.lookup f=some ⟨oc,od,.func (PySem.W.fnOf name qual params body scope dV kV doc pm an cdv ct),osl⟩) (hcd:PySem.W.codeIn K cdv qual=true) (S:FnScope N ps scope)
    (len:∀ vs H Q E,sp vs H Q E->vs.length=ps.length)
    (hbody:∀ (A:Around) (outer:List Env) (s:Shared) (H:Hp) (vs:List V) (Q:VK) (E:XK),RoomM k (A.deeper (envOfC qual scope s.heap.objs.size f cdv))->sp vs H Q E ->
     ∃ t,PSs (cxM CX P w K mg base N qual scope f cdv A outer s H E) body t /\ t { nx:=λ _ H'=>Q .non H',rt:=Q } (start N vs) H) :
    FnOkM P w K mg base CX (k + 1) f (PySem.W.fnOf name qual params body scope dV kV doc pm an cdv ct) ps sp:=by
 refine ⟨len,λ A outer s H args us vs Q E hr e0 hb r hsp=>?_⟩
 have hl:=len _ _ _ _ hsp
 have KX:K.In s.heap:=e0.mod.kin.keeps λ b o e=>(e0.bs b o e).1
 have lim:s.heap.NoLimit:=e0.mod.nolimit.keeps λ b o e=>(e0.bs b o e).1
 have hkind:∀ y ∈ ps.zip us,scope.names.lookup y.1=some .local \/ (scope.names.lookup y.1=some .cell /\ ((cellsFrom (s.heap.objs.size + 1) scope.names []).lookup y.1).isSome=true):=λ ⟨n,v⟩ hy=>by
  rcases S.par n (List.of_mem_zip hy).1 with q | q
  ·exact .inl q
  ·exact .inr ⟨q,PySem.W.cellsFrom_some _ _ _ (.inl q)⟩
 have hdep:A.depth < recursionLimit:=by have:=hr.dp; omega
 refine codeAny_call_function hdep (KX _ _ lk) rfl S.co S.gen rfl (PySem.W.codeRec_of KX hcd) (hb _ _ _ _ ?_)
 refine wpAny_newFunctionEnv_cells S.kind hkind λ env he s1 x=>?_
 subst he
 refine ⟨lim.keeps x.toInCall.keep,codeAny_func ?_⟩
 obtain ⟨t,ht,hq⟩:=hbody A outer s H vs Q E (hr.deeper _) hsp
 have I:Inv (cxM CX P w K mg base N qual scope f cdv A outer s H E) [] (start N vs) H s1:=sp1 S e0 hl r x
 refine wpAny_mono (ht [] s1 (start N vs) H _ I hq) (λ fl s' hs=>?_) λ e s' hs=>hs
 have fin:∀ {σ':L2.St} {H':Hp} {v:V} {u:Value},Inv (cxM CX P w K mg base N qual scope f cdv A outer s H E) [] σ' H' s'->RelV v u->Q v H'->CE outer P w H s Q u s' :=
  λ {σ' H' v u} J rv q=>⟨v,H',J.os,J.bare,J.base,J.hok,rv,q⟩
 cases fl with
 | ret u =>
  obtain ⟨v,σ',H',J,rv,q⟩:=hs
  exact fin J rv q
 | next =>
  obtain ⟨σ',H',J,q⟩:=hs
  exact fin (v:=V.non) (u:=Value.none) J rfl q
 | brk =>
  obtain ⟨_,_,_,q⟩:=hs
  exact False.elim q
 | cont =>
  obtain ⟨_,_,_,q⟩:=hs
  exact False.elim q
noncomputable def CalM (P:Program) (w:World) (K:Fg) (mg:Str->Option Value) (base:Heap) (k:Nat) (x:Str) (ps:List Str) (sp:Sp3):Prop :=
 ∃ f fd,FnOkM P w K mg base CX0 k f fd ps (lift K sp) /\ mg x=some (.ref f) /\ PySem.W.keepIn K (.ref f)=true /\ Binds K fd ps []
theorem CalM.mono {P:Program} {w:World} {K:Fg} {mg:Str->Option Value} {base:Heap} {j k:Nat} {x:Str} {ps:List Str} {sp:Sp3} (c:CalM P w K mg base j x ps sp) (h:j<=k):CalM P w K mg base k x ps sp:=by
 obtain ⟨f,fd,F,r⟩:=c
 exact ⟨f,fd,⟨F.len,λ A outer s H args us vs Q E hr=>F.run A outer s H args us vs Q E (hr.mono h)⟩,r⟩
section
variable {X:Cx} {x:Str} {e:Expr} {es:List Expr} {p pos:Pos} {t:TA3}
theorem ub2 {k:Nat} {ps:List Str} {sp:Sp3} (c:CalM X.prog X.w X.K X.mg X.base k x ps sp) (hr:RoomM k X.A) (ha:RA X (e :: es) t) (hg:Gl X x:=by rfl) (hdb:(x == ("__debug__" : Str))=false:=by decide)
    (he:starEach (e :: es) X.env=(false,eval e X.env) :: starEach es X.env:=by rfl) (hpl:(backTo pos (starEach es X.env)).any (·.1)=false:=by rfl):RE X (.Call (.Name x p) (e :: es) [] pos) (zb0 sp t):=by
 obtain ⟨f,fd,F,hm,hk,hb⟩:=c
 obtain ⟨va,pa,ra⟩:=ha
 refine ⟨wa3 (lift X.K sp) [] E0 va,λ pins s σ H Q I h=>?_,λ σ H Q ρ μ Q3 s m h k=>ra σ H _ ρ μ _ s m h λ ds μ1 vs H1 h1 k1 r1 m1=>?_⟩
 ·refine wpAny_Call_Name_kw (wg0 I hg hm ?_ hdb)
  refine PySem.W.callWith_K (h₀:=X.base) I.ok.mod.kin hk (thn (pa pos pins s σ H _ I h) λ us s1 ⟨vs,H1,I1,r,q⟩=>⟨I1.kIn,?_⟩) he hpl
  dsimp only at q
  rw [List.append_nil] at q
  have hl:(us ++ []).length=ps.length:=by rw [List.append_nil,<- r.length]; exact F.len _ _ _ _ q
  have hbb:=hb s1 us I1.kIn hl
  rw [List.append_nil] at hbb
  refine wpAny_call (codeAny_mono (F.run X.A X.stack s1 H1 ⟨us,[]⟩ us vs Q E0 hr I1.env0 hbb r q) λ rr s' hq=>?_)
  cases rr with
  | error ex=>exact False.elim hq
  | ok fl =>
   cases fl with
   | ret u=>exact I1.after hq
   | next=>exact False.elim hq
   | brk=>exact False.elim hq
   | cont=>exact False.elim hq
 ·rw [List.append_nil]
  exact ⟨ds,μ1,Q3,r1,m1,h1,k.after k1⟩
end
section
variable {P:Program} {w:World} {K:Fg} {mg:Str->Option Value} {base:Heap}
theorem zu2 {x:Str} {st:Stmt} {f:Addr} {fd:FuncData} {N ps:List Str} {k:Nat} {sp:Sp3} {t:TS3} (F:Fun K x x st f fd) (hm:mg x=some (.ref f)) (hb:Binds K fd ps []) (S:FnScope N ps (ta0 st))
    (len:∀ ds μ Q,sp ds μ Q->ds.length=ps.length)
    (body:∀ (cdv:Value) (A:Around) (outer:List Env) (s:Shared) (H:Hp) (E:XK),RoomM k (A.deeper (envOfC x (ta0 st) s.heap.objs.size f cdv))->RSs (cxM CX0 P w K mg base N x (ta0 st) f cdv A outer s H E).nox (wc0 st) t)
    (rd:∀ ds μ Q,sp ds μ Q->t { nx:=λ _ μ'=>Q .non μ',rt:=Q } (uc0 N ds) μ):CalM P w K mg base (k + 1) x ps sp:=by
 refine ⟨f,fd,?_,hm,F.kp,hb⟩
 obtain ⟨oc,od,kV,doc,pm,an,cdv,ct,osl,rfl,lk,hcd⟩:=F.ex
 refine tr3 lk hcd S (λ vs H Q E h=>?_) λ A outer s H vs Q E hr h=>?_
 ·obtain ⟨ds,μ,Q3,r,m,q,ks⟩:=h
  rw [<- r.length]; exact len _ _ _ q
 ·obtain ⟨ds,μ,Q3,r,m,q,ks⟩:=h
  obtain ⟨tv,p,rt⟩:=body cdv A outer s H E hr
  exact ⟨tv,p.nox,rt _ H _ _ μ _ (RSt.start N r) m (rd ds μ Q3 q) ⟨λ ρ μ' σ H' h' k' s' m'=>ks _ _ _ _ h' k' .non m',λ ρ μ' σ H' h'=>False.elim h',λ ρ μ' σ H' h'=>False.elim h',ks⟩⟩
end
end Pv
namespace Pv
open PySem PySem.Spec PyProof.Rows L2 PySem.Calls
theorem su1 {K:Fg} {h:Heap} {mg:Str->Option Value} {x:Str} {C:Addr} {bs:List Value} {ni:String} (Z:K.In h) (G:h.Ns mainGlobals mg) (e:PySem.W.nsIn K mainGlobals x=some (some (.ref C))) (w:PySem.W.excIn K C bs ni=true):OwnCls x C bs ni mg h:=by
 refine ⟨PySem.W.mg_of Z G e,?_⟩
 unfold PySem.W.excIn at w
 split at w
 case h_2=>cases w
 case h_1 d1 c1 s1 ho =>
  split at w
  case h_2=>cases w
  case h_1 C2 b1 z0 z1 z2 z3 id z5 hm hs =>
   simp only [Bool.and_eq_true,beq_iff_eq,Bool.not_eq_true'] at w
   obtain ⟨⟨⟨⟨⟨w1,w2⟩,w3⟩,w4⟩,w5⟩,w6⟩:=w
   subst w1 w2
   cases c1
   dsimp only at hm w3 w5 w6
   subst hm w3
   have es:s1 = #[z0,z1,z2,z3,some (.builtin id),z5]:=by cases s1; simp only at hs; rw [hs]
   rw [es] at ho
   exact ⟨b1,_,_,_,_,_,_,_,_,_,d1,z0,z1,z2,z3,z5,_,Z _ _ ho,.of_isNs (PySem.W.isNs_of_in Z w5),PySem.W.nsMap_none_of_in Z w5 w6,PySem.W.tail_of_in Z w4⟩
theorem xg1 {P:Program} {w:World} {K:Fg} {mg:Str->Option Value} {base:Heap} {x:Str} {st:Stmt} {f:Addr} {fd:FuncData} {ps:List Str} {spx:XE3->Sp3} (F:Fun K x x st f fd) (hm:mg x=some (.ref f)) (hb:Binds K fd ps []) (no:∀ XE ds μ Q,¬ spx XE ds μ Q):CalX P w K mg base 0 x ps spx:=by
 have no':∀ vs H Q E,¬ tr2 K mg spx vs H Q E:=λ vs H Q E ⟨ds,μ,Q3,XE,_,_,q,_⟩=>no _ _ _ _ q
 exact ⟨f,fd,⟨λ vs H Q E h=>absurd h (no' vs H Q E),λ A outer s H args us vs Q E _ _ _ _ h=>absurd h (no' vs H Q E)⟩,hm,F.kp,hb⟩
theorem vm0 {X:Cx} {k:Nat} {ps:List Str} {spx:XE3->Sp3} {x:Str} {e:Expr} {es:List Expr} {p pos:Pos} {t:TA3} (c:CalX X.prog X.w X.K X.mg X.base k x ps spx) (hr:Room k X.A)
    (ha:RA X (e :: es) t) (hg:Gl X x:=by rfl) (hdb:(x == ("__debug__" : Str))=false:=by decide)
    (he:starEach (e :: es) X.env=(false,eval e X.env) :: starEach es X.env:=by rfl) (hpl:(backTo pos (starEach es X.env)).any (·.1)=false:=by rfl) :
    RE X (.Call (.Name x p) (e :: es) [] pos) (zb0 (spx NX) t):=by
 obtain ⟨g,fd,F,hm,hk,hb⟩:=c
 obtain ⟨va,pa,ra⟩:=ha
 have ps:wz0 (CXn X.prog X.w) X (λ _ _ _=>False):=λ pins σ H s e s' I h=>by
  obtain ⟨_,_,_,_,_,_,_,_,_,_,_,_,_,_,_,_,hE⟩:=h
  exact hE.elim
 refine ⟨_,wh1 F hr hg hm hk hb .nil ps pa hdb he hpl,λ σ H Q ρ μ Q3 s m h k=>ra σ H _ ρ μ _ s m h λ ds μ1 vs H1 h1 k1 r1 m1=>?_⟩
 rw [List.append_nil]
 exact ⟨ds,μ1,Q3,NX,r1,m1,h1,k.after k1,λ _ _ _ _ _ h=>False.elim h⟩
section
variable {K:Fg} {C:Addr} {cd:ClassData} {t c:Value} {b:Bool} {T:String}
theorem ud0 (cl:PySem.W.clsIn K C=some cd) (tc:PySem.W.typeIn K (.ref C)=some (.type "type")) (sb:PySem.W.subIn K t (.ref C)=some b):PySem.W.kitCls K t (.ref C)=some b:=by
 unfold PySem.W.kitCls
 dsimp only
 rw [cl,tc,if_pos (by simp),sb]
theorem zp0 (hm:PySem.W.kitMeta T=true) (sb:PySem.W.subIn K t (.type T)=some b):PySem.W.kitCls K t (.type T)=some b:=by
 unfold PySem.W.kitCls
 dsimp only
 rw [if_pos hm,sb]
theorem sf0 (ne:(t == c)=false) (h:PySem.W.kitCls K t c=some b):PySem.W.kitOne K t c=some b:=by
 unfold PySem.W.kitOne
 rw [if_neg (by rw [ne]; decide),h]
theorem zw0:PySem.W.kitOne K t t=some true:=by
 unfold PySem.W.kitOne
 rw [if_pos (by simp)]
end
theorem vc1:bootBuiltins "ValueError" = some (.type "ValueError"):=by decide +kernel
end Pv
namespace Pv
open PySem PySem.Spec PyProof.Rows L2
noncomputable def isBR (neg:Bool):R3:=λ x y μ Q=>match x,y with
 | .bl a,.bl b=>Q (.bl (if neg then a != b else a == b)) μ
 | _,_=>False
section
variable {X:Cx}
theorem yr2:OpR X (compareOp .IsNot) (λ x y H Q=>∃ a b,x=.bl a /\ y=.bl b /\ Q (.bl (a != b)) H):=by
 intro pins s σ H x y v u Q I rx ry h
 obtain ⟨a,b,rfl,rfl,q⟩:=h
 cases rx
 cases ry
 exact isnot_bool (xe0 I q rfl)
theorem yk1:RO X (compareOp .IsNot) (isBR true):=by
 refine ⟨_,yr2,λ x y v u H Q μ Q3 m rx ry h k=>?_⟩
 cases rx with
 | bl a =>
  cases ry with
  | bl b=>exact ⟨a,b,rfl,rfl,k _ _ _ _ h (Kp.refl _) (.bl _) m⟩
  | _=>exact False.elim h
 | _=>exact False.elim h
end
end Pv
namespace Pv
open PySem PySem.Spec PyProof.Rows L2
noncomputable def mdg3 (tab:Str->Option Int) (t:TE3):TE3:=λ ρ μ Q=>t ρ μ λ d μ1=>match d with
 | .str x=>match tab x with
  | some i=>Q (.int i) μ1
  | none=>False
 | _=>False
noncomputable def mdn3 (neg:Bool) (tab:Str->Option Bool) (t:TE3):TE3:=λ ρ μ Q=>t ρ μ λ d μ1=>match d with
 | .str x=>match tab x with
  | some c=>Q (.bl (if neg then !c else c)) μ1
  | none=>False
 | _=>False
structure Mdc (w:World) (K:Fg) (mg:Str->Option Value) (name:Str) (a:Addr):Prop where
 mg:mg name=some (.ref a)
 sm:(a == sysModules)=false
 lk:∃ es n,K.lookup a=some ⟨.type "dict",none,.dict es n,#[]⟩ /\ PySem.W.KeysLit w.params es.toList
noncomputable def MdI (K:Fg) (a:Addr) (tab:Str->Option Int):Prop:=∀ x i,tab x=some i->∃ t,PySem.W.nsIn K a x=some (some (.int i t))
noncomputable def MdN (K:Fg) (a:Addr) (tab:Str->Option Bool):Prop:=∀ x c,tab x=some c->∃ r,PySem.W.nsIn K a x=some r /\ r.isSome=c
section
variable {X:Cx} {i:Expr} {ti:TE3} {ty:TE} {a:Addr} {x:Str} {p pos pos':Pos}
theorem tn3 (M:Mdc X.w X.K X.mg x a) (hg:Gl X x) (hi:PE X i ty) (hs:NoSl i) (hdb:(x == ("__debug__" : Str))=false) :
    PE X (.Subscript (.Name x p) i pos) (λ σ H Q=>ty σ H λ y H1=>∃ z v u,y=.str z /\ PySem.W.nsIn X.K a z=some (some u) /\ RelV v u /\ Q v H1):=by
 intro pins s σ H Q I h
 obtain ⟨es,n,hl,hk⟩:=M.lk
 refine zs1 PySem.F.slot_dict_getitem.lookup hs (wg0 I hg M.mg (thn (hi pins s σ H _ I h) λ iv s2 ⟨y,H2,I2,ry,z,v,u,ex,e,rv,q⟩=>?_) hdb)
 subst ex
 obtain ⟨t,rfl⟩:=ry
 have hm:=PySem.W.mapOf_K (prog:=X.prog) (w:=X.w) I2.kIn hl hk
 exact ⟨hm.typeIs,wpAny_getItem_of (strKind_is X.prog X.w z t) hm (PySem.W.find_K hl e) ⟨v,H2,I2.tok _,rv,q⟩⟩
theorem yh3 {tab:Str->Option Int} (M:Mdc X.w X.K X.mg x a) (T:MdI X.K a tab) (hi:RE X i ti) (hg:Gl X x:=by rfl) (hs:NoSl i:=by intro _ _; rfl) (hdb:(x == ("__debug__" : Str))=false:=by decide):RE X (.Subscript (.Name x p) i pos) (mdg3 tab ti):=by
 obtain ⟨vi,pi,ri⟩:=hi
 refine ⟨_,tn3 M hg pi hs hdb,λ σ H Q ρ μ Q3 s m h k=>ri σ H _ ρ μ _ s m h λ y μ1 v H1 h1 k1 r1 m1=>?_⟩
 split at h1
 ·next z =>
  split at h1
  ·next j ej =>
   obtain ⟨t,e⟩:=T z j ej
   cases r1
   exact ⟨z,.int j,_,rfl,e,⟨t,rfl⟩,k _ _ _ _ h1 k1 (.int _) m1⟩
  ·exact h1.elim
 ·exact h1.elim
theorem zo3 (neg:Bool) (M:Mdc X.w X.K X.mg x a) (hg:Gl X x) (hi:PE X i ty) (hdb:(x == ("__debug__" : Str))=false) :
    PC X (if neg then .NotIn else .In) i (.Name x p) (λ σ H Q=>ty σ H λ y H1=>∃ z r,y=.str z /\ PySem.W.nsIn X.K a z=some r /\ Q (.bl (if neg then !r.isSome else r.isSome)) H1):=by
 intro pins s σ H Q I h
 obtain ⟨es,n,hl,hk⟩:=M.lk
 refine thn (hi pins s σ H _ I h) λ iv s1 ⟨y,H1,I1,ry,z,r,ex,e,q⟩=>wg0 I1 hg M.mg ?_ hdb
 subst ex
 obtain ⟨t,rfl⟩:=ry
 have hm:=PySem.W.mapOf_K (prog:=X.prog) (w:=X.w) I1.kIn hl hk
 cases neg with
 | true=>exact wpAny_notIn_of (strKind_is X.prog X.w z t) M.sm hm (by rw [PySem.W.find_K hl e]; exact ⟨.bl (!r.isSome),H1,I1.tok _,rfl,q⟩)
 | false=>exact wpAny_in_of (strKind_is X.prog X.w z t) M.sm hm (by rw [PySem.W.find_K hl e]; exact ⟨.bl r.isSome,H1,I1.tok _,rfl,q⟩)
theorem uk3 {neg:Bool} {tab:Str->Option Bool} {K:Fg} (T:MdN K a tab) (ri:RdE K ty ti):RdE K (λ σ H Q=>ty σ H λ y H1=>∃ z r,y=.str z /\ PySem.W.nsIn K a z=some r /\ Q (.bl (if neg then !r.isSome else r.isSome)) H1) (mdn3 neg tab ti):=by
 intro σ H Q ρ μ Q3 s m h k
 refine ri σ H _ ρ μ _ s m h λ y μ1 v H1 h1 k1 r1 m1=>?_
 split at h1
 ·next z =>
  split at h1
  ·next c ec =>
   obtain ⟨r,e,rc⟩:=T z c ec
   cases r1
   exact ⟨z,r,rfl,e,by rw [rc]; exact k _ _ _ _ h1 k1 (.bl _) m1⟩
  ·exact h1.elim
 ·exact h1.elim
theorem yp1 {tab:Str->Option Bool} (M:Mdc X.w X.K X.mg x a) (T:MdN X.K a tab) (hi:RE X i ti) (hg:Gl X x:=by rfl) (hdb:(x == ("__debug__" : Str))=false:=by decide):RT X (.Compare i [.NotIn] [.Name x p] pos) (b3 (mdn3 true tab ti)):=by
 obtain ⟨vi,pi,ri⟩:=hi
 exact ⟨_,tl3 (zo3 true M hg pi hdb),RdT.test (uk3 T ri)⟩
theorem ua1 {a b c:Expr} {ta tb tc:TE3} {op op':CmpOp} {r r':R3} {pos:Pos} (ho:RO X (compareOp op) r) (ho':RO X (compareOp op') r') (ha:RE X a ta) (hb:RE X b tb) (hc:RE X c tc)
    (hm:lastMarks [op,op'] [b,c]=false:=by with_unfolding_all rfl):RT X (.Compare a [op,op'] [b,c] pos) (b3 (ch3 r r' ta tb tc)):=by
 obtain ⟨o,po,ro⟩:=ho
 obtain ⟨o',po',ro'⟩:=ho'
 obtain ⟨va,pa,ra⟩:=ha
 obtain ⟨vb,pb,rb⟩:=hb
 obtain ⟨vc,pc,rc⟩:=hc
 refine ⟨_,yc2 po po' pa pb pc hm,RdT.test λ σ H Q ρ μ Q3 s m h k=>ra σ H _ ρ μ _ s m h λ x μ1 v H1 h1 k1 r1 m1=>rb σ H1 _ ρ μ1 _ (s.mono k1) m1 h1 λ y μ2 u H2 h2 k2 r2 m2 =>
  ro x y v u H2 _ μ2 _ m2 (r1.mono k2) r2 h2 λ d μ3 z H3 h3 k3 r3 m3=>?_⟩
 cases r3 with
 | bl e =>
  cases e with
  | false=>exact ⟨false,rfl,k _ _ _ _ h3 (k1.trans (k2.trans k3)) (.bl _) m3⟩
  | true =>
   refine ⟨true,rfl,?_⟩
   show vc σ H3 _
   exact rc σ H3 _ ρ μ3 _ (((s.mono k1).mono k2).mono k3) m3 h3 λ w μ4 x4 H4 h4 k4 r4 m4=>ro' y w u x4 H4 Q μ4 Q3 m4 (r2.mono (k3.trans k4)) r4 h4 (k.after (k1.trans (k2.trans (k3.trans k4))))
 | _=>exact False.elim h3
end
end Pv
namespace PySem
section
variable {prog:Program} {w:World} {A:Around} {E:Value->Shared->Prop} {s:Shared}
theorem xl1 {it t:Addr} {vs:Array Value} (n0:t ≠ it):∀ (n i:Nat) (s:Shared) (Q:List Value->Shared->Prop),s.heap.IsListIter it t i->s.heap.IsList t vs->i + n<=vs.size ->
    (∀ h',h'.IsListIter it t (i + n)->Heap.SameBut it s.heap h'->Q ((vs.toList.drop i).take n) { s with heap:=h' })->wpAny (model prog w) A (draw (.ref it) n) Q E s
 | 0,i,s,Q,g0,_,_,q0=>by
  show wpAny _ _ (pure []) Q E s
  exact wpAny_pure (by simpa using q0 s.heap g0 (Heap.SameBut.refl ..))
 | n + 1,i,s,Q,g0,l0,le0,q0=>by
  have c0:i < vs.size:=by omega
  show wpAny _ _ (pyNext (.ref it) >>= _) Q E s
  refine wpAny_bind (wpAny_pyNext_list_item g0 l0 (x:=vs[i]) (by simp [c0]) λ h₁ g1 k1=>?_)
  refine wpAny_bind (wpAny_holding (xl1 n0 n (i + 1) _ _ g1 (l0.extBut k1.extBut n0) (by omega) λ h₂ g2 k2=>wpAny_pure ?_))
  have d0:vs.toList.drop i=vs[i] :: vs.toList.drop (i + 1):=by simp [List.drop_eq_getElem_cons,c0]
  have:=q0 h₂ (by rw [show i + (n + 1)=i + 1 + n by omega]; exact g2) (k1.trans k2)
  rw [d0,List.take_succ_cons] at this
  exact this
theorem sr2 {t:Addr} {vs:Array Value} {Q:List Value->Shared->Prop} (u0:A.handled=none) (l0:s.heap.IsList t vs)
    (q0:∀ h',Heap.ExtBut s.heap.objs.size s.heap h'->Q vs.toList { s with heap:=h' }):wpAny (model prog w) A (unpackItems (.ref t) vs.size none) Q E s:=by
 have c0:t ≠ s.heap.objs.size:=by obtain ⟨o,ho,_⟩:=l0; exact Nat.ne_of_lt (Heap.lt_size ho)
 unfold unpackItems
 refine wpAny_bind ?_
 unfold notIterableAtAll
 refine wpAny_bind (wpAny_specialOf l0.typeIs slot_list_iter.lookup (wpAny_pure ?_))
 simp only [Bool.false_eq_true,if_false]
 refine wpAny_bind (wpAny_holding (wpAny_pyIter_list l0 (wpAny_bind (wpAny_holding (xl1 c0 vs.size 0 _ _ ⟨_,Heap.get?_push_size _ rfl,rfl,rfl⟩ (l0.push _) (by omega) λ h₁ g1 k1=>?_)))))
 rw [show List.take vs.size (List.drop 0 vs.toList)=vs.toList by rw [List.drop_zero]; exact List.take_of_length_le (by simp),if_neg (by simp)]
 refine wpAny_bind (wpAny_holding (wpAny_pyNext_list_end u0 g1 ((l0.push _).extBut k1.extBut c0) (by simp) λ h₂ x2=>?_))
 simp only [Option.isSome_none,Bool.false_eq_true,if_false]
 exact wpAny_pure (q0 h₂ λ b o hb e=>x2 b o hb (k1.extBut b o hb (Heap.get?_push_of_some _ e)))
theorem vu2 {env:Env} {elts:List Expr} {x1} {pos:Pos} {t:Addr} {vs:Array Value} {Q:Unit->Shared->Prop} (u0:A.handled=none) (l0:s.heap.IsList t vs)
    (hn:(assignEach elts env).length=vs.size) (st0:(assignEach elts env).findIdx? (·.1)=none)
    (h:∀ h',Heap.ExtBut s.heap.objs.size s.heap h'->wpAny (model prog w) A (assignInOrder ((assignEach elts env).map (·.2)) vs.toList) Q E { s with heap:=h' }) :
    wpAny (model prog w) A (assign (.Tuple elts x1 pos) env (.ref t)) Q E s:=by
 rw [arm_assign_Tuple]
 refine wpAny_bind (wpAny_standAt ?_)
 unfold unpack
 rw [hn,st0]
 exact wpAny_bind (wpAny_holding (sr2 u0 l0 h))
end
end PySem
namespace Pv
open PySem PySem.Spec PyProof.Rows L2
noncomputable def vf2 (n:Nat) (t:TGs3):TG3:=λ d ρ μ Q=>match d with
 | .ref p=>match μ p with
  | some (.lst l)=>l.length=n /\ t l ρ μ Q
  | _=>False
 | _=>False
section
variable {X:Cx} {pos:Pos}
theorem sm3 {es:List Expr} {k:Nat} {t:TGs} {n:Nat} (hc:X.calm=true) (h:PGs X es t) (hn:(assignEach es X.env).length=n:=by rfl) (hst:(assignEach es X.env).findIdx? (·.1)=none:=by rfl) :
    PG X (.Tuple es k pos) (λ v σ H Q=>∃ a xs,v=.ref a /\ H a=some (.lst xs) /\ xs.length=n /\ t xs σ H Q):=by
 intro pins s σ H v u Q I r hw
 obtain ⟨a,xs,e1,hq,hl,hw⟩:=hw
 subst e1
 cases r
 obtain ⟨_,its,m,rv,e⟩:xs.length<=sizeLine /\ ∃ (its:List Value) (n:Nat),Vals xs its /\ s.heap.get? a=some { cls:=.type "list",data:=.seq its.toArray n }:=I.hok a _ hq
 refine vu2 (I.ok.hd hc) ⟨_,e,rfl,m,rfl⟩ (by simp [hn,<- hl,rv.length]) hst λ h' hx=>?_
 have I1:Inv X pins σ H { s with heap:=h' }:=I.kept (t':=s.toks) λ b o e=>hx b o (Nat.ne_of_lt (Heap.lt_size e)) e
 exact h pins _ σ H xs _ Q I1 (by simpa using rv) hw
theorem tg3 {es:List Expr} {kk:Nat} {gs:TGs3} {n:Nat} (hc:X.calm=true) (h:RGs X es gs) (hn:(assignEach es X.env).length=n:=by rfl) (hst:(assignEach es X.env).findIdx? (·.1)=none:=by rfl):RG X (.Tuple es kk pos) (vf2 n gs):=by
 obtain ⟨va,pa,ra⟩:=h
 refine ⟨_,sm3 hc pa hn hst,λ v d σ H Q ρ μ Q3 s m r h k=>?_⟩
 unfold vf2 at h
 split at h
 ·next p =>
  split at h
  ·next l e =>
   obtain ⟨hl,h⟩:=h
   cases r
   obtain ⟨vs,hv,rs⟩:=m.lst p l e
   exact ⟨p,vs,rfl,hv,by rw [<- rs.length]; exact hl,ra _ _ σ H Q ρ μ Q3 s m rs h k⟩
  ·exact h.elim
 ·exact h.elim
end
end Pv
namespace Pv
open PySem PySem.Spec PyProof.Rows L2 PySem.Calls
structure ObjC (K:Fg) (c:Str) (C:Addr):Prop where
 ns:PySem.W.nsIn K mainGlobals c=some (some (.ref C))
 cl:Cls K C
section
variable {X:Cx} {e o value:Expr} {te to tv:TE3} {c f m:Str} {C:Addr} {pos pos' p apos:Pos} {es:List Expr} {t:TA3} {x:Str}
end
section
variable {P:Program} {w:World} {K:Fg} {mg:Str->Option Value} {base:Heap}
end
end Pv
namespace Pv
open PySem PySem.Spec PyProof.Rows L2 PySem.Calls
section
variable {P:Program} {w:World} {K:Fg} {mg:Str->Option Value} {base:Heap} {N:List Str} {qual:Str} {scope:Scope} {f:Addr} {cd:Value} {A:Around} {outer:List Env} {s0:Shared} {H0:Hp} {E:XK} {XE:XE3}
end
section
variable {X:Cx} {pins:List (Addr × Obj)} {σ:L2.St} {H H':Hp} {s s':Shared}
variable {k:Nat} {f:Addr} {fd:FuncData} {ps:List Str} {sp:Sp} {fx x:Str} {Pc:Addr} {e:Expr} {es:List Expr} {b₀:Stmt} {suite:List Stmt} {p cpos np hpos pos epos:Pos} {ta:TA} {ts:Addr->TS}
end
section
variable {X:Cx} {k:Nat} {ps:List Str} {spx:XE3->Sp3} {fx x:Str} {Pc:Addr} {e:Expr} {es:List Expr} {b₀:Stmt} {suite:List Stmt} {p cpos np hpos pos epos:Pos} {ta:TA3} {ts:TS3} {ok:Str->Bool}
end
end Pv
namespace Pv
open PySem PySem.Spec PyProof.Rows L2 PySem.Calls
noncomputable def xy0 (X:Cx):Cx:={ X with xe:=λ _ _=>False }
section
variable {X:Cx} {pins:List (Addr × Obj)} {σ:L2.St} {H:Hp} {s:Shared}
theorem yw1 (I:Inv X pins σ H s):Inv (xy0 X) pins σ H s :=
 ⟨⟨I.ok.mod,I.ok.kind,I.ok.glob,I.ok.blt,I.ok.above,I.ok.inj,I.ok.has,I.ok.cab,I.ok.hd,I.ok.frames,I.ok.stk,I.ok.exf,I.ok.bs,I.ok.bsz,I.ok.noex,I.ok.exfs,I.ok.funs,I.ok.frf⟩,I.os,I.bare,I.base,I.loc,I.cell,I.free,I.freeC,I.pin,I.hok,I.len⟩
theorem xw1 (I:Inv (xy0 X) pins σ H s):Inv X pins σ H s :=
 ⟨⟨I.ok.mod,I.ok.kind,I.ok.glob,I.ok.blt,I.ok.above,I.ok.inj,I.ok.has,I.ok.cab,I.ok.hd,I.ok.frames,I.ok.stk,I.ok.exf,I.ok.bs,I.ok.bsz,I.ok.noex,I.ok.exfs,I.ok.funs,I.ok.frf⟩,I.os,I.bare,I.base,I.loc,I.cell,I.free,I.freeC,I.pin,I.hok,I.len⟩
end
noncomputable def zq3 (XE:XE3) (tab:Str->Option (XE3->Sp3)) (tk:TE3) (t:TA3):TE3:=λ ρ μ Q=>tk ρ μ λ d μ1=>match d with
 | .str x=>match tab x with
  | some sp=>t ρ μ1 λ ds μ2=>sp XE ds μ2 Q
  | none=>False
 | _=>False
noncomputable def MdFX (P:Program) (w:World) (K:Fg) (mg:Str->Option Value) (base:Heap) (k:Nat) (a:Addr) (tab:Str->Option (XE3->Sp3)):Prop:=∀ x sp,tab x=some sp->∃ f fn ps,PySem.W.nsIn K a x=some (some (.ref f)) /\ mg fn=some (.ref f) /\ CalX P w K mg base k fn ps sp
section
variable {X:Cx} {i:Expr} {ty:TE} {a:Addr} {x:Str} {p pos pos':Pos} {CX:CXT} {EE:XK}
theorem uq2 {e:Expr} {es:List Expr} {t:TA} {k:Nat} (M:Mdc X.w X.K X.mg x a) (hg:Gl X x) (hi:PE X i ty) (hr:Room k X.A) (hx:wz0 CX X EE) (ha:PA X (e :: es) t) (hs:NoSl i) (hdb:(x == ("__debug__" : Str))=false)
    (he:starEach (e :: es) X.env=(false,eval e X.env) :: starEach es X.env) (hpl:(backTo pos' (starEach es X.env)).any (·.1)=false) :
    PE X (.Call (.Subscript (.Name x p) i pos) (e :: es) [] pos') (λ σ H Q=>ty σ H λ y H1=>∃ z f fd ps sp,y=.str z /\ PySem.W.nsIn X.K a z=some (some (.ref f)) /\ FnOk X.prog X.w X.K X.mg X.base CX k f fd ps sp /\ PySem.W.keepIn X.K (.ref f)=true /\ Binds X.K fd ps [] ∧
     t σ H1 λ vs H2=>sp (vs ++ []) H2 Q EE):=by
 intro pins s σ H Q I h
 obtain ⟨es',n,hl,hk⟩:=M.lk
 show wpAny _ _ (eval (.Subscript (.Name x p) i pos) X.env >>= λ f=>callWith pos' f [] (backTo pos' (starEach (e :: es) X.env)) (backToKw pos' (keywordEach [] X.env))) _ _ _
 refine wpAny_bind (zs1 PySem.F.slot_dict_getitem.lookup hs (wg0 I hg M.mg (thn (hi pins s σ H _ I h) λ iv s2 ⟨y,H2,I2,ry,z,f,fd,ps,sp,ex,ef,F,hkf,hb,q⟩=>?_) hdb))
 subst ex
 obtain ⟨tk,rfl⟩:=ry
 have hm:=PySem.W.mapOf_K (prog:=X.prog) (w:=X.w) I2.kIn hl hk
 refine ⟨hm.typeIs,wpAny_getItem_of (strKind_is X.prog X.w z tk) hm (PySem.W.find_K hl ef) ?_⟩
 have I3:=I2.tok (s2.toks + 1)
 refine PySem.W.callWith_K (h₀:=X.base) I.ok.mod.kin hkf (thn (ha pos' pins _ σ H2 _ I3 q) λ us s1 ⟨vs,H1,I1,r,q1⟩=>⟨I1.kIn,?_⟩) he hpl
 exact ui2 F hr hb .nil hx I1 r q1
end
section
variable {P:Program} {w:World} {K:Fg} {mg:Str->Option Value} {base:Heap} {N:List Str} {qual:Str} {scope:Scope} {f:Addr} {cd:Value} {A:Around} {outer:List Env} {s0:Shared} {H0:Hp} {E:XK} {XE:XE3}
theorem wo2 {e i:Expr} {es:List Expr} {ti:TE3} {t:TA3} {k:Nat} {x:Str} {a:Addr} {p pos pos':Pos} {tab:Str->Option (XE3->Sp3)} (EX:EXok K mg XE E) (M:Mdc w K mg x a) (T:MdFX P w K mg base k a tab) (hi:RE (cxOf (CXn P w) P w K mg base N qual scope f cd A outer s0 H0 E) i ti) (hr:Room k (A.deeper (envOfC qual scope s0.heap.objs.size f cd)))
    (ha:RA (cxOf (CXn P w) P w K mg base N qual scope f cd A outer s0 H0 E) (e :: es) t) (hg:Gl (cxOf (CXn P w) P w K mg base N qual scope f cd A outer s0 H0 E) x:=by rfl) (hs:NoSl i:=by intro _ _; rfl) (hdb:(x == ("__debug__" : Str))=false:=by decide)
    (he:starEach (e :: es) (envOfC qual scope s0.heap.objs.size f cd)=(false,eval e (envOfC qual scope s0.heap.objs.size f cd)) :: starEach es (envOfC qual scope s0.heap.objs.size f cd):=by rfl) (hpl:(backTo pos' (starEach es (envOfC qual scope s0.heap.objs.size f cd))).any (·.1)=false:=by rfl) :
    RE (cxOf (CXn P w) P w K mg base N qual scope f cd A outer s0 H0 E) (.Call (.Subscript (.Name x p) i pos) (e :: es) [] pos') (zq3 XE tab ti t):=by
 obtain ⟨vi,pi,ri⟩:=hi
 obtain ⟨va,pa,ra⟩:=ha
 refine ⟨_,uq2 (X:=cxOf (CXn P w) P w K mg base N qual scope f cd A outer s0 H0 E) M hg pi hr wk1 pa hs hdb he hpl,λ σ H Q ρ μ Q3 s m h k=>ri σ H _ ρ μ _ s m h λ y μ1 v H1 h1 k1 r1 m1=>?_⟩
 split at h1
 ·next z =>
  split at h1
  ·next sp ej =>
   obtain ⟨g,fn,ps,e1,e2,f',fd,F,hm,hk,hb⟩:=T z sp ej
   rw [e2] at hm
   cases hm
   cases r1
   refine ⟨z,g,fd,ps,_,rfl,e1,F,hk,hb,ra σ H1 _ ρ μ1 _ (s.mono k1) m1 h1 λ ds μ2 vs H2 h2 k2 r2 m2=>?_⟩
   rw [List.append_nil]
   exact ⟨ds,μ2,Q3,XE,r2,m2,h2,k.after (k1.trans k2),EX⟩
  ·exact h1.elim
 ·exact h1.elim
end
end Pv
namespace Pv
open PySem PySem.Spec PyProof.Rows L2 PySem.Calls
theorem wf1 {s:Shared} {M:Model} {A:Around} {E:Value->Shared->Prop} {K:PySem.W.Frag} {ea C P1 P2 tup:Addr} {ob:Obj} {b1 b2:Bool} {Q:Bool->Shared->Prop} (Z:K.In s.heap) (ht:IsTup s.heap tup #[.ref P1,.ref P2]) (h1:s.heap.get? ea=some ob) (h2:ob.cls=.ref C)
    (k1:PySem.W.kitCls K (.ref C) (.ref P1)=some b1) (k2:PySem.W.kitCls K (.ref C) (.ref P2)=some b2) (hb:(b1 || b2)=true) (e1:PySem.W.kitCls K (.ref P1) (.type "BaseException")=some true) (e2:PySem.W.kitCls K (.ref P2) (.type "BaseException")=some true) (hq:Q true s):wpAny M A (excMatches (.ref ea) (.ref tup)) Q E s:=by
 obtain ⟨a1,a2,a3⟩:=PySem.W.kit_cls (M:=M) Z k1
 obtain ⟨c1,c2,c3⟩:=PySem.W.kit_cls (M:=M) Z k2
 obtain ⟨d1,d2,d3⟩:=PySem.W.kit_cls (M:=M) Z e1
 obtain ⟨f1,f2,f3⟩:=PySem.W.kit_cls (M:=M) Z e2
 have L0:=ExcAt.type (M:=M) (x:=ea) (D:=C) (h:=s.heap) ⟨ob,h1,h2⟩
 obtain ⟨o,ho,hc,n,hd⟩:=ht
 obtain ⟨hh,g,d,t,os⟩:=s
 unfold excMatches
 refine wpAny_bind (wpAny_isInstance ⟨o,ho,hc⟩ isSubtype_tuple_tuple ?_)
 dsimp only
 rw [if_pos rfl]
 refine wpAny_bind (wpAny_seqItems ho hd ?_)
 dsimp only [Option.getD_some,Option.getD]
 unfold isExcClass
 cases b1 <;> cases b2 <;> first | (cases hb; done) | skip
 all_goals repeat (any_goals (first | assumption | with_reducible refine L0.at ?_ | with_reducible refine a3.at ?_ | with_reducible refine c3.at ?_ | with_reducible refine d3.at ?_ | with_reducible refine f3.at ?_ | with_reducible refine a2.at ?_ | with_reducible refine c2.at ?_ | with_reducible refine a1.at ?_ | with_reducible refine c1.at ?_ | wp_step))
theorem us2 {base h:Heap} {l:List Env} {e:Addr} {cls a0:Value} (x:Heap.FlyingW base l e cls a0 h) (o:Obj):Heap.FlyingW base l e cls a0 (h.push o):=by
 obtain ⟨f1,f2,f3,oe,vs,T,oT,ts,he,hc,hd,h1,hb,hT,hoT,hdT,h3⟩:=x
 exact ⟨λ b u q=>Heap.get?_push_of_some _ (f1 b u q),f2,f3.of_keeps (λ b u hb _=>⟨u,Heap.get?_push_of_some _ hb,rfl⟩),oe,vs,T,oT,ts,Heap.get?_push_of_some _ he,hc,hd,h1,hb,hT,Heap.get?_push_of_some _ hoT,hdT,h3⟩
section
variable {X:Cx} {pins:List (Addr × Obj)} {σ:L2.St} {H H':Hp} {s s':Shared}
theorem uy1 {e:Value} {E':XK} {x1 x2:Str} {P1 P2:Addr} {b₀:Stmt} {suite:List Stmt} {kk:Nat} {p1 p2 tpos pos:Pos} {Q:Flow->Shared->Prop} {EE:Value->Shared->Prop}
    (I:Inv X pins σ H s) (hst:X.stack=X.env :: X.outer) (hfr:X.env.frame=some X.env.locals) (h:CXn X.prog X.w X.stack H s E' e s')
    (hg1:Gl X x1) (hm1:X.mg x1=some (.ref P1)) (hd1:(x1 == ("__debug__" : Str))=false) (hg2:Gl X x2) (hm2:X.mg x2=some (.ref P2)) (hd2:(x2 == ("__debug__" : Str))=false)
    (hcls:∀ cls o H',E' cls o H'->∃ C b1 b2,cls=.ref C /\ PySem.W.kitCls X.K (.ref C) (.ref P1)=some b1 /\ PySem.W.kitCls X.K (.ref C) (.ref P2)=some b2 /\ (b1 || b2)=true) (e1:PySem.W.kitCls X.K (.ref P1) (.type "BaseException")=some true) (e2:PySem.W.kitCls X.K (.ref P2) (.type "BaseException")=some true)
    (k:∀ ea C H' s6 o,Kp H H'->E' (.ref C) o H'->Inv (mark X (.ref ea)) pins σ H' s6 ->
     wpAny (model X.prog X.w) (X.A.mark (some (.ref ea))) (execs (b₀ :: suite) X.env) Q (λ _ _=>False) s6) :
    wpAny (model X.prog X.w) X.A (noteFrame e X.env) (λ _ s₂=>wpAny (model X.prog X.w) X.A (setFlight e none) (λ _ s₃ =>
     wpAny (model X.prog X.w) X.A (handleBy e X.env [.ExceptHandler (some (.Tuple [.Name x1 p1,.Name x2 p2] kk tpos)) none (b₀ :: suite) pos]) Q EE s₃) EE s₂) EE s':=by
 obtain ⟨ea,cls,a0,H',B,rfl,os,bare,u2,hok,fl,hea,cov1,cov2,oo,hf2,hE⟩:=h
 obtain ⟨C,b1,b2,rfl,k1,k2,hb⟩:=hcls _ _ _ hE
 have fl0:=fl
 rw [hst] at fl
 refine wpAny_looks_onW (by rw [<- hst]; exact I.ok.frames) hfr fl λ h4 held4 sm4=>?_
 refine wpAny_landsW held4 λ h5 fl5 sm5=>?_
 have I5:Inv X pins σ H' { s' with heap:=h5 }:=I.call' (s':={ s' with heap:=h5 }) (ch:=[]) os (xl0 u2 cov1 fl0 fl5.1 (sm4.trans sm5)) (wi0 hok cov2 fl5.1) bare (λ b z=>absurd z (by simp))
 refine wpAny_handleBy_cons (codeAny_handlers_test (Tuple_ (spliced_more (wg0 (wl0 I5 (.ref ea)) hg1 hm1 (spliced_more (wg0 (wl0 I5 (.ref ea)) hg2 hm2 (spliced_none ?_) hd2)) hd1)))) (by intro q; cases q)
 refine wpAny_newObj_type ?_
 have fl5':=us2 fl5 { cls:=.type "tuple",dict:=none,data:=.seq [Value.ref P1,.ref P2].toArray }
 obtain ⟨ob5,hob5,hc5⟩:=fl5'.there
 have sp:h5.UpToSlots (h5.push { cls:=.type "tuple",dict:=none,data:=.seq [Value.ref P1,.ref P2].toArray }):=Heap.UpToSlots.of_keeps λ b o q=>Heap.get?_push_of_some _ q
 have I5':Inv X pins σ H' { s' with heap:=h5.push { cls:=.type "tuple",dict:=none,data:=.seq [Value.ref P1,.ref P2].toArray } }:=I.call' (s':={ s' with heap:=h5.push { cls:=.type "tuple",dict:=none,data:=.seq [Value.ref P1,.ref P2].toArray } }) (ch:=[]) os (xl0 u2 cov1 fl0 fl5'.1 ((sm4.trans sm5).trans sp)) (wi0 hok cov2 fl5'.1) bare (λ b z=>absurd z (by simp))
 refine wf1 (s:={ s' with heap:=h5.push { cls:=.type "tuple",dict:=none,data:=.seq [Value.ref P1,.ref P2].toArray } }) (tup:=h5.objs.size) I5'.kIn (IsTup.new _ _) hob5 hc5 k1 k2 hb e1 e2 ?_
 refine codeAny_handlers_suite ?_
 refine lands_againW (s:={ s' with heap:=h5.push { cls:=.type "tuple",dict:=none,data:=.seq [Value.ref P1,.ref P2].toArray } }) fl5' λ h6 fl6 sm6=>?_
 have I7:Inv X pins σ H' { s' with heap:=h6 }:=I.call' (s':={ s' with heap:=h6 }) (ch:=[]) os (xl0 u2 cov1 fl0 fl6.1 (((sm4.trans sm5).trans sp).trans sm6)) (wi0 hok cov2 fl6.1) bare (λ b z=>absurd z (by simp))
 exact wpAny_mono (k ea C H' _ oo ⟨u2.tups,u2.frzs⟩ hE (wl0 I7 (.ref ea))) (λ f s4 z=>z) (λ _ _ z=>z.elim)
variable {k:Nat} {f:Addr} {fd:FuncData} {ps:List Str} {sp:Sp} {fx x1 x2:Str} {P1 P2:Addr} {e:Expr} {es:List Expr} {b₀:Stmt} {suite:List Stmt} {kk:Nat} {p cpos p1 p2 tpos hpos pos epos:Pos} {ta:TA}
end
section
variable {X:Cx} {k:Nat} {ps:List Str} {spx:XE3->Sp3} {fx x1 x2:Str} {P1 P2:Addr} {e:Expr} {es:List Expr} {b₀:Stmt} {suite:List Stmt} {kk:Nat} {p cpos p1 p2 tpos hpos pos epos:Pos} {ta:TA3} {ts:TS3} {ok:Str->Bool}
end
end Pv
namespace Pv
open PySem PySem.Spec PyProof.Rows L2 PySem.Calls
theorem wq1:entryFor table "proto.unchain" = some Builtin.«proto.unchain» := entryFor_of_tree (by kernel_rfl)
section
variable {prog:Program} {w:World} {A:Around} {E:Value->Shared->Prop} {s:Shared} {env:Env}
theorem zh1 {α:Type} {h e:Addr} {oe:Obj} {vs:Array Value} {Q:α->Shared->Prop} (hh:A.handled=some (.ref h)) (hne:h ≠ e) (f2:F2 s.heap h) (he:s.heap.get? e=some oe) (hd:oe.data=.fields vs) (hs:2 < vs.size)
    (k:E (.ref e) { s with heap:=s.heap.update e (Obj.mapFields (·.setIfInBounds 2 (.ref h))) }):wpAny (model prog w) A (raiseNew (.ref e):Sem α) Q E s:=by
 obtain ⟨oh,ws,h1,h2,h3⟩:=f2
 unfold raiseNew
 refine wpAny_bind (wpAny_handled ?_)
 rw [hh]
 dsimp only
 rw [if_pos (by simp [hne])]
 refine wpAny_bind (wpAny_holding (wpAny_runValue (codeAny_builtin wq1 ?_)))
 unfold Builtin.«proto.unchain»
 refine wpAny_bind (wpAny_field h1 h2 h3 ?_)
 rw [if_pos (by rfl)]
 refine wpAny_bind (wpAny_pure (wpAny_pure ?_))
 show wpAny _ _ (setField (.ref e) 2 (.ref h) >>= _) _ _ _
 refine wpAny_bind (wpAny_setField he hd hs (wpAny_throw k))
variable {nm q:Str} {C N:Addr} {bs bm bmB:List Value} {hdct:Bool} {sn:List Str} {sub:List Value} {ab:Bool} {col:Option Bool} {dd:Option Addr} {k0 k1 k2 k3 k5:Option Value} {B Bn newId nid initId inN:String} {bmN:List Value}
theorem ye1 {x c:Sem Value} {h:Addr} {Q:Flow->Shared->Prop} (hbase:bm.contains (.type "BaseException")=true) (hh:A.handled=some (.ref h))
    (hx:wpAny (model prog w) A x (λ v s₁=>∃ e t,v=.ref e /\ s₁.heap.get? C=some (excClassObj nm q C N bs bm hdct sn sub ab col dd k0 k1 k2 k3 k5 newId) ∧
     s₁.heap.get? e=some { cls:=.ref C,data:=.fields #[.ref t,.none,.none,.none,.bool false,.none] } /\ h ≠ e /\ F2 s₁.heap h /\ wpAny (model prog w) A c (λ cv s₂=>cv=.none /\ s₂=s₁) E s₁ ∧
     ∀ h',h'.get? e=some { cls:=.ref C,data:=.fields #[.ref t,.none,.ref h,.none,.bool true,.none] }->(∀ b,b ≠ e->h'.get? b=s₁.heap.get? b)->E (.ref e) { s₁ with heap:=h' }) E s) :
    wpAny (model prog w) A (raiseStmt env (some x) (some c)) Q E s:=by
 have hcB:(Value.ref C :: bm).contains (.type "BaseException")=true:=by rw [List.contains_cons,hbase,Bool.or_true]
 unfold raiseStmt
 refine wpAny_bind (wpAny_mono hx (λ v s₁ h₁=>?_) λ _ _ x=>x)
 obtain ⟨e,t,rfl,hC,he,hne,f2,hc,hE⟩:=h₁
 refine wpAny_bind (wpAny_holding (wpAny_mono hc (λ cv s₂ h₂=>?_) λ _ _ x=>x))
 obtain ⟨rfl,rfl⟩:=h₂
 obtain ⟨hp,g,d,tk,os⟩:=s₂
 refine wpAny_bind (wpAny_pure ?_)
 refine wpAny_bind (wpAny_holding ?_)
 unfold excFromValue
 repeat (first | with_reducible refine wpAny_loadPart_at he ?_ | with_reducible refine wpAny_loadPart_at hC ?_ | (with_reducible refine wpAny_isSubtype_exc hC ?_; rw [hcB]) | wp_step)
 have hCe:e ≠ C:=λ z=>by
  subst z
  have:=he.symm.trans hC
  cases this
 have up:∀ (m:Array Value->Array Value) (h':Heap) (b:Addr),b ≠ e->(h'.update e (Obj.mapFields m)).get? b=h'.get? b:=λ m h' b hb=>Heap.get?_update_other _ _ (Ne.symm hb)
 have hC2:=(up (·.setIfInBounds 4 (.bool true)) _ C (Ne.symm hCe)).trans ((up (·.setIfInBounds 3 .none) _ C (Ne.symm hCe)).trans hC)
 have e1:=Heap.get?_update_self (Obj.mapFields (·.setIfInBounds 3 Value.none)) he rfl
 have e2:=Heap.get?_update_self (Obj.mapFields (·.setIfInBounds 4 (.bool true))) e1 rfl
 have e3:=Heap.get?_update_self (Obj.mapFields (·.setIfInBounds 2 (.ref h))) e2 rfl
 repeat (first | with_reducible refine wpAny_loadPart_at hC2 ?_ | wp_step)
 refine (zh1 hh hne ?_ e2 rfl (show 2 < 6 by decide) (hE _ e3 λ b hb=>?_))
 ·obtain ⟨oh,ws,h1,h2,h3⟩:=f2
  exact ⟨oh,ws,(up _ _ h hne).trans ((up _ _ h hne).trans h1),h2,h3⟩
 ·exact (up _ _ b hb).trans ((up _ _ b hb).trans (up _ _ b hb))
theorem zh2 (Fn:ExcBaseFacts Bn newId inN bmN) (hBn:bmB.contains (.type Bn)=true) (F:ExcBaseFacts B nid initId bmB) {mN:Str->Option Value} {x:Str} {np cpos npos pos:Pos} {args:List Expr} {ea:Addr} {kk:Nat} {Q:Flow->Shared->Prop}
    (hbase:bm.contains (.type "BaseException")=true) (hh:A.handled=some (.ref ea)) (hplain:(backTo cpos (starEach args env)).any (·.1)=false) (hni:mN "__init__" = none)
    (h:wpAny (model prog w) A (eval (.Name x np) env) (λ f s₁=>f=.ref C /\ wpAny (model prog w) A (evalArgs (.ref C) true (backTo cpos (starEach args env)) [])
     (λ a s₂=>a.kw=[] /\ a.pos.length<=sizeLine /\ s₂.heap.get? C=some (excClassObj nm q C N bs bm hdct sn sub ab col dd k0 k1 k2 k3 k5 newId) /\ s₂.heap.Ns N mN /\ OwnTail s₂.heap bmB bm /\ F2 s₂.heap ea ∧
      ∀ h' e,(∀ b o,s₂.heap.get? b=some o->h'.get? b=some o)->s₂.heap.get? e=none->(∃ t,h'.get? e=some { cls:=.ref C,data:=.fields #[.ref t,.none,.ref ea,.none,.bool true,.none] })->E (.ref e) { s₂ with heap:=h' }) E s₁) E s) :
    wpAny (model prog w) A (exec (.Raise (some (.Call (.Name x np) args [] cpos)) (some (.Constant .none kk npos)) pos) env) Q E s:=by
 rw [arm_exec_Raise]
 simp only [evalOpt,Option.map]
 refine wpAny_bind (wpAny_standAt (ye1 (C:=C) (nm:=nm) (q:=q) (N:=N) (bs:=bs) (bm:=bm) (hdct:=hdct) (sn:=sn) (sub:=sub) (ab:=ab) (col:=col) (dd:=dd) (k0:=k0) (k1:=k1) (k2:=k2) (k3:=k3) (k5:=k5) (newId:=newId) hbase hh (wpAny_bind (wpAny_mono (wpAny_Call_ofName (wpAny_mono h (λ f s₁ h₁=>?_) λ _ _ x=>x)) (λ v s₃ h₃=>wpAny_bind (wpAny_standAt (wpAny_pure h₃))) λ _ _ x=>x))))
 obtain ⟨rfl,h₁⟩:=h₁
 unfold callWith
 refine wpAny_bind (wpAny_holding (wpAny_mono h₁ (λ a s₂ h₂=>wpAny_bind (wpAny_standAt ?_)) λ _ _ x=>x))
 obtain ⟨apos,akw⟩:=a
 obtain ⟨hkw,hlen,hC,hn,T,f2,h₂⟩:=h₂
 obtain rfl:akw=[]:=hkw
 obtain ⟨hp,g,d,tk,os⟩:=s₂
 simp only [hplain]
 refine wpAny_bind (wpAny_keeperOf_exc hC ?_)
 refine wpAny_bind (wpAny_call_exc_subU (hrest:=hlen) Fn hBn F T hC hn hni λ h' e hm=>wpAny_bind (wpAny_holding (wpAny_point (wpAny_pure ?_))))
 obtain ⟨t,ht,_,_⟩:=hm.there
 obtain ⟨oh,ws,g1,g2,g3⟩:=f2
 have hne:ea ≠ e:=λ z=>by subst z; rw [hm.new] at g1; cases g1
 refine ⟨e,t,rfl,hm.keeps _ _ hC,ht,hne,⟨oh,ws,hm.keeps _ _ g1,g2,g3⟩,?_,λ h2 k1 k2=>h₂ h2 e (λ b o q=>?_) hm.new ⟨t,k1⟩⟩
 ·exact wpAny_bind (Constant_none (wpAny_bind (wpAny_standAt (wpAny_pure ⟨rfl,rfl⟩))))
 ·rw [k2 b (λ z=>by subst z; rw [hm.new] at q; cases q)]
  exact hm.keeps b o q
end
noncomputable def xu3 (K:Fg) (E:XK) (Pc C2:Addr) (sp:Sp) (ta:TA) (tb:Addr->TA):TS:=λ D σ H=>ta σ H λ vs H1=>sp vs H1 (λ v H2=>D.nx σ H2)
 (λ cls o H2=>o=none /\ ∃ C,cls=.ref C /\ PySem.W.kitCls K (.ref C) (.ref Pc)=some true /\ (Kp H1 H2->∀ ea ob,H2 ea=none->ob.cls=.ref C ->
  tb ea σ (upd H2 ea (.frz ob (.own 0))) λ vs H3=>vs.length<=sizeLine /\ H3 ea=some (.frz ob (.own 0)) /\ E (.ref C2) (some 0) H3))
section
variable {P:Program} {w:World} {K:Fg} {mg:Str->Option Value} {base:Heap} {N:List Str} {qual:Str} {scope:Scope} {f:Addr} {cd:Value} {A:Around} {outer:List Env} {s0:Shared} {H0:Hp} {E:XK}
theorem up2 {k:Nat} {fa Pc C2:Addr} {fd:FuncData} {ps:List Str} {sp:Sp} {fx x x2:Str} {e e₀:Expr} {es rest:List Expr} {kk:Nat} {p cpos np np2 cpos2 npos rpos hpos pos epos:Pos} {ta:TA} {tb:Addr->TA} {Bn B newId inN nid initId:String} {bm bmN:List Value}
    (F:FnOk P w K mg base (CXn P w) k fa fd ps sp) (hr:Room k (A.deeper (envOfC qual scope s0.heap.objs.size f cd))) (hgf:Gl (cxOf (CXn P w) P w K mg base N qual scope f cd A outer s0 H0 E) fx) (hmf:mg fx=some (.ref fa)) (hkf:PySem.W.keepIn K (.ref fa)=true) (hb:Binds K fd ps []) (ha:PA (xy0 (cxOf (CXn P w) P w K mg base N qual scope f cd A outer s0 H0 E)) (e :: es) ta)
    (hsu:∀ ea,PA (mark (cxOf (CXn P w) P w K mg base N qual scope f cd A outer s0 H0 E) (.ref ea)) (e₀ :: rest) (tb ea)) (hg:Gl (cxOf (CXn P w) P w K mg base N qual scope f cd A outer s0 H0 E) x) (hm:mg x=some (.ref Pc)) (hd:(x == ("__debug__" : Str))=false) (k2:PySem.W.kitCls K (.ref Pc) (.type "BaseException")=some true) (k3:PySem.W.kitCls K (.type "type") (.type "tuple")=some false)
    (O:OwnCls x2 C2 bm newId mg base) (Fn:ExcBaseFacts Bn newId inN bmN) (hBn:bm.contains (.type Bn)=true) (FB:ExcBaseFacts B nid initId bm) (hg2:Gl (cxOf (CXn P w) P w K mg base N qual scope f cd A outer s0 H0 E) x2) (hd2:(x2 == ("__debug__" : Str))=false)
    (hdb:(fx == ("__debug__" : Str))=false) (he:starEach (e :: es) (envOfC qual scope s0.heap.objs.size f cd)=(false,eval e (envOfC qual scope s0.heap.objs.size f cd)) :: starEach es (envOfC qual scope s0.heap.objs.size f cd)) (hpl:(backTo cpos (starEach es (envOfC qual scope s0.heap.objs.size f cd))).any (·.1)=false)
    (he2:starEach (e₀ :: rest) (envOfC qual scope s0.heap.objs.size f cd)=(false,eval e₀ (envOfC qual scope s0.heap.objs.size f cd)) :: starEach rest (envOfC qual scope s0.heap.objs.size f cd)) (hpl2:(backTo cpos2 (starEach rest (envOfC qual scope s0.heap.objs.size f cd))).any (·.1)=false)
    (hs:swapsWith (.Call (.Name fx p) (e :: es) [] cpos) none epos.line (envOfC qual scope s0.heap.objs.size f cd)=pure false) :
    PS (cxOf (CXn P w) P w K mg base N qual scope f cd A outer s0 H0 E) (.Try [.Expr (.Call (.Name fx p) (e :: es) [] cpos) epos] [.ExceptHandler (some (.Name x np)) none [.Raise (some (.Call (.Name x2 np2) (e₀ :: rest) [] cpos2)) (some (.Constant .none kk npos)) rpos] hpos] [] [] pos) (xu3 K E Pc C2 sp ta tb):=by
 intro pins s σ H D I h
 refine wpAny_Try_except (wpAny_execs_cons (wpAny_Expr_any ?_ I.quiet hs))
 refine wpAny_Call_Name_kw (wg0 I hgf hmf ?_ hdb)
 refine PySem.W.callWith_K (h₀:=base) I.ok.mod.kin hkf (wpAny_mono (ha cpos pins s σ H _ (yw1 I) h) (λ us s1 ⟨vs,H1,I1',r,q⟩=>⟨I1'.kIn,?_⟩) λ _ _ z=>(show False from z).elim) he hpl
 have I1:=xw1 I1'
 have hl:(us ++ []).length=ps.length:=by rw [List.append_nil,<- r.length]; exact F.len _ _ _ _ q
 have hbb:=hb s1 us I1.kIn hl
 rw [List.append_nil] at hbb
 refine wpAny_call (codeAny_mono (F.run _ _ s1 H1 ⟨us,[]⟩ us vs _ _ hr I1.env0 hbb r q) λ rr s' hq=>?_)
 cases rr with
 | error ex =>
  dsimp only [CR] at hq
  obtain ⟨ea,cls,a0,H',B',rfl,os,bare,u2,hok,fl,hea,cov1,cov2,oo,hf2,rfl,C,rfl,k1,hkk⟩:=hq
  have fl0:=fl
  refine wpAny_mono ((Kf.note _ _).any (hf2 rfl) (wpAny_looks_onW (Q:=λ _ z=>∃ h4,z={ s' with heap:=h4 } /\ Heap.HeldW B' (envOfC qual scope s0.heap.objs.size f cd :: outer) ea (.ref C) a0 (envOfC qual scope s0.heap.objs.size f cd).locals h4 /\ s'.heap.UpToSlots h4) I1.ok.frames rfl fl λ h4 a b=>⟨h4,rfl,a,b⟩)) (λ _ z hz=>?_) λ _ _ z=>z
  obtain ⟨⟨h4,rfl,held4,sm4⟩,g4⟩:=hz
  refine wpAny_mono ((Kf.flight _ _).any g4 (wpAny_landsW (s:={ s' with heap:=h4 }) (Q:=λ _ z=>∃ h5,z={ s' with heap:=h5 } /\ Heap.FlyingW B' (envOfC qual scope s0.heap.objs.size f cd :: outer) ea (.ref C) a0 h5 /\ h4.UpToSlots h5) held4 λ h5 a b=>⟨h5,rfl,a,b⟩)) (λ _ z hz=>?_) λ _ _ z=>z
  obtain ⟨⟨h5,rfl,fl5,sm5⟩,g5⟩:=hz
  have I5:Inv (cxOf (CXn P w) P w K mg base N qual scope f cd A outer s0 H0 E) pins σ H' { s' with heap:=h5 }:=I1.call' (s':={ s' with heap:=h5 }) (ch:=[]) os (xl0 u2 cov1 fl0 fl5.1 (sm4.trans sm5)) (wi0 hok cov2 fl5.1) bare (λ b z=>absurd z (by simp))
  obtain ⟨ob5,hob5,hc5⟩:=fl5.there
  refine wpAny_handleBy_cons (codeAny_handlers_test (wg0 (wl0 I5 (.ref ea)) hg hm ?_ hd)) (by intro q; cases q)
  refine sw0 I5.kIn hob5 hc5 k1 k2 k3 ?_
  refine codeAny_handlers_suite ?_
  refine wpAny_mono ((Kf.flight _ _).any g5 (lands_againW (s:={ s' with heap:=h5 }) (Q:=λ _ z=>∃ h6,z={ s' with heap:=h6 } /\ Heap.FlyingW B' (envOfC qual scope s0.heap.objs.size f cd :: outer) ea (.ref C) a0 h6 /\ h5.UpToSlots h6) fl5 λ h6 a b=>⟨h6,rfl,a,b⟩)) (λ _ z hz=>?_) λ _ _ z=>z
  obtain ⟨⟨h6,rfl,fl6,sm6⟩,oe,ws,g6,g7,g8⟩:=hz
  have hoec:oe.cls=.ref C:=by
   obtain ⟨o2,w1,w2⟩:=fl6.there
   have:=g6.symm.trans w1
   cases this
   exact w2
  have hsn:s1.heap.get? ea=none:=by
   cases q:s1.heap.get? ea with
   | none=>rfl
   | some o =>
    exfalso
    obtain ⟨o1,e1⟩:=u2.there ea o q (by simp)
    by_cases hb:ea ∈ frs (envOfC qual scope s0.heap.objs.size f cd :: outer)
    ·obtain ⟨_,o',ho,hnf⟩:=fl0.2.2.1.mem hb
     obtain ⟨oe0,vs0,he0,_,hd0,_⟩:=fl0.first
     rw [he0] at ho; cases ho
     exact hnf _ hd0
    ·have:=cov1 ea o1 e1 hb ⟨o,q⟩
     rw [fl0.2.1] at this; cases this
  have I7:Inv (cxOf (CXn P w) P w K mg base N qual scope f cd A outer s0 H0 E) pins σ (upd H' ea (.frz oe (.own 0))) { s' with heap:=h6 }:=I1.call' (s':={ s' with heap:=h6 }) (ch:=[]) os (zi2 (xl0 u2 cov1 fl0 fl6.1 ((sm4.trans sm5).trans sm6)) hea hsn) (zr1 (wi0 hok cov2 fl6.1) hea g6) bare (λ b z=>absurd z (by simp))
  have hq:=hkk ⟨u2.tups,u2.frzs⟩ ea oe hea hoec
  obtain ⟨tl,NN,nm,qn,bs,hdct,sn,sub,ab,col,dd,k0,k1',k2',k3',k5,mN,hC,hN,hni,T⟩:=O.obj
  refine wpAny_passesOwnAt PassesOwnAt.leaving (wpAny_execs_cons (zh2 (C:=C2) (nm:=nm) (q:=qn) (N:=NN) (bs:=bs) (bm:=tl) (hdct:=hdct) (sn:=sn) (sub:=sub) (ab:=ab) (col:=col) (dd:=dd) (k0:=k0) (k1:=k1') (k2:=k2') (k3:=k3') (k5:=k5) (ea:=ea)
   Fn hBn FB (mN:=mN) (T.hasType FB.hasBase) rfl (by
    show (backTo cpos2 (starEach (e₀ :: rest) (envOfC qual scope s0.heap.objs.size f cd))).any (·.1)=false
    rw [he2]; show (false || (backTo cpos2 (starEach rest (envOfC qual scope s0.heap.objs.size f cd))).any (·.1))=false; rw [hpl2]; rfl) hni (wg0 (wl0 I7 (.ref ea)) hg2 O.bound ⟨rfl,?_⟩ hd2)))
  have hA:=hsu ea cpos2 pins _ σ _ _ (wl0 I7 (.ref ea)) hq
  have he':starEach (e₀ :: rest) (mark (cxOf (CXn P w) P w K mg base N qual scope f cd A outer s0 H0 E) (.ref ea)).env=_:=he2
  rw [he'] at hA
  show wpAny _ _ (evalArgs (.ref C2) true (backTo cpos2 (starEach (e₀ :: rest) (envOfC qual scope s0.heap.objs.size f cd))) []) _ _ _
  rw [he2]
  refine Calls.evalArgs_plain (wpAny_mono hA (λ us s2 ⟨vs,H2,I2,r2,q2,q3,q4⟩=>⟨rfl,?_,I2.bk _ _ hC,hN.keeps I2.bk,T.keeps I2.bk,?_,λ h' e3 w1 w2 ⟨t,w3⟩=>?_⟩) λ _ _ z=>(show False from z).elim)
  ·rw [<- r2.length]; exact q2
  ·exact ⟨oe,ws,(I2.hok ea _ q3).1,g7,g8⟩
  ·exact zu1 (oo:=some 0) (yq0 I1.ok I2) w1 w2 w3 rfl rfl rfl (λ z=>by cases z) q4
 | ok fl =>
  cases fl with
  | ret u =>
   obtain ⟨v,H2,I2,rv,q2⟩:=I1.after hq
   exact wpAny_execs_nil (wpAny_execs_nil ⟨σ,H2,I2,q2⟩)
  | next=>exact False.elim hq
  | brk=>exact False.elim hq
  | cont=>exact False.elim hq
end
noncomputable def ux2 (XE:XE3) (spx:XE3->Sp3) (x2:Str) (ta tb:TA3):TS3:=λ D' ρ μ=>ta ρ μ λ ds μ1 =>
 spx (λ c μ2=>c = "NoWord" /\ tb ρ μ2 λ vs μ3=>vs.length<=sizeLine /\ XE x2 μ3) ds μ1 (λ _ μ2=>D'.nx ρ μ2)
section
variable {P:Program} {w:World} {K:Fg} {mg:Str->Option Value} {base:Heap} {N:List Str} {qual:Str} {scope:Scope} {f:Addr} {cd:Value} {A:Around} {outer:List Env} {s0:Shared} {H0:Hp} {E:XK} {XE:XE3}
theorem xo2 {k:Nat} {Pc C2:Addr} {ps:List Str} {spx:XE3->Sp3} {fx x2:Str} {e e₀:Expr} {es rest:List Expr} {kk:Nat} {p cpos np np2 cpos2 npos rpos hpos pos epos:Pos} {ta tb:TA3} {Bn B newId inN nid initId:String} {bm bmN:List Value}
    (EX:EXok K mg XE E) (c:CalX P w K mg base k fx ps spx) (hr:Room k (A.deeper (envOfC qual scope s0.heap.objs.size f cd))) (ha:RA (xy0 (cxOf (CXn P w) P w K mg base N qual scope f cd A outer s0 H0 E)) (e :: es) ta) (hsu:∀ ea,RA (mark (cxOf (CXn P w) P w K mg base N qual scope f cd A outer s0 H0 E) (.ref ea)) (e₀ :: rest) tb)
    (hm:mg "NoWord" = some (.ref Pc)) (k2:PySem.W.kitCls K (.ref Pc) (.type "BaseException")=some true) (k3:PySem.W.kitCls K (.type "type") (.type "tuple")=some false) (k4:PySem.W.kitCls K (.ref Pc) (.ref Pc)=some true)
    (O:OwnCls x2 C2 bm newId mg base) (Fn:ExcBaseFacts Bn newId inN bmN) (hBn:bm.contains (.type Bn)=true) (FB:ExcBaseFacts B nid initId bm)
    (hg:Gl (cxOf (CXn P w) P w K mg base N qual scope f cd A outer s0 H0 E) "NoWord" := by rfl) (hgf:Gl (cxOf (CXn P w) P w K mg base N qual scope f cd A outer s0 H0 E) fx:=by rfl) (hg2:Gl (cxOf (CXn P w) P w K mg base N qual scope f cd A outer s0 H0 E) x2:=by rfl) (hd:(("NoWord" : Str) == ("__debug__" : Str))=false:=by decide) (hd2:(x2 == ("__debug__" : Str))=false:=by decide) (hx2:x2 ≠ "NoWord" := by decide)
    (hdb:(fx == ("__debug__" : Str))=false:=by decide) (he:starEach (e :: es) (envOfC qual scope s0.heap.objs.size f cd)=(false,eval e (envOfC qual scope s0.heap.objs.size f cd)) :: starEach es (envOfC qual scope s0.heap.objs.size f cd):=by rfl) (hpl:(backTo cpos (starEach es (envOfC qual scope s0.heap.objs.size f cd))).any (·.1)=false:=by rfl)
    (he2:starEach (e₀ :: rest) (envOfC qual scope s0.heap.objs.size f cd)=(false,eval e₀ (envOfC qual scope s0.heap.objs.size f cd)) :: starEach rest (envOfC qual scope s0.heap.objs.size f cd):=by rfl) (hpl2:(backTo cpos2 (starEach rest (envOfC qual scope s0.heap.objs.size f cd))).any (·.1)=false:=by rfl)
    (hs:swapsWith (.Call (.Name fx p) (e :: es) [] cpos) none epos.line (envOfC qual scope s0.heap.objs.size f cd)=pure false:=by rfl) :
    RS (cxOf (CXn P w) P w K mg base N qual scope f cd A outer s0 H0 E) (.Try [.Expr (.Call (.Name fx p) (e :: es) [] cpos) epos] [.ExceptHandler (some (.Name "NoWord" np)) none [.Raise (some (.Call (.Name x2 np2) (e₀ :: rest) [] cpos2)) (some (.Constant .none kk npos)) rpos] hpos] [] [] pos) (ux2 XE spx x2 ta tb):=by
 obtain ⟨fa,fd,F,hmf,hkf,hb⟩:=c
 obtain ⟨va,pa,ra⟩:=ha
 have hh:∃ tv:Addr->TA,(∀ ea,PA (mark (cxOf (CXn P w) P w K mg base N qual scope f cd A outer s0 H0 E) (.ref ea)) (e₀ :: rest) (tv ea)) /\ ∀ ea,RdA K (tv ea) tb:=⟨λ ea=>(hsu ea).choose,λ ea=>(hsu ea).choose_spec.1,λ ea=>(hsu ea).choose_spec.2⟩
 obtain ⟨tv,hp,hr'⟩:=hh
 refine ⟨_,up2 F hr hgf hmf hkf hb pa hp hg hm hd k2 k3 O Fn hBn FB hg2 hd2 hdb he hpl he2 hpl2 hs,?_⟩
 intro σ H D ρ μ D3 s m h kd
 refine ra σ H _ ρ μ _ s m h λ ds μ1 vs H1 h1 k1 r1 m1=>?_
 refine ⟨ds,μ1,_,_,r1,m1,h1,λ d μ2 v H2 h2 k2 r2 m2=>?_,λ c C μ2 H2 o hX hmc m2 ho=>?_⟩
 ·exact kd.nx _ _ _ _ h2 (k1.trans k2) (s.mono (k1.trans k2)) m2
 ·obtain ⟨rfl,o2⟩:=hX
  have hmc':mg "NoWord" = some (.ref C):=hmc
  rw [hm] at hmc'
  cases hmc'
  refine ⟨ho rfl,_,rfl,k4,λ kp ea ob hea hob=>?_⟩
  have kn:Kp H2 (upd H2 ea (.frz ob (.own 0))):=Kp.new hea
  refine hr' ea σ _ _ ρ μ2 _ ((s.mono (k1.trans kp)).mono kn) (m2.newF hea) o2 λ ds μ3 us H3 h3 k3 r3 m3=>⟨by rw [<- r3.length]; exact h3.1,k3.frz _ _ _ tg0,?_⟩
  exact EX x2 C2 μ3 H3 (some 0) h3.2 O.bound m3 λ z=>absurd z hx2
end
end Pv
namespace Pv
open PySem PySem.Spec PyProof.Rows L2 PySem.Calls
section
variable {X:Cx} {pins:List (Addr × Obj)} {σ:L2.St} {H H':Hp} {s s':Shared}
variable {k:Nat} {f:Addr} {fd:FuncData} {ps:List Str} {sp:Sp} {fx x1 x2:Str} {P1 P2:Addr} {e b:Expr} {es:List Expr} {b₀:Stmt} {suite:List Stmt} {kk:Nat} {p cpos p1 p2 tpos hpos pos epos rpos:Pos} {ta:TA}
noncomputable def xl2 (K:Fg) (P1 P2:Addr) (ts:TS) (D:Ends) (σ:L2.St) (H1:Hp):XK:=λ cls _ H2=>∃ C b1 b2,cls=.ref C /\ PySem.W.kitCls K (.ref C) (.ref P1)=some b1 /\ PySem.W.kitCls K (.ref C) (.ref P2)=some b2 /\ (b1 || b2)=true /\ (Kp H1 H2 ->
    ts { nx:=λ σ' H'=>D.nx σ' H',rt:=D.rt,bk:=λ _ _=>False,ct:=λ _ _=>False } σ H2)
theorem ur1 {ts:TS} {D:Ends} {QV:Value->Shared->Prop} {qv:V->Hp->Prop} (F:FnOk X.prog X.w X.K X.mg X.base (CXn X.prog X.w) k f fd ps sp) (hr:Room k X.A) (hgf:Gl X fx) (hmf:X.mg fx=some (.ref f)) (hkf:PySem.W.keepIn X.K (.ref f)=true) (hb:Binds X.K fd ps []) (ha:PA (xy0 X) (e :: es) ta)
    (hsu:∀ ea,PSs (mark X (.ref ea)) (b₀ :: suite) ts)
    (hg1:Gl X x1) (hm1:X.mg x1=some (.ref P1)) (hd1:(x1 == ("__debug__" : Str))=false) (hg2:Gl X x2) (hm2:X.mg x2=some (.ref P2)) (hd2:(x2 == ("__debug__" : Str))=false)
    (e1:PySem.W.kitCls X.K (.ref P1) (.type "BaseException")=some true) (e2:PySem.W.kitCls X.K (.ref P2) (.type "BaseException")=some true) (hst:X.stack=X.env :: X.outer) (hfr:X.env.frame=some X.env.locals)
    (hdb:(fx == ("__debug__" : Str))=false) (he:starEach (e :: es) X.env=(false,eval e X.env) :: starEach es X.env) (hpl:(backTo cpos (starEach es X.env)).any (·.1)=false)
    (I:Inv X pins σ H s) (h:ta σ H λ vs H1=>sp vs H1 qv (xl2 X.K P1 P2 ts D σ H1)) (kv:∀ v u H2 s2,RelV v u->Inv X pins σ H2 s2->qv v H2->QV u s2) :
    wpAny (model X.prog X.w) X.A (eval (.Call (.Name fx p) (e :: es) [] cpos) X.env) QV
     (λ ex s₁=>wpAny (model X.prog X.w) X.A (noteFrame ex X.env) (λ _ s₂=>wpAny (model X.prog X.w) X.A (setFlight ex none) (λ _ s₃=>wpAny (model X.prog X.w) X.A (handleBy ex X.env [.ExceptHandler (some (.Tuple [.Name x1 p1,.Name x2 p2] kk tpos)) none (b₀ :: suite) hpos]) (SP X pins D) X.xe s₃) X.xe s₂) X.xe s₁) s:=by
 refine wpAny_Call_Name_kw (wg0 I hgf hmf ?_ hdb)
 refine PySem.W.callWith_K (h₀:=X.base) I.ok.mod.kin hkf (wpAny_mono (ha cpos pins s σ H _ (yw1 I) h) (λ us s1 ⟨vs,H1,I1',r,q⟩=>⟨I1'.kIn,?_⟩) λ _ _ z=>(show False from z).elim) he hpl
 have I1:=xw1 I1'
 have hl:(us ++ []).length=ps.length:=by rw [List.append_nil,<- r.length]; exact F.len _ _ _ _ q
 have hbb:=hb s1 us I1.kIn hl
 rw [List.append_nil] at hbb
 refine wpAny_call (codeAny_mono (F.run X.A X.stack s1 H1 ⟨us,[]⟩ us vs _ _ hr I1.env0 hbb r q) λ rr s' hq=>?_)
 cases rr with
 | error ex =>
  dsimp only [CR] at hq
  refine uy1 I1 hst hfr hq hg1 hm1 hd1 hg2 hm2 hd2 (λ cls _ H' hE=>?_) e1 e2 λ ea C H' s6 _ hkp hE I6=>?_
  ·obtain ⟨C,b1,b2,z1,z2,z3,z4,_⟩:=hE
   exact ⟨C,b1,b2,z1,z2,z3,z4⟩
  ·obtain ⟨C',b1,b2,z1,z2,z3,z4,z5⟩:=hE
   refine wpAny_mono (hsu ea pins s6 _ _ _ I6 (z5 hkp)) (λ fl s4 z=>?_) λ _ _ z=>z
   cases fl with
   | next =>
    obtain ⟨σ',H4,I4,q4⟩:=z
    exact ⟨_,H4,yq0 I1.ok I4,q4⟩
   | brk=>obtain ⟨_,_,_,z⟩:=z; exact z.elim
   | cont=>obtain ⟨_,_,_,z⟩:=z; exact z.elim
   | ret u =>
    obtain ⟨v,σ',H4,I4,rv,q4⟩:=z
    exact ⟨v,σ',H4,yq0 I1.ok I4,rv,q4⟩
 | ok fl =>
  cases fl with
  | ret u =>
   obtain ⟨v,H2,I2,rv,q2⟩:=I1.after hq
   exact kv v u H2 _ rv I2 q2
  | next=>exact False.elim hq
  | brk=>exact False.elim hq
  | cont=>exact False.elim hq
theorem wc2 {ts:TS} {tb:TE} {r:R2} (F:FnOk X.prog X.w X.K X.mg X.base (CXn X.prog X.w) k f fd ps sp) (hr:Room k X.A) (hgf:Gl X fx) (hmf:X.mg fx=some (.ref f)) (hkf:PySem.W.keepIn X.K (.ref f)=true) (hb:Binds X.K fd ps []) (ha:PA (xy0 X) (e :: es) ta) (hb2:PE (xy0 X) b tb) (ho:OpR (xy0 X) (compareOp .Eq) r)
    (hsu:∀ ea,PSs (mark X (.ref ea)) (b₀ :: suite) ts)
    (hg1:Gl X x1) (hm1:X.mg x1=some (.ref P1)) (hd1:(x1 == ("__debug__" : Str))=false) (hg2:Gl X x2) (hm2:X.mg x2=some (.ref P2)) (hd2:(x2 == ("__debug__" : Str))=false)
    (e1:PySem.W.kitCls X.K (.ref P1) (.type "BaseException")=some true) (e2:PySem.W.kitCls X.K (.ref P2) (.type "BaseException")=some true) (hst:X.stack=X.env :: X.outer) (hfr:X.env.frame=some X.env.locals)
    (hdb:(fx == ("__debug__" : Str))=false) (he:starEach (e :: es) X.env=(false,eval e X.env) :: starEach es X.env) (hpl:(backTo cpos (starEach es X.env)).any (·.1)=false) (hmk:behindInMarks .Eq b=false) :
    PS X (.Try [.Return (some (.Compare (.Call (.Name fx p) (e :: es) [] cpos) [.Eq] [b] rpos)) epos] [.ExceptHandler (some (.Tuple [.Name x1 p1,.Name x2 p2] kk tpos)) none (b₀ :: suite) hpos] [] [] pos)
     (λ D σ H=>ta σ H λ vs H1=>sp vs H1 (λ v H2=>tb σ H2 λ y H3=>r v y H3 D.rt) (xl2 X.K P1 P2 ts D σ H1)):=by
 intro pins s σ H D I h
 refine wpAny_Try_except (wpAny_execs_cons (wpAny_Return_some (wpAny_Compare1 ?_ hmk)))
 refine ur1 F hr hgf hmf hkf hb ha hsu hg1 hm1 hd1 hg2 hm2 hd2 e1 e2 hst hfr hdb he hpl I h λ v u H2 s2 rv I2 q=>?_
 refine wpAny_mono (hb2 pins s2 σ H2 _ (yw1 I2) q) (λ u2 s3 ⟨y,H3,I3,r3,q3⟩=>?_) λ _ _ z=>(show False from z).elim
 refine wpAny_mono (ho pins s3 σ H3 v y u u2 _ I3 rv r3 q3) (λ u4 s4 ⟨z,H4,I4,r4,q4⟩=>?_) λ _ _ z=>(show False from z).elim
 exact ⟨z,σ,H4,xw1 I4,r4,q4⟩
end
noncomputable def si1 (spx:XE3->Sp3) (ok:Str->Bool) (ta:TA3) (tb:TE3) (ts:TS3):TS3:=λ D' ρ μ=>ta ρ μ λ ds μ1 =>
 spx (λ c μ2=>ok c=true /\ ts { nx:=λ ρ' μ'=>D'.nx ρ' μ',rt:=D'.rt } ρ μ2) ds μ1 (λ d μ2=>tb ρ μ2 λ y μ3=>eqR d y μ3 D'.rt)
section
variable {X:Cx} {k:Nat} {ps:List Str} {spx:XE3->Sp3} {fx x1 x2:Str} {P1 P2:Addr} {e b:Expr} {es:List Expr} {b₀:Stmt} {suite:List Stmt} {kk:Nat} {p cpos p1 p2 tpos hpos pos epos rpos:Pos} {ta:TA3} {tb:TE3} {ts:TS3} {ok:Str->Bool}
theorem yb2 (c:CalX X.prog X.w X.K X.mg X.base k fx ps spx) (hr:Room k X.A) (ha:RA (xy0 X) (e :: es) ta) (hb2:RE (xy0 X) b tb) (ho:RO (xy0 X) (compareOp .Eq) eqR) (hsu:∀ ea,RSs (mark X (.ref ea)) (b₀ :: suite) ts)
    (hm1:X.mg x1=some (.ref P1)) (hm2:X.mg x2=some (.ref P2)) (e1:PySem.W.kitCls X.K (.ref P1) (.type "BaseException")=some true) (e2:PySem.W.kitCls X.K (.ref P2) (.type "BaseException")=some true)
    (hok:∀ c,ok c=true->∃ C b1 b2,PySem.W.nsIn X.K mainGlobals c=some (some (.ref C)) /\ X.mg c=some (.ref C) /\ PySem.W.kitCls X.K (.ref C) (.ref P1)=some b1 /\ PySem.W.kitCls X.K (.ref C) (.ref P2)=some b2 /\ (b1 || b2)=true)
    (hg1:Gl X x1:=by rfl) (hg2:Gl X x2:=by rfl) (hgf:Gl X fx:=by rfl) (hd1:(x1 == ("__debug__" : Str))=false:=by decide) (hd2:(x2 == ("__debug__" : Str))=false:=by decide)
    (hst:X.stack=X.env :: X.outer:=by rfl) (hfr:X.env.frame=some X.env.locals:=by rfl)
    (hdb:(fx == ("__debug__" : Str))=false:=by decide) (he:starEach (e :: es) X.env=(false,eval e X.env) :: starEach es X.env:=by rfl) (hpl:(backTo cpos (starEach es X.env)).any (·.1)=false:=by rfl)
    (hmk:behindInMarks .Eq b=false:=by first | exact zv1 _ | with_unfolding_all rfl) :
    RS X (.Try [.Return (some (.Compare (.Call (.Name fx p) (e :: es) [] cpos) [.Eq] [b] rpos)) epos] [.ExceptHandler (some (.Tuple [.Name x1 p1,.Name x2 p2] kk tpos)) none (b₀ :: suite) hpos] [] [] pos) (si1 spx ok ta tb ts):=by
 obtain ⟨f,fd,F,hmf,hkf,hb⟩:=c
 obtain ⟨va,pa,ra⟩:=ha
 obtain ⟨vb,pb,rb⟩:=hb2
 obtain ⟨r,po,ro⟩:=ho
 have hh:∃ tv:Addr->TS,(∀ ea,PSs (mark X (.ref ea)) (b₀ :: suite) (tv ea)) /\ ∀ ea,RdS X.K (tv ea) ts:=⟨λ ea=>(hsu ea).choose,λ ea=>(hsu ea).choose_spec.1,λ ea=>(hsu ea).choose_spec.2⟩
 obtain ⟨tv,hp,hr'⟩:=hh
 refine ⟨_,wc2 (ts:=λ D σ H=>∀ ea,tv ea D σ H) F hr hgf hmf hkf hb pa pb po (λ ea pins s σ H D I h=>hp ea pins s σ H D I (h ea)) hg1 hm1 hd1 hg2 hm2 hd2 e1 e2 hst hfr hdb he hpl hmk,?_⟩
 intro σ H D ρ μ D3 s m h kd
 refine ra σ H _ ρ μ _ s m h λ ds μ1 vs H1 h1 k1 r1 m1=>?_
 refine ⟨ds,μ1,_,_,r1,m1,h1,λ d μ2 v H2 h2 k2 r2 m2=>?_,λ c C μ2 H2 _ hX hmc m2 _=>?_⟩
 ·refine rb σ H2 _ ρ μ2 _ (s.mono (k1.trans k2)) m2 h2 λ y μ3 u H3 h3 k3 r3 m3=>?_
  exact ro d y v u H3 _ μ3 _ m3 (r2.mono k3) r3 h3 (kd.rt.after (k1.trans (k2.trans k3)))
 ·obtain ⟨o1,o2⟩:=hX
  obtain ⟨C',b1,b2,z1,z2,z3,z4,z5⟩:=hok c o1
  rw [hmc] at z2
  cases z2
  refine ⟨C,b1,b2,rfl,z3,z4,z5,λ kp ea=>?_⟩
  refine hr' ea _ _ _ _ _ _ (s.mono (k1.trans kp)) m2 o2 ⟨λ ρ' μ' σ' H' q k' s' m'=>?_,λ _ _ _ _ q=>False.elim q,λ _ _ _ _ q=>False.elim q,λ d μ' v H' q k' r' m'=>?_⟩
  ·exact kd.nx _ _ _ _ q (k1.trans (kp.trans k')) s' m'
  ·exact kd.rt _ _ _ _ q (k1.trans (kp.trans k')) r' m'
end
end Pv
namespace Pv
open PySem PySem.Spec PyProof.Rows L2
open PySem.AutoSeq1 (wpAny_loadPart')
section
variable {prog:Program} {w:World} {A:Around} {R:Result->Shared->Prop} {I:Addr} {fp wr:List Addr} {n:Nat} {P:Nat->Value->Prop} {St:Nat->Heap->Prop}
end
section
variable {prog:Program} {w:World} {A:Around} {E:Value->Shared->Prop} {s:Shared}
end
section
variable {X:Cx}
end
end Pv
namespace Pv
open PySem PySem.Spec PyProof.Rows L2
section
variable {X:Cx}
theorem RC.or {f:Value} {R1 R2:C3} (h1:RC X f R1) (h2:RC X f R2):RC X f (λ ds μ Q=>R1 ds μ Q \/ R2 ds μ Q):=by
 obtain ⟨c1,p1,r1⟩:=h1
 obtain ⟨c2,p2,r2⟩:=h2
 exact ⟨λ xs H Q=>c1 xs H Q \/ c2 xs H Q,λ pins s σ H xs us Q I r h=>h.elim (p1 pins s σ H xs us Q I r) (p2 pins s σ H xs us Q I r),
  λ xs vs H Q μ Q3 m r h k=>h.elim (λ h=>.inl (r1 xs vs H Q μ Q3 m r h k)) λ h=>.inr (r2 xs vs H Q μ Q3 m r h k)⟩
theorem RC.le {f:Value} {R1 R2:C3} (h:RC X f R1) (e:∀ ds μ Q,R2 ds μ Q->R1 ds μ Q):RC X f R2:=by
 obtain ⟨c1,p1,r1⟩:=h
 exact ⟨c1,p1,λ xs vs H Q μ Q3 m r h k=>r1 xs vs H Q μ Q3 m r (e _ _ _ h) k⟩
noncomputable def wq3:C3:=λ ds μ Q=>match ds with
 | [.ref p]=>match μ p with
  | some (.lst l)=>match ints? l with
   | some ns=>0 < ns.length /\ ∀ m,m ∈ ns->(∀ a,a ∈ ns->a<=m)->Q (.int m) μ
   | none=>False
  | _=>False
 | _=>False
theorem ty1 (hc:X.calm=true):CallR X (.builtin "max") (λ xs H Q=>∃ (p:Addr) (ns:List Int),xs=[.ref p] /\ SqL X.K H p (ns.map V.int) /\ 0 < ns.length /\ ∀ m,m ∈ ns->(∀ a,a ∈ ns->a<=m)->Q (.int m) H):=by
 intro pins s σ H xs us Q I r h
 obtain ⟨p,ns,rfl,hq,hne,q⟩:=h
 obtain ⟨u,rfl,rx⟩:=vz0 r
 cases rx
 obtain ⟨its,r',pl,hz⟩:=I.list hq
 have hi:=xq1 r'
 obtain ⟨ys,e⟩:=hi.allInts.items
 have hl:=pl.isList
 rw [e] at hl
 have hns:ns=ys.toList.map (·.1):=by rw [<- hi.numsOf,<- nums_intItems,<- e]
 have hsz:0 < ys.size:=by
  have h3:=hne; rw [hns,List.length_map,Array.length_toList] at h3; exact h3
 refine max_intList (I.ok.hd hc) hl hsz λ v h' tk hv hk=>?_
 obtain ⟨t,rfl⟩:=intItems_at hv
 obtain ⟨h1,h2⟩:=argBest_gt (numAt ys) (ys.size - 1)
 refine ⟨.int _,H,I.kept (t':=tk) hk,⟨t,rfl⟩,q _ ?_ λ a ha=>?_⟩
 ·rw [hns,numAt_eq]; exact getD_mem (by rw [List.length_map,Array.length_toList]; omega)
 ·rw [hns] at ha
  obtain ⟨j,hj,rfl⟩:=mem_getD ha
  rw [List.length_map,Array.length_toList] at hj
  rw [<- numAt_eq]; exact h2 j (by omega)
theorem sk3 (hc:X.calm=true):RC X (.builtin "max") wq3:=by
 refine ⟨_,ty1 hc,λ xs vs H Q μ Q3 m r h k=>?_⟩
 unfold wq3 at h
 split at h
 ·next p =>
  cases r with
  | cons r1 r2 =>
   cases r2
   cases r1
   split at h
   ·next l e =>
    split at h
    ·next ns e1 =>
     obtain ⟨vs,hv,rs⟩:=m p l e
     have ev:=uk1 rs e1
     subst ev
     exact ⟨p,ns,rfl,SqL.of hv,h.1,λ a h1 h2=>k _ _ _ _ (h.2 a h1 h2) (Kp.refl _) (.int _) m⟩
    ·exact h.elim
   ·exact h.elim
 ·exact h.elim
theorem q_mx (hc:X.calm=true):RC X (.builtin "max") mxR:=by
 refine ((yy3 hc).or (sk3 hc)).le λ ds μ Q h=>?_
 unfold mxR at h
 split at h
 ·exact .inl h
 ·exact .inr h
 ·exact h.elim
end
section
variable {X:Cx} {e:Expr} {te:TE3} {p p2 pos pos2:Pos}
end
end Pv
namespace Pv
open PySem PySem.Spec PyProof.Rows L2
section
variable {prog:Program} {w:World} {A:Around} {E:Value->Shared->Prop} {s:Shared} {R:Result->Shared->Prop} {I l:Addr} {items:Array Value}
end
section
variable {X:Cx} {e:Expr} {te:TE3} {p p2 pos pos2:Pos}
variable {o:Expr} {es:List Expr} {to:TE3} {t:TA3} {apos cpos:Pos}
end
end Pv
namespace Pv
open PySem PySem.Spec PyProof.Rows L2
noncomputable def tt0 (cells:List (Str × Addr)):List (Str × NameKind)->List (Str × Addr)->List (Str × Addr)
 | [],acc=>acc
 | (n,k) :: r,acc=>if k == .free then tt0 cells r ((n,(cells.lookup n).getD 0) :: acc) else tt0 cells r acc
theorem sb1 {scope:Scope} {env:Env} (h:∀ y ∈ scope.names,y.2=.free->(env.cells.lookup y.1).isSome=true):closureFor scope env=pure (tt0 env.cells scope.names []):=by
 unfold closureFor
 have key:∀ (l:List (Str × NameKind)) (acc:List (Str × Addr)),(∀ y ∈ l,y.2=.free->(env.cells.lookup y.1).isSome=true) ->
     (forIn l acc (λ x r=>if (x.2 == NameKind.free)=true then do let c <- cellOf env x.1; pure (ForInStep.yield ((x.1,c) :: r)) else pure (ForInStep.yield r)):Sem (List (Str × Addr)))=pure (tt0 env.cells l acc):=by
  intro l
  induction l with
  | nil=>intro acc _; rfl
  | cons y r ih =>
   intro acc hl
   obtain ⟨n,k⟩:=y
   rw [List.forIn_cons]
   have ih':=λ a=>ih a λ z hz=>hl z (List.mem_cons_of_mem _ hz)
   by_cases hk:k=.free
   ·subst hk
    have hs:=hl (n,.free) (List.mem_cons_self ..) rfl
    obtain ⟨c,hc⟩:=Option.isSome_iff_exists.mp hs
    have ec:cellOf env n=pure c:=by unfold cellOf; rw [hc]
    simp only [tt0,ec,pure_bind,beq_self_eq_true,if_true,hc,Option.getD_some]
    exact ih' _
   ·have hk':(k == NameKind.free)=false:=by simpa using hk
    simp only [tt0,hk',Bool.false_eq_true,if_false,pure_bind]
    exact ih' _
 have:=key scope.names [] h
 refine Eq.trans ?_ this
 refine Eq.trans (bind_pure (forIn scope.names ([]:List (Str × Addr)) _:Sem (List (Str × Addr)))) ?_
 congr 1
theorem tx0 {cells:List (Str × Addr)} {x:Str} {c:Addr}:∀ (l:List (Str × NameKind)) (acc:List (Str × Addr)),(∀ y ∈ l,y.2=.free->(cells.lookup y.1).isSome=true)->(acc.lookup x=some c->cells.lookup x=some c) ->
    (tt0 cells l acc).lookup x=some c->cells.lookup x=some c
 | [],acc,_,ha,h=>ha h
 | (n,k) :: r,acc,hl,ha,h=>by
  unfold tt0 at h
  split at h
  ·next hk =>
   refine tx0 r _ (λ z hz=>hl z (List.mem_cons_of_mem _ hz)) (λ h2=>?_) h
   rw [List.lookup_cons] at h2
   split at h2
   ·next e =>
    have e':x=n:=eq_of_beq e
    subst e'
    obtain ⟨c',hc⟩:=Option.isSome_iff_exists.mp (hl (x,k) (List.mem_cons_self ..) (eq_of_beq hk))
    rw [hc] at h2
    simp only [Option.getD_some,Option.some.injEq] at h2
    rw [hc,h2]
   ·exact ha h2
  ·exact tx0 r acc (λ z hz=>hl z (List.mem_cons_of_mem _ hz)) ha h
theorem sx0 {cells:List (Str × Addr)} {x:Str}:∀ (l:List (Str × NameKind)) (acc:List (Str × Addr)),((∃ c,acc.lookup x=some c) \/ (x,NameKind.free) ∈ l)->∃ c,(tt0 cells l acc).lookup x=some c
 | [],acc,h=>by
  rcases h with h | h
  ·exact h
  ·cases h
 | (n,k) :: r,acc,h=>by
  unfold tt0
  split
  ·next hk =>
   refine sx0 r _ ?_
   by_cases e:x=n
   ·subst e
    left
    exact ⟨(cells.lookup x).getD 0,by rw [List.lookup_cons]; simp⟩
   ·rcases h with ⟨c,h⟩ | h
    ·left
     refine ⟨c,?_⟩
     rw [List.lookup_cons]
     have:(x == n)=false:=by simpa using e
     rw [this]; exact h
    ·right
     rcases List.mem_cons.mp h with h | h
     ·exact absurd (congrArg Prod.fst h) e
     ·exact h
  ·next hk =>
   refine sx0 r acc ?_
   rcases h with h | h
   ·exact .inl h
   ·rcases List.mem_cons.mp h with h | h
    ·cases h; exact absurd rfl hk
    ·exact .inr h
theorem CompSc.free {X:Cx} {NN:List Str} {scope:Scope} {js:List (Option Nat)} (hcell:∀ y ∈ scope.names,y.2 ≠ .cell) (hk:scope.kind=.function) (hfn:X.env.scope.kind=.function)
    (hn:∀ y ∈ scope.names,y.2=.local->scope.names.lookup y.1=some .local) (hfree:∀ y ∈ scope.names,y.2=.free->X.env.scope.names.lookup y.1=some .cell) (hlook:∀ y ∈ scope.names,y.2=.free->scope.names.lookup y.1=some .free)
    (hcl:∀ x,X.env.scope.names.lookup x=some .cell->(X.env.cells.lookup x).isSome=true) (len:js.length=NN.length)
    (hout:∀ i ∈ List.range js.length,∀ j,js.getD i none=some j->∃ x,NN[i]?=some x /\ X.N[j]?=some x /\ scope.names.lookup x=some .free) :
    CompSc X NN scope (tt0 X.env.cells scope.names []) js where
 clos:=sb1 λ y hy e=>hcl _ (hfree y hy e)
 cell:=hcell
 kind:=hk
 names:=hn
 sub:=λ x c h=>tx0 scope.names [] (λ y hy e=>hcl _ (hfree y hy e)) (λ h=>by simp at h) h
 has:=λ x h=>by
  refine sx0 scope.names [] (.inr ?_)
  have hm:∃ k,(x,k) ∈ scope.names /\ (k=.free \/ k=.cell):=by
   have key:∀ kk,(relabel scope X.env).names.lookup x=some kk->(kk=.cell \/ kk=.free)->∃ k,(x,k) ∈ scope.names /\ (k=.free \/ k=.cell):=λ kk hkk hc=>by
    have hmem:=ws0 hkk
    obtain ⟨⟨n,k⟩,hy,e⟩:=List.mem_map.mp hmem
    dsimp only at e
    split at e
    ·next hq =>
     cases e
     simp only [Bool.and_eq_true] at hq
     exact ⟨k,hy,.inl (by simpa using hq.1.1)⟩
    ·cases e
     exact ⟨kk,hy,hc.symm⟩
   rcases h with h | h
   ·exact key _ h (.inl rfl)
   ·exact key _ h (.inr rfl)
  obtain ⟨k,hk1,hk2⟩:=hm
  rcases hk2 with rfl | rfl
  ·exact hk1
  ·exact absurd rfl (hcell _ hk1)
 len:=len
 out:=λ i j h=>by
  have hi:i < js.length:=by
   rcases Nat.lt_or_ge i js.length with z | z
   ·exact z
   ·rw [List.getElem?_eq_none z] at h; cases h
  obtain ⟨x,e1,e2,e3⟩:=hout i (List.mem_range.mpr hi) j (by rw [List.getD_eq_getElem?_getD,h]; rfl)
  have hf:=hfree (x,.free) (ws0 e3) rfl
  refine ⟨x,e1,e2,.inr (.inl hf),by rw [hf]; simp,?_⟩
  left
  have key:∀ (l:List (Str × NameKind)),l.lookup x=some .free->(l.map λ (n,k)=>if (k == NameKind.free && X.env.scope.kind == .function && X.env.kindOf n == some .cell) then (n,NameKind.cell) else (n,k)).lookup x=some .cell:=λ l=>by
   induction l with
   | nil=>intro h; simp at h
   | cons y r ih =>
    obtain ⟨n,k⟩:=y
    intro h
    rw [List.lookup_cons] at h
    rw [List.map_cons,List.lookup_cons]
    by_cases e:x=n
    ·subst e
     simp only [beq_self_eq_true,Option.some.injEq] at h
     subst h
     have hkind:(X.env.kindOf x == some NameKind.cell)=true:=by
      show (X.env.scope.names.lookup x == some NameKind.cell)=true
      rw [hf]; rfl
     simp [hfn,hkind]
    ·have e':(x == n)=false:=by simpa using e
     rw [e'] at h
     have ih':=ih h
     by_cases hq:(k == NameKind.free && X.env.scope.kind == ScopeKind.function && X.env.kindOf n == some NameKind.cell)=true
     ·simp only [hq,if_true,e']; exact ih'
     ·simp only [hq,Bool.false_eq_true,if_false,e']; exact ih'
  exact key _ e3
theorem wt2 {CX:CXT} {P:Program} {w:World} {K:Fg} {mg:Str->Option Value} {base:Heap} {N:List Str} {qual:Str} {sc:Scope} {f:Addr} {cdv:Value} {A:Around} {outer:List Env} {s:Shared} {H:Hp} {E:XK} {NN:List Str} {scope:Scope} {js:List (Option Nat)}
    (hcell:∀ y ∈ scope.names,y.2 ≠ .cell:=by decide +kernel) (hk:scope.kind=.function:=by rfl) (hfn:sc.kind=.function:=by rfl)
    (hn:∀ y ∈ scope.names,y.2=.local->scope.names.lookup y.1=some .local:=by decide +kernel) (hfree:∀ y ∈ scope.names,y.2=.free->sc.names.lookup y.1=some .cell:=by decide +kernel)
    (hlook:∀ y ∈ scope.names,y.2=.free->scope.names.lookup y.1=some .free:=by decide +kernel) (len:js.length=NN.length:=by rfl)
    (hout:∀ i ∈ List.range js.length,∀ j ∈ (js.getD i none).toList,∃ x ∈ NN[i]?.toList,N[j]?=some x /\ scope.names.lookup x=some .free:=by decide +kernel) :
    CompSc (cxOf CX P w K mg base N qual sc f cdv A outer s H E).nox NN scope (tt0 (cxOf CX P w K mg base N qual sc f cdv A outer s H E).nox.env.cells scope.names []) js :=
 CompSc.free (X:=(cxOf CX P w K mg base N qual sc f cdv A outer s H E).nox) hcell hk hfn hn hfree hlook (λ x h=>by
  obtain ⟨c,hc⟩:=yc1 (n:=_) h
  exact Option.isSome_iff_exists.mpr ⟨c,hc⟩) len λ i hi j hj=>by
   obtain ⟨x,h1,h2,h3⟩:=hout i hi j (by rw [hj]; simp)
   exact ⟨x,by simpa using h1,h2,h3⟩
end Pv
namespace Pv
open PySem PySem.Spec PyProof.Rows L2
section
variable {X:Cx} {NN:List Str} {scope:Scope} {cl:List (Str × Addr)} {js:List (Option Nat)}
theorem ut2 {elt target iter:Expr} {ifs:List Expr} {pos:Pos} {wi:TI} {g:TG} {tc:TT} {te:TE} (hc:X.calm=true) (S:CompSc X NN scope cl js) (hi:PI X target iter wi)
    (hg:∀ C fp s₀ H₀ pn,PG (sk0 X NN scope cl C fp s₀ H₀ pn) target g) (ht:∀ C fp s₀ H₀ pn,PTs (sk0 X NN scope cl C fp s₀ H₀ pn) ifs tc) (he:∀ C fp s₀ H₀ pn,PE (sk0 X NN scope cl C fp s₀ H₀ pn) elt te)
    (hs:∀ x,foldedSetIterable iter X.env x=pure x) {use:Option (Value->Sem Unit)} {Q':Value->Shared->Prop} {pins:List (Addr × Obj)} {s:Shared} {σ:L2.St} {H:Hp} {Q:VK} (I:Inv X pins σ H s) (h:za2 js wi g tc te σ H Q)
    (hu:∀ (p0 C:Addr) (H':Hp) (s':Shared) (m':Str->Option Value),Inv X pins σ H' s'->s'.heap.Ns C m'->H' C=none->C ≠ X.env.locals->X.s₀.heap.objs.size<=C->(∀ x c,X.env.cells.lookup x=some c->c ≠ C)->(∀ p ∈ X.pn ++ pins,p.1 ≠ C)->Q (.ref p0) H' ->
     compPost (model X.prog X.w) X.A X.xe use Q' (.ref p0) C (.ok .next) s') :
    wpAny (model X.prog X.w) X.A (comprehension (.ListComp elt [⟨target,iter,ifs,0⟩] scope pos) scope X.env (firstIterPos [⟨target,iter,ifs,0⟩] pos) (newList []) (firstAsync [⟨target,iter,ifs,0⟩]) (firstIter [⟨target,iter,ifs,0⟩] X.env) use) Q' X.xe s:=by
 refine wpAny_comprehension_free (use:=use) rfl hs S.clos S.kind S.names (thn (hi pins s σ H _ I h) λ xv s1 h1=>thn h1 λ itv s2 h2=>?_)
 obtain ⟨it,fp,tn,J,H2,rfl,I2,T,st2,f2,hW⟩:=h2
 refine wpAny_newObj_type (wpAny_newFunctionEnv S.cell (by intro y hy; simp at hy) (λ h₁ hns₁ hsb₁=>?_) S.kind)
 dsimp only at hns₁ hsb₁ ⊢
 have hD:H2 s2.heap.objs.size=none:=I2.hok.fresh (Nat.le_refl _)
 have I3:Inv X pins σ (upd H2 s2.heap.objs.size (.lst [])) { s2 with heap:=s2.heap.push { cls:=.type "list",dict:=none,data:=.seq ([]:List Value).toArray } } :=
  I2.lnew (t':=s2.toks) (its:=[]) .nil (by rw [sizeLine_eq]; decide)
 generalize hsD:({ s2 with heap:=s2.heap.push { cls:=.type "list",dict:=none,data:=.seq ([]:List Value).toArray } }:Shared)=sD at I3
 have eh:sD.heap=s2.heap.push { cls:=.type "list",dict:=none,data:=.seq ([]:List Value).toArray }:=by rw [<- hsD]
 have es:∀ (h:Heap) (tk:Nat),({ s2 with heap:=h,toks:=tk }:Shared)={ sD with heap:=h,toks:=tk }:=λ h tk=>by rw [<- hsD]
 have hsz:s2.heap.objs.size < sD.heap.objs.size:=by rw [eh,Heap.size_push]; exact Nat.lt_succ_self _
 rw [<- eh] at hns₁ hsb₁ ⊢
 generalize hp0:s2.heap.objs.size=p0 at *
 have up:∀ b u,s2.heap.get? b=some u->sD.heap.get? b=some u:=λ b u e=>by rw [eh]; exact Heap.get?_push_of_some _ e
 have k:∀ b u,sD.heap.get? b=some u->h₁.get? b=some u:=λ b u e=>hsb₁.extBut b u (Nat.ne_of_lt (Heap.lt_size e)) (Heap.get?_push_of_some _ e)
 have f3:∀ b ∈ fp,FpOk X pins (upd H2 p0 (.lst [])) b /\ b < sD.heap.objs.size:=λ b hb=>by
  obtain ⟨o,ho,_⟩:=T.obj 0 _ st2 b hb
  have hlt:b < p0:=by rw [<- hp0]; exact Heap.lt_size ho
  refine ⟨⟨?_,(f2 b hb).2⟩,Nat.lt_trans hlt hsz⟩
  rw [td0 (Nat.ne_of_lt hlt)]; exact (f2 b hb).1
 obtain ⟨W,⟨m0,w0⟩,turn⟩:=hW p0 hD
 have I4:=ux1 (tk:=s2.toks + ([]:List (Str × Value)).length) hc S I3 f3 hns₁ k
 have st4:tn 0 h₁:=T.keep 0 _ _ st2 λ b _ o e=>k b o (up b o e)
 rw [es]
 generalize hX':sk0 X NN scope cl sD.heap.objs.size fp sD (upd H2 p0 (.lst [])) (X.pn ++ pins)=X' at I4
 have a1:X'.env=compEnvC scope cl sD.heap.objs.size X.env:=by rw [<- hX']
 have a2:X'.prog=X.prog:=by rw [<- hX']
 have a3:X'.w=X.w:=by rw [<- hX']
 have a4:X'.A=X.A:=by rw [<- hX']
 have a5:X'.K=X.K:=by rw [<- hX']
 have a6:X'.calm=true:=by rw [<- hX']; exact hc
 have a7:X'.xe=λ _ _=>False:=by rw [<- hX']
 have a8:X'.ex=fp:=by rw [<- hX']
 have T':Turn X'.prog X'.w X'.K target J fp it tn:=by rw [a2,a3,a5]; exact T
 have hg':PG X' target g:=by rw [<- hX']; exact hg _ _ _ _ _
 have ht':PTs X' ifs tc:=by rw [<- hX']; exact ht _ _ _ _ _
 have he':PE X' elt te:=by rw [<- hX']; exact he _ _ _ _ _
 have fin:∀ {σ':L2.St} {H':Hp} {s':Shared},Inv X' [] σ' H' s'->Q (.ref p0) H'->compPost (model X.prog X.w) X.A X.xe use Q' (.ref p0) sD.heap.objs.size (.ok .next) s':=λ {σ' H' s'} I' q=>by
  obtain ⟨m',hn',_⟩:=I'.loc
  rw [a1] at hn'
  have u:Un (frs X.stack) fp (upd H2 p0 (.lst [])) H' sD.heap s'.heap:=by
   have:=I'.base
   rw [<- hX'] at this
   exact this
  have hch:∀ b ∈ fp,(b ∈ X.ex \/ X.s₀.heap.objs.size<=b) /\ b ≠ X.env.locals /\ (∀ x c,X.env.cells.lookup x=some c->c ≠ b) /\ ∀ p ∈ X.pn ++ pins,p.1 ≠ b:=λ b hb=>by
   obtain ⟨_,z1,_,z3,z4,z5⟩:=(f3 b hb).1
   exact ⟨z3,z1,z4,z5⟩
  have os':s'.os=sD.os:=by
   have:=I'.os
   rw [<- hX'] at this
   exact this
  have hok':HOk X.prog X.w H' s'.heap:=by
   have:=I'.hok
   rw [<- hX'] at this
   exact this
  have I5:Inv X pins σ H' s':=I3.call' os' u hok' I'.bare hch
  have hC:H' sD.heap.objs.size=none:=by
   have:=I'.free
   rw [a1] at this
   exact this
  refine hu p0 _ H' s' m' I5 hn' hC (Nat.ne_of_gt I3.lt) I3.sz (λ x c e=>?_) (λ p hp=>?_) q
  ·obtain ⟨v,o,ho,_⟩:=I3.cell x c e
   exact Nat.ne_of_lt (Heap.lt_size ho)
  ·exact Nat.ne_of_lt (Heap.lt_size (I3.pin p hp).1)
 have fp4:∀ {H':Hp},(∀ b ∈ fp,H' b=none)->∀ b ∈ fp,FpOk X' [] H' b:=λ hn b hb=>by
  obtain ⟨_,z1,z2,z3,z4,z5⟩:=(f3 b hb).1
  rw [<- hX']
  refine ⟨hn b hb,Nat.ne_of_lt (f3 b hb).2,λ z=>?_,.inl hb,λ x c e=>z4 x c (S.sub x c e),λ p hp=>z5 p (by simpa using hp)⟩
  rcases List.mem_cons.mp (I3.stkSub _ z) with z | z
  ·exact z1 z
  ·exact z2 z
 have loop:∀ s₃:Shared,Inv X' [] (vw0 js σ) (upd H2 p0 (.lst [])) s₃->tn 0 s₃.heap ->
     codeAny (model X.prog X.w) X.A (.compLoop (.ListComp elt [⟨target,iter,ifs,0⟩] scope pos) 0 (.ref it) (.ref p0) (compEnvC scope cl sD.heap.objs.size X.env)) (compPost (model X.prog X.w) X.A X.xe use Q' (.ref p0) sD.heap.objs.size) s₃:=by
  intro s₃ I₃ st₃
  refine codeAny_loop rfl (λ n s'=>∃ i σ' H',Inv X' [] σ' H' s' /\ tn i s'.heap /\ (∀ b ∈ fp,H' b=none) /\ W i n σ' H') (λ n s' hI=>?_) m0 ⟨0,vw0 js σ,_,I₃,st₃,λ b hb=>(f3 b hb).1.1,w0⟩
  obtain ⟨i,σ3,H3,J3,st3,fr3,w3⟩:=hI
  have tr:=turn i n σ3 H3 w3
  show wpAny _ X.A ((compTurn (.ListComp elt [⟨target,iter,ifs,0⟩] scope pos) 0 (.ref it) (.ref p0) (compEnvC scope cl sD.heap.objs.size X.env)).onRaise (λ x=>do noteFrame x (compEnvC scope cl sD.heap.objs.size X.env); theTreesLotGoes x)) _ _ s'
  refine wpAny_noted ?_
  rw [compTurn_list,<- a1,<- a2,<- a3,<- a4]
  have nof:∀ {α:Type} {t:Sem α} {Q':α->Shared->Prop} {s'':Shared} {E:Value->Shared->Prop},wpAny (model X'.prog X'.w) X'.A t Q' X'.xe s''->wpAny (model X'.prog X'.w) X'.A t Q' E s'':=λ h=>wpAny_mono h (λ _ _ q=>q) λ _ _ z=>by rw [a7] at z; exact z.elim
  rcases tr with ⟨stop,qn⟩ | ⟨go,step⟩
  ·refine wpAny_bind (wpAny_standAt (wpAny_bind (nof (thn (T'.done X' rfl rfl rfl a6 i [] s' σ3 H3 X'.xe J3 (fp4 fr3) st3 stop) λ r s4 ⟨hr,J4⟩=>?_))))
   subst hr
   refine wpAny_pure ?_
   show compPost (model X'.prog X'.w) X'.A X.xe use Q' (.ref p0) sD.heap.objs.size (.ok .next) s4
   rw [a2,a3,a4]
   exact fin J4 qn
  ·refine wpAny_bind (wpAny_standAt (wpAny_bind (nof (thn (T'.item X' rfl rfl rfl a6 i [] s' σ3 H3 X'.xe J3 (fp4 fr3) st3 go) λ r s4 ⟨u,hr,h4⟩=>?_))))
   subst hr
   refine wpAny_bind (nof (thn h4 λ _ s5 ⟨x,H5,I5,r5,y5,st5,fr5⟩=>?_))
   have I5':=I5.pinned (fp4 fr5) (T.obj _ _ st5)
   refine wpAny_bind (nof (thn (hg' _ s5 σ3 H5 x u _ I5' r5 (step x H5 y5)) λ _ s6 ⟨σ6,H6,I6,q6⟩=>?_))
   refine wpAny_bind (nof (thn (ht' _ s6 σ6 H6 _ I6 q6) λ ok s7 ⟨H7,I7,q7⟩=>?_))
   have again:∀ {s8:Shared} {σ8:L2.St} {H8:Hp},Inv X' ([] ++ we1 fp s5.heap) σ8 H8 s8->(∃ m',m' < n /\ W (i + 1) m' σ8 H8)->∃ m,m < n /\ ∃ i σ' H',Inv X' [] σ' H' s8 /\ tn i s8.heap /\ (∀ b ∈ fp,H' b=none) /\ W i m σ' H':=λ {s8 σ8 H8} I8 ⟨m',hm,w8⟩=>by
    refine ⟨m',hm,i + 1,σ8,H8,I8.unpinned,T.keep _ _ _ st5 λ b hb o e=>(I8.pin (b,o) (List.mem_append_right _ (List.mem_append_right _ (xq0 hb e)))).1,λ b hb=>?_,w8⟩
    obtain ⟨o,e,d⟩:=T.obj _ _ st5 b hb
    exact (I8.pin (b,o) (List.mem_append_right _ (List.mem_append_right _ (xq0 hb e)))).2.1
   cases ok with
   | false=>exact wpAny_pure ⟨rfl,again I7 q7⟩
   | true =>
    refine wpAny_bind (wpAny_bind (nof (thn (he' _ s7 σ6 H7 _ I7 q7) λ xv s8 ⟨y,H8,I8,r8,ys,q8,hlen,q9⟩=>wpAny_bind (nof ?_))))
    refine thn (ue1 (X:=X') _ s8 σ6 H8 (.ref p0) [y] (.ref p0) [xv] (λ v H9=>v=.non /\ H9=upd H8 p0 (.lst (ys ++ [y]))) I8 rfl (.cons r8 .nil) ⟨p0,ys,y,rfl,rfl,q8,hlen,rfl,rfl⟩) λ rv s9 ⟨v9,H9,I9,_,_,e9⟩=>?_
    subst e9
    exact wpAny_pure (wpAny_pure ⟨rfl,again I9 q9⟩)
 exact codeAny_compStart_list (loop _ I4 st4) (T.self X.A 0 _ _ _ st4 (loop _ I4 st4))
theorem sp2 {i:Nat} {x:Str} {px apos:Pos} {elt target iter:Expr} {ifs:List Expr} {pos:Pos} {wi:TI} {g:TG} {tc:TT} {te:TE} (hN:X.N.Nodup) (hi':X.N[i]?=some x) (hl:X.env.scope.names.lookup x=some .local) (hc:X.calm=true) (S:CompSc X NN scope cl js) (hi:PI X target iter wi)
    (hg:∀ C fp s₀ H₀ pn,PG (sk0 X NN scope cl C fp s₀ H₀ pn) target g) (ht:∀ C fp s₀ H₀ pn,PTs (sk0 X NN scope cl C fp s₀ H₀ pn) ifs tc) (he:∀ C fp s₀ H₀ pn,PE (sk0 X NN scope cl C fp s₀ H₀ pn) elt te)
    (hs:∀ x,foldedSetIterable iter X.env x=pure x) (hw:swapsWith (.ListComp elt [⟨target,iter,ifs,0⟩] scope pos) (some (.Name x px)) apos.line X.env=pure true) :
    PS X (.Assign [.Name x px] (.ListComp elt [⟨target,iter,ifs,0⟩] scope pos) apos) (tAsg (za2 js wi g tc te) (ws2 i)):=by
 intro pins s σ H D I h
 rw [exec_Assign_Name_used _ _ _ _ hw]
 refine wpAny_bind (wpAny_standAt (wpAny_bind ?_))
 show wpAny _ _ (comprehension (.ListComp elt [⟨target,iter,ifs,0⟩] scope pos) scope X.env (firstIterPos [⟨target,iter,ifs,0⟩] pos) (newList []) (firstAsync [⟨target,iter,ifs,0⟩]) (firstIter [⟨target,iter,ifs,0⟩] X.env) (some (assign (.Name x px) X.env)) >>= λ _=>pure ()) _ _ s
 refine wpAny_bind (wpAny_mono (ut2 (use:=some (assign (.Name x px) X.env)) (Q':=λ _ s'=>SP X pins D .next s') hc S hi hg ht he hs I h λ p0 C H' s' m' I5 hn hC n1 n2 n3 n4 q=>?_) (λ _ s' hq=>wpAny_pure (wpAny_pure hq)) λ _ _ e=>e)
 show wpAny _ _ (assign (.Name x px) X.env (.ref p0)) _ _ s'
 refine wpAny_assign_Name (vd1 I5 hN hi' (.inl hl) (v:=.ref p0) rfl (λ s2 I6 ⟨b,sb,hb⟩=>?_) (.inr hl))
 have nb:C ≠ b:=by
  rcases hb with hb | hb
  ·rw [hb]; exact n1
  ·exact Ne.symm (n3 x b hb)
 exact ⟨m',hn.sameBut sb nb,λ h' sb'=>⟨_,H',I6.turned (t':=s2.toks) (λ b o hb e=>sb'.extBut b o hb e) hC n1 (.inr n2) n3 n4,q⟩⟩
end
section
variable {X:Cx} {elt target iter:Expr} {ifs:List Expr} {pos:Pos} {ti:TI3} {g:TG3} {tc:TT3} {te:TE3} {NN:List Str} {scope:Scope} {cl:List (Str × Addr)} {js:List (Option Nat)}
theorem zb2 {i:Nat} {x:Str} {px apos:Pos} (hN:X.N.Nodup) (hc:X.calm=true) (S:CompSc X NN scope cl js) (hi:RI X target iter ti) (hg:∀ C fp s₀ H₀ pn,RG (sk0 X NN scope cl C fp s₀ H₀ pn) target g)
    (ht:∀ C fp s₀ H₀ pn,RTs (sk0 X NN scope cl C fp s₀ H₀ pn) ifs tc) (he:∀ C fp s₀ H₀ pn,RE (sk0 X NN scope cl C fp s₀ H₀ pn) elt te)
    (hs:∀ x,foldedSetIterable iter X.env x=pure x) (hi':X.N[i]?=some x:=by rfl) (hl:X.env.scope.names.lookup x=some .local:=by rfl)
    (hw:swapsWith (.ListComp elt [⟨target,iter,ifs,0⟩] scope pos) (some (.Name x px)) apos.line X.env=pure true:=by rfl):RS X (.Assign [.Name x px] (.ListComp elt [⟨target,iter,ifs,0⟩] scope pos) apos) (set3 i (tx1 js ti g tc te)):=by
 obtain ⟨wi,pi,ri⟩:=hi
 let gU:TG:=λ v σ H Q=>∀ (r:TG3),r=g->∃ d ρ μ Q3,RSt X.K H ρ σ /\ RelM X.K μ H /\ RelD X.K H d v /\ g d ρ μ Q3 /\ (∀ ρ' μ' σ' H',Q3 ρ' μ'->Kp H H'->RSt X.K H' ρ' σ'->RelM X.K μ' H'->Q σ' H')
 let tU:TT:=λ σ H Q=>∃ ρ μ Q3,RSt X.K H ρ σ /\ RelM X.K μ H /\ tc ρ μ Q3 /\ (∀ b μ' H',Q3 b μ'->Kp H H'->RelM X.K μ' H'->Q b H')
 let eU:TE:=λ σ H Q=>∃ ρ μ Q3,RSt X.K H ρ σ /\ RelM X.K μ H /\ te ρ μ Q3 /\ Ks X.K H Q3 Q
 have hg':∀ C fp s₀ H₀ pn,PG (sk0 X NN scope cl C fp s₀ H₀ pn) target gU:=λ C fp s₀ H₀ pn=>by
  obtain ⟨tv,p,r⟩:=hg C fp s₀ H₀ pn
  intro pins s σ H v u Q I rv h
  obtain ⟨d,ρ,μ,Q3,a1,a2,a3,a4,a5⟩:=h g rfl
  exact p pins s σ H v u Q I rv (r v d σ H Q ρ μ Q3 a1 a2 a3 a4 a5)
 have ht':∀ C fp s₀ H₀ pn,PTs (sk0 X NN scope cl C fp s₀ H₀ pn) ifs tU:=λ C fp s₀ H₀ pn=>by
  obtain ⟨tv,p,r⟩:=ht C fp s₀ H₀ pn
  intro pins s σ H Q I h
  obtain ⟨ρ,μ,Q3,a1,a2,a3,a4⟩:=h
  exact p pins s σ H Q I (r σ H Q ρ μ Q3 a1 a2 a3 a4)
 have he':∀ C fp s₀ H₀ pn,PE (sk0 X NN scope cl C fp s₀ H₀ pn) elt eU:=λ C fp s₀ H₀ pn=>by
  obtain ⟨tv,p,r⟩:=he C fp s₀ H₀ pn
  intro pins s σ H Q I h
  obtain ⟨ρ,μ,Q3,a1,a2,a3,a4⟩:=h
  exact p pins s σ H Q I (r σ H Q ρ μ Q3 a1 a2 a3 a4)
 have rd:RdE X.K (za2 js wi gU tU eU) (tx1 js ti g tc te):=RdE.comp ri (λ v d σ H Q ρ μ Q3 a1 a2 a3 a4 a5 _ _=>⟨d,ρ,μ,Q3,a1,a2,a3,a4,a5⟩) (λ σ H Q ρ μ Q3 a1 a2 a3 a4=>⟨ρ,μ,Q3,a1,a2,a3,a4⟩) (λ σ H Q ρ μ Q3 a1 a2 a3 a4=>⟨ρ,μ,Q3,a1,a2,a3,a4⟩)
 exact ⟨_,sp2 hN hi' hl hc S pi hg' ht' he' hs hw,λ σ H D ρ μ D3 s m h k=>rd σ H _ ρ μ _ s m h λ d μ1 v H1 h1 k1 r1 m1=>k.nx _ _ _ _ h1 k1 ((s.mono k1).set i r1) m1⟩
end
end Pv
namespace Pv
open PySem PySem.Spec PySem.W PyProof.Rows L2
noncomputable def tv1:C3:=λ ds μ Q=>match ds with
 | [.tup l]=>∀ r,μ r=none->Q (.ref r) (updM μ r (.lst l))
 | [.ref p]=>match μ p with
  | some (.lst l)=>∀ r,μ r=none->Q (.ref r) (updM μ r (.lst l))
  | _=>False
 | _=>False
section
variable {X:Cx} {o e:Expr} {es:List Expr} {to:TE3} {t:TA3} {apos cpos:Pos}
theorem xl3:RC X (.type "list") tv1:=by
 refine ⟨_,tf1,λ xs vs H Q μ Q3 m r h k=>?_⟩
 cases r with
 | nil=>exact h.elim
 | cons r1 r2 =>
  cases r2 with
  | cons _ _=>cases r1 <;> exact h.elim
  | nil =>
   cases r1 with
   | tup hq rs=>exact ⟨_,_,rfl,.inr (SqT.of hq),λ r hr=>k _ _ _ _ (h r (m.free hr)) (Kp.new hr) (.ref r) (m.newL hr rs)⟩
   | ref p =>
    dsimp only [tv1] at h
    cases e0:μ p with
    | none=>rw [e0] at h; exact h.elim
    | some oo =>
     cases oo with
     | ins _ _=>rw [e0] at h; exact h.elim
     | dct _=>rw [e0] at h; exact h.elim
     | dcl _=>rw [e0] at h; exact h.elim
     | lst l =>
      rw [e0] at h
      dsimp only at h
      obtain ⟨us,hv,rs⟩:=m p l e0
      exact ⟨_,_,rfl,.inl (SqL.of hv),λ r hr=>k _ _ _ _ (h r (m.free hr)) (Kp.new hr) (.ref r) (m.newL hr rs)⟩
   | _=>exact h.elim
end
end Pv
namespace Pv
open PySem
noncomputable abbrev wp0:D:=.int 30
noncomputable abbrev wr0:D:=.int 4
noncomputable abbrev yi0:D:=.int 99999999999999999999
noncomputable abbrev wn0:D:=.ktp [.str "go",.str "jump",.str "turn"]
noncomputable abbrev we0:D:=.ktp [.str "go",.str "times"]
noncomputable abbrev yf0:D:=.ktp [.str "part",.str "in",.str "close"]
noncomputable def xnames:List Str:=["NoRoom", "NoStep", "NoWord"]
noncomputable def subX (cls c:Str):Option Bool:=if xnames.contains c then some (cls == c || cls == "PenError" || cls == "ValueError") else none
noncomputable def okX (c:Str):Bool:=xnames.contains c
noncomputable def ze0 (c:Str):Bool:=(["NoStep", "NoRoom"]:List Str).contains c
noncomputable def uj0:Str->Option Bool:=λ x=>if x = "join" then some true else if x = "part" then some true else if x = "out" then some true else if x = "in" then some true else if x = "open" then some true else if x = "close" then some true else if x = "once" then some true else if x = "twice" then some true else none
noncomputable def zr0 (spx_q28 spx_q32 spx_q30 spx_q33 spx_q31 spx_q21 spx_q23 spx_q24:XE3->Sp3):Str->Option (XE3->Sp3):=λ x=>if x = "join" then some spx_q28 else if x = "part" then some spx_q32 else if x = "out" then some spx_q30 else if x = "in" then some spx_q33 else if x = "open" then some spx_q31 else if x = "close" then some spx_q21 else if x = "once" then some spx_q23 else if x = "twice" then some spx_q24 else none
noncomputable def vi0:Str->Option Int:=λ x=>if x = "join" then some 2 else if x = "part" then some 1 else if x = "out" then some 1 else if x = "in" then some 0 else if x = "open" then some 1 else if x = "once" then some 3 else if x = "twice" then some 1 else none
noncomputable def vh2:List Str:=["word"]
noncomputable def ym2 (XE:XE3) (spx_q19:XE3->Sp3):TS3 :=
 (yl0 (zb0 (spx_q19 XE) (za0 (v3 0) (za0 (c3 (.int 0)) nil3))))
noncomputable def wh2:List Str:=["word", "depth", "count", "deed"]
noncomputable def xm2 (XE:XE3) (spx_q20:XE3->Sp3):TS3 :=
 (seq3 (ifs3 (not3 (b3 (zb0 isiR (za0 (v3 0) (za0 (c3 (.ty "tuple")) nil3))))) (tf0 XE "NoWord" (za0 (c3 (.str "a word is a tuple of deeds")) nil3)) tc0) (seq3 (ifs3 (b3 (o3 gtR (v3 1) (c3 wr0))) (tf0 XE "NoWord" (za0 (c3 (.str "times stand too deep within one another")) nil3)) tc0) (seq3 (set3 2 (c3 (.int 0))) (seq3 (for3 (is3 (v3 0)) (gn3 3) (seq3 (set3 2 (o3 addR (v3 2) (zb0 (spx_q20 XE) (za0 (v3 3) (za0 (v3 1) nil3))))) (ifs3 (b3 (o3 gtR (v3 2) (c3 wp0))) (tf0 XE "NoWord" (za0 (c3 (.str "a word has too many deeds")) nil3)) tc0))) (ret3 (v3 2))))))
noncomputable def tq1:List Str:=["deed", "depth"]
noncomputable def tr1 (XE:XE3) (spx_q17:XE3->Sp3) (spx_q19:XE3->Sp3):TS3 :=
 (seq3 (ifs3 (not3 (b3 (zb0 isiR (za0 (v3 0) (za0 (c3 (.ty "tuple")) nil3))))) (tf0 XE "NoWord" (za0 (c3 (.str "a deed is a tuple")) nil3)) tc0) (seq3 (ifs3 (and3 (b3 (o3 eqR (zb0 lenR (za0 (v3 0) nil3)) (c3 (.int 2)))) (b3 (o3 (inR false) (o3 ixR (v3 0) (c3 (.int 0))) (c3 wn0)))) (seq3 (yl0 (zb0 (spx_q17 XE) (za0 (o3 ixR (v3 0) (c3 (.int 0))) (za0 (o3 ixR (v3 0) (c3 (.int 1))) nil3)))) (ret3 (c3 (.int 1)))) tc0) (seq3 (ifs3 (and3 (b3 (o3 eqR (zb0 lenR (za0 (v3 0) nil3)) (c3 (.int 3)))) (b3 (o3 eqR (o3 ixR (v3 0) (c3 (.int 0))) (c3 (.str "times"))))) (seq3 (yl0 (zb0 (spx_q17 XE) (za0 (o3 ixR (v3 0) (c3 (.int 0))) (za0 (o3 ixR (v3 0) (c3 (.int 1))) nil3)))) (ret3 (o3 addR (c3 (.int 1)) (zb0 (spx_q19 XE) (za0 (o3 ixR (v3 0) (c3 (.int 2))) (za0 (o3 addR (v3 1) (c3 (.int 1))) nil3)))))) tc0) (tf0 XE "NoWord" (za0 (c3 (.str "there is no such deed")) nil3)))))
noncomputable def uh2:List Str:=["kind", "number"]
noncomputable def zm2 (XE:XE3):TS3 :=
 (seq3 (ifs3 (not3 (b3 (zb0 isiR (za0 (v3 1) (za0 (c3 (.ty "int")) nil3))))) (tf0 XE "NoWord" (za0 (c3 (.str "a deed has a whole number")) nil3)) tc0) (seq3 (ifs3 (b3 (o3 gtR (zb0 absR (za0 (v3 1) nil3)) (c3 yi0))) (tf0 XE "NoWord" (za0 (c3 (.str "a number has too many figures")) nil3)) tc0) (ifs3 (and3 (b3 (o3 ltR (v3 1) (c3 (.int 0)))) (b3 (o3 (inR false) (v3 0) (c3 we0)))) (tf0 XE "NoWord" (za0 (c3 (.str "this deed has a number from nought on")) nil3)) tc0)))
noncomputable def yv2:List Str:=["word", "steps", "here", "step"]
noncomputable def sx2 (XE:XE3) (spx_q18:XE3->Sp3) (spx_q35:XE3->Sp3):TS3 :=
 (seq3 (yl0 (zb0 (spx_q18 XE) (za0 (v3 0) nil3))) (seq3 (set3 2 (v3 0)) (seq3 (for3 (is3 (v3 1)) (gn3 3) (set3 2 (zb0 (spx_q35 XE) (za0 (v3 2) (za0 (v3 3) nil3))))) (ret3 (v3 2)))))
noncomputable def yw2:List Str:=["one", "other", "steps"]
noncomputable def sy2 (XE:XE3) (spx_q18:XE3->Sp3) (spx_q34:XE3->Sp3):TS3 :=
 (seq3 (yl0 (zb0 (spx_q18 XE) (za0 (v3 0) nil3))) (seq3 (yl0 (zb0 (spx_q18 XE) (za0 (v3 1) nil3))) (si1 spx_q34 ze0 (za0 (v3 0) (za0 (v3 2) nil3)) (v3 1) (ret3 (c3 (.bl false))))))
noncomputable def xv2:List Str:=["word", "step", "there"]
noncomputable def tx2 (XE:XE3) (spx_q16:XE3->Sp3) (spx_q18:XE3->Sp3):TS3 :=
 (seq3 (ifs3 (b3 (o3 neR (zb0 lenR (za0 (v3 1) nil3)) (if3 (b3 (o3 (inR false) (o3 ixR (v3 1) (c3 (.int 0))) (c3 yf0))) (c3 (.int 4)) (c3 (.int 3))))) (tf0 XE "NoStep" (za0 (c3 (.str "a step has its kind, a way, a place, and what the kind needs")) nil3)) tc0) (seq3 (set3 2 (zb0 (spx_q16 XE) (za0 (v3 0) (za0 (o3 ixR (v3 1) (c3 (.int 1))) (za0 (v3 1) nil3))))) (seq3 (ux2 XE spx_q18 "NoRoom" (za0 (v3 2) nil3) (za0 (c3 (.str "what comes is no word")) nil3)) (ret3 (v3 2)))))
noncomputable def sw2:List Str:=["word", "way", "step", "deed", "inside"]
noncomputable def uz2 (XE:XE3) (spx_q15:XE3->Sp3) (spx_q16:XE3->Sp3) (spx_q22:XE3->Sp3) (sp_q25:Sp3):TS3 :=
 (seq3 (ifs3 (b3 (o3 eqR (zb0 lenR (za0 (v3 1) nil3)) (c3 (.int 0)))) (ret3 (zb0 (spx_q15 XE) (za0 (v3 0) (za0 (v3 2) nil3)))) tc0) (seq3 (set3 3 (o3 ixR (zb0 (spx_q22 XE) (za0 (v3 0) (za0 (o3 ixR (v3 1) (c3 (.int 0))) (za0 (c3 (.int 1)) nil3)))) (c3 (.int 0)))) (seq3 (ifs3 (b3 (o3 neR (o3 ixR (v3 3) (c3 (.int 0))) (c3 (.str "times")))) (tf0 XE "NoStep" (za0 (c3 (.str "there is no such way")) nil3)) tc0) (seq3 (set3 4 (zb0 (spx_q16 XE) (za0 (o3 ixR (v3 3) (c3 (.int 2))) (za0 (sl3 slR (v3 1) (pt3 (c3 (.int 1))) np3) (za0 (v3 2) nil3))))) (ret3 (zb0 sp_q25 (za0 (v3 0) (za0 (o3 ixR (v3 1) (c3 (.int 0))) (za0 (c3 (.int 1)) (za0 (tup3 (za0 (tup3 (za0 (c3 (.str "times")) (za0 (o3 ixR (v3 3) (c3 (.int 1))) (za0 (v3 4) nil3)))) nil3)) nil3))))))))))
noncomputable def uw2:List Str:=["word", "place", "number"]
noncomputable def wz2 (XE:XE3):TS3 :=
 (seq3 (ifs3 (or3 (b3 (o3 ltR (v3 1) (c3 (.int 0)))) (or3 (b3 (o3 ltR (v3 2) (c3 (.int 0)))) (b3 (o3 gtR (o3 addR (v3 1) (v3 2)) (zb0 lenR (za0 (v3 0) nil3)))))) (tf0 XE "NoStep" (za0 (c3 (.str "there is no such place")) nil3)) tc0) (ret3 (sl3 slR (v3 0) (pt3 (v3 1)) (pt3 (o3 addR (v3 1) (v3 2))))))
noncomputable def zw2:List Str:=["word", "place", "number", "deeds"]
noncomputable def xz2:TS3 :=
 (ret3 (o3 addR (o3 addR (sl3 slR (v3 0) np3 (pt3 (v3 1))) (v3 3)) (sl3 slR (v3 0) (pt3 (o3 addR (v3 1) (v3 2))) np3)))
noncomputable def sv2:List Str:=["deeds", "need", "first", "second"]
noncomputable def wo0 (XE:XE3):TS3 :=
 (ret3 (tup3 (za0 (o3 addR (tup3 (za0 (o3 ixR (v3 2) (c3 (.int 0))) (za0 (o3 addR (o3 ixR (v3 2) (c3 (.int 1))) (o3 ixR (v3 3) (c3 (.int 1)))) nil3))) (sl3 slR (v3 2) (pt3 (c3 (.int 2))) np3)) nil3)))
noncomputable def xk0 (XE:XE3):TS3 :=
 (seq3 (ifs3 (or3 (b3 (o3 neR (o3 ixR (v3 2) (c3 (.int 0))) (o3 ixR (v3 3) (c3 (.int 0))))) (b3 (o3 neR (sl3 slR (v3 2) (pt3 (c3 (.int 2))) np3) (sl3 slR (v3 3) (pt3 (c3 (.int 2))) np3)))) (tf0 XE "NoStep" (za0 (c3 (.str "the deeds are unlike")) nil3)) tc0) (wo0 XE))
noncomputable def xv0 (XE:XE3):TS3 :=
 (seq3 (set3 3 (o3 ixR (v3 0) (c3 (.int 1)))) (xk0 XE))
noncomputable def uy2 (XE:XE3):TS3 :=
 (seq3 (set3 2 (o3 ixR (v3 0) (c3 (.int 0)))) (xv0 XE))
noncomputable def wv2:List Str:=["deeds", "number", "deed", "rest"]
noncomputable def yy2 (XE:XE3):TS3 :=
 (seq3 (set3 2 (o3 ixR (v3 0) (c3 (.int 0)))) (seq3 (set3 3 (o3 subR (o3 ixR (v3 2) (c3 (.int 1))) (v3 1))) (seq3 (ifs3 (and3 (b3 (o3 (inR false) (o3 ixR (v3 2) (c3 (.int 0))) (c3 we0))) (or3 (b3 (o3 ltR (v3 1) (c3 (.int 0)))) (b3 (o3 ltR (v3 3) (c3 (.int 0)))))) (tf0 XE "NoStep" (za0 (c3 (.str "the deed can't be parted so")) nil3)) tc0) (ret3 (tup3 (za0 (o3 addR (tup3 (za0 (o3 ixR (v3 2) (c3 (.int 0))) (za0 (v3 1) nil3))) (sl3 slR (v3 2) (pt3 (c3 (.int 2))) np3)) (za0 (o3 addR (tup3 (za0 (o3 ixR (v3 2) (c3 (.int 0))) (za0 (v3 3) nil3))) (sl3 slR (v3 2) (pt3 (c3 (.int 2))) np3)) nil3)))))))
noncomputable def uv2:List Str:=["deeds", "need"]
noncomputable def wy2 (XE:XE3) (sp_q27:Sp3):TS3 :=
 (seq3 (ifs3 (not3 (b3 (zb0 sp_q27 (za0 (o3 ixR (v3 0) (c3 (.int 0))) nil3)))) (tf0 XE "NoStep" (za0 (c3 (.str "the deed isn't idle")) nil3)) tc0) (ret3 (tup3 nil3)))
noncomputable def zv2:List Str:=["deeds", "deed"]
noncomputable def xy2 (XE:XE3) (sp_q27:Sp3):TS3 :=
 (seq3 (ifs3 (not3 (b3 (zb0 sp_q27 (za0 (v3 1) nil3)))) (tf0 XE "NoStep" (za0 (c3 (.str "the deed isn't idle")) nil3)) tc0) (ret3 (tup3 (za0 (v3 1) nil3))))
noncomputable def xw2:List Str:=["deed"]
noncomputable def ty2:TS3 :=
 (seq3 (ifs3 (and3 (b3 (o3 eqR (zb0 lenR (za0 (v3 0) nil3)) (c3 (.int 3)))) (b3 (o3 eqR (o3 ixR (v3 0) (c3 (.int 0))) (c3 (.str "times"))))) (ret3 (orV3 (o3 eqR (o3 ixR (v3 0) (c3 (.int 1))) (c3 (.int 0))) (o3 eqR (o3 ixR (v3 0) (c3 (.int 2))) (tup3 nil3)))) tc0) (seq3 (ifs3 (b3 (o3 neR (zb0 lenR (za0 (v3 0) nil3)) (c3 (.int 2)))) (ret3 (c3 (.bl false))) tc0) (seq3 (ifs3 (b3 (o3 eqR (o3 ixR (v3 0) (c3 (.int 0))) (c3 (.str "turn")))) (ret3 (o3 eqR (o3 modR (o3 ixR (v3 0) (c3 (.int 1))) (c3 (.int 4))) (c3 (.int 0)))) tc0) (ret3 (vq1 (o3 (inR false) (o3 ixR (v3 0) (c3 (.int 0))) (tup3 (za0 (c3 (.str "go")) (za0 (c3 (.str "jump")) nil3)))) (o3 eqR (o3 ixR (v3 0) (c3 (.int 1))) (c3 (.int 0))))))))
noncomputable def vv2:List Str:=["deeds", "need"]
noncomputable def zy2 (XE:XE3):TS3 :=
 (seq3 (ifs3 (or3 (b3 (o3 neR (o3 ixR (o3 ixR (v3 0) (c3 (.int 0))) (c3 (.int 0))) (c3 (.str "times")))) (b3 (o3 neR (o3 ixR (o3 ixR (v3 0) (c3 (.int 0))) (c3 (.int 1))) (c3 (.int 1))))) (tf0 XE "NoStep" (za0 (c3 (.str "the deed isn't a times of once")) nil3)) tc0) (ret3 (o3 ixR (o3 ixR (v3 0) (c3 (.int 0))) (c3 (.int 2)))))
noncomputable def tw2:List Str:=["deeds", "number"]
noncomputable def vz2 (XE:XE3):TS3 :=
 (ret3 (tup3 (za0 (tup3 (za0 (c3 (.str "times")) (za0 (c3 (.int 1)) (za0 (v3 0) nil3)))) nil3)))
noncomputable def vw2:List Str:=["deeds", "need"]
noncomputable def zz2 (XE:XE3) (spx_q24:XE3->Sp3):TS3 :=
 (seq3 (ifs3 (b3 (o3 neR (v3 0) (zb0 (spx_q24 XE) (za0 (sl3 slR (v3 0) np3 (pt3 (c3 (.int 1)))) (za0 (v3 1) nil3))))) (tf0 XE "NoStep" (za0 (c3 (.str "the deeds don't draw the same twice")) nil3)) tc0) (ret3 (sl3 slR (v3 0) np3 (pt3 (c3 (.int 1))))))
noncomputable def ww2:List Str:=["deeds", "need", "deed"]
noncomputable def yz2 (XE:XE3):TS3 :=
 (seq3 (set3 2 (o3 ixR (v3 0) (c3 (.int 0)))) (seq3 (ifs3 (b3 (o3 neR (o3 ixR (v3 2) (c3 (.int 0))) (c3 (.str "go")))) (tf0 XE "NoStep" (za0 (c3 (.str "the deed is no go")) nil3)) tc0) (ret3 (tup3 (za0 (v3 2) (za0 (tup3 (za0 (c3 (.str "jump")) (za0 (un3 negR (o3 ixR (v3 2) (c3 (.int 1)))) nil3))) (za0 (v3 2) nil3)))))))
noncomputable def xx2:List Str:=["word", "step", "need", "number", "deeds"]
noncomputable def tz2 (XE:XE3) (spx_q21:XE3->Sp3) (spx_q22:XE3->Sp3) (spx_q23:XE3->Sp3) (spx_q24:XE3->Sp3) (sp_q25:Sp3) (spx_q28:XE3->Sp3) (spx_q30:XE3->Sp3) (spx_q31:XE3->Sp3) (spx_q32:XE3->Sp3) (spx_q33:XE3->Sp3):TS3 :=
 (seq3 (ifs3 (b3 (mdn3 true uj0 (o3 ixR (v3 1) (c3 (.int 0))))) (tf0 XE "NoStep" (za0 (c3 (.str "there is no such kind of step")) nil3)) tc0) (seq3 (set3 2 (if3 (b3 (o3 (inR false) (o3 ixR (v3 1) (c3 (.int 0))) (c3 yf0))) (o3 ixR (v3 1) (c3 (.int 3))) (c3 .non))) (seq3 (set3 3 (if3 (b3 (o3 eqR (o3 ixR (v3 1) (c3 (.int 0))) (c3 (.str "close")))) (v3 2) (mdg3 vi0 (o3 ixR (v3 1) (c3 (.int 0)))))) (seq3 (set3 4 (zb0 (spx_q22 XE) (za0 (v3 0) (za0 (o3 ixR (v3 1) (c3 (.int 2))) (za0 (v3 3) nil3))))) (ret3 (zb0 sp_q25 (za0 (v3 0) (za0 (o3 ixR (v3 1) (c3 (.int 2))) (za0 (v3 3) (za0 (zq3 XE (zr0 spx_q28 spx_q32 spx_q30 spx_q33 spx_q31 spx_q21 spx_q23 spx_q24) (o3 ixR (v3 1) (c3 (.int 0))) (za0 (v3 4) (za0 (v3 2) nil3))) nil3))))))))))
noncomputable def N_q9:List Str:=["script", "k", "cell"]
noncomputable def t_q9:TS3 :=
 (seq3 (set3 2 (c3 (.int 0))) (seq3 (ifs3 (b3 (o3 ltR (v3 1) (zb0 lenR (za0 (v3 0) nil3)))) (set3 2 (o3 ixR (v3 0) (v3 1))) tc0) (seq3 (ifs3 (b3 (o3 geR (v3 2) (o3 powR (c3 (.int 10)) (c3 (.int 18))))) (ret3 (lst3 (za0 (o3 subR (v3 2) (o3 powR (c3 (.int 10)) (c3 (.int 18)))) (za0 (c3 (.int 1)) nil3)))) tc0) (ret3 (lst3 (za0 (o3 modR (o3 addR (v3 2) (o3 mulR (c3 (.int 7919)) (v3 1))) (c3 (.int 2147483647))) (za0 (c3 (.int 0)) nil3)))))))
noncomputable def xi2:List Str:=["state", "many", "found", "mixed"]
noncomputable def um2:TS3 :=
 (seq3 (ifs3 (and3 (b3 (o3 eqR (o3 ixR (v3 0) (c3 (.int 1))) (c3 (.int 1)))) (b3 (o3 gtR (o3 ixR (v3 0) (c3 (.int 0))) (c3 (.int 0))))) (seq3 (set3 2 (o3 modR (o3 ixR (v3 0) (c3 (.int 0))) (v3 1))) (seq3 (asg3 (o3 tf2 (o3 ixR (v3 0) (c3 (.int 0))) (v3 1)) (sub3 (v3 0) (c3 (.int 0)))) (ret3 (v3 2)))) tc0) (seq3 (asg3 (c3 (.int 0)) (sub3 (v3 0) (c3 (.int 1)))) (seq3 (asg3 (o3 modR (o3 addR (o3 mulR (o3 ixR (v3 0) (c3 (.int 0))) (c3 (.int 48271))) (c3 (.int 69621))) (c3 (.int 2147483647))) (sub3 (v3 0) (c3 (.int 0)))) (seq3 (set3 3 (o3 modR (o3 addR (o3 mulR (o3 ixR (v3 0) (c3 (.int 0))) (o3 ixR (v3 0) (c3 (.int 0)))) (o3 mulR (c3 (.int 16807)) (o3 ixR (v3 0) (c3 (.int 0))))) (c3 (.int 2147483629)))) (seq3 (set3 3 (o3 modR (o3 addR (o3 mulR (v3 3) (v3 3)) (o3 mulR (c3 (.int 39373)) (v3 3))) (c3 (.int 2147483587)))) (ret3 (o3 modR (o3 tf2 (v3 3) (c3 (.int 8))) (v3 1))))))))
noncomputable def N_q2:List Str:=["state", "deep", "kind"]
noncomputable def t_q2 (sp_q3 sp_q11:Sp3):TS3 :=
 (seq3 (set3 2 (zb0 sp_q11 (za0 (v3 0) (za0 (o3 addR (c3 (.int 4)) (o3 mulR (c3 (.int 2)) (zb0 intR (za0 (o3 gtR (v3 1) (c3 (.int 0))) nil3)))) nil3)))) (seq3 (ifs3 (b3 (o3 eqR (v3 2) (c3 (.int 0)))) (ret3 (tup3 (za0 (c3 (.str "turn")) (za0 (o3 subR (zb0 sp_q11 (za0 (v3 0) (za0 (c3 (.int 9)) nil3))) (c3 (.int 4))) nil3)))) tc0) (seq3 (ifs3 (b3 (o3 eqR (v3 2) (c3 (.int 1)))) (ret3 (tup3 (za0 (c3 (.str "jump")) (za0 (o3 subR (zb0 sp_q11 (za0 (v3 0) (za0 (c3 (.int 5)) nil3))) (c3 (.int 2))) nil3)))) tc0) (seq3 (ifs3 (b3 (o3 ltR (v3 2) (c3 (.int 4)))) (ret3 (tup3 (za0 (c3 (.str "go")) (za0 (zb0 sp_q11 (za0 (v3 0) (za0 (c3 (.int 3)) nil3))) nil3)))) tc0) (ret3 (tup3 (za0 (c3 (.str "times")) (za0 (zb0 sp_q11 (za0 (v3 0) (za0 (c3 (.int 4)) nil3))) (za0 (zb0 sp_q3 (za0 (v3 0) (za0 (o3 subR (v3 1) (c3 (.int 1))) (za0 (zb0 sp_q11 (za0 (v3 0) (za0 (c3 (.int 3)) nil3))) nil3)))) nil3)))))))))
noncomputable def N_q3:List Str:=["state", "deep", "many", "found", "k"]
noncomputable def t_q3 (sp_q2 sp_q11:Sp3):TS3 :=
 (seq3 (set3 3 (lst3 nil3)) (seq3 (for3 (ir3 (za0 (v3 2) nil3)) (gn3 4) (ifs3 (and3 (b3 (o3 neR (v3 3) (lst3 nil3))) (b3 (o3 eqR (zb0 sp_q11 (za0 (v3 0) (za0 (c3 (.int 4)) nil3))) (c3 (.int 0))))) (yl0 (mt3 appR (v3 3) (za0 (o3 ixR (v3 3) (un3 negR (c3 (.int 1)))) nil3))) (ifs3 (and3 (b3 (o3 neR (v3 3) (lst3 nil3))) (and3 (b3 (o3 eqR (o3 ixR (o3 ixR (v3 3) (un3 negR (c3 (.int 1)))) (c3 (.int 0))) (c3 (.str "go")))) (b3 (o3 eqR (zb0 sp_q11 (za0 (v3 0) (za0 (c3 (.int 3)) nil3))) (c3 (.int 0)))))) (set3 3 (o3 addR (v3 3) (lst3 (za0 (tup3 (za0 (c3 (.str "jump")) (za0 (o3 subR (c3 (.int 0)) (o3 ixR (o3 ixR (v3 3) (un3 negR (c3 (.int 1)))) (c3 (.int 1)))) nil3))) (za0 (o3 ixR (v3 3) (un3 negR (c3 (.int 1)))) nil3))))) (yl0 (mt3 appR (v3 3) (za0 (zb0 sp_q2 (za0 (v3 0) (za0 (v3 1) nil3))) nil3)))))) (ret3 (zb0 tupR (za0 (v3 3) nil3)))))
noncomputable def N_q6:List Str:=["deed"]
noncomputable def t_q6:TS3 :=
 (seq3 (ifs3 (b3 (o3 eqR (o3 ixR (v3 0) (c3 (.int 0))) (c3 (.str "turn")))) (ret3 (o3 eqR (o3 modR (o3 ixR (v3 0) (c3 (.int 1))) (c3 (.int 4))) (c3 (.int 0)))) tc0) (ret3 (orV3 (o3 eqR (o3 ixR (v3 0) (c3 (.int 1))) (c3 (.int 0))) (vq1 (o3 eqR (o3 ixR (v3 0) (c3 (.int 0))) (c3 (.str "times"))) (o3 eqR (o3 ixR (v3 0) (c3 (.int 2))) (tup3 nil3))))))
noncomputable def N_q1:List Str:=["deeds", "at", "step", "rest", "kind", "first", "good"]
noncomputable def sl0 (sp_q6:Sp3):TS3 :=
 (ret3 (tup3 (za0 (c3 (.int 2)) (za0 (tup3 (za0 (o3 addR (tup3 (za0 (o3 ixR (v3 5) (c3 (.int 0))) (za0 (o3 addR (o3 ixR (v3 5) (c3 (.int 1))) (o3 ixR (o3 ixR (v3 3) (c3 (.int 1))) (c3 (.int 1)))) nil3))) (sl3 slR (v3 5) (pt3 (c3 (.int 2))) np3)) nil3)) nil3))))
noncomputable def xm0 (sp_q6:Sp3):TS3 :=
 (seq3 (ifs3 (or3 (b3 (o3 ltR (zb0 lenR (za0 (v3 3) nil3)) (c3 (.int 2)))) (or3 (b3 (o3 neR (o3 ixR (o3 ixR (v3 3) (c3 (.int 1))) (c3 (.int 0))) (o3 ixR (v3 5) (c3 (.int 0))))) (b3 (o3 neR (sl3 slR (o3 ixR (v3 3) (c3 (.int 1))) (pt3 (c3 (.int 2))) np3) (sl3 slR (v3 5) (pt3 (c3 (.int 2))) np3))))) (ret3 (c3 .non)) tc0) (sl0 sp_q6))
noncomputable def ys0 (sp_q6:Sp3):TS3 :=
 (seq3 (ifs3 (b3 (o3 eqR (v3 4) (c3 (.str "once")))) (seq3 (set3 6 (vq1 (o3 eqR (o3 ixR (v3 5) (c3 (.int 0))) (c3 (.str "go"))) (o3 eqR (sl3 slR (v3 3) (pt3 (c3 (.int 1))) (pt3 (c3 (.int 3)))) (tup3 (za0 (tup3 (za0 (c3 (.str "jump")) (za0 (o3 subR (c3 (.int 0)) (o3 ixR (v3 5) (c3 (.int 1)))) nil3))) (za0 (v3 5) nil3)))))) (ret3 (if3 (b3 (v3 6)) (tup3 (za0 (c3 (.int 3)) (za0 (tup3 (za0 (v3 5) nil3)) nil3))) (c3 .non)))) tc0) (xm0 sp_q6))
noncomputable def yt0 (sp_q6:Sp3):TS3 :=
 (seq3 (ifs3 (b3 (o3 eqR (v3 4) (c3 (.str "part")))) (seq3 (ifs3 (and3 (b3 (o3 (inR false) (o3 ixR (v3 5) (c3 (.int 0))) (lst3 (za0 (c3 (.str "go")) (za0 (c3 (.str "times")) nil3))))) (not3 (b3 (ch3 leR leR (c3 (.int 0)) (o3 ixR (v3 2) (c3 (.int 3))) (o3 ixR (v3 5) (c3 (.int 1))))))) (ret3 (c3 .non)) tc0) (ret3 (tup3 (za0 (c3 (.int 1)) (za0 (tup3 (za0 (o3 addR (tup3 (za0 (o3 ixR (v3 5) (c3 (.int 0))) (za0 (o3 ixR (v3 2) (c3 (.int 3))) nil3))) (sl3 slR (v3 5) (pt3 (c3 (.int 2))) np3)) (za0 (o3 addR (tup3 (za0 (o3 ixR (v3 5) (c3 (.int 0))) (za0 (o3 subR (o3 ixR (v3 5) (c3 (.int 1))) (o3 ixR (v3 2) (c3 (.int 3)))) nil3))) (sl3 slR (v3 5) (pt3 (c3 (.int 2))) np3)) nil3))) nil3))))) tc0) (ys0 sp_q6))
noncomputable def zt0 (sp_q6:Sp3):TS3 :=
 (seq3 (ifs3 (b3 (o3 eqR (v3 4) (c3 (.str "twice")))) (ret3 (if3 (b3 (o3 eqR (o3 ixR (v3 5) (c3 (.int 0))) (c3 (.str "go")))) (tup3 (za0 (c3 (.int 1)) (za0 (tup3 (za0 (v3 5) (za0 (tup3 (za0 (c3 (.str "jump")) (za0 (o3 subR (c3 (.int 0)) (o3 ixR (v3 5) (c3 (.int 1)))) nil3))) (za0 (v3 5) nil3)))) nil3))) (c3 .non))) tc0) (yt0 sp_q6))
noncomputable def wt0 (sp_q6:Sp3):TS3 :=
 (seq3 (ifs3 (b3 (o3 eqR (v3 4) (c3 (.str "open")))) (ret3 (if3 (b3 (o3 eqR (sl3 slR (v3 5) np3 (pt3 (c3 (.int 2)))) (tup3 (za0 (c3 (.str "times")) (za0 (c3 (.int 1)) nil3))))) (tup3 (za0 (c3 (.int 1)) (za0 (o3 ixR (v3 5) (c3 (.int 2))) nil3))) (c3 .non))) tc0) (zt0 sp_q6))
noncomputable def ti0 (sp_q6:Sp3):TS3 :=
 (seq3 (ifs3 (b3 (o3 eqR (v3 4) (c3 (.str "out")))) (ret3 (if3 (b3 (zb0 sp_q6 (za0 (v3 5) nil3))) (tup3 (za0 (c3 (.int 1)) (za0 (tup3 nil3) nil3))) (c3 .non))) tc0) (wt0 sp_q6))
noncomputable def vt0 (sp_q6:Sp3):TS3 :=
 (seq3 (set3 5 (o3 ixR (v3 3) (c3 (.int 0)))) (ti0 sp_q6))
noncomputable def xo0 (sp_q6:Sp3):TS3 :=
 (seq3 (ifs3 (b3 (o3 eqR (v3 3) (tup3 nil3))) (ret3 (c3 .non)) tc0) (vt0 sp_q6))
noncomputable def ut0 (sp_q6:Sp3):TS3 :=
 (seq3 (ifs3 (b3 (o3 eqR (v3 4) (c3 (.str "close")))) (seq3 (ifs3 (or3 (b3 (o3 ltR (o3 ixR (v3 2) (c3 (.int 3))) (c3 (.int 0)))) (b3 (o3 gtR (o3 ixR (v3 2) (c3 (.int 3))) (zb0 lenR (za0 (v3 3) nil3))))) (ret3 (c3 .non)) tc0) (ret3 (tup3 (za0 (o3 ixR (v3 2) (c3 (.int 3))) (za0 (tup3 (za0 (tup3 (za0 (c3 (.str "times")) (za0 (c3 (.int 1)) (za0 (sl3 slR (v3 3) np3 (pt3 (o3 ixR (v3 2) (c3 (.int 3))))) nil3)))) nil3)) nil3))))) tc0) (xo0 sp_q6))
noncomputable def si0 (sp_q6:Sp3):TS3 :=
 (seq3 (ifs3 (b3 (o3 eqR (v3 4) (c3 (.str "in")))) (ret3 (if3 (b3 (zb0 sp_q6 (za0 (o3 ixR (v3 2) (c3 (.int 3))) nil3))) (tup3 (za0 (c3 (.int 0)) (za0 (tup3 (za0 (o3 ixR (v3 2) (c3 (.int 3))) nil3)) nil3))) (c3 .non))) tc0) (ut0 sp_q6))
noncomputable def yo0 (sp_q6:Sp3):TS3 :=
 (seq3 (set3 4 (o3 ixR (v3 2) (c3 (.int 0)))) (si0 sp_q6))
noncomputable def t_q1 (sp_q6:Sp3):TS3 :=
 (seq3 (set3 3 (sl3 slR (v3 0) (pt3 (v3 1)) np3)) (yo0 sp_q6))
noncomputable def N_q0:List Str:=["deeds", "step", "at", "inner", "change"]
noncomputable def t_q0 (sp_q0 sp_q1:Sp3):TS3 :=
 (seq3 (ifs3 (b3 (o3 neR (o3 ixR (v3 1) (c3 (.int 1))) (tup3 nil3))) (seq3 (set3 2 (o3 ixR (o3 ixR (v3 1) (c3 (.int 1))) (c3 (.int 0)))) (seq3 (ifs3 (or3 (not3 (b3 (ch3 leR ltR (c3 (.int 0)) (v3 2) (zb0 lenR (za0 (v3 0) nil3))))) (b3 (o3 neR (o3 ixR (o3 ixR (v3 0) (v3 2)) (c3 (.int 0))) (c3 (.str "times"))))) (ret3 (c3 .non)) tc0) (seq3 (set3 3 (zb0 sp_q0 (za0 (o3 ixR (o3 ixR (v3 0) (v3 2)) (c3 (.int 2))) (za0 (o3 addR (tup3 (za0 (o3 ixR (v3 1) (c3 (.int 0))) (za0 (sl3 slR (o3 ixR (v3 1) (c3 (.int 1))) (pt3 (c3 (.int 1))) np3) nil3))) (sl3 slR (v3 1) (pt3 (c3 (.int 2))) np3)) nil3)))) (seq3 (ifs3 (b3 (o3 (isNR false) (v3 3) (c3 .non))) (ret3 (c3 .non)) tc0) (ret3 (o3 addR (o3 addR (sl3 slR (v3 0) np3 (pt3 (v3 2))) (tup3 (za0 (tup3 (za0 (c3 (.str "times")) (za0 (o3 ixR (o3 ixR (v3 0) (v3 2)) (c3 (.int 1))) (za0 (v3 3) nil3)))) nil3))) (sl3 slR (v3 0) (pt3 (o3 addR (v3 2) (c3 (.int 1)))) np3))))))) tc0) (seq3 (set3 2 (o3 ixR (v3 1) (c3 (.int 2)))) (seq3 (ifs3 (not3 (b3 (ch3 leR leR (c3 (.int 0)) (v3 2) (zb0 lenR (za0 (v3 0) nil3))))) (ret3 (c3 .non)) tc0) (seq3 (set3 4 (zb0 sp_q1 (za0 (v3 0) (za0 (v3 2) (za0 (v3 1) nil3))))) (seq3 (ifs3 (b3 (o3 (isNR false) (v3 4) (c3 .non))) (ret3 (c3 .non)) tc0) (ret3 (o3 addR (o3 addR (sl3 slR (v3 0) np3 (pt3 (v3 2))) (o3 ixR (v3 4) (c3 (.int 1)))) (sl3 slR (v3 0) (pt3 (o3 addR (v3 2) (o3 ixR (v3 4) (c3 (.int 0))))) np3))))))))
noncomputable def N_q8:List Str:=["deeds", "found", "deed", "inner"]
noncomputable def t_q8 (sp_q8:Sp3):TS3 :=
 (seq3 (set3 1 (lst3 (za0 (c3 (.int 1)) (za0 (c3 (.int 0)) nil3)))) (seq3 (for3 (is3 (v3 0)) (gn3 2) (seq3 (set3 3 (lst3 (za0 (c3 (.int 0)) (za0 (c3 (.int 0)) nil3)))) (seq3 (ifs3 (b3 (o3 eqR (o3 ixR (v3 2) (c3 (.int 0))) (c3 (.str "times")))) (seq3 (set3 3 (zb0 sp_q8 (za0 (o3 ixR (v3 2) (c3 (.int 2))) nil3))) (set3 3 (lst3 (za0 (o3 subR (o3 ixR (v3 3) (c3 (.int 0))) (c3 (.int 1))) (za0 (o3 addR (o3 ixR (v3 3) (c3 (.int 1))) (c3 (.int 1))) nil3))))) tc0) (set3 1 (lst3 (za0 (o3 addR (o3 addR (o3 ixR (v3 1) (c3 (.int 0))) (c3 (.int 1))) (o3 ixR (v3 3) (c3 (.int 0)))) (za0 (zb0 mxR (za0 (o3 ixR (v3 1) (c3 (.int 1))) (za0 (o3 ixR (v3 3) (c3 (.int 1))) nil3))) nil3))))))) (ret3 (v3 1))))
noncomputable def N_q5:List Str:=["deeds", "count", "deep", "deed"]
noncomputable def t_q5 (sp_q5 sp_q8:Sp3):TS3 :=
 (seq3 (asg3 (zb0 sp_q8 (za0 (v3 0) nil3)) (vf2 2 (sr0 (gn3 1) (sr0 (gn3 2) yq1)))) (seq3 (for3 (is3 (v3 0)) (gn3 3) (ifs3 (or3 (b3 (o3 geR (zb0 absR (za0 (o3 ixR (v3 3) (c3 (.int 1))) nil3)) (o3 powR (c3 (.int 10)) (c3 (.int 20))))) (and3 (b3 (o3 eqR (o3 ixR (v3 3) (c3 (.int 0))) (c3 (.str "times")))) (not3 (b3 (zb0 sp_q5 (za0 (o3 ixR (v3 3) (c3 (.int 2))) nil3)))))) (ret3 (c3 (.bl false))) tc0)) (ret3 (vq1 (o3 leR (v3 1) (c3 (.int 31))) (o3 leR (v3 2) (c3 (.int 4)))))))
noncomputable def sh2:List Str:=["state", "deeds", "some", "at", "way", "inner"]
noncomputable def vm2 (sp_q11 sp_q13:Sp3):TS3 :=
 (seq3 (set3 2 (tx1 [none,some 1] (ir3 (za0 (zb0 lenR (za0 (v3 1) nil3)) nil3)) (gn3 0) (b3 (o3 eqR (o3 ixR (o3 ixR (v3 1) (v3 0)) (c3 (.int 0))) (c3 (.str "times")))) (v3 0))) (seq3 (ifs3 (or3 (b3 (o3 eqR (v3 2) (lst3 nil3))) (b3 (o3 eqR (zb0 sp_q11 (za0 (v3 0) (za0 (c3 (.int 2)) nil3))) (c3 (.int 0))))) (ret3 (tup3 (za0 (tup3 nil3) (za0 (v3 1) nil3)))) tc0) (seq3 (set3 3 (o3 ixR (v3 2) (zb0 sp_q11 (za0 (v3 0) (za0 (zb0 lenR (za0 (v3 2) nil3)) nil3))))) (seq3 (asg3 (zb0 sp_q13 (za0 (v3 0) (za0 (o3 ixR (o3 ixR (v3 1) (v3 3)) (c3 (.int 2))) nil3))) (zf2 2 (sr0 (gn3 4) (sr0 (gn3 5) yq1)))) (ret3 (tup3 (za0 (o3 addR (tup3 (za0 (v3 3) nil3)) (v3 4)) (za0 (v3 5) nil3))))))))
noncomputable def zx2:List Str:=["state", "deeds", "way", "inner", "kinds", "good", "kind", "at", "step"]
noncomputable def wq0 (sp_q0 sp_q7 sp_q11 sp_q13:Sp3):TS3 :=
 (ret3 (o3 ixR (v3 5) (zb0 sp_q11 (za0 (v3 0) (za0 (zb0 lenR (za0 (v3 5) nil3)) nil3)))))
noncomputable def vq0 (sp_q0 sp_q7 sp_q11 sp_q13:Sp3):TS3 :=
 (seq3 (for3 (is3 (v3 4)) (gn3 6) (for3 (ir3 (za0 (o3 addR (zb0 lenR (za0 (v3 3) nil3)) (c3 (.int 1))) nil3)) (gn3 7) (seq3 (set3 8 (tup3 (za0 (v3 6) (za0 (v3 2) (za0 (v3 7) nil3))))) (seq3 (ifs3 (b3 (o3 (inR false) (v3 6) (lst3 (za0 (c3 (.str "part")) (za0 (c3 (.str "close")) nil3))))) (set3 8 (o3 addR (v3 8) (tup3 (za0 (zb0 sp_q11 (za0 (v3 0) (za0 (c3 (.int 3)) nil3))) nil3)))) tc0) (seq3 (ifs3 (b3 (o3 eqR (v3 6) (c3 (.str "in")))) (set3 8 (o3 addR (v3 8) (tup3 (za0 (zb0 sp_q7 (za0 (v3 0) nil3)) nil3)))) tc0) (ifs3 (b3 (o3 (isNR true) (zb0 sp_q0 (za0 (v3 1) (za0 (v3 8) nil3))) (c3 .non))) (yl0 (mt3 appR (v3 5) (za0 (v3 8) nil3))) tc0)))))) (wq0 sp_q0 sp_q7 sp_q11 sp_q13))
noncomputable def yy0 (sp_q0 sp_q7 sp_q11 sp_q13:Sp3):TS3 :=
 (seq3 (set3 5 (lst3 nil3)) (vq0 sp_q0 sp_q7 sp_q11 sp_q13))
noncomputable def uq0 (sp_q0 sp_q7 sp_q11 sp_q13:Sp3):TS3 :=
 (seq3 (set3 4 (lst3 (za0 (c3 (.str "join")) (za0 (c3 (.str "part")) (za0 (c3 (.str "out")) (za0 (c3 (.str "in")) (za0 (c3 (.str "open")) (za0 (c3 (.str "close")) (za0 (c3 (.str "once")) (za0 (c3 (.str "twice")) nil3)))))))))) (yy0 sp_q0 sp_q7 sp_q11 sp_q13))
noncomputable def xa3 (sp_q0 sp_q7 sp_q11 sp_q13:Sp3):TS3 :=
 (seq3 (asg3 (zb0 sp_q13 (za0 (v3 0) (za0 (v3 1) nil3))) (zf2 2 (sr0 (gn3 2) (sr0 (gn3 3) yq1)))) (uq0 sp_q0 sp_q7 sp_q11 sp_q13))
noncomputable def N_q7:List Str:=["state", "some"]
noncomputable def t_q7 (sp_q11:Sp3):TS3 :=
 (seq3 (set3 1 (lst3 (za0 (tup3 (za0 (c3 (.str "go")) (za0 (c3 (.int 0)) nil3))) (za0 (tup3 (za0 (c3 (.str "jump")) (za0 (c3 (.int 0)) nil3))) (za0 (tup3 (za0 (c3 (.str "turn")) (za0 (o3 subR (o3 mulR (c3 (.int 4)) (zb0 sp_q11 (za0 (v3 0) (za0 (c3 (.int 3)) nil3)))) (c3 (.int 4))) nil3))) (za0 (tup3 (za0 (c3 (.str "times")) (za0 (c3 (.int 0)) (za0 (tup3 (za0 (tup3 (za0 (c3 (.str "go")) (za0 (c3 (.int 2)) nil3))) nil3)) nil3)))) nil3)))))) (ret3 (o3 ixR (o3 addR (v3 1) (lst3 (za0 (tup3 (za0 (c3 (.str "times")) (za0 (zb0 sp_q11 (za0 (v3 0) (za0 (c3 (.int 4)) nil3))) (za0 (tup3 nil3) nil3)))) nil3))) (zb0 sp_q11 (za0 (v3 0) (za0 (c3 (.int 5)) nil3))))))
noncomputable def th2:List Str:=["e", "flags"]
noncomputable def wm2:TS3 :=
 (seq3 (set3 1 (lst3 (za0 (isx3 (v3 0) (subX "NoWord")) (za0 (isx3 (v3 0) (subX "NoPicture")) (za0 (isx3 (v3 0) (subX "NoRoom")) (za0 (isx3 (v3 0) (subX "NoStep")) nil3)))))) (ret3 (o3 addR (v3 1) (lst3 (za0 (isx3 (v3 0) (subX "NoNumber")) (za0 (isx3 (v3 0) (subX "BadNote")) (za0 (isx3 (v3 0) (subX "ValueError")) nil3)))))))
noncomputable def yx2:List Str:=["deeds", "steps", "found", "e"]
noncomputable def sz2 (sp_q14:Sp3) (spx_q34:XE3->Sp3):TS3 :=
 (seq3 (set3 2 (lst3 nil3)) (seq3 (try3 3 spx_q34 (zb3 2) okX (za0 (v3 0) (za0 (v3 1) nil3)) (set3 2 (zb0 sp_q14 (za0 (v3 3) nil3)))) (ret3 (v3 2))))
noncomputable def N_q4:List Str:=["deeds", "steps", "step"]
noncomputable def t_q4 (sp_q0 sp_q5:Sp3):TS3 :=
 (seq3 (for3 (is3 (v3 1)) (gn3 2) (seq3 (set3 0 (zb0 sp_q0 (za0 (v3 0) (za0 (v3 2) nil3)))) (ifs3 (or3 (b3 (o3 (isNR false) (v3 0) (c3 .non))) (not3 (b3 (zb0 sp_q5 (za0 (v3 0) nil3))))) (ret3 (c3 .non)) tc0))) (ret3 (v3 0)))
noncomputable def tv2:List Str:=["script", "state", "deeds", "steps", "there", "k", "step", "handed", "at", "short", "full", "more", "deep", "bad"]
noncomputable def tu0 (sp_q0 sp_q3 sp_q4 sp_q5 sp_q9 sp_q10 sp_q11 sp_q12:Sp3) (spx_q26:XE3->Sp3) (spx_q34:XE3->Sp3):TS3 :=
 (ret3 (o3 eqR (zb0 sp_q12 (za0 (v3 2) (za0 (o3 addR (o3 addR (sl3 slR (v3 3) np3 (pt3 (v3 8))) (lst3 (za0 (v3 13) nil3))) (sl3 slR (v3 3) (pt3 (v3 8)) np3)) nil3))) (lst3 (za0 (c3 (.bl false)) (za0 (c3 (.bl false)) (za0 (c3 (.bl false)) (za0 (c3 (.bl true)) (za0 (c3 (.bl false)) (za0 (c3 (.bl false)) (za0 (c3 (.bl true)) nil3))))))))))
noncomputable def tc1 (sp_q0 sp_q3 sp_q4 sp_q5 sp_q9 sp_q10 sp_q11 sp_q12:Sp3) (spx_q26:XE3->Sp3) (spx_q34:XE3->Sp3):TS3 :=
 (seq3 (set3 13 (o3 ixR (lst3 (za0 (tup3 (za0 (c3 (.str "out")) (za0 (tup3 nil3) (za0 (c3 (.int 40)) nil3)))) (za0 (tup3 (za0 (c3 (.str "join")) (za0 (tup3 nil3) (za0 (un3 negR (c3 (.int 1))) nil3)))) (za0 (tup3 (za0 (c3 (.str "open")) (za0 (tup3 (za0 (c3 (.int 77)) nil3)) (za0 (c3 (.int 0)) nil3)))) (za0 (tup3 (za0 (c3 (.str "in")) (za0 (tup3 nil3) (za0 (c3 (.int 0)) (za0 (tup3 (za0 (c3 (.str "go")) (za0 (c3 (.int 1)) nil3))) nil3))))) nil3))))) (zb0 sp_q11 (za0 (v3 1) (za0 (c3 (.int 4)) nil3))))) (tu0 sp_q0 sp_q3 sp_q4 sp_q5 sp_q9 sp_q10 sp_q11 sp_q12 spx_q26 spx_q34))
noncomputable def sc1 (sp_q0 sp_q3 sp_q4 sp_q5 sp_q9 sp_q10 sp_q11 sp_q12:Sp3) (spx_q26:XE3->Sp3) (spx_q34:XE3->Sp3):TS3 :=
 (seq3 (ifs3 (or3 (b3 (o3 neR (zb0 sp_q12 (za0 (v3 12) (za0 (v3 11) nil3))) (lst3 (za0 (c3 (.bl false)) (za0 (c3 (.bl false)) (za0 (c3 (.bl true)) (za0 (c3 (.bl false)) (za0 (c3 (.bl false)) (za0 (c3 (.bl false)) (za0 (c3 (.bl true)) nil3)))))))))) (b3 (zb0 (spx_q26 NX) (za0 (v3 12) (za0 (v3 12) (za0 (v3 11) nil3)))))) (ret3 (c3 (.bl false))) tc0) (tc1 sp_q0 sp_q3 sp_q4 sp_q5 sp_q9 sp_q10 sp_q11 sp_q12 spx_q26 spx_q34))
noncomputable def sr1 (sp_q0 sp_q3 sp_q4 sp_q5 sp_q9 sp_q10 sp_q11 sp_q12:Sp3) (spx_q26:XE3->Sp3) (spx_q34:XE3->Sp3):TS3 :=
 (seq3 (set3 11 (lst3 (za0 (tup3 (za0 (c3 (.str "close")) (za0 (tup3 nil3) (za0 (c3 (.int 0)) (za0 (c3 (.int 1)) nil3))))) nil3))) (sc1 sp_q0 sp_q3 sp_q4 sp_q5 sp_q9 sp_q10 sp_q11 sp_q12 spx_q26 spx_q34))
noncomputable def xd1 (sp_q0 sp_q3 sp_q4 sp_q5 sp_q9 sp_q10 sp_q11 sp_q12:Sp3) (spx_q26:XE3->Sp3) (spx_q34:XE3->Sp3):TS3 :=
 (seq3 (for3 (ir3 (za0 (c3 (.int 4)) nil3)) (gn3 5) (set3 12 (tup3 (za0 (tup3 (za0 (c3 (.str "times")) (za0 (c3 (.int 1)) (za0 (v3 12) nil3)))) nil3)))) (sr1 sp_q0 sp_q3 sp_q4 sp_q5 sp_q9 sp_q10 sp_q11 sp_q12 spx_q26 spx_q34))
noncomputable def xs1 (sp_q0 sp_q3 sp_q4 sp_q5 sp_q9 sp_q10 sp_q11 sp_q12:Sp3) (spx_q26:XE3->Sp3) (spx_q34:XE3->Sp3):TS3 :=
 (seq3 (set3 12 (tup3 (za0 (tup3 (za0 (c3 (.str "go")) (za0 (c3 (.int 1)) nil3))) nil3))) (xd1 sp_q0 sp_q3 sp_q4 sp_q5 sp_q9 sp_q10 sp_q11 sp_q12 spx_q26 spx_q34))
noncomputable def yd1 (sp_q0 sp_q3 sp_q4 sp_q5 sp_q9 sp_q10 sp_q11 sp_q12:Sp3) (spx_q26:XE3->Sp3) (spx_q34:XE3->Sp3):TS3 :=
 (seq3 (ifs3 (or3 (b3 (o3 neR (zb0 sp_q12 (za0 (v3 10) (za0 (v3 11) nil3))) (lst3 (za0 (c3 (.bl false)) (za0 (c3 (.bl false)) (za0 (c3 (.bl true)) (za0 (c3 (.bl false)) (za0 (c3 (.bl false)) (za0 (c3 (.bl false)) (za0 (c3 (.bl true)) nil3)))))))))) (b3 (zb0 (spx_q26 NX) (za0 (v3 10) (za0 (v3 10) (za0 (v3 11) nil3)))))) (ret3 (c3 (.bl false))) tc0) (xs1 sp_q0 sp_q3 sp_q4 sp_q5 sp_q9 sp_q10 sp_q11 sp_q12 spx_q26 spx_q34))
noncomputable def zd1 (sp_q0 sp_q3 sp_q4 sp_q5 sp_q9 sp_q10 sp_q11 sp_q12:Sp3) (spx_q26:XE3->Sp3) (spx_q34:XE3->Sp3):TS3 :=
 (seq3 (set3 11 (lst3 (za0 (tup3 (za0 (c3 (.str "in")) (za0 (tup3 nil3) (za0 (c3 (.int 3)) (za0 (tup3 (za0 (c3 (.str "go")) (za0 (c3 (.int 0)) nil3))) nil3))))) nil3))) (yd1 sp_q0 sp_q3 sp_q4 sp_q5 sp_q9 sp_q10 sp_q11 sp_q12 spx_q26 spx_q34))
noncomputable def wd1 (sp_q0 sp_q3 sp_q4 sp_q5 sp_q9 sp_q10 sp_q11 sp_q12:Sp3) (spx_q26:XE3->Sp3) (spx_q34:XE3->Sp3):TS3 :=
 (seq3 (set3 10 (o3 mulR (tup3 (za0 (tup3 (za0 (c3 (.str "go")) (za0 (c3 (.int 1)) nil3))) nil3)) (c3 (.int 30)))) (zd1 sp_q0 sp_q3 sp_q4 sp_q5 sp_q9 sp_q10 sp_q11 sp_q12 spx_q26 spx_q34))
noncomputable def ys1 (sp_q0 sp_q3 sp_q4 sp_q5 sp_q9 sp_q10 sp_q11 sp_q12:Sp3) (spx_q26:XE3->Sp3) (spx_q34:XE3->Sp3):TS3 :=
 (seq3 (ifs3 (b3 (o3 neR (zb0 (spx_q26 NX) (za0 (v3 2) (za0 (v3 4) (za0 (v3 9) nil3)))) (o3 eqR (zb0 sp_q4 (za0 (v3 2) (za0 (v3 9) nil3))) (v3 4)))) (ret3 (c3 (.bl false))) tc0) (wd1 sp_q0 sp_q3 sp_q4 sp_q5 sp_q9 sp_q10 sp_q11 sp_q12 spx_q26 spx_q34))
noncomputable def su0 (sp_q0 sp_q3 sp_q4 sp_q5 sp_q9 sp_q10 sp_q11 sp_q12:Sp3) (spx_q26:XE3->Sp3) (spx_q34:XE3->Sp3):TS3 :=
 (seq3 (set3 9 (o3 addR (sl3 slR (v3 3) np3 (pt3 (v3 8))) (sl3 slR (v3 3) (pt3 (o3 addR (v3 8) (c3 (.int 1)))) np3))) (ys1 sp_q0 sp_q3 sp_q4 sp_q5 sp_q9 sp_q10 sp_q11 sp_q12 spx_q26 spx_q34))
noncomputable def uz0 (sp_q0 sp_q3 sp_q4 sp_q5 sp_q9 sp_q10 sp_q11 sp_q12:Sp3) (spx_q26:XE3->Sp3) (spx_q34:XE3->Sp3):TS3 :=
 (seq3 (set3 8 (zb0 sp_q11 (za0 (v3 1) (za0 (o3 addR (zb0 lenR (za0 (v3 3) nil3)) (c3 (.int 1))) nil3)))) (su0 sp_q0 sp_q3 sp_q4 sp_q5 sp_q9 sp_q10 sp_q11 sp_q12 spx_q26 spx_q34))
noncomputable def xj1 (sp_q0 sp_q3 sp_q4 sp_q5 sp_q9 sp_q10 sp_q11 sp_q12:Sp3) (spx_q26:XE3->Sp3) (spx_q34:XE3->Sp3):TS3 :=
 (seq3 (ifs3 (b3 (o3 (isBR true) (zb0 (spx_q26 NX) (za0 (v3 2) (za0 (tup3 (za0 (tup3 (za0 (c3 (.str "go")) (za0 (o3 powR (c3 (.int 10)) (c3 (.int 6))) nil3))) nil3)) (za0 (v3 7) nil3)))) (c3 (.bl false)))) (ret3 (c3 (.bl false))) tc0) (uz0 sp_q0 sp_q3 sp_q4 sp_q5 sp_q9 sp_q10 sp_q11 sp_q12 spx_q26 spx_q34))
noncomputable def yj1 (sp_q0 sp_q3 sp_q4 sp_q5 sp_q9 sp_q10 sp_q11 sp_q12:Sp3) (spx_q26:XE3->Sp3) (spx_q34:XE3->Sp3):TS3 :=
 (seq3 (ifs3 (or3 (b3 (o3 neR (zb0 (spx_q34 NX) (za0 (v3 2) (za0 (v3 7) nil3))) (v3 4))) (or3 (b3 (o3 neR (v3 7) (v3 3))) (b3 (o3 (isBR true) (zb0 (spx_q26 NX) (za0 (v3 2) (za0 (v3 4) (za0 (v3 7) nil3)))) (c3 (.bl true)))))) (ret3 (c3 (.bl false))) tc0) (xj1 sp_q0 sp_q3 sp_q4 sp_q5 sp_q9 sp_q10 sp_q11 sp_q12 spx_q26 spx_q34))
noncomputable def tz0 (sp_q0 sp_q3 sp_q4 sp_q5 sp_q9 sp_q10 sp_q11 sp_q12:Sp3) (spx_q26:XE3->Sp3) (spx_q34:XE3->Sp3):TS3 :=
 (seq3 (set3 7 (zb0 tv1 (za0 (v3 3) nil3))) (yj1 sp_q0 sp_q3 sp_q4 sp_q5 sp_q9 sp_q10 sp_q11 sp_q12 spx_q26 spx_q34))
noncomputable def sz1 (sp_q0 sp_q3 sp_q4 sp_q5 sp_q9 sp_q10 sp_q11 sp_q12:Sp3) (spx_q26:XE3->Sp3) (spx_q34:XE3->Sp3):TS3 :=
 (seq3 (for3 (ir3 (za0 (zb0 sp_q11 (za0 (v3 1) (za0 (c3 (.int 9)) nil3))) nil3)) (gn3 5) (seq3 (set3 6 (zb0 sp_q10 (za0 (v3 1) (za0 (v3 4) nil3)))) (ifs3 (b3 (zb0 sp_q5 (za0 (zb0 sp_q0 (za0 (v3 4) (za0 (v3 6) nil3))) nil3))) (seq3 (yl0 (mt3 appR (v3 3) (za0 (v3 6) nil3))) (set3 4 (zb0 sp_q0 (za0 (v3 4) (za0 (v3 6) nil3))))) tc0))) (tz0 sp_q0 sp_q3 sp_q4 sp_q5 sp_q9 sp_q10 sp_q11 sp_q12 spx_q26 spx_q34))
noncomputable def xa2 (sp_q0 sp_q3 sp_q4 sp_q5 sp_q9 sp_q10 sp_q11 sp_q12:Sp3) (spx_q26:XE3->Sp3) (spx_q34:XE3->Sp3):TS3 :=
 (seq3 (set3 4 (v3 2)) (sz1 sp_q0 sp_q3 sp_q4 sp_q5 sp_q9 sp_q10 sp_q11 sp_q12 spx_q26 spx_q34))
noncomputable def zj1 (sp_q0 sp_q3 sp_q4 sp_q5 sp_q9 sp_q10 sp_q11 sp_q12:Sp3) (spx_q26:XE3->Sp3) (spx_q34:XE3->Sp3):TS3 :=
 (seq3 (set3 3 (lst3 nil3)) (xa2 sp_q0 sp_q3 sp_q4 sp_q5 sp_q9 sp_q10 sp_q11 sp_q12 spx_q26 spx_q34))
noncomputable def wj1 (sp_q0 sp_q3 sp_q4 sp_q5 sp_q9 sp_q10 sp_q11 sp_q12:Sp3) (spx_q26:XE3->Sp3) (spx_q34:XE3->Sp3):TS3 :=
 (seq3 (ifs3 (not3 (b3 (zb0 sp_q5 (za0 (v3 2) nil3)))) (set3 2 (sl3 slR (v3 2) np3 (pt3 (c3 (.int 1))))) tc0) (zj1 sp_q0 sp_q3 sp_q4 sp_q5 sp_q9 sp_q10 sp_q11 sp_q12 spx_q26 spx_q34))
noncomputable def ya2 (sp_q0 sp_q3 sp_q4 sp_q5 sp_q9 sp_q10 sp_q11 sp_q12:Sp3) (spx_q26:XE3->Sp3) (spx_q34:XE3->Sp3):TS3 :=
 (seq3 (set3 2 (zb0 sp_q3 (za0 (v3 1) (za0 (c3 (.int 2)) (za0 (zb0 sp_q11 (za0 (v3 1) (za0 (c3 (.int 4)) nil3))) nil3))))) (wj1 sp_q0 sp_q3 sp_q4 sp_q5 sp_q9 sp_q10 sp_q11 sp_q12 spx_q26 spx_q34))
noncomputable def vy2 (sp_q0 sp_q3 sp_q4 sp_q5 sp_q9 sp_q10 sp_q11 sp_q12:Sp3) (spx_q26:XE3->Sp3) (spx_q34:XE3->Sp3):TS3 :=
 (seq3 (set3 1 (zb0 sp_q9 (za0 (v3 0) (za0 (c3 (.int 0)) nil3)))) (ya2 sp_q0 sp_q3 sp_q4 sp_q5 sp_q9 sp_q10 sp_q11 sp_q12 spx_q26 spx_q34))
end Pv
namespace Pv
open PySem PySem.Spec PyProof.Rows L2
section
variable {P:Program} {w:World} {K:Fg} {mg:Str->Option Value} {base:Heap}
theorem wb1 {a p_0 p_1 p_2 p_3 p_4 p_5 p_6 p_7:Addr} (e_0:PySem.W.nsIn K a "join" = some (some (.ref p_0))) (e_1:PySem.W.nsIn K a "part" = some (some (.ref p_1))) (e_2:PySem.W.nsIn K a "out" = some (some (.ref p_2))) (e_3:PySem.W.nsIn K a "in" = some (some (.ref p_3))) (e_4:PySem.W.nsIn K a "open" = some (some (.ref p_4))) (e_5:PySem.W.nsIn K a "close" = some (some (.ref p_5))) (e_6:PySem.W.nsIn K a "once" = some (some (.ref p_6))) (e_7:PySem.W.nsIn K a "twice" = some (some (.ref p_7))):MdN K a uj0:=by
 intro x y h
 unfold uj0 at h
 split at h
 ·next e=>subst e; cases h; exact ⟨_,e_0,rfl⟩
 split at h
 ·next e=>subst e; cases h; exact ⟨_,e_1,rfl⟩
 split at h
 ·next e=>subst e; cases h; exact ⟨_,e_2,rfl⟩
 split at h
 ·next e=>subst e; cases h; exact ⟨_,e_3,rfl⟩
 split at h
 ·next e=>subst e; cases h; exact ⟨_,e_4,rfl⟩
 split at h
 ·next e=>subst e; cases h; exact ⟨_,e_5,rfl⟩
 split at h
 ·next e=>subst e; cases h; exact ⟨_,e_6,rfl⟩
 split at h
 ·next e=>subst e; cases h; exact ⟨_,e_7,rfl⟩
 ·cases h
theorem wy0 {k:Nat} {a p_0 p_1 p_2 p_3 p_4 p_5 p_6 p_7:Addr} {ps_0 ps_1 ps_2 ps_3 ps_4 ps_5 ps_6 ps_7:List Str} {sp_0 sp_1 sp_2 sp_3 sp_4 sp_5 sp_6 sp_7:XE3->Sp3} (e_0:PySem.W.nsIn K a "join" = some (some (.ref p_0))) (m_0:mg "join_deeds" = some (.ref p_0)) (c_0:CalX P w K mg base k "join_deeds" ps_0 sp_0) (e_1:PySem.W.nsIn K a "part" = some (some (.ref p_1))) (m_1:mg "part_deed" = some (.ref p_1)) (c_1:CalX P w K mg base k "part_deed" ps_1 sp_1) (e_2:PySem.W.nsIn K a "out" = some (some (.ref p_2))) (m_2:mg "leave_out" = some (.ref p_2)) (c_2:CalX P w K mg base k "leave_out" ps_2 sp_2) (e_3:PySem.W.nsIn K a "in" = some (some (.ref p_3))) (m_3:mg "put_in" = some (.ref p_3)) (c_3:CalX P w K mg base k "put_in" ps_3 sp_3) (e_4:PySem.W.nsIn K a "open" = some (some (.ref p_4))) (m_4:mg "open_times" = some (.ref p_4)) (c_4:CalX P w K mg base k "open_times" ps_4 sp_4) (e_5:PySem.W.nsIn K a "close" = some (some (.ref p_5))) (m_5:mg "close_deeds" = some (.ref p_5)) (c_5:CalX P w K mg base k "close_deeds" ps_5 sp_5) (e_6:PySem.W.nsIn K a "once" = some (some (.ref p_6))) (m_6:mg "draw_once" = some (.ref p_6)) (c_6:CalX P w K mg base k "draw_once" ps_6 sp_6) (e_7:PySem.W.nsIn K a "twice" = some (some (.ref p_7))) (m_7:mg "draw_twice" = some (.ref p_7)) (c_7:CalX P w K mg base k "draw_twice" ps_7 sp_7):MdFX P w K mg base k a (zr0 sp_0 sp_1 sp_2 sp_3 sp_4 sp_5 sp_6 sp_7):=by
 intro x y h
 unfold zr0 at h
 split at h
 ·next e=>subst e; cases h; exact ⟨_,_,_,e_0,m_0,c_0⟩
 split at h
 ·next e=>subst e; cases h; exact ⟨_,_,_,e_1,m_1,c_1⟩
 split at h
 ·next e=>subst e; cases h; exact ⟨_,_,_,e_2,m_2,c_2⟩
 split at h
 ·next e=>subst e; cases h; exact ⟨_,_,_,e_3,m_3,c_3⟩
 split at h
 ·next e=>subst e; cases h; exact ⟨_,_,_,e_4,m_4,c_4⟩
 split at h
 ·next e=>subst e; cases h; exact ⟨_,_,_,e_5,m_5,c_5⟩
 split at h
 ·next e=>subst e; cases h; exact ⟨_,_,_,e_6,m_6,c_6⟩
 split at h
 ·next e=>subst e; cases h; exact ⟨_,_,_,e_7,m_7,c_7⟩
 ·cases h
theorem zs0 {a:Addr} {t_0 t_1 t_2 t_3 t_4 t_5 t_6:Tok} (e_0:PySem.W.nsIn K a "join" = some (some (.int 2 t_0))) (e_1:PySem.W.nsIn K a "part" = some (some (.int 1 t_1))) (e_2:PySem.W.nsIn K a "out" = some (some (.int 1 t_2))) (e_3:PySem.W.nsIn K a "in" = some (some (.int 0 t_3))) (e_4:PySem.W.nsIn K a "open" = some (some (.int 1 t_4))) (e_5:PySem.W.nsIn K a "once" = some (some (.int 3 t_5))) (e_6:PySem.W.nsIn K a "twice" = some (some (.int 1 t_6))):MdI K a vi0:=by
 intro x y h
 unfold vi0 at h
 split at h
 ·next e=>subst e; cases h; exact ⟨_,e_0⟩
 split at h
 ·next e=>subst e; cases h; exact ⟨_,e_1⟩
 split at h
 ·next e=>subst e; cases h; exact ⟨_,e_2⟩
 split at h
 ·next e=>subst e; cases h; exact ⟨_,e_3⟩
 split at h
 ·next e=>subst e; cases h; exact ⟨_,e_4⟩
 split at h
 ·next e=>subst e; cases h; exact ⟨_,e_5⟩
 split at h
 ·next e=>subst e; cases h; exact ⟨_,e_6⟩
 ·cases h
theorem sc3:FnScope vh2 ["word"] (ta0 xo1):=⟨rfl,rfl,rfl,by decide +kernel,rfl,by decide +kernel,by decide +kernel⟩
theorem uf3 {k:Nat} {f:Addr} {cdv:Value} {A:Around} {outer:List Env} {s:Shared} {H:Hp} {E:XK} {XE:XE3} (EX:EXok K mg XE E) {spx_q19:XE3->Sp3} {k_q19:Nat} (c_q19:CalX P w K mg base k_q19 "checked_count" ["word", "depth"] spx_q19) (l_q19:k_q19<=k) (hr:Room k (A.deeper (envOfC "check_word" (ta0 xo1) s.heap.objs.size f cdv))) :
    RSs (cxOf (CXn P w) P w K mg base vh2 "check_word" (ta0 xo1) f cdv A outer s H E) (wc0 xo1) (ym2 XE spx_q19) :=
 (xb0 (ul0 (zf0 EX (c_q19.mono l_q19) hr (xa0 (ya0 0) (xa0 wa0 va0)))))
theorem sc_q19:FnScope wh2 ["word", "depth"] (ta0 sn1):=⟨rfl,rfl,rfl,by decide +kernel,rfl,by decide +kernel,by decide +kernel⟩
theorem vf3 {k:Nat} {f:Addr} {cdv:Value} {A:Around} {outer:List Env} {s:Shared} {H:Hp} {E:XK} {XE:XE3} (EX:EXok K mg XE E) {spx_q20:XE3->Sp3} {k_q20:Nat} (c_q20:CalX P w K mg base k_q20 "checked_deed_count" ["deed", "depth"] spx_q20) (l_q20:k_q20<=k) {C_NoWord:Addr} (O_NoWord:OwnCls "NoWord" C_NoWord [.type "ValueError",.type "Exception",.type "BaseException",.type "object"] "ValueError.__new__" mg base) (z_isinstance:mg "isinstance" = none) (z_tuple:mg "tuple" = none) (g_MOST_DEEDS:Gd K mg "MOST_DEEDS" wp0) (g_MOST_DEEP:Gd K mg "MOST_DEEP" wr0) (hr:Room k (A.deeper (envOfC "checked_count" (ta0 sn1) s.heap.objs.size f cdv))) :
    RSs (cxOf (CXn P w) P w K mg base wh2 "checked_count" (ta0 sn1) f cdv A outer s H E) (wc0 sn1) (xm2 XE spx_q20) :=
 (ua0 (zd0 (to0 (zl0 (vd0 to2 z_isinstance vj0 (xa0 (ya0 0) (xa0 (zo2 z_tuple wc1) va0))))) (xb0 (ye0 EX O_NoWord PySem.F.excBase_ValueError (by decide) PySem.F.excBase_ValueError (xa0 wb0 va0))) tb0) (ua0 (zd0 (sb0 q_gt (ya0 1) (re_g g_MOST_DEEP)) (xb0 (ye0 EX O_NoWord PySem.F.excBase_ValueError (by decide) PySem.F.excBase_ValueError (xa0 wb0 va0))) tb0) (ua0 (vc0 (i:=2) sc_q19.nd wa0) (ua0 (tq0 PassesOwn.leaving rfl (sy0 (ya0 0)) (yg0 (i:=3) sc_q19.nd) (ua0 (vc0 (i:=2) sc_q19.nd (xd0 te0 (ya0 2) (zf0 EX (c_q20.mono l_q20) hr (xa0 (ya0 3) (xa0 (ya0 1) va0))))) (xb0 (zd0 (sb0 q_gt (ya0 2) (re_g g_MOST_DEEDS)) (xb0 (ye0 EX O_NoWord PySem.F.excBase_ValueError (by decide) PySem.F.excBase_ValueError (xa0 wb0 va0))) tb0)))) (xb0 (yc0 (ya0 2)))))))
theorem uc3:FnScope tq1 ["deed", "depth"] (ta0 tn1):=⟨rfl,rfl,rfl,by decide +kernel,rfl,by decide +kernel,by decide +kernel⟩
theorem wf3 {k:Nat} {f:Addr} {cdv:Value} {A:Around} {outer:List Env} {s:Shared} {H:Hp} {E:XK} {XE:XE3} (EX:EXok K mg XE E) {spx_q17:XE3->Sp3} {k_q17:Nat} (c_q17:CalX P w K mg base k_q17 "check_number" ["kind", "number"] spx_q17) (l_q17:k_q17<=k) {spx_q19:XE3->Sp3} {k_q19:Nat} (c_q19:CalX P w K mg base k_q19 "checked_count" ["word", "depth"] spx_q19) (l_q19:k_q19<=k) {C_NoWord:Addr} (O_NoWord:OwnCls "NoWord" C_NoWord [.type "ValueError",.type "Exception",.type "BaseException",.type "object"] "ValueError.__new__" mg base) (z_isinstance:mg "isinstance" = none) (z_len:mg "len" = none) (z_tuple:mg "tuple" = none) (g_PLAIN_KINDS:Gd K mg "PLAIN_KINDS" wn0) (hr:Room k (A.deeper (envOfC "checked_deed_count" (ta0 tn1) s.heap.objs.size f cdv))) :
    RSs (cxOf (CXn P w) P w K mg base tq1 "checked_deed_count" (ta0 tn1) f cdv A outer s H E) (wc0 tn1) (tr1 XE spx_q17 spx_q19) :=
 (ua0 (zd0 (to0 (zl0 (vd0 to2 z_isinstance vj0 (xa0 (ya0 0) (xa0 (zo2 z_tuple wc1) va0))))) (xb0 (ye0 EX O_NoWord PySem.F.excBase_ValueError (by decide) PySem.F.excBase_ValueError (xa0 wb0 va0))) tb0) (ua0 (zd0 (yk0 (uo0 (sb0 (q_eq (hu64 hr)) (vd0 xp0 z_len ui0 (xa0 (ya0 0) va0)) wa0) (vl0 (sb0 (q_in (hu65 hr)) (vb0 q_ix (ya0 0) wa0) (re_g g_PLAIN_KINDS))))) (ua0 (ul0 (zf0 EX (c_q17.mono l_q17) hr (xa0 (vb0 q_ix (ya0 0) wa0) (xa0 (vb0 q_ix (ya0 0) wa0) va0)))) (xb0 (yc0 wa0))) tb0) (ua0 (zd0 (yk0 (uo0 (sb0 (q_eq (hu64 hr)) (vd0 xp0 z_len ui0 (xa0 (ya0 0) va0)) wa0) (vl0 (sb0 (q_eq (hu64 hr)) (vb0 q_ix (ya0 0) wa0) wb0)))) (ua0 (ul0 (zf0 EX (c_q17.mono l_q17) hr (xa0 (vb0 q_ix (ya0 0) wa0) (xa0 (vb0 q_ix (ya0 0) wa0) va0)))) (xb0 (yc0 (xd0 te0 wa0 (zf0 EX (c_q19.mono l_q19) hr (xa0 (vb0 q_ix (ya0 0) wa0) (xa0 (xd0 te0 (ya0 1) wa0) va0))))))) tb0) (xb0 (ye0 EX O_NoWord PySem.F.excBase_ValueError (by decide) PySem.F.excBase_ValueError (xa0 wb0 va0))))))
theorem xd3:FnScope uh2 ["kind", "number"] (ta0 yo1):=⟨rfl,rfl,rfl,by decide +kernel,rfl,by decide +kernel,by decide +kernel⟩
theorem tf3 {k:Nat} {f:Addr} {cdv:Value} {A:Around} {outer:List Env} {s:Shared} {H:Hp} {E:XK} {XE:XE3} (EX:EXok K mg XE E) {C_NoWord:Addr} (O_NoWord:OwnCls "NoWord" C_NoWord [.type "ValueError",.type "Exception",.type "BaseException",.type "object"] "ValueError.__new__" mg base) (z_abs:mg "abs" = none) (z_int:mg "int" = none) (z_isinstance:mg "isinstance" = none) (g_GREATEST_NUMBER:Gd K mg "GREATEST_NUMBER" yi0) (g_KINDS_FROM_NOUGHT:Gd K mg "KINDS_FROM_NOUGHT" we0) (hr:Room k (A.deeper (envOfC "check_number" (ta0 yo1) s.heap.objs.size f cdv))) :
    RSs (cxOf (CXn P w) P w K mg base uh2 "check_number" (ta0 yo1) f cdv A outer s H E) (wc0 yo1) (zm2 XE) :=
 (ua0 (zd0 (to0 (zl0 (vd0 to2 z_isinstance vj0 (xa0 (ya0 1) (xa0 (zo2 z_int yl2) va0))))) (xb0 (ye0 EX O_NoWord PySem.F.excBase_ValueError (by decide) PySem.F.excBase_ValueError (xa0 wb0 va0))) tb0) (ua0 (zd0 (sb0 q_gt (vd0 yl3 z_abs zl2 (xa0 (ya0 1) va0)) (re_g g_GREATEST_NUMBER)) (xb0 (ye0 EX O_NoWord PySem.F.excBase_ValueError (by decide) PySem.F.excBase_ValueError (xa0 wb0 va0))) tb0) (xb0 (zd0 (yk0 (uo0 (sb0 q_lt (ya0 1) wa0) (vl0 (sb0 (q_in (hu65 hr)) (ya0 0) (re_g g_KINDS_FROM_NOUGHT))))) (xb0 (ye0 EX O_NoWord PySem.F.excBase_ValueError (by decide) PySem.F.excBase_ValueError (xa0 wb0 va0))) tb0))))
theorem sc_q34:FnScope yv2 ["word", "steps"] (ta0 ym1):=⟨rfl,rfl,rfl,by decide +kernel,rfl,by decide +kernel,by decide +kernel⟩
theorem vd3 {k:Nat} {f:Addr} {cdv:Value} {A:Around} {outer:List Env} {s:Shared} {H:Hp} {E:XK} {XE:XE3} (EX:EXok K mg XE E) {spx_q18:XE3->Sp3} {k_q18:Nat} (c_q18:CalX P w K mg base k_q18 "check_word" ["word"] spx_q18) (l_q18:k_q18<=k) {spx_q35:XE3->Sp3} {k_q35:Nat} (c_q35:CalX P w K mg base k_q35 "word_behind" ["word", "step"] spx_q35) (l_q35:k_q35<=k) (hr:Room k (A.deeper (envOfC "walked" (ta0 ym1) s.heap.objs.size f cdv))) :
    RSs (cxOf (CXn P w) P w K mg base yv2 "walked" (ta0 ym1) f cdv A outer s H E) (wc0 ym1) (sx2 XE spx_q18 spx_q35) :=
 (ua0 (ul0 (zf0 EX (c_q18.mono l_q18) hr (xa0 (ya0 0) va0))) (ua0 (vc0 (i:=2) sc_q34.nd (ya0 0)) (ua0 (tq0 PassesOwn.leaving rfl (sy0 (ya0 1)) (yg0 (i:=3) sc_q34.nd) (xb0 (vc0 (i:=2) sc_q34.nd (zf0 EX (c_q35.mono l_q35) hr (xa0 (ya0 2) (xa0 (ya0 3) va0)))))) (xb0 (yc0 (ya0 2))))))
theorem xc3:FnScope yw2 ["one", "other", "steps"] (ta0 xn1):=⟨rfl,rfl,rfl,by decide +kernel,rfl,by decide +kernel,by decide +kernel⟩
theorem ve3 {k:Nat} {f:Addr} {cdv:Value} {A:Around} {outer:List Env} {s:Shared} {H:Hp} {E:XK} {XE:XE3} (EX:EXok K mg XE E) {spx_q18:XE3->Sp3} {k_q18:Nat} (c_q18:CalX P w K mg base k_q18 "check_word" ["word"] spx_q18) (l_q18:k_q18<=k) {spx_q34:XE3->Sp3} {k_q34:Nat} (c_q34:CalX P w K mg base k_q34 "walked" ["word", "steps"] spx_q34) (l_q34:k_q34<=k) {C_NoStep:Addr} (m_NoStep:mg "NoStep" = some (.ref C_NoStep)) (k2_NoStep:PySem.W.kitCls K (.ref C_NoStep) (.type "BaseException")=some true) {C_NoRoom:Addr} (m_NoRoom:mg "NoRoom" = some (.ref C_NoRoom)) (k2_NoRoom:PySem.W.kitCls K (.ref C_NoRoom) (.type "BaseException")=some true) (okt_NoStep_NoRoom:∀ c,ze0 c=true->∃ C b1 b2,PySem.W.nsIn K mainGlobals c=some (some (.ref C)) /\ mg c=some (.ref C) /\ PySem.W.kitCls K (.ref C) (.ref C_NoStep)=some b1 /\ PySem.W.kitCls K (.ref C) (.ref C_NoRoom)=some b2 /\ (b1 || b2)=true) (hr:Room k (A.deeper (envOfC "holds" (ta0 xn1) s.heap.objs.size f cdv))) :
    RSs (cxOf (CXn P w) P w K mg base yw2 "holds" (ta0 xn1) f cdv A outer s H E) (wc0 xn1) (sy2 XE spx_q18 spx_q34) :=
 (ua0 (ul0 (zf0 EX (c_q18.mono l_q18) hr (xa0 (ya0 0) va0))) (ua0 (ul0 (zf0 EX (c_q18.mono l_q18) hr (xa0 (ya0 1) va0))) (xb0 (yb2 (c_q34.mono l_q34) hr (xa0 (ya0 0) (xa0 (ya0 2) va0)) (ya0 1) (q_eq (hu64 hr)) (λ _=>(xb0 (yc0 xh0))) m_NoStep m_NoRoom k2_NoStep k2_NoRoom okt_NoStep_NoRoom))))
theorem sc_q35:FnScope xv2 ["word", "step"] (ta0 xm1):=⟨rfl,rfl,rfl,by decide +kernel,rfl,by decide +kernel,by decide +kernel⟩
theorem zd3 {k:Nat} {f:Addr} {cdv:Value} {A:Around} {outer:List Env} {s:Shared} {H:Hp} {E:XK} {XE:XE3} (EX:EXok K mg XE E) {spx_q16:XE3->Sp3} {k_q16:Nat} (c_q16:CalX P w K mg base k_q16 "changed_word" ["word", "way", "step"] spx_q16) (l_q16:k_q16<=k) {spx_q18:XE3->Sp3} {k_q18:Nat} (c_q18:CalX P w K mg base k_q18 "check_word" ["word"] spx_q18) (l_q18:k_q18<=k) {C_NoRoom:Addr} (O_NoRoom:OwnCls "NoRoom" C_NoRoom [.type "ValueError",.type "Exception",.type "BaseException",.type "object"] "ValueError.__new__" mg base) {C_NoStep:Addr} (O_NoStep:OwnCls "NoStep" C_NoStep [.type "ValueError",.type "Exception",.type "BaseException",.type "object"] "ValueError.__new__" mg base) {C_NoWord:Addr} (m_NoWord:mg "NoWord" = some (.ref C_NoWord)) (k2_NoWord:PySem.W.kitCls K (.ref C_NoWord) (.type "BaseException")=some true) (k3:PySem.W.kitCls K (.type "type") (.type "tuple")=some false) (k4_NoWord:PySem.W.kitCls K (.ref C_NoWord) (.ref C_NoWord)=some true) (z_len:mg "len" = none) (g_KINDS_WITH_NEED:Gd K mg "KINDS_WITH_NEED" yf0) (hr:Room k (A.deeper (envOfC "word_behind" (ta0 xm1) s.heap.objs.size f cdv))) :
    RSs (cxOf (CXn P w) P w K mg base xv2 "word_behind" (ta0 xm1) f cdv A outer s H E) (wc0 xm1) (tx2 XE spx_q16 spx_q18) :=
 (ua0 (zd0 (sb0 (q_ne (hu64 hr)) (vd0 xp0 z_len ui0 (xa0 (ya0 1) va0)) (xe1 (sb0 (q_in (hu65 hr)) (vb0 q_ix (ya0 1) wa0) (re_g g_KINDS_WITH_NEED)) wa0 wa0)) (xb0 (ye0 EX O_NoStep PySem.F.excBase_ValueError (by decide) PySem.F.excBase_ValueError (xa0 wb0 va0))) tb0) (ua0 (vc0 (i:=2) sc_q35.nd (zf0 EX (c_q16.mono l_q16) hr (xa0 (ya0 0) (xa0 (vb0 q_ix (ya0 1) wa0) (xa0 (ya0 1) va0))))) (ua0 (xo2 EX (c_q18.mono l_q18) hr (xa0 (ya0 2) va0) (λ _=>(xa0 wb0 va0)) m_NoWord k2_NoWord k3 k4_NoWord O_NoRoom PySem.F.excBase_ValueError (by decide) PySem.F.excBase_ValueError) (xb0 (yc0 (ya0 2))))))
theorem sc_q16:FnScope sw2 ["word", "way", "step"] (ta0 zo1):=⟨rfl,rfl,rfl,by decide +kernel,rfl,by decide +kernel,by decide +kernel⟩
theorem sf3 {k:Nat} {f:Addr} {cdv:Value} {A:Around} {outer:List Env} {s:Shared} {H:Hp} {E:XK} {XE:XE3} (EX:EXok K mg XE E) {spx_q15:XE3->Sp3} {k_q15:Nat} (c_q15:CalX P w K mg base k_q15 "changed_deeds" ["word", "step"] spx_q15) (l_q15:k_q15<=k) {spx_q16:XE3->Sp3} {k_q16:Nat} (c_q16:CalX P w K mg base k_q16 "changed_word" ["word", "way", "step"] spx_q16) (l_q16:k_q16<=k) {spx_q22:XE3->Sp3} {k_q22:Nat} (c_q22:CalX P w K mg base k_q22 "deeds_from" ["word", "place", "number"] spx_q22) (l_q22:k_q22<=k) {sp_q25:Sp3} {k_q25:Nat} (c_q25:Cal P w K mg base k_q25 "exchanged" ["word", "place", "number", "deeds"] sp_q25) (l_q25:k_q25<=k) {C_NoStep:Addr} (O_NoStep:OwnCls "NoStep" C_NoStep [.type "ValueError",.type "Exception",.type "BaseException",.type "object"] "ValueError.__new__" mg base) (z_len:mg "len" = none) (hr:Room k (A.deeper (envOfC "changed_word" (ta0 zo1) s.heap.objs.size f cdv))) :
    RSs (cxOf (CXn P w) P w K mg base sw2 "changed_word" (ta0 zo1) f cdv A outer s H E) (wc0 zo1) (uz2 XE spx_q15 spx_q16 spx_q22 sp_q25) :=
 (ua0 (zd0 (sb0 (q_eq (hu64 hr)) (vd0 xp0 z_len ui0 (xa0 (ya0 1) va0)) wa0) (xb0 (yc0 (zf0 EX (c_q15.mono l_q15) hr (xa0 (ya0 0) (xa0 (ya0 2) va0))))) tb0) (ua0 (vc0 (i:=3) sc_q16.nd (vb0 q_ix (zf0 EX (c_q22.mono l_q22) hr (xa0 (ya0 0) (xa0 (vb0 q_ix (ya0 1) wa0) (xa0 wa0 va0)))) wa0)) (ua0 (zd0 (sb0 (q_ne (hu64 hr)) (vb0 q_ix (ya0 3) wa0) wb0) (xb0 (ye0 EX O_NoStep PySem.F.excBase_ValueError (by decide) PySem.F.excBase_ValueError (xa0 wb0 va0))) tb0) (ua0 (vc0 (i:=4) sc_q16.nd (zf0 EX (c_q16.mono l_q16) hr (xa0 (vb0 q_ix (ya0 3) wa0) (xa0 (sc0 q_sl (ya0 1) (yd0 wa0) wd0) (xa0 (ya0 2) va0))))) (xb0 (yc0 (zc0 (c_q25.mono l_q25) hr (xa0 (ya0 0) (xa0 (vb0 q_ix (ya0 1) wa0) (xa0 wa0 (xa0 (ub0 (xa0 (ub0 (xa0 wb0 (xa0 (vb0 q_ix (ya0 3) wa0) (xa0 (ya0 4) va0)))) va0)) va0)))))))))))
theorem wc3:FnScope uw2 ["word", "place", "number"] (ta0 vn1):=⟨rfl,rfl,rfl,by decide +kernel,rfl,by decide +kernel,by decide +kernel⟩
theorem yf3 {k:Nat} {f:Addr} {cdv:Value} {A:Around} {outer:List Env} {s:Shared} {H:Hp} {E:XK} {XE:XE3} (EX:EXok K mg XE E) {C_NoStep:Addr} (O_NoStep:OwnCls "NoStep" C_NoStep [.type "ValueError",.type "Exception",.type "BaseException",.type "object"] "ValueError.__new__" mg base) (z_len:mg "len" = none) (hr:Room k (A.deeper (envOfC "deeds_from" (ta0 vn1) s.heap.objs.size f cdv))) :
    RSs (cxOf (CXn P w) P w K mg base uw2 "deeds_from" (ta0 vn1) f cdv A outer s H E) (wc0 vn1) (wz2 XE) :=
 (ua0 (zd0 (yk0 (zq0 (sb0 q_lt (ya0 1) wa0) (zq0 (sb0 q_lt (ya0 2) wa0) (zm0 (sb0 q_gt (xd0 te0 (ya0 1) (ya0 2)) (vd0 xp0 z_len ui0 (xa0 (ya0 0) va0))))))) (xb0 (ye0 EX O_NoStep PySem.F.excBase_ValueError (by decide) PySem.F.excBase_ValueError (xa0 wb0 va0))) tb0) (xb0 (yc0 (sc0 q_sl (ya0 0) (yd0 (ya0 1)) (yd0 (xd0 te0 (ya0 1) (ya0 2)))))))
theorem yc3:FnScope zw2 ["word", "place", "number", "deeds"] (ta0 yn1):=⟨rfl,rfl,rfl,by decide +kernel,rfl,by decide +kernel,by decide +kernel⟩
theorem ue3 {k:Nat} {f:Addr} {cdv:Value} {A:Around} {outer:List Env} {s:Shared} {H:Hp} {E:XK} (hr:Room k (A.deeper (envOfC "exchanged" (ta0 yn1) s.heap.objs.size f cdv))) :
    RSs (cxOf CX0 P w K mg base zw2 "exchanged" (ta0 yn1) f cdv A outer s H E).nox (wc0 yn1) (xz2) :=
 (xb0 (yc0 (xd0 te0 (xd0 te0 (sc0 q_sl (ya0 0) wd0 (yd0 (ya0 1))) (ya0 3)) (sc0 q_sl (ya0 0) (yd0 (xd0 te0 (ya0 1) (ya0 2))) wd0))))
theorem sc_q28:FnScope sv2 ["deeds", "need"] (ta0 tm1):=⟨rfl,rfl,rfl,by decide +kernel,rfl,by decide +kernel,by decide +kernel⟩
theorem ze3 {k:Nat} {f:Addr} {cdv:Value} {A:Around} {outer:List Env} {s:Shared} {H:Hp} {E:XK} {XE:XE3} (EX:EXok K mg XE E) {C_NoStep:Addr} (O_NoStep:OwnCls "NoStep" C_NoStep [.type "ValueError",.type "Exception",.type "BaseException",.type "object"] "ValueError.__new__" mg base) (hr:Room k (A.deeper (envOfC "join_deeds" (ta0 tm1) s.heap.objs.size f cdv))) :
    RSs (cxOf (CXn P w) P w K mg base sv2 "join_deeds" (ta0 tm1) f cdv A outer s H E) (wc0 tm1) (uy2 XE) :=
 (ua0 (vc0 (i:=2) sc_q28.nd (vb0 q_ix (ya0 0) wa0)) (ua0 (vc0 (i:=3) sc_q28.nd (vb0 q_ix (ya0 0) wa0)) (ua0 (zd0 (yk0 (zq0 (sb0 (q_ne (hu64 hr)) (vb0 q_ix (ya0 2) wa0) (vb0 q_ix (ya0 3) wa0)) (zm0 (sb0 (q_ne (hu64 hr)) (sc0 q_sl (ya0 2) (yd0 wa0) wd0) (sc0 q_sl (ya0 3) (yd0 wa0) wd0))))) (xb0 (ye0 EX O_NoStep PySem.F.excBase_ValueError (by decide) PySem.F.excBase_ValueError (xa0 wb0 va0))) tb0) (xb0 (yc0 (ub0 (xa0 (xd0 te0 (ub0 (xa0 (vb0 q_ix (ya0 2) wa0) (xa0 (xd0 te0 (vb0 q_ix (ya0 2) wa0) (vb0 q_ix (ya0 3) wa0)) va0))) (sc0 q_sl (ya0 2) (yd0 wa0) wd0)) va0)))))))
theorem sc_q32:FnScope wv2 ["deeds", "number"] (ta0 wm1):=⟨rfl,rfl,rfl,by decide +kernel,rfl,by decide +kernel,by decide +kernel⟩
theorem td3 {k:Nat} {f:Addr} {cdv:Value} {A:Around} {outer:List Env} {s:Shared} {H:Hp} {E:XK} {XE:XE3} (EX:EXok K mg XE E) {C_NoStep:Addr} (O_NoStep:OwnCls "NoStep" C_NoStep [.type "ValueError",.type "Exception",.type "BaseException",.type "object"] "ValueError.__new__" mg base) (g_KINDS_FROM_NOUGHT:Gd K mg "KINDS_FROM_NOUGHT" we0) (hr:Room k (A.deeper (envOfC "part_deed" (ta0 wm1) s.heap.objs.size f cdv))) :
    RSs (cxOf (CXn P w) P w K mg base wv2 "part_deed" (ta0 wm1) f cdv A outer s H E) (wc0 wm1) (yy2 XE) :=
 (ua0 (vc0 (i:=2) sc_q32.nd (vb0 q_ix (ya0 0) wa0)) (ua0 (vc0 (i:=3) sc_q32.nd (xd0 uv0 (vb0 q_ix (ya0 2) wa0) (ya0 1))) (ua0 (zd0 (yk0 (uo0 (sb0 (q_in (hu65 hr)) (vb0 q_ix (ya0 2) wa0) (re_g g_KINDS_FROM_NOUGHT)) (vl0 (yk0 (zq0 (sb0 q_lt (ya0 1) wa0) (zm0 (sb0 q_lt (ya0 3) wa0))))))) (xb0 (ye0 EX O_NoStep PySem.F.excBase_ValueError (by decide) PySem.F.excBase_ValueError (xa0 wb0 va0))) tb0) (xb0 (yc0 (ub0 (xa0 (xd0 te0 (ub0 (xa0 (vb0 q_ix (ya0 2) wa0) (xa0 (ya0 1) va0))) (sc0 q_sl (ya0 2) (yd0 wa0) wd0)) (xa0 (xd0 te0 (ub0 (xa0 (vb0 q_ix (ya0 2) wa0) (xa0 (ya0 3) va0))) (sc0 q_sl (ya0 2) (yd0 wa0) wd0)) va0))))))))
theorem tb3:FnScope uv2 ["deeds", "need"] (ta0 um1):=⟨rfl,rfl,rfl,by decide +kernel,rfl,by decide +kernel,by decide +kernel⟩
theorem xe3 {k:Nat} {f:Addr} {cdv:Value} {A:Around} {outer:List Env} {s:Shared} {H:Hp} {E:XK} {XE:XE3} (EX:EXok K mg XE E) {sp_q27:Sp3} {k_q27:Nat} (c_q27:Cal P w K mg base k_q27 "is_idle" ["deed"] sp_q27) (l_q27:k_q27<=k) {C_NoStep:Addr} (O_NoStep:OwnCls "NoStep" C_NoStep [.type "ValueError",.type "Exception",.type "BaseException",.type "object"] "ValueError.__new__" mg base) (hr:Room k (A.deeper (envOfC "leave_out" (ta0 um1) s.heap.objs.size f cdv))) :
    RSs (cxOf (CXn P w) P w K mg base uv2 "leave_out" (ta0 um1) f cdv A outer s H E) (wc0 um1) (wy2 XE sp_q27) :=
 (ua0 (zd0 (to0 (zl0 (zc0 (c_q27.mono l_q27) hr (xa0 (vb0 q_ix (ya0 0) wa0) va0)))) (xb0 (ye0 EX O_NoStep PySem.F.excBase_ValueError (by decide) PySem.F.excBase_ValueError (xa0 wb0 va0))) tb0) (xb0 (yc0 (ub0 va0))))
theorem vb3:FnScope zv2 ["deeds", "deed"] (ta0 zm1):=⟨rfl,rfl,rfl,by decide +kernel,rfl,by decide +kernel,by decide +kernel⟩
theorem ud3 {k:Nat} {f:Addr} {cdv:Value} {A:Around} {outer:List Env} {s:Shared} {H:Hp} {E:XK} {XE:XE3} (EX:EXok K mg XE E) {sp_q27:Sp3} {k_q27:Nat} (c_q27:Cal P w K mg base k_q27 "is_idle" ["deed"] sp_q27) (l_q27:k_q27<=k) {C_NoStep:Addr} (O_NoStep:OwnCls "NoStep" C_NoStep [.type "ValueError",.type "Exception",.type "BaseException",.type "object"] "ValueError.__new__" mg base) (hr:Room k (A.deeper (envOfC "put_in" (ta0 zm1) s.heap.objs.size f cdv))) :
    RSs (cxOf (CXn P w) P w K mg base zv2 "put_in" (ta0 zm1) f cdv A outer s H E) (wc0 zm1) (xy2 XE sp_q27) :=
 (ua0 (zd0 (to0 (zl0 (zc0 (c_q27.mono l_q27) hr (xa0 (ya0 1) va0)))) (xb0 (ye0 EX O_NoStep PySem.F.excBase_ValueError (by decide) PySem.F.excBase_ValueError (xa0 wb0 va0))) tb0) (xb0 (yc0 (ub0 (xa0 (ya0 1) va0)))))
theorem sb3:FnScope xw2 ["deed"] (ta0 sm1):=⟨rfl,rfl,rfl,by decide +kernel,rfl,by decide +kernel,by decide +kernel⟩
theorem we3 {k:Nat} {f:Addr} {cdv:Value} {A:Around} {outer:List Env} {s:Shared} {H:Hp} {E:XK} (z_len:mg "len" = none) (hr:Room k (A.deeper (envOfC "is_idle" (ta0 sm1) s.heap.objs.size f cdv))) :
    RSs (cxOf CX0 P w K mg base xw2 "is_idle" (ta0 sm1) f cdv A outer s H E).nox (wc0 sm1) (ty2) :=
 (ua0 (zd0 (yk0 (uo0 (sb0 (q_eq (hu64 hr)) (vd0 xp0 z_len ui0 (xa0 (ya0 0) va0)) wa0) (vl0 (sb0 (q_eq (hu64 hr)) (vb0 q_ix (ya0 0) wa0) wb0)))) (xb0 (yc0 (xh3 (yj0 (q_eq (hu64 hr)) (vb0 q_ix (ya0 0) wa0) wa0) (xz0 (yj0 (q_eq (hu64 hr)) (vb0 q_ix (ya0 0) wa0) (ub0 va0)))))) tb0) (ua0 (zd0 (sb0 (q_ne (hu64 hr)) (vd0 xp0 z_len ui0 (xa0 (ya0 0) va0)) wa0) (xb0 (yc0 xh0)) tb0) (ua0 (zd0 (sb0 (q_eq (hu64 hr)) (vb0 q_ix (ya0 0) wa0) wb0) (xb0 (yc0 (yj0 (q_eq (hu64 hr)) (xd0 ze1 (vb0 q_ix (ya0 0) wa0) wa0) wa0))) tb0) (xb0 (yc0 (xk1 (yj0 (q_in (hu65 hr)) (vb0 q_ix (ya0 0) wa0) (ub0 (xa0 wb0 (xa0 wb0 va0)))) (xz0 (yj0 (q_eq (hu64 hr)) (vb0 q_ix (ya0 0) wa0) wa0))))))))
theorem ub3:FnScope vv2 ["deeds", "need"] (ta0 vm1):=⟨rfl,rfl,rfl,by decide +kernel,rfl,by decide +kernel,by decide +kernel⟩
theorem sd3 {k:Nat} {f:Addr} {cdv:Value} {A:Around} {outer:List Env} {s:Shared} {H:Hp} {E:XK} {XE:XE3} (EX:EXok K mg XE E) {C_NoStep:Addr} (O_NoStep:OwnCls "NoStep" C_NoStep [.type "ValueError",.type "Exception",.type "BaseException",.type "object"] "ValueError.__new__" mg base) (hr:Room k (A.deeper (envOfC "open_times" (ta0 vm1) s.heap.objs.size f cdv))) :
    RSs (cxOf (CXn P w) P w K mg base vv2 "open_times" (ta0 vm1) f cdv A outer s H E) (wc0 vm1) (zy2 XE) :=
 (ua0 (zd0 (yk0 (zq0 (sb0 (q_ne (hu64 hr)) (vb0 q_ix (vb0 q_ix (ya0 0) wa0) wa0) wb0) (zm0 (sb0 (q_ne (hu64 hr)) (vb0 q_ix (vb0 q_ix (ya0 0) wa0) wa0) wa0)))) (xb0 (ye0 EX O_NoStep PySem.F.excBase_ValueError (by decide) PySem.F.excBase_ValueError (xa0 wb0 va0))) tb0) (xb0 (yc0 (vb0 q_ix (vb0 q_ix (ya0 0) wa0) wa0))))
theorem vc3:FnScope tw2 ["deeds", "number"] (ta0 un1):=⟨rfl,rfl,rfl,by decide +kernel,rfl,by decide +kernel,by decide +kernel⟩
theorem zf3 {k:Nat} {f:Addr} {cdv:Value} {A:Around} {outer:List Env} {s:Shared} {H:Hp} {E:XK} {XE:XE3} (EX:EXok K mg XE E) (hr:Room k (A.deeper (envOfC "close_deeds" (ta0 un1) s.heap.objs.size f cdv))) :
    RSs (cxOf (CXn P w) P w K mg base tw2 "close_deeds" (ta0 un1) f cdv A outer s H E) (wc0 un1) (vz2 XE) :=
 (xb0 (yc0 (ub0 (xa0 (ub0 (xa0 wb0 (xa0 wa0 (xa0 (ya0 0) va0)))) va0))))
theorem zc3:FnScope vw2 ["deeds", "need"] (ta0 wn1):=⟨rfl,rfl,rfl,by decide +kernel,rfl,by decide +kernel,by decide +kernel⟩
theorem xf3 {k:Nat} {f:Addr} {cdv:Value} {A:Around} {outer:List Env} {s:Shared} {H:Hp} {E:XK} {XE:XE3} (EX:EXok K mg XE E) {spx_q24:XE3->Sp3} {k_q24:Nat} (c_q24:CalX P w K mg base k_q24 "draw_twice" ["deeds", "need"] spx_q24) (l_q24:k_q24<=k) {C_NoStep:Addr} (O_NoStep:OwnCls "NoStep" C_NoStep [.type "ValueError",.type "Exception",.type "BaseException",.type "object"] "ValueError.__new__" mg base) (hr:Room k (A.deeper (envOfC "draw_once" (ta0 wn1) s.heap.objs.size f cdv))) :
    RSs (cxOf (CXn P w) P w K mg base vw2 "draw_once" (ta0 wn1) f cdv A outer s H E) (wc0 wn1) (zz2 XE spx_q24) :=
 (ua0 (zd0 (sb0 (q_ne (hu64 hr)) (ya0 0) (zf0 EX (c_q24.mono l_q24) hr (xa0 (sc0 q_sl (ya0 0) wd0 (yd0 wa0)) (xa0 (ya0 1) va0)))) (xb0 (ye0 EX O_NoStep PySem.F.excBase_ValueError (by decide) PySem.F.excBase_ValueError (xa0 wb0 va0))) tb0) (xb0 (yc0 (sc0 q_sl (ya0 0) wd0 (yd0 wa0)))))
theorem sc_q24:FnScope ww2 ["deeds", "need"] (ta0 zn1):=⟨rfl,rfl,rfl,by decide +kernel,rfl,by decide +kernel,by decide +kernel⟩
theorem se3 {k:Nat} {f:Addr} {cdv:Value} {A:Around} {outer:List Env} {s:Shared} {H:Hp} {E:XK} {XE:XE3} (EX:EXok K mg XE E) {C_NoStep:Addr} (O_NoStep:OwnCls "NoStep" C_NoStep [.type "ValueError",.type "Exception",.type "BaseException",.type "object"] "ValueError.__new__" mg base) (hr:Room k (A.deeper (envOfC "draw_twice" (ta0 zn1) s.heap.objs.size f cdv))) :
    RSs (cxOf (CXn P w) P w K mg base ww2 "draw_twice" (ta0 zn1) f cdv A outer s H E) (wc0 zn1) (yz2 XE) :=
 (ua0 (vc0 (i:=2) sc_q24.nd (vb0 q_ix (ya0 0) wa0)) (ua0 (zd0 (sb0 (q_ne (hu64 hr)) (vb0 q_ix (ya0 2) wa0) wb0) (xb0 (ye0 EX O_NoStep PySem.F.excBase_ValueError (by decide) PySem.F.excBase_ValueError (xa0 wb0 va0))) tb0) (xb0 (yc0 (ub0 (xa0 (ya0 2) (xa0 (ub0 (xa0 wb0 (xa0 (zp1 wp1 (vb0 q_ix (ya0 2) wa0)) va0))) (xa0 (ya0 2) va0))))))))
theorem sc_q15:FnScope xx2 ["word", "step"] (ta0 wo1):=⟨rfl,rfl,rfl,by decide +kernel,rfl,by decide +kernel,by decide +kernel⟩
theorem xg3 {k:Nat} {f:Addr} {cdv:Value} {A:Around} {outer:List Env} {s:Shared} {H:Hp} {E:XK} {XE:XE3} (EX:EXok K mg XE E) {spx_q21:XE3->Sp3} {k_q21:Nat} (c_q21:CalX P w K mg base k_q21 "close_deeds" ["deeds", "number"] spx_q21) (l_q21:k_q21<=k) {spx_q22:XE3->Sp3} {k_q22:Nat} (c_q22:CalX P w K mg base k_q22 "deeds_from" ["word", "place", "number"] spx_q22) (l_q22:k_q22<=k) {spx_q23:XE3->Sp3} {k_q23:Nat} (c_q23:CalX P w K mg base k_q23 "draw_once" ["deeds", "need"] spx_q23) (l_q23:k_q23<=k) {spx_q24:XE3->Sp3} {k_q24:Nat} (c_q24:CalX P w K mg base k_q24 "draw_twice" ["deeds", "need"] spx_q24) (l_q24:k_q24<=k) {sp_q25:Sp3} {k_q25:Nat} (c_q25:Cal P w K mg base k_q25 "exchanged" ["word", "place", "number", "deeds"] sp_q25) (l_q25:k_q25<=k) {spx_q28:XE3->Sp3} {k_q28:Nat} (c_q28:CalX P w K mg base k_q28 "join_deeds" ["deeds", "need"] spx_q28) (l_q28:k_q28<=k) {spx_q30:XE3->Sp3} {k_q30:Nat} (c_q30:CalX P w K mg base k_q30 "leave_out" ["deeds", "need"] spx_q30) (l_q30:k_q30<=k) {spx_q31:XE3->Sp3} {k_q31:Nat} (c_q31:CalX P w K mg base k_q31 "open_times" ["deeds", "need"] spx_q31) (l_q31:k_q31<=k) {spx_q32:XE3->Sp3} {k_q32:Nat} (c_q32:CalX P w K mg base k_q32 "part_deed" ["deeds", "number"] spx_q32) (l_q32:k_q32<=k) {spx_q33:XE3->Sp3} {k_q33:Nat} (c_q33:CalX P w K mg base k_q33 "put_in" ["deeds", "deed"] spx_q33) (l_q33:k_q33<=k) {C_NoStep:Addr} (O_NoStep:OwnCls "NoStep" C_NoStep [.type "ValueError",.type "Exception",.type "BaseException",.type "object"] "ValueError.__new__" mg base) {a_CHANGES:Addr} (md_CHANGES:Mdc w K mg "CHANGES" a_CHANGES) (mn_CHANGES_ok:MdN K a_CHANGES uj0) {p_q28:Addr} (me_CHANGES_join_deeds:PySem.W.nsIn K a_CHANGES "join" = some (some (.ref p_q28))) (mm_q28:mg "join_deeds" = some (.ref p_q28)) {p_q32:Addr} (me_CHANGES_part_deed:PySem.W.nsIn K a_CHANGES "part" = some (some (.ref p_q32))) (mm_q32:mg "part_deed" = some (.ref p_q32)) {p_q30:Addr} (me_CHANGES_leave_out:PySem.W.nsIn K a_CHANGES "out" = some (some (.ref p_q30))) (mm_q30:mg "leave_out" = some (.ref p_q30)) {p_q33:Addr} (me_CHANGES_put_in:PySem.W.nsIn K a_CHANGES "in" = some (some (.ref p_q33))) (mm_q33:mg "put_in" = some (.ref p_q33)) {p_q31:Addr} (me_CHANGES_open_times:PySem.W.nsIn K a_CHANGES "open" = some (some (.ref p_q31))) (mm_q31:mg "open_times" = some (.ref p_q31)) {p_q21:Addr} (me_CHANGES_close_deeds:PySem.W.nsIn K a_CHANGES "close" = some (some (.ref p_q21))) (mm_q21:mg "close_deeds" = some (.ref p_q21)) {p_q23:Addr} (me_CHANGES_draw_once:PySem.W.nsIn K a_CHANGES "once" = some (some (.ref p_q23))) (mm_q23:mg "draw_once" = some (.ref p_q23)) {p_q24:Addr} (me_CHANGES_draw_twice:PySem.W.nsIn K a_CHANGES "twice" = some (some (.ref p_q24))) (mm_q24:mg "draw_twice" = some (.ref p_q24)) {a_DEEDS_TAKEN:Addr} (md_DEEDS_TAKEN:Mdc w K mg "DEEDS_TAKEN" a_DEEDS_TAKEN) (mi_DEEDS_TAKEN_ok:MdI K a_DEEDS_TAKEN vi0) (g_KINDS_WITH_NEED:Gd K mg "KINDS_WITH_NEED" yf0) (hr:Room k (A.deeper (envOfC "changed_deeds" (ta0 wo1) s.heap.objs.size f cdv))) :
    RSs (cxOf (CXn P w) P w K mg base xx2 "changed_deeds" (ta0 wo1) f cdv A outer s H E) (wc0 wo1) (tz2 XE spx_q21 spx_q22 spx_q23 spx_q24 sp_q25 spx_q28 spx_q30 spx_q31 spx_q32 spx_q33) :=
 (ua0 (zd0 (yp1 md_CHANGES mn_CHANGES_ok (vb0 q_ix (ya0 1) wa0)) (xb0 (ye0 EX O_NoStep PySem.F.excBase_ValueError (by decide) PySem.F.excBase_ValueError (xa0 wb0 va0))) tb0) (ua0 (vc0 (i:=2) sc_q15.nd (xe1 (sb0 (q_in (hu65 hr)) (vb0 q_ix (ya0 1) wa0) (re_g g_KINDS_WITH_NEED)) (vb0 q_ix (ya0 1) wa0) wh0)) (ua0 (vc0 (i:=3) sc_q15.nd (xe1 (sb0 (q_eq (hu64 hr)) (vb0 q_ix (ya0 1) wa0) wb0) (ya0 2) (yh3 md_DEEDS_TAKEN mi_DEEDS_TAKEN_ok (vb0 q_ix (ya0 1) wa0)))) (ua0 (vc0 (i:=4) sc_q15.nd (zf0 EX (c_q22.mono l_q22) hr (xa0 (ya0 0) (xa0 (vb0 q_ix (ya0 1) wa0) (xa0 (ya0 3) va0))))) (xb0 (yc0 (zc0 (c_q25.mono l_q25) hr (xa0 (ya0 0) (xa0 (vb0 q_ix (ya0 1) wa0) (xa0 (ya0 3) (xa0 (wo2 EX md_CHANGES (wy0 me_CHANGES_join_deeds mm_q28 (c_q28.mono l_q28) me_CHANGES_part_deed mm_q32 (c_q32.mono l_q32) me_CHANGES_leave_out mm_q30 (c_q30.mono l_q30) me_CHANGES_put_in mm_q33 (c_q33.mono l_q33) me_CHANGES_open_times mm_q31 (c_q31.mono l_q31) me_CHANGES_close_deeds mm_q21 (c_q21.mono l_q21) me_CHANGES_draw_once mm_q23 (c_q23.mono l_q23) me_CHANGES_draw_twice mm_q24 (c_q24.mono l_q24)) (vb0 q_ix (ya0 1) wa0) hr (xa0 (ya0 4) (xa0 (ya0 2) va0))) va0)))))))))))
theorem sc_q9:FnScope N_q9 ["script", "k"] (ta0 s_q9):=⟨rfl,rfl,rfl,by decide +kernel,rfl,by decide +kernel,by decide +kernel⟩
theorem xv3 {k:Nat} {f:Addr} {cdv:Value} {A:Around} {outer:List Env} {s:Shared} {H:Hp} {E:XK} (z_len:mg "len" = none) (hr:Room k (A.deeper (envOfC "_law_state" (ta0 s_q9) s.heap.objs.size f cdv))) :
    RSs (cxOf CX0 P w K mg base N_q9 "_law_state" (ta0 s_q9) f cdv A outer s H E).nox (wc0 s_q9) (t_q9) :=
 (ua0 (vc0 (i:=2) sc_q9.nd wa0) (ua0 (zd0 (sb0 q_lt (ya0 1) (vd0 xp0 z_len ui0 (xa0 (ya0 0) va0))) (xb0 (vc0 (i:=2) sc_q9.nd (vb0 q_ix (ya0 0) (ya0 1)))) tb0) (ua0 (zd0 (sb0 q_ge (ya0 2) (xd0 sb2 wa0 wa0)) (xb0 (yc0 (xf0 (xa0 (xd0 uv0 (ya0 2) (xd0 sb2 wa0 wa0)) (xa0 wa0 va0))))) tb0) (xb0 (yc0 (xf0 (xa0 (xd0 ze1 (xd0 te0 (ya0 2) (xd0 ta1 wa0 (ya0 1))) wa0) (xa0 wa0 va0))))))))
theorem sc_q11:FnScope xi2 ["state", "many"] (ta0 so1):=⟨rfl,rfl,rfl,by decide +kernel,rfl,by decide +kernel,by decide +kernel⟩
theorem vg3 {k:Nat} {f:Addr} {cdv:Value} {A:Around} {outer:List Env} {s:Shared} {H:Hp} {E:XK} (hr:Room k (A.deeper (envOfC "_law_take" (ta0 so1) s.heap.objs.size f cdv))) :
    RSs (cxOf CX0 P w K mg base xi2 "_law_take" (ta0 so1) f cdv A outer s H E).nox (wc0 so1) (um2) :=
 (ua0 (zd0 (yk0 (uo0 (sb0 (q_eq (hu64 hr)) (vb0 q_ix (ya0 0) wa0) wa0) (vl0 (sb0 q_gt (vb0 q_ix (ya0 0) wa0) wa0)))) (ua0 (vc0 (i:=2) sc_q11.nd (xd0 ze1 (vb0 q_ix (ya0 0) wa0) (ya0 1))) (ua0 (ty0 (xd0 yj2 (vb0 q_ix (ya0 0) wa0) (ya0 1)) (xu1 (ya0 0) wa0)) (xb0 (yc0 (ya0 2))))) tb0) (ua0 (ty0 wa0 (xu1 (ya0 0) wa0)) (ua0 (ty0 (xd0 ze1 (xd0 te0 (xd0 ta1 (vb0 q_ix (ya0 0) wa0) wa0) wa0) wa0) (xu1 (ya0 0) wa0)) (ua0 (vc0 (i:=3) sc_q11.nd (xd0 ze1 (xd0 te0 (xd0 ta1 (vb0 q_ix (ya0 0) wa0) (vb0 q_ix (ya0 0) wa0)) (xd0 ta1 wa0 (vb0 q_ix (ya0 0) wa0))) wa0)) (ua0 (vc0 (i:=3) sc_q11.nd (xd0 ze1 (xd0 te0 (xd0 ta1 (ya0 3) (ya0 3)) (xd0 ta1 wa0 (ya0 3))) wa0)) (xb0 (yc0 (xd0 ze1 (xd0 yj2 (ya0 3) wa0) (ya0 1)))))))))
theorem sc_q2:FnScope N_q2 ["state", "deep"] (ta0 s_q2):=⟨rfl,rfl,rfl,by decide +kernel,rfl,by decide +kernel,by decide +kernel⟩
theorem sv3 {k:Nat} {f:Addr} {cdv:Value} {A:Around} {outer:List Env} {s:Shared} {H:Hp} {E:XK} {sp_q3:Sp3} {k_q3:Nat} (c_q3:Cal P w K mg base k_q3 "_law_deeds" ["state", "deep", "many"] sp_q3) (l_q3:k_q3<=k) {sp_q11:Sp3} {k_q11:Nat} (c_q11:Cal P w K mg base k_q11 "_law_take" ["state", "many"] sp_q11) (l_q11:k_q11<=k) (z_int:mg "int" = none) (hr:Room k (A.deeper (envOfC "_law_deed" (ta0 s_q2) s.heap.objs.size f cdv))) :
    RSs (cxOf CX0 P w K mg base N_q2 "_law_deed" (ta0 s_q2) f cdv A outer s H E).nox (wc0 s_q2) (t_q2 sp_q3 sp_q11) :=
 (ua0 (vc0 (i:=2) sc_q2.nd (zc0 (c_q11.mono l_q11) hr (xa0 (ya0 0) (xa0 (xd0 te0 wa0 (xd0 ta1 wa0 (vv0 zy3 z_int yl2 (xa0 (yj0 q_gt (ya0 1) wa0) va0)))) va0)))) (ua0 (zd0 (sb0 (q_eq (hu64 hr)) (ya0 2) wa0) (xb0 (yc0 (ub0 (xa0 wb0 (xa0 (xd0 uv0 (zc0 (c_q11.mono l_q11) hr (xa0 (ya0 0) (xa0 wa0 va0))) wa0) va0))))) tb0) (ua0 (zd0 (sb0 (q_eq (hu64 hr)) (ya0 2) wa0) (xb0 (yc0 (ub0 (xa0 wb0 (xa0 (xd0 uv0 (zc0 (c_q11.mono l_q11) hr (xa0 (ya0 0) (xa0 wa0 va0))) wa0) va0))))) tb0) (ua0 (zd0 (sb0 q_lt (ya0 2) wa0) (xb0 (yc0 (ub0 (xa0 wb0 (xa0 (zc0 (c_q11.mono l_q11) hr (xa0 (ya0 0) (xa0 wa0 va0))) va0))))) tb0) (xb0 (yc0 (ub0 (xa0 wb0 (xa0 (zc0 (c_q11.mono l_q11) hr (xa0 (ya0 0) (xa0 wa0 va0))) (xa0 (zc0 (c_q3.mono l_q3) hr (xa0 (ya0 0) (xa0 (xd0 uv0 (ya0 1) wa0) (xa0 (zc0 (c_q11.mono l_q11) hr (xa0 (ya0 0) (xa0 wa0 va0))) va0)))) va0))))))))))
theorem sc_q3:FnScope N_q3 ["state", "deep", "many"] (ta0 s_q3):=⟨rfl,rfl,rfl,by decide +kernel,rfl,by decide +kernel,by decide +kernel⟩
theorem tv3 {k:Nat} {f:Addr} {cdv:Value} {A:Around} {outer:List Env} {s:Shared} {H:Hp} {E:XK} {sp_q2:Sp3} {k_q2:Nat} (c_q2:Cal P w K mg base k_q2 "_law_deed" ["state", "deep"] sp_q2) (l_q2:k_q2<=k) {sp_q11:Sp3} {k_q11:Nat} (c_q11:Cal P w K mg base k_q11 "_law_take" ["state", "many"] sp_q11) (l_q11:k_q11<=k) (z_range:mg "range" = none) (z_tuple:mg "tuple" = none) (hr:Room k (A.deeper (envOfC "_law_deeds" (ta0 s_q3) s.heap.objs.size f cdv))) :
    RSs (cxOf CX0 P w K mg base N_q3 "_law_deeds" (ta0 s_q3) f cdv A outer s H E).nox (wc0 s_q3) (t_q3 sp_q2 sp_q11) :=
 (ua0 (vc0 (i:=3) sc_q3.nd (xf0 va0)) (ua0 (tq0 PassesOwn.never rfl (so0 z_range (ya0 2)) (yg0 (i:=4) sc_q3.nd) (xb0 (zd0 (yk0 (uo0 (sb0 (q_ne (hu64 hr)) (ya0 3) (xf0 va0)) (vl0 (sb0 (q_eq (hu64 hr)) (zc0 (c_q11.mono l_q11) hr (xa0 (ya0 0) (xa0 wa0 va0))) wa0)))) (xb0 (ul0 (tr0 (ya0 3) (xa0 (vb0 q_ix (ya0 3) (zp1 wp1 wa0)) va0)))) (xb0 (zd0 (yk0 (uo0 (sb0 (q_ne (hu64 hr)) (ya0 3) (xf0 va0)) (uo0 (sb0 (q_eq (hu64 hr)) (vb0 q_ix (vb0 q_ix (ya0 3) (zp1 wp1 wa0)) wa0) wb0) (vl0 (sb0 (q_eq (hu64 hr)) (zc0 (c_q11.mono l_q11) hr (xa0 (ya0 0) (xa0 wa0 va0))) wa0))))) (xb0 (vc0 (i:=3) sc_q3.nd (xd0 te0 (ya0 3) (xf0 (xa0 (ub0 (xa0 wb0 (xa0 (xd0 uv0 wa0 (vb0 q_ix (vb0 q_ix (ya0 3) (zp1 wp1 wa0)) wa0)) va0))) (xa0 (vb0 q_ix (ya0 3) (zp1 wp1 wa0)) va0)))))) (xb0 (ul0 (tr0 (ya0 3) (xa0 (zc0 (c_q2.mono l_q2) hr (xa0 (ya0 0) (xa0 (ya0 1) va0))) va0))))))))) (xb0 (yc0 (vv0 uo2 z_tuple wc1 (xa0 (ya0 3) va0))))))
theorem su3:FnScope N_q6 ["deed"] (ta0 s_q6):=⟨rfl,rfl,rfl,by decide +kernel,rfl,by decide +kernel,by decide +kernel⟩
theorem wv3 {k:Nat} {f:Addr} {cdv:Value} {A:Around} {outer:List Env} {s:Shared} {H:Hp} {E:XK} (hr:Room k (A.deeper (envOfC "_law_idle" (ta0 s_q6) s.heap.objs.size f cdv))) :
    RSs (cxOf CX0 P w K mg base N_q6 "_law_idle" (ta0 s_q6) f cdv A outer s H E).nox (wc0 s_q6) (t_q6) :=
 (ua0 (zd0 (sb0 (q_eq (hu64 hr)) (vb0 q_ix (ya0 0) wa0) wb0) (xb0 (yc0 (yj0 (q_eq (hu64 hr)) (xd0 ze1 (vb0 q_ix (ya0 0) wa0) wa0) wa0))) tb0) (xb0 (yc0 (xh3 (yj0 (q_eq (hu64 hr)) (vb0 q_ix (ya0 0) wa0) wa0) (xz0 (xk1 (yj0 (q_eq (hu64 hr)) (vb0 q_ix (ya0 0) wa0) wb0) (xz0 (yj0 (q_eq (hu64 hr)) (vb0 q_ix (ya0 0) wa0) (ub0 va0)))))))))
theorem sc_q1:FnScope N_q1 ["deeds", "at", "step"] (ta0 s_q1):=⟨rfl,rfl,rfl,by decide +kernel,rfl,by decide +kernel,by decide +kernel⟩
theorem xw3 {k:Nat} {f:Addr} {cdv:Value} {A:Around} {outer:List Env} {s:Shared} {H:Hp} {E:XK} {sp_q6:Sp3} {k_q6:Nat} (c_q6:Cal P w K mg base k_q6 "_law_idle" ["deed"] sp_q6) (l_q6:k_q6<=k) (z_len:mg "len" = none) (hr:Room k (A.deeper (envOfC "_law_change" (ta0 s_q1) s.heap.objs.size f cdv))) :
    RSs (cxOf CX0 P w K mg base N_q1 "_law_change" (ta0 s_q1) f cdv A outer s H E).nox (wc0 s_q1) (t_q1 sp_q6) :=
 (ua0 (vc0 (i:=3) sc_q1.nd (sc0 q_sl (ya0 0) (yd0 (ya0 1)) wd0)) (ua0 (vc0 (i:=4) sc_q1.nd (vb0 q_ix (ya0 2) wa0)) (ua0 (zd0 (sb0 (q_eq (hu64 hr)) (ya0 4) wb0) (xb0 (yc0 (xe1 (zl0 (zc0 (c_q6.mono l_q6) hr (xa0 (vb0 q_ix (ya0 2) wa0) va0))) (ub0 (xa0 wa0 (xa0 (ub0 (xa0 (vb0 q_ix (ya0 2) wa0) va0)) va0))) wh0))) tb0) (ua0 (zd0 (sb0 (q_eq (hu64 hr)) (ya0 4) wb0) (ua0 (zd0 (yk0 (zq0 (sb0 q_lt (vb0 q_ix (ya0 2) wa0) wa0) (zm0 (sb0 q_gt (vb0 q_ix (ya0 2) wa0) (vd0 xp0 z_len ui0 (xa0 (ya0 3) va0)))))) (xb0 (yc0 wh0)) tb0) (xb0 (yc0 (ub0 (xa0 (vb0 q_ix (ya0 2) wa0) (xa0 (ub0 (xa0 (ub0 (xa0 wb0 (xa0 wa0 (xa0 (sc0 q_sl (ya0 3) wd0 (yd0 (vb0 q_ix (ya0 2) wa0))) va0)))) va0)) va0)))))) tb0) (ua0 (zd0 (sb0 (q_eq (hu64 hr)) (ya0 3) (ub0 va0)) (xb0 (yc0 wh0)) tb0) (ua0 (vc0 (i:=5) sc_q1.nd (vb0 q_ix (ya0 3) wa0)) (ua0 (zd0 (sb0 (q_eq (hu64 hr)) (ya0 4) wb0) (xb0 (yc0 (xe1 (zl0 (zc0 (c_q6.mono l_q6) hr (xa0 (ya0 5) va0))) (ub0 (xa0 wa0 (xa0 (ub0 va0) va0))) wh0))) tb0) (ua0 (zd0 (sb0 (q_eq (hu64 hr)) (ya0 4) wb0) (xb0 (yc0 (xe1 (sb0 (q_eq (hu64 hr)) (sc0 q_sl (ya0 5) wd0 (yd0 wa0)) (ub0 (xa0 wb0 (xa0 wa0 va0)))) (ub0 (xa0 wa0 (xa0 (vb0 q_ix (ya0 5) wa0) va0))) wh0))) tb0) (ua0 (zd0 (sb0 (q_eq (hu64 hr)) (ya0 4) wb0) (xb0 (yc0 (xe1 (sb0 (q_eq (hu64 hr)) (vb0 q_ix (ya0 5) wa0) wb0) (ub0 (xa0 wa0 (xa0 (ub0 (xa0 (ya0 5) (xa0 (ub0 (xa0 wb0 (xa0 (xd0 uv0 wa0 (vb0 q_ix (ya0 5) wa0)) va0))) (xa0 (ya0 5) va0)))) va0))) wh0))) tb0) (ua0 (zd0 (sb0 (q_eq (hu64 hr)) (ya0 4) wb0) (ua0 (zd0 (yk0 (uo0 (sb0 (q_in (hu65 hr)) (vb0 q_ix (ya0 5) wa0) (xf0 (xa0 wb0 (xa0 wb0 va0)))) (vl0 (to0 (ua1 q_le q_le wa0 (vb0 q_ix (ya0 2) wa0) (vb0 q_ix (ya0 5) wa0)))))) (xb0 (yc0 wh0)) tb0) (xb0 (yc0 (ub0 (xa0 wa0 (xa0 (ub0 (xa0 (xd0 te0 (ub0 (xa0 (vb0 q_ix (ya0 5) wa0) (xa0 (vb0 q_ix (ya0 2) wa0) va0))) (sc0 q_sl (ya0 5) (yd0 wa0) wd0)) (xa0 (xd0 te0 (ub0 (xa0 (vb0 q_ix (ya0 5) wa0) (xa0 (xd0 uv0 (vb0 q_ix (ya0 5) wa0) (vb0 q_ix (ya0 2) wa0)) va0))) (sc0 q_sl (ya0 5) (yd0 wa0) wd0)) va0))) va0)))))) tb0) (ua0 (zd0 (sb0 (q_eq (hu64 hr)) (ya0 4) wb0) (ua0 (vc0 (i:=6) sc_q1.nd (xk1 (yj0 (q_eq (hu64 hr)) (vb0 q_ix (ya0 5) wa0) wb0) (xz0 (yj0 (q_eq (hu64 hr)) (sc0 q_sl (ya0 3) (yd0 wa0) (yd0 wa0)) (ub0 (xa0 (ub0 (xa0 wb0 (xa0 (xd0 uv0 wa0 (vb0 q_ix (ya0 5) wa0)) va0))) (xa0 (ya0 5) va0))))))) (xb0 (yc0 (xe1 (zl0 (ya0 6)) (ub0 (xa0 wa0 (xa0 (ub0 (xa0 (ya0 5) va0)) va0))) wh0)))) tb0) (ua0 (zd0 (yk0 (zq0 (sb0 q_lt (vd0 xp0 z_len ui0 (xa0 (ya0 3) va0)) wa0) (zq0 (sb0 (q_ne (hu64 hr)) (vb0 q_ix (vb0 q_ix (ya0 3) wa0) wa0) (vb0 q_ix (ya0 5) wa0)) (zm0 (sb0 (q_ne (hu64 hr)) (sc0 q_sl (vb0 q_ix (ya0 3) wa0) (yd0 wa0) wd0) (sc0 q_sl (ya0 5) (yd0 wa0) wd0)))))) (xb0 (yc0 wh0)) tb0) (xb0 (yc0 (ub0 (xa0 wa0 (xa0 (ub0 (xa0 (xd0 te0 (ub0 (xa0 (vb0 q_ix (ya0 5) wa0) (xa0 (xd0 te0 (vb0 q_ix (ya0 5) wa0) (vb0 q_ix (vb0 q_ix (ya0 3) wa0) wa0)) va0))) (sc0 q_sl (ya0 5) (yd0 wa0) wd0)) va0)) va0)))))))))))))))))
theorem sc_q0:FnScope N_q0 ["deeds", "step"] (ta0 s_q0):=⟨rfl,rfl,rfl,by decide +kernel,rfl,by decide +kernel,by decide +kernel⟩
theorem yw3 {k:Nat} {f:Addr} {cdv:Value} {A:Around} {outer:List Env} {s:Shared} {H:Hp} {E:XK} {sp_q0:Sp3} {k_q0:Nat} (c_q0:Cal P w K mg base k_q0 "_law_after" ["deeds", "step"] sp_q0) (l_q0:k_q0<=k) {sp_q1:Sp3} {k_q1:Nat} (c_q1:Cal P w K mg base k_q1 "_law_change" ["deeds", "at", "step"] sp_q1) (l_q1:k_q1<=k) (z_len:mg "len" = none) (hr:Room k (A.deeper (envOfC "_law_after" (ta0 s_q0) s.heap.objs.size f cdv))) :
    RSs (cxOf CX0 P w K mg base N_q0 "_law_after" (ta0 s_q0) f cdv A outer s H E).nox (wc0 s_q0) (t_q0 sp_q0 sp_q1) :=
 (ua0 (zd0 (sb0 (q_ne (hu64 hr)) (vb0 q_ix (ya0 1) wa0) (ub0 va0)) (ua0 (vc0 (i:=2) sc_q0.nd (vb0 q_ix (vb0 q_ix (ya0 1) wa0) wa0)) (ua0 (zd0 (yk0 (zq0 (to0 (ua1 q_le q_lt wa0 (ya0 2) (vd0 xp0 z_len ui0 (xa0 (ya0 0) va0)))) (zm0 (sb0 (q_ne (hu64 hr)) (vb0 q_ix (vb0 q_ix (ya0 0) (ya0 2)) wa0) wb0)))) (xb0 (yc0 wh0)) tb0) (ua0 (vc0 (i:=3) sc_q0.nd (zc0 (c_q0.mono l_q0) hr (xa0 (vb0 q_ix (vb0 q_ix (ya0 0) (ya0 2)) wa0) (xa0 (xd0 te0 (ub0 (xa0 (vb0 q_ix (ya0 1) wa0) (xa0 (sc0 q_sl (vb0 q_ix (ya0 1) wa0) (yd0 wa0) wd0) va0))) (sc0 q_sl (ya0 1) (yd0 wa0) wd0)) va0)))) (ua0 (zd0 (sb0 so2 (ya0 3) wh0) (xb0 (yc0 wh0)) tb0) (xb0 (yc0 (xd0 te0 (xd0 te0 (sc0 q_sl (ya0 0) wd0 (yd0 (ya0 2))) (ub0 (xa0 (ub0 (xa0 wb0 (xa0 (vb0 q_ix (vb0 q_ix (ya0 0) (ya0 2)) wa0) (xa0 (ya0 3) va0)))) va0))) (sc0 q_sl (ya0 0) (yd0 (xd0 te0 (ya0 2) wa0)) wd0)))))))) tb0) (ua0 (vc0 (i:=2) sc_q0.nd (vb0 q_ix (ya0 1) wa0)) (ua0 (zd0 (to0 (ua1 q_le q_le wa0 (ya0 2) (vd0 xp0 z_len ui0 (xa0 (ya0 0) va0)))) (xb0 (yc0 wh0)) tb0) (ua0 (vc0 (i:=4) sc_q0.nd (zc0 (c_q1.mono l_q1) hr (xa0 (ya0 0) (xa0 (ya0 2) (xa0 (ya0 1) va0))))) (ua0 (zd0 (sb0 so2 (ya0 4) wh0) (xb0 (yc0 wh0)) tb0) (xb0 (yc0 (xd0 te0 (xd0 te0 (sc0 q_sl (ya0 0) wd0 (yd0 (ya0 2))) (vb0 q_ix (ya0 4) wa0)) (sc0 q_sl (ya0 0) (yd0 (xd0 te0 (ya0 2) (vb0 q_ix (ya0 4) wa0))) wd0)))))))))
theorem sc_q8:FnScope N_q8 ["deeds"] (ta0 s_q8):=⟨rfl,rfl,rfl,by decide +kernel,rfl,by decide +kernel,by decide +kernel⟩
theorem yv3 {k:Nat} {f:Addr} {cdv:Value} {A:Around} {outer:List Env} {s:Shared} {H:Hp} {E:XK} {sp_q8:Sp3} {k_q8:Nat} (c_q8:Cal P w K mg base k_q8 "_law_size" ["deeds"] sp_q8) (l_q8:k_q8<=k) (z_max:mg "max" = none) (hr:Room k (A.deeper (envOfC "_law_size" (ta0 s_q8) s.heap.objs.size f cdv))) :
    RSs (cxOf CX0 P w K mg base N_q8 "_law_size" (ta0 s_q8) f cdv A outer s H E).nox (wc0 s_q8) (t_q8 sp_q8) :=
 (ua0 (vc0 (i:=1) sc_q8.nd (xf0 (xa0 wa0 (xa0 wa0 va0)))) (ua0 (tq0 PassesOwn.never rfl (sy0 (ya0 0)) (yg0 (i:=2) sc_q8.nd) (ua0 (vc0 (i:=3) sc_q8.nd (xf0 (xa0 wa0 (xa0 wa0 va0)))) (ua0 (zd0 (sb0 (q_eq (hu64 hr)) (vb0 q_ix (ya0 2) wa0) wb0) (ua0 (vc0 (i:=3) sc_q8.nd (zc0 (c_q8.mono l_q8) hr (xa0 (vb0 q_ix (ya0 2) wa0) va0))) (xb0 (vc0 (i:=3) sc_q8.nd (xf0 (xa0 (xd0 uv0 (vb0 q_ix (ya0 3) wa0) wa0) (xa0 (xd0 te0 (vb0 q_ix (ya0 3) wa0) wa0) va0)))))) tb0) (xb0 (vc0 (i:=1) sc_q8.nd (xf0 (xa0 (xd0 te0 (xd0 te0 (vb0 q_ix (ya0 1) wa0) wa0) (vb0 q_ix (ya0 3) wa0)) (xa0 (vd0 (q_mx rfl) z_max wt3 (xa0 (vb0 q_ix (ya0 1) wa0) (xa0 (vb0 q_ix (ya0 3) wa0) va0))) va0)))))))) (xb0 (yc0 (ya0 1)))))
theorem sc_q5:FnScope N_q5 ["deeds"] (ta0 s_q5):=⟨rfl,rfl,rfl,by decide +kernel,rfl,by decide +kernel,by decide +kernel⟩
theorem vv3 {k:Nat} {f:Addr} {cdv:Value} {A:Around} {outer:List Env} {s:Shared} {H:Hp} {E:XK} {sp_q5:Sp3} {k_q5:Nat} (c_q5:Cal P w K mg base k_q5 "_law_fits" ["deeds"] sp_q5) (l_q5:k_q5<=k) {sp_q8:Sp3} {k_q8:Nat} (c_q8:Cal P w K mg base k_q8 "_law_size" ["deeds"] sp_q8) (l_q8:k_q8<=k) (z_abs:mg "abs" = none) (hr:Room k (A.deeper (envOfC "_law_fits" (ta0 s_q5) s.heap.objs.size f cdv))) :
    RSs (cxOf CX0 P w K mg base N_q5 "_law_fits" (ta0 s_q5) f cdv A outer s H E).nox (wc0 s_q5) (t_q5 sp_q5 sp_q8) :=
 (ua0 (ty0 (zc0 (c_q8.mono l_q8) hr (xa0 (ya0 0) va0)) (tg3 rfl (sp0 (yg0 (i:=1) sc_q5.nd) (sp0 (yg0 (i:=2) sc_q5.nd) yh1)))) (ua0 (tq0 PassesOwn.never rfl (sy0 (ya0 0)) (yg0 (i:=3) sc_q5.nd) (xb0 (zd0 (yk0 (zq0 (sb0 q_ge (vd0 yl3 z_abs zl2 (xa0 (vb0 q_ix (ya0 3) wa0) va0)) (xd0 sb2 wa0 wa0)) (zm0 (yk0 (uo0 (sb0 (q_eq (hu64 hr)) (vb0 q_ix (ya0 3) wa0) wb0) (vl0 (to0 (zl0 (zc0 (c_q5.mono l_q5) hr (xa0 (vb0 q_ix (ya0 3) wa0) va0)))))))))) (xb0 (yc0 xh0)) tb0))) (xb0 (yc0 (xk1 (yj0 q_le (ya0 1) wa0) (xz0 (yj0 q_le (ya0 2) wa0)))))))
theorem sc_q13:FnScope sh2 ["state", "deeds"] (ta0 uo1):=⟨rfl,rfl,rfl,by decide +kernel,rfl,by decide +kernel,by decide +kernel⟩
theorem zg3 {k:Nat} {f:Addr} {cdv:Value} {A:Around} {outer:List Env} {s:Shared} {H:Hp} {E:XK} {sp_q11:Sp3} {k_q11:Nat} (c_q11:Cal P w K mg base k_q11 "_law_take" ["state", "many"] sp_q11) (l_q11:k_q11<=k) {sp_q13:Sp3} {k_q13:Nat} (c_q13:Cal P w K mg base k_q13 "_law_way" ["state", "deeds"] sp_q13) (l_q13:k_q13<=k) (z_len:mg "len" = none) (z_range:mg "range" = none) (hr:Room k (A.deeper (envOfC "_law_way" (ta0 uo1) s.heap.objs.size f cdv))) :
    RSs (cxOf CX0 P w K mg base sh2 "_law_way" (ta0 uo1) f cdv A outer s H E).nox (wc0 uo1) (vm2 sp_q11 sp_q13) :=
 (ua0 (zb2 (i:=2) sc_q13.nd (NN:=["at", "deeds"]) (js:=[none,some 1]) rfl wt2 (so0 z_range (vd0 xp0 z_len ui0 (xa0 (ya0 1) va0))) (λ _ _ _ _ _=>(yg0 (i:=0) (show List.Nodup (["at", "deeds"]:List Str) by decide +kernel))) (λ _ _ _ _ _=>(sn2 (sb0 (q_eq (hu64 hr)) (vb0 q_ix (vb0 q_ix (ya0 1) (ya0 0)) wa0) wb0))) (λ _ _ _ _ _=>(ya0 0)) (by intro _; rfl)) (ua0 (zd0 (yk0 (zq0 (sb0 (q_eq (hu64 hr)) (ya0 2) (xf0 va0)) (zm0 (sb0 (q_eq (hu64 hr)) (zc0 (c_q11.mono l_q11) hr (xa0 (ya0 0) (xa0 wa0 va0))) wa0)))) (xb0 (yc0 (ub0 (xa0 (ub0 va0) (xa0 (ya0 1) va0))))) tb0) (ua0 (vc0 (i:=3) sc_q13.nd (vb0 q_ix (ya0 2) (zc0 (c_q11.mono l_q11) hr (xa0 (ya0 0) (xa0 (vd0 xp0 z_len ui0 (xa0 (ya0 2) va0)) va0))))) (ua0 (ty0 (zc0 (c_q13.mono l_q13) hr (xa0 (ya0 0) (xa0 (vb0 q_ix (vb0 q_ix (ya0 1) (ya0 3)) wa0) va0))) (ti2 rfl (sp0 (yg0 (i:=4) sc_q13.nd) (sp0 (yg0 (i:=5) sc_q13.nd) yh1)))) (xb0 (yc0 (ub0 (xa0 (xd0 te0 (ub0 (xa0 (ya0 3) va0)) (ya0 4)) (xa0 (ya0 5) va0)))))))))
theorem sc_q10:FnScope zx2 ["state", "deeds"] (ta0 xp1):=⟨rfl,rfl,rfl,by decide +kernel,rfl,by decide +kernel,by decide +kernel⟩
theorem ug3 {k:Nat} {f:Addr} {cdv:Value} {A:Around} {outer:List Env} {s:Shared} {H:Hp} {E:XK} {sp_q0:Sp3} {k_q0:Nat} (c_q0:Cal P w K mg base k_q0 "_law_after" ["deeds", "step"] sp_q0) (l_q0:k_q0<=k) {sp_q7:Sp3} {k_q7:Nat} (c_q7:Cal P w K mg base k_q7 "_law_idle_one" ["state"] sp_q7) (l_q7:k_q7<=k) {sp_q11:Sp3} {k_q11:Nat} (c_q11:Cal P w K mg base k_q11 "_law_take" ["state", "many"] sp_q11) (l_q11:k_q11<=k) {sp_q13:Sp3} {k_q13:Nat} (c_q13:Cal P w K mg base k_q13 "_law_way" ["state", "deeds"] sp_q13) (l_q13:k_q13<=k) (z_len:mg "len" = none) (z_range:mg "range" = none) (hr:Room k (A.deeper (envOfC "_law_step" (ta0 xp1) s.heap.objs.size f cdv))) :
    RSs (cxOf CX0 P w K mg base zx2 "_law_step" (ta0 xp1) f cdv A outer s H E).nox (wc0 xp1) (xa3 sp_q0 sp_q7 sp_q11 sp_q13) :=
 (ua0 (ty0 (zc0 (c_q13.mono l_q13) hr (xa0 (ya0 0) (xa0 (ya0 1) va0))) (ti2 rfl (sp0 (yg0 (i:=2) sc_q10.nd) (sp0 (yg0 (i:=3) sc_q10.nd) yh1)))) (ua0 (vc0 (i:=4) sc_q10.nd (xf0 (xa0 wb0 (xa0 wb0 (xa0 wb0 (xa0 wb0 (xa0 wb0 (xa0 wb0 (xa0 wb0 (xa0 wb0 va0)))))))))) (ua0 (vc0 (i:=5) sc_q10.nd (xf0 va0)) (ua0 (tq0 PassesOwn.never rfl (sy0 (ya0 4)) (yg0 (i:=6) sc_q10.nd) (xb0 (tq0 PassesOwn.never rfl (so0 z_range (xd0 te0 (vd0 xp0 z_len ui0 (xa0 (ya0 3) va0)) wa0)) (yg0 (i:=7) sc_q10.nd) (ua0 (vc0 (i:=8) sc_q10.nd (ub0 (xa0 (ya0 6) (xa0 (ya0 2) (xa0 (ya0 7) va0))))) (ua0 (zd0 (sb0 (q_in (hu65 hr)) (ya0 6) (xf0 (xa0 wb0 (xa0 wb0 va0)))) (xb0 (vc0 (i:=8) sc_q10.nd (xd0 te0 (ya0 8) (ub0 (xa0 (zc0 (c_q11.mono l_q11) hr (xa0 (ya0 0) (xa0 wa0 va0))) va0))))) tb0) (ua0 (zd0 (sb0 (q_eq (hu64 hr)) (ya0 6) wb0) (xb0 (vc0 (i:=8) sc_q10.nd (xd0 te0 (ya0 8) (ub0 (xa0 (zc0 (c_q7.mono l_q7) hr (xa0 (ya0 0) va0)) va0))))) tb0) (xb0 (zd0 (sb0 xc2 (zc0 (c_q0.mono l_q0) hr (xa0 (ya0 1) (xa0 (ya0 8) va0))) wh0) (xb0 (ul0 (tr0 (ya0 5) (xa0 (ya0 8) va0)))) tb0)))))))) (xb0 (yc0 (vb0 q_ix (ya0 5) (zc0 (c_q11.mono l_q11) hr (xa0 (ya0 0) (xa0 (vd0 xp0 z_len ui0 (xa0 (ya0 5) va0)) va0))))))))))
theorem sc_q7:FnScope N_q7 ["state"] (ta0 s_q7):=⟨rfl,rfl,rfl,by decide +kernel,rfl,by decide +kernel,by decide +kernel⟩
theorem zv3 {k:Nat} {f:Addr} {cdv:Value} {A:Around} {outer:List Env} {s:Shared} {H:Hp} {E:XK} {sp_q11:Sp3} {k_q11:Nat} (c_q11:Cal P w K mg base k_q11 "_law_take" ["state", "many"] sp_q11) (l_q11:k_q11<=k) (hr:Room k (A.deeper (envOfC "_law_idle_one" (ta0 s_q7) s.heap.objs.size f cdv))) :
    RSs (cxOf CX0 P w K mg base N_q7 "_law_idle_one" (ta0 s_q7) f cdv A outer s H E).nox (wc0 s_q7) (t_q7 sp_q11) :=
 (ua0 (vc0 (i:=1) sc_q7.nd (xf0 (xa0 (ub0 (xa0 wb0 (xa0 wa0 va0))) (xa0 (ub0 (xa0 wb0 (xa0 wa0 va0))) (xa0 (ub0 (xa0 wb0 (xa0 (xd0 uv0 (xd0 ta1 wa0 (zc0 (c_q11.mono l_q11) hr (xa0 (ya0 0) (xa0 wa0 va0)))) wa0) va0))) (xa0 (ub0 (xa0 wb0 (xa0 wa0 (xa0 (ub0 (xa0 (ub0 (xa0 wb0 (xa0 wa0 va0))) va0)) va0)))) va0)))))) (xb0 (yc0 (vb0 q_ix (xd0 te0 (ya0 1) (xf0 (xa0 (ub0 (xa0 wb0 (xa0 (zc0 (c_q11.mono l_q11) hr (xa0 (ya0 0) (xa0 wa0 va0))) (xa0 (ub0 va0) va0)))) va0))) (zc0 (c_q11.mono l_q11) hr (xa0 (ya0 0) (xa0 wa0 va0)))))))
theorem sc_q14:FnScope th2 ["e"] (ta0 vo1):=⟨rfl,rfl,rfl,by decide +kernel,rfl,by decide +kernel,by decide +kernel⟩
theorem yg3 {k:Nat} {f:Addr} {cdv:Value} {A:Around} {outer:List Env} {s:Shared} {H:Hp} {E:XK} {C_BadNote:Addr} (m_BadNote:mg "BadNote" = some (.ref C_BadNote)) (x_BadNote:∀ c C b,subX "BadNote" c=some b->PySem.W.nsIn K mainGlobals c=some (some (.ref C))->ExcK K C /\ PySem.W.kitOne K (.ref C) (.ref C_BadNote)=some b) {C_NoNumber:Addr} (m_NoNumber:mg "NoNumber" = some (.ref C_NoNumber)) (x_NoNumber:∀ c C b,subX "NoNumber" c=some b->PySem.W.nsIn K mainGlobals c=some (some (.ref C))->ExcK K C /\ PySem.W.kitOne K (.ref C) (.ref C_NoNumber)=some b) {C_NoPicture:Addr} (m_NoPicture:mg "NoPicture" = some (.ref C_NoPicture)) (x_NoPicture:∀ c C b,subX "NoPicture" c=some b->PySem.W.nsIn K mainGlobals c=some (some (.ref C))->ExcK K C /\ PySem.W.kitOne K (.ref C) (.ref C_NoPicture)=some b) {C_NoRoom:Addr} (m_NoRoom:mg "NoRoom" = some (.ref C_NoRoom)) (x_NoRoom:∀ c C b,subX "NoRoom" c=some b->PySem.W.nsIn K mainGlobals c=some (some (.ref C))->ExcK K C /\ PySem.W.kitOne K (.ref C) (.ref C_NoRoom)=some b) {C_NoStep:Addr} (m_NoStep:mg "NoStep" = some (.ref C_NoStep)) (x_NoStep:∀ c C b,subX "NoStep" c=some b->PySem.W.nsIn K mainGlobals c=some (some (.ref C))->ExcK K C /\ PySem.W.kitOne K (.ref C) (.ref C_NoStep)=some b) {C_NoWord:Addr} (m_NoWord:mg "NoWord" = some (.ref C_NoWord)) (x_NoWord:∀ c C b,subX "NoWord" c=some b->PySem.W.nsIn K mainGlobals c=some (some (.ref C))->ExcK K C /\ PySem.W.kitOne K (.ref C) (.ref C_NoWord)=some b) (x_ValueError:∀ c C b,subX "ValueError" c=some b->PySem.W.nsIn K mainGlobals c=some (some (.ref C))->ExcK K C /\ PySem.W.kitOne K (.ref C) (.type "ValueError")=some b) (z_ValueError:mg "ValueError" = none) (z_isinstance:mg "isinstance" = none) (hr:RoomM k (A.deeper (envOfC "_law_which" (ta0 vo1) s.heap.objs.size f cdv))) :
    RSs (cxM CX0 P w K mg base th2 "_law_which" (ta0 vo1) f cdv A outer s H E).nox (wc0 vo1) (wm2) :=
 (ua0 (vc0 (i:=1) sc_q14.nd (xf0 (xa0 (wv0 (ya0 0) (zz0 rfl m_NoWord) (λ _ h=>h) x_NoWord z_isinstance) (xa0 (wv0 (ya0 0) (zz0 rfl m_NoPicture) (λ _ h=>h) x_NoPicture z_isinstance) (xa0 (wv0 (ya0 0) (zz0 rfl m_NoRoom) (λ _ h=>h) x_NoRoom z_isinstance) (xa0 (wv0 (ya0 0) (zz0 rfl m_NoStep) (λ _ h=>h) x_NoStep z_isinstance) va0)))))) (xb0 (yc0 (xd0 te0 (ya0 1) (xf0 (xa0 (wv0 (ya0 0) (zz0 rfl m_NoNumber) (λ _ h=>h) x_NoNumber z_isinstance) (xa0 (wv0 (ya0 0) (zz0 rfl m_BadNote) (λ _ h=>h) x_BadNote z_isinstance) (xa0 (wv0 (ya0 0) (tu1 rfl z_ValueError vc1 (show RelV (.ty "ValueError") (.type "ValueError") from rfl)) (λ _ h=>h) x_ValueError z_isinstance) va0))))))))
theorem sc_q12:FnScope yx2 ["deeds", "steps"] (ta0 to1):=⟨rfl,rfl,rfl,by decide +kernel,rfl,by decide +kernel,by decide +kernel⟩
theorem wg3 {k:Nat} {f:Addr} {cdv:Value} {A:Around} {outer:List Env} {s:Shared} {H:Hp} {E:XK} {sp_q14:Sp3} {k_q14:Nat} (c_q14:CalM P w K mg base k_q14 "_law_which" ["e"] sp_q14) (l_q14:k_q14<=k) {spx_q34:XE3->Sp3} {k_q34:Nat} (c_q34:CalX P w K mg base k_q34 "walked" ["word", "steps"] spx_q34) (l_q34:k_q34<=k) {C_PenError:Addr} (m_PenError:mg "PenError" = some (.ref C_PenError)) (k2_PenError:PySem.W.kitCls K (.ref C_PenError) (.type "BaseException")=some true) (k3:PySem.W.kitCls K (.type "type") (.type "tuple")=some false) (ok_PenError:∀ c,okX c=true->∃ C,PySem.W.nsIn K mainGlobals c=some (some (.ref C)) /\ mg c=some (.ref C) /\ PySem.W.kitCls K (.ref C) (.ref C_PenError)=some true) (hr:Room k (A.deeper (envOfC "_law_told" (ta0 to1) s.heap.objs.size f cdv))) :
    RSs (cxOf CX0 P w K mg base yx2 "_law_told" (ta0 to1) f cdv A outer s H E).nox (wc0 to1) (sz2 sp_q14 spx_q34) :=
 (ua0 (vc0 (i:=2) sc_q12.nd (xf0 va0)) (ua0 (yo2 (i:=3) (j:=2) (c_q34.mono l_q34) hr (xa0 (ya0 0) (xa0 (ya0 1) va0)) (λ _=>(xb0 (vc0 (i:=2) sc_q12.nd (ub2 (c_q14.mono l_q14) (RoomM.of hr _) (xa0 (ya0 3) va0))))) sc_q12.nd m_PenError k2_PenError k3 ok_PenError) (xb0 (yc0 (ya0 2)))))
theorem sc_q4:FnScope N_q4 ["deeds", "steps"] (ta0 s_q4):=⟨rfl,rfl,rfl,by decide +kernel,rfl,by decide +kernel,by decide +kernel⟩
theorem uv3 {k:Nat} {f:Addr} {cdv:Value} {A:Around} {outer:List Env} {s:Shared} {H:Hp} {E:XK} {sp_q0:Sp3} {k_q0:Nat} (c_q0:Cal P w K mg base k_q0 "_law_after" ["deeds", "step"] sp_q0) (l_q0:k_q0<=k) {sp_q5:Sp3} {k_q5:Nat} (c_q5:Cal P w K mg base k_q5 "_law_fits" ["deeds"] sp_q5) (l_q5:k_q5<=k) (hr:Room k (A.deeper (envOfC "_law_end" (ta0 s_q4) s.heap.objs.size f cdv))) :
    RSs (cxOf CX0 P w K mg base N_q4 "_law_end" (ta0 s_q4) f cdv A outer s H E).nox (wc0 s_q4) (t_q4 sp_q0 sp_q5) :=
 (ua0 (tq0 PassesOwn.never rfl (sy0 (ya0 1)) (yg0 (i:=2) sc_q4.nd) (ua0 (vc0 (i:=0) sc_q4.nd (zc0 (c_q0.mono l_q0) hr (xa0 (ya0 0) (xa0 (ya0 2) va0)))) (xb0 (zd0 (yk0 (zq0 (sb0 so2 (ya0 0) wh0) (zm0 (to0 (zl0 (zc0 (c_q5.mono l_q5) hr (xa0 (ya0 0) va0))))))) (xb0 (yc0 wh0)) tb0)))) (xb0 (yc0 (ya0 0))))
theorem sc_q29:FnScope tv2 ["script"] (ta0 zy0):=⟨rfl,rfl,rfl,by decide +kernel,rfl,by decide +kernel,by decide +kernel⟩
theorem ye3 {k:Nat} {f:Addr} {cdv:Value} {A:Around} {outer:List Env} {s:Shared} {H:Hp} {E:XK} {sp_q0:Sp3} {k_q0:Nat} (c_q0:Cal P w K mg base k_q0 "_law_after" ["deeds", "step"] sp_q0) (l_q0:k_q0<=k) {sp_q3:Sp3} {k_q3:Nat} (c_q3:Cal P w K mg base k_q3 "_law_deeds" ["state", "deep", "many"] sp_q3) (l_q3:k_q3<=k) {sp_q4:Sp3} {k_q4:Nat} (c_q4:Cal P w K mg base k_q4 "_law_end" ["deeds", "steps"] sp_q4) (l_q4:k_q4<=k) {sp_q5:Sp3} {k_q5:Nat} (c_q5:Cal P w K mg base k_q5 "_law_fits" ["deeds"] sp_q5) (l_q5:k_q5<=k) {sp_q9:Sp3} {k_q9:Nat} (c_q9:Cal P w K mg base k_q9 "_law_state" ["script", "k"] sp_q9) (l_q9:k_q9<=k) {sp_q10:Sp3} {k_q10:Nat} (c_q10:Cal P w K mg base k_q10 "_law_step" ["state", "deeds"] sp_q10) (l_q10:k_q10<=k) {sp_q11:Sp3} {k_q11:Nat} (c_q11:Cal P w K mg base k_q11 "_law_take" ["state", "many"] sp_q11) (l_q11:k_q11<=k) {sp_q12:Sp3} {k_q12:Nat} (c_q12:Cal P w K mg base k_q12 "_law_told" ["deeds", "steps"] sp_q12) (l_q12:k_q12<=k) {spx_q26:XE3->Sp3} {k_q26:Nat} (c_q26:CalX P w K mg base k_q26 "holds" ["one", "other", "steps"] spx_q26) (l_q26:k_q26<=k) {spx_q34:XE3->Sp3} {k_q34:Nat} (c_q34:CalX P w K mg base k_q34 "walked" ["word", "steps"] spx_q34) (l_q34:k_q34<=k) (z_len:mg "len" = none) (z_list:mg "list" = none) (z_range:mg "range" = none) (hr:Room k (A.deeper (envOfC "law" (ta0 zy0) s.heap.objs.size f cdv))) :
    RSs (cxOf CX0 P w K mg base tv2 "law" (ta0 zy0) f cdv A outer s H E).nox (wc0 zy0) (vy2 sp_q0 sp_q3 sp_q4 sp_q5 sp_q9 sp_q10 sp_q11 sp_q12 spx_q26 spx_q34) :=
 (ua0 (vc0 (i:=1) sc_q29.nd (zc0 (c_q9.mono l_q9) hr (xa0 (ya0 0) (xa0 wa0 va0)))) (ua0 (vc0 (i:=2) sc_q29.nd (zc0 (c_q3.mono l_q3) hr (xa0 (ya0 1) (xa0 wa0 (xa0 (zc0 (c_q11.mono l_q11) hr (xa0 (ya0 1) (xa0 wa0 va0))) va0))))) (ua0 (zd0 (to0 (zl0 (zc0 (c_q5.mono l_q5) hr (xa0 (ya0 2) va0)))) (xb0 (vc0 (i:=2) sc_q29.nd (sc0 q_sl (ya0 2) wd0 (yd0 wa0)))) tb0) (ua0 (vc0 (i:=3) sc_q29.nd (xf0 va0)) (ua0 (vc0 (i:=4) sc_q29.nd (ya0 2)) (ua0 (tq0 PassesOwn.never rfl (so0 z_range (zc0 (c_q11.mono l_q11) hr (xa0 (ya0 1) (xa0 wa0 va0)))) (yg0 (i:=5) sc_q29.nd) (ua0 (vc0 (i:=6) sc_q29.nd (zc0 (c_q10.mono l_q10) hr (xa0 (ya0 1) (xa0 (ya0 4) va0)))) (xb0 (zd0 (zl0 (zc0 (c_q5.mono l_q5) hr (xa0 (zc0 (c_q0.mono l_q0) hr (xa0 (ya0 4) (xa0 (ya0 6) va0))) va0))) (ua0 (ul0 (tr0 (ya0 3) (xa0 (ya0 6) va0))) (xb0 (vc0 (i:=4) sc_q29.nd (zc0 (c_q0.mono l_q0) hr (xa0 (ya0 4) (xa0 (ya0 6) va0)))))) tb0)))) (ua0 (vc0 (i:=7) sc_q29.nd (vv0 xl3 z_list wu2 (xa0 (ya0 3) va0))) (ua0 (zd0 (yk0 (zq0 (sb0 (q_ne (hu64 hr)) (vm0 (c_q34.mono l_q34) hr (xa0 (ya0 2) (xa0 (ya0 7) va0))) (ya0 4)) (zq0 (sb0 (q_ne (hu64 hr)) (ya0 7) (ya0 3)) (zm0 (sb0 yk1 (vm0 (c_q26.mono l_q26) hr (xa0 (ya0 2) (xa0 (ya0 4) (xa0 (ya0 7) va0)))) xh0))))) (xb0 (yc0 xh0)) tb0) (ua0 (zd0 (sb0 yk1 (vm0 (c_q26.mono l_q26) hr (xa0 (ya0 2) (xa0 (ub0 (xa0 (ub0 (xa0 wb0 (xa0 (xd0 sb2 wa0 wa0) va0))) va0)) (xa0 (ya0 7) va0)))) xh0) (xb0 (yc0 xh0)) tb0) (ua0 (vc0 (i:=8) sc_q29.nd (zc0 (c_q11.mono l_q11) hr (xa0 (ya0 1) (xa0 (xd0 te0 (vd0 xp0 z_len ui0 (xa0 (ya0 3) va0)) wa0) va0)))) (ua0 (vc0 (i:=9) sc_q29.nd (xd0 te0 (sc0 q_sl (ya0 3) wd0 (yd0 (ya0 8))) (sc0 q_sl (ya0 3) (yd0 (xd0 te0 (ya0 8) wa0)) wd0))) (ua0 (zd0 (sb0 (q_ne (hu64 hr)) (vm0 (c_q26.mono l_q26) hr (xa0 (ya0 2) (xa0 (ya0 4) (xa0 (ya0 9) va0)))) (yj0 (q_eq (hu64 hr)) (zc0 (c_q4.mono l_q4) hr (xa0 (ya0 2) (xa0 (ya0 9) va0))) (ya0 4))) (xb0 (yc0 xh0)) tb0) (ua0 (vc0 (i:=10) sc_q29.nd (xd0 ta1 (ub0 (xa0 (ub0 (xa0 wb0 (xa0 wa0 va0))) va0)) wa0)) (ua0 (vc0 (i:=11) sc_q29.nd (xf0 (xa0 (ub0 (xa0 wb0 (xa0 (ub0 va0) (xa0 wa0 (xa0 (ub0 (xa0 wb0 (xa0 wa0 va0))) va0))))) va0))) (ua0 (zd0 (yk0 (zq0 (sb0 (q_ne (hu64 hr)) (zc0 (c_q12.mono l_q12) hr (xa0 (ya0 10) (xa0 (ya0 11) va0))) (xf0 (xa0 xh0 (xa0 xh0 (xa0 xh0 (xa0 xh0 (xa0 xh0 (xa0 xh0 (xa0 xh0 va0))))))))) (zm0 (zl0 (vm0 (c_q26.mono l_q26) hr (xa0 (ya0 10) (xa0 (ya0 10) (xa0 (ya0 11) va0)))))))) (xb0 (yc0 xh0)) tb0) (ua0 (vc0 (i:=12) sc_q29.nd (ub0 (xa0 (ub0 (xa0 wb0 (xa0 wa0 va0))) va0))) (ua0 (tq0 PassesOwn.never rfl (so0 z_range wa0) (yg0 (i:=5) sc_q29.nd) (xb0 (vc0 (i:=12) sc_q29.nd (ub0 (xa0 (ub0 (xa0 wb0 (xa0 wa0 (xa0 (ya0 12) va0)))) va0))))) (ua0 (vc0 (i:=11) sc_q29.nd (xf0 (xa0 (ub0 (xa0 wb0 (xa0 (ub0 va0) (xa0 wa0 (xa0 wa0 va0))))) va0))) (ua0 (zd0 (yk0 (zq0 (sb0 (q_ne (hu64 hr)) (zc0 (c_q12.mono l_q12) hr (xa0 (ya0 12) (xa0 (ya0 11) va0))) (xf0 (xa0 xh0 (xa0 xh0 (xa0 xh0 (xa0 xh0 (xa0 xh0 (xa0 xh0 (xa0 xh0 va0))))))))) (zm0 (zl0 (vm0 (c_q26.mono l_q26) hr (xa0 (ya0 12) (xa0 (ya0 12) (xa0 (ya0 11) va0)))))))) (xb0 (yc0 xh0)) tb0) (ua0 (vc0 (i:=13) sc_q29.nd (vb0 q_ix (xf0 (xa0 (ub0 (xa0 wb0 (xa0 (ub0 va0) (xa0 wa0 va0)))) (xa0 (ub0 (xa0 wb0 (xa0 (ub0 va0) (xa0 (zp1 wp1 wa0) va0)))) (xa0 (ub0 (xa0 wb0 (xa0 (ub0 (xa0 wa0 va0)) (xa0 wa0 va0)))) (xa0 (ub0 (xa0 wb0 (xa0 (ub0 va0) (xa0 wa0 (xa0 (ub0 (xa0 wb0 (xa0 wa0 va0))) va0))))) va0))))) (zc0 (c_q11.mono l_q11) hr (xa0 (ya0 1) (xa0 wa0 va0))))) (xb0 (yc0 (yj0 (q_eq (hu64 hr)) (zc0 (c_q12.mono l_q12) hr (xa0 (ya0 2) (xa0 (xd0 te0 (xd0 te0 (sc0 q_sl (ya0 3) wd0 (yd0 (ya0 8))) (xf0 (xa0 (ya0 13) va0))) (sc0 q_sl (ya0 3) (yd0 (ya0 8)) wd0)) va0))) (xf0 (xa0 xh0 (xa0 xh0 (xa0 xh0 (xa0 xh0 (xa0 xh0 (xa0 xh0 (xa0 xh0 va0)))))))))))))))))))))))))))))))
end
end Pv
namespace Mw
noncomputable abbrev Pen:=Int × Int × Int
noncomputable def cs (h:Int):Int:=if h=0 then 1 else if h=2 then -1 else 0
noncomputable def sn (h:Int):Int:=if h=1 then 1 else if h=3 then -1 else 0
noncomputable def led (p q:Pen):Pen:=(p.1 + q.1 * cs p.2.2 - q.2.1 * sn p.2.2,p.2.1 + q.1 * sn p.2.2 + q.2.1 * cs p.2.2,(p.2.2 + q.2.2) % 4)
noncomputable def st:Pen:=(0,0,0)
noncomputable def pw (p:Pen):Nat->Pen
 | 0=>st
 | n + 1=>led (pw p n) p
noncomputable def rep (p:Pen) (n:Int):Pen:=if p.2.2=0 then (p.1 * n,p.2.1 * n,0) else pw p (n % 4).toNat
inductive Dd where
 | go (n:Int) | jump (n:Int) | turn (n:Int) | times (n:Int) (w:List Dd)
mutual
noncomputable def cnt:Dd->Nat
 | .times _ w=>1 + cnts w
 | _=>1
noncomputable def cnts:List Dd->Nat
 | []=>0
 | d :: r=>cnt d + cnts r
end
mutual
noncomputable def dep:Dd->Nat
 | .times _ w=>1 + deps w
 | _=>0
noncomputable def deps:List Dd->Nat
 | []=>0
 | d :: r=>max (dep d) (deps r)
end
noncomputable def G:Int:=99999999999999999999
mutual
noncomputable def okd:Dd->Prop
 | .go n=>0<=n /\ n<=G
 | .jump n=>-G<=n /\ n<=G
 | .turn n=>-G<=n /\ n<=G
 | .times n w=>(0<=n /\ n<=G) /\ oks w
noncomputable def oks:List Dd->Prop
 | []=>True
 | d :: r=>okd d /\ oks r
end
mutual
noncomputable def pd:Dd->Pen
 | .go n=>(n,0,0)
 | .jump n=>(n,0,0)
 | .turn n=>(0,0,n % 4)
 | .times n w=>rep (pb w) n
noncomputable def pb:List Dd->Pen
 | []=>st
 | d :: r=>led (pd d) (pb r)
end
theorem vr0:∀ a b,cnts (a ++ b)=cnts a + cnts b
 | [],b=>by simp [cnts]
 | d :: r,b=>by simp only [List.cons_append,cnts,vr0 r b]; omega
theorem zi0:∀ a b,deps (a ++ b)=max (deps a) (deps b)
 | [],b=>by simp [deps]
 | d :: r,b=>by simp only [List.cons_append,deps,zi0 r b,Nat.max_assoc]
theorem wf0:∀ a,a.length<=cnts a
 | []=>Nat.le_refl _
 | d :: r=>by
  have h:=wf0 r
  have h1:1<=cnt d:=by cases d <;> simp only [cnt] <;> omega
  simp only [List.length_cons,cnts]
  omega
noncomputable def bd (c e:Nat):Int:=(c:Int) * G ^ (e + 1)
end Mw
namespace Mw
noncomputable def ab (x:Int):Int:=if x < 0 then -x else x
noncomputable def pm (p:Pen):Int:=max (ab p.1) (ab p.2.1)
end Mw
namespace Pv
open PySem Mw
theorem kn_go_jump:((("go" : Str)=("jump" : Str))=False):=eq_false (by decide)
theorem kn_go_turn:((("go" : Str)=("turn" : Str))=False):=eq_false (by decide)
theorem kn_go_times:((("go" : Str)=("times" : Str))=False):=eq_false (by decide)
theorem kn_jump_go:((("jump" : Str)=("go" : Str))=False):=eq_false (by decide)
theorem kn_jump_turn:((("jump" : Str)=("turn" : Str))=False):=eq_false (by decide)
theorem kn_jump_times:((("jump" : Str)=("times" : Str))=False):=eq_false (by decide)
theorem kn_turn_go:((("turn" : Str)=("go" : Str))=False):=eq_false (by decide)
theorem kn_turn_jump:((("turn" : Str)=("jump" : Str))=False):=eq_false (by decide)
theorem kn_turn_times:((("turn" : Str)=("times" : Str))=False):=eq_false (by decide)
theorem kn_times_go:((("times" : Str)=("go" : Str))=False):=eq_false (by decide)
theorem kn_times_jump:((("times" : Str)=("jump" : Str))=False):=eq_false (by decide)
theorem kn_times_turn:((("times" : Str)=("turn" : Str))=False):=eq_false (by decide)
theorem kp_go:(["go", "jump", "turn"]:List Str).contains "go" = true:=by decide
theorem kp_jump:(["go", "jump", "turn"]:List Str).contains "jump" = true:=by decide
theorem kp_turn:(["go", "jump", "turn"]:List Str).contains "turn" = true:=by decide
theorem kp_times:(["go", "jump", "turn"]:List Str).contains "times" = false:=by decide
theorem kz_go:(["go", "times"]:List Str).contains "go" = true:=by decide
theorem kz_jump:(["go", "times"]:List Str).contains "jump" = false:=by decide
theorem kz_turn:(["go", "times"]:List Str).contains "turn" = false:=by decide
theorem kz_times:(["go", "times"]:List Str).contains "times" = true:=by decide
theorem cst2:((2:Nat):Int)=2:=rfl
theorem cst3:((3:Nat):Int)=3:=rfl
mutual
noncomputable def enc:Dd->D
 | .go n=>.tup [.str "go",.int n]
 | .jump n=>.tup [.str "jump",.int n]
 | .turn n=>.tup [.str "turn",.int n]
 | .times n w=>.tup [.str "times",.int n,.tup (encs w)]
noncomputable def encs:List Dd->List D
 | []=>[]
 | d :: r=>enc d :: encs r
end
noncomputable def Wd (w:List Dd):Prop:=oks w /\ deps w<=4 /\ cnts w<=30
theorem yb0:∀ a,(encs a).length=a.length
 | []=>by simp [encs]
 | d :: r=>by simp only [encs,List.length_cons,yb0 r]
theorem sj1:PyData.strOk ("go" : Str)=true:=by decide +kernel
theorem wa1:PyData.strOk ("jump" : Str)=true:=by decide +kernel
theorem za1:PyData.strOk ("turn" : Str)=true:=by decide +kernel
theorem ym0:PyData.strOk ("times" : Str)=true:=by decide +kernel
mutual
noncomputable def pe:Dd->PyData
 | .go n=>.tuple [.str "go",.int n]
 | .jump n=>.tuple [.str "jump",.int n]
 | .turn n=>.tuple [.str "turn",.int n]
 | .times n w=>.tuple [.str "times",.int n,.tuple (pes w)]
noncomputable def pes:List Dd->List PyData
 | []=>[]
 | d :: r=>pe d :: pes r
end
mutual
theorem wx1:∀ d,dat (enc d)=some (pe d)
 | .go n=>by simp only [enc,dat,dats,sj1,if_true,pe]
 | .jump n=>by simp only [enc,dat,dats,wa1,if_true,pe]
 | .turn n=>by simp only [enc,dat,dats,za1,if_true,pe]
 | .times n w=>by simp only [enc,dat,dats,ym0,if_true,pe,uh0 w]
theorem uh0:∀ w,dats (encs w)=some (pes w)
 | []=>by simp only [encs,dats,pes]
 | d :: r=>by simp only [encs,dats,pes,wx1 d,uh0 r]
end
mutual
theorem yl1:∀ d,(pe d).depth<=2 * dep d + 1
 | .go n=>by simp [pe,PyData.depth,PyData.depthAll]
 | .jump n=>by simp [pe,PyData.depth,PyData.depthAll]
 | .turn n=>by simp [pe,PyData.depth,PyData.depthAll]
 | .times n w=>by
  have:=vh0 w
  simp only [pe,PyData.depth,PyData.depthAll,dep]
  omega
theorem vh0:∀ w,PyData.depthAll (pes w)<=2 * deps w + 1
 | []=>by simp [pes,PyData.depthAll]
 | d :: r=>by
  have h1:=yl1 d
  have h2:=vh0 r
  simp only [pes,PyData.depthAll,deps]
  omega
end
mutual
theorem xk2:∀ d,PyData.eqv (pe d) (pe d)=true
 | .go n=>by simp [pe,PyData.eqv,PyData.eqvAll]
 | .jump n=>by simp [pe,PyData.eqv,PyData.eqvAll]
 | .turn n=>by simp [pe,PyData.eqv,PyData.eqvAll]
 | .times n w=>by simp [pe,PyData.eqv,PyData.eqvAll,xx0 w]
theorem xx0:∀ w,PyData.eqvAll (pes w) (pes w)=true
 | []=>by simp [pes,PyData.eqvAll]
 | d :: r=>by simp [pes,PyData.eqvAll,xk2 d,xx0 r]
end
inductive Kd where
 | join | part (m:Int) | out | inn (d:Dd) | opn | close (m:Int) | once | twice
noncomputable def kn:Kd->Str
 | .join => "join"
 | .part _ => "part"
 | .out => "out"
 | .inn _ => "in"
 | .opn => "open"
 | .close _ => "close"
 | .once => "once"
 | .twice => "twice"
noncomputable def ned:Kd->List D
 | .part m=>[.int m]
 | .inn d=>[enc d]
 | .close m=>[.int m]
 | _=>[]
noncomputable def yh0 (k:Kd) (way:List Int) (i:Int):D:=.tup (.str (kn k) :: .tup (way.map .int) :: .int i :: ned k)
noncomputable def idl:Dd->Bool
 | .go n=>decide (n=0)
 | .jump n=>decide (n=0)
 | .turn n=>decide (n % 4=0)
 | .times n w=>decide (n=0) || w.isEmpty
open Classical in
noncomputable def jn:Dd->Dd->Option Dd
 | .go a,.go b=>some (.go (a + b))
 | .jump a,.jump b=>some (.jump (a + b))
 | .turn a,.turn b=>some (.turn (a + b))
 | .times a v,.times b v'=>if v=v' then some (.times (a + b) v) else none
 | _,_=>none
noncomputable def prt (m:Int):Dd->Option (Dd × Dd)
 | .go a=>if 0<=m /\ m<=a then some (.go m,.go (a - m)) else none
 | .jump a=>some (.jump m,.jump (a - m))
 | .turn a=>some (.turn m,.turn (a - m))
 | .times a v=>if 0<=m /\ m<=a then some (.times m v,.times (a - m) v) else none
noncomputable def chg (rest:List Dd):Kd->Option (Nat × List Dd)
 | .inn d=>if idl d=true then some (0,[d]) else none
 | .close m=>if 0<=m /\ m<=rest.length then some (m.toNat,[.times 1 (rest.take m.toNat)]) else none
 | .out=>match rest with
  | d :: _=>if idl d=true then some (1,[]) else none
  | _=>none
 | .opn=>match rest with
  | .times n v :: _=>if n=1 then some (1,v) else none
  | _=>none
 | .twice=>match rest with
  | .go n :: _=>some (1,[.go n,.jump (-n),.go n])
  | _=>none
 | .part m=>match rest with
  | d :: _=>(prt m d).map λ p=>(1,[p.1,p.2])
  | _=>none
 | .once=>match rest with
  | .go n :: .jump m :: .go n' :: _=>if m = -n /\ n'=n then some (3,[.go n]) else none
  | _=>none
 | .join=>match rest with
  | d :: e :: _=>(jn d e).map λ x=>(2,[x])
  | _=>none
noncomputable def cha (w:List Dd) (k:Kd) (i:Int):Option (List Dd):=if 0<=i /\ i<=w.length then (chg (w.drop i.toNat) k).map λ p=>w.take i.toNat ++ p.2 ++ w.drop (i.toNat + p.1) else none
noncomputable def aft:List Int->List Dd->Kd->Int->Option (List Dd)
 | [],w,k,i=>cha w k i
 | a :: way,w,k,i=>if 0<=a then match w[a.toNat]? with
  | some (.times n v)=>(aft way v k i).map λ v'=>w.take a.toNat ++ [.times n v'] ++ w.drop (a.toNat + 1)
  | _=>none else none
theorem vy1 {rest:List Dd} {k:Kd} {n:Nat} {x:List Dd} (h:chg rest k=some (n,x)):n<=rest.length:=by
 cases k with
 | inn d=>simp only [chg] at h; split at h <;> simp at h; omega
 | close m=>simp only [chg] at h; split at h <;> simp at h; omega
 | out=>cases rest with
  | nil=>simp [chg] at h
  | cons d r=>simp only [chg] at h; split at h <;> simp at h; simp; omega
 | opn =>
  simp only [chg] at h
  split at h
  ·split at h <;> simp at h; simp; omega
  ·cases h
 | twice =>
  simp only [chg] at h
  split at h
  ·simp at h; simp; omega
  ·cases h
 | part m=>cases rest with
  | nil=>simp [chg] at h
  | cons d r=>simp only [chg,Option.map_eq_some_iff] at h; obtain ⟨p,_,e⟩:=h; simp at e; simp; omega
 | once =>
  simp only [chg] at h
  split at h
  ·split at h <;> simp at h; simp; omega
  ·cases h
 | join =>
  simp only [chg] at h
  split at h
  ·simp only [Option.map_eq_some_iff] at h; obtain ⟨p,_,e⟩:=h; simp at e; simp; omega
  ·cases h
mutual
noncomputable def nn1:Dd->Prop
 | .go n=>0<=n
 | .times n w=>0<=n /\ nns w
 | _=>True
noncomputable def nns:List Dd->Prop
 | []=>True
 | d :: r=>nn1 d /\ nns r
end
mutual
noncomputable def bnd1:Dd->Prop
 | .go n=>-G<=n /\ n<=G
 | .jump n=>-G<=n /\ n<=G
 | .turn n=>-G<=n /\ n<=G
 | .times n w=>(-G<=n /\ n<=G) /\ bnds w
noncomputable def bnds:List Dd->Prop
 | []=>True
 | d :: r=>bnd1 d /\ bnds r
end
theorem um0:∀ a b,nns (a ++ b) ↔ nns a /\ nns b
 | [],b=>by simp [nns]
 | d :: r,b=>by simp only [List.cons_append,nns,um0 r b,and_assoc]
mutual
theorem tp3:∀ d,okd d ↔ nn1 d /\ bnd1 d
 | .go n => by have:(0:Int) < G:=by decide
               simp only [okd,nn1,bnd1]; omega
 | .jump n=>by simp only [okd,nn1,bnd1]; simp
 | .turn n=>by simp only [okd,nn1,bnd1]; simp
 | .times n w=>by
  have:(0:Int) < G:=by decide
  simp only [okd,nn1,bnd1,ve1 w]
  constructor
  ·rintro ⟨⟨a,b⟩,c,d⟩; exact ⟨⟨a,c⟩,⟨by omega,b⟩,d⟩
  ·rintro ⟨⟨a,c⟩,⟨_,b⟩,d⟩; exact ⟨⟨a,b⟩,c,d⟩
theorem ve1:∀ w,oks w ↔ nns w /\ bnds w
 | []=>by simp [oks,nns,bnds]
 | d :: r=>by
  simp only [oks,nns,bnds,tp3 d,ve1 r]
  constructor
  ·rintro ⟨⟨a,b⟩,c,d⟩; exact ⟨⟨a,c⟩,b,d⟩
  ·rintro ⟨⟨a,c⟩,b,d⟩; exact ⟨⟨a,b⟩,c,d⟩
end
theorem yb1:∀ {w:List Dd} {d:Dd},nns w->d ∈ w->nn1 d
 | [],_,_,h=>by simp at h
 | e :: r,d,h,m=>by
  simp only [nns] at h
  rcases List.mem_cons.mp m with rfl | m
  ·exact h.1
  ·exact yb1 h.2 m
theorem wv1:∀ {w:List Dd},(∀ d ∈ w,nn1 d)->nns w
 | [],_=>by simp [nns]
 | d :: r,h=>by simp only [nns]; exact ⟨h d (by simp),wv1 λ e he=>h e (by simp [he])⟩
theorem xb1 {w:List Dd} (h:nns w) (n:Nat):nns (w.take n):=wv1 λ d hd=>yb1 h (List.mem_of_mem_take hd)
theorem zb1 {w:List Dd} (h:nns w) (n:Nat):nns (w.drop n):=wv1 λ d hd=>yb1 h (List.mem_of_mem_drop hd)
noncomputable def nnk:Kd->Prop
 | .inn d=>nn1 d
 | _=>True
theorem xt3 {rest:List Dd} {k:Kd} {n:Nat} {x:List Dd} (hr:nns rest) (hk:nnk k) (h:chg rest k=some (n,x)):nns x:=by
 cases k with
 | inn d=>simp only [chg] at h; split at h <;> simp at h; obtain ⟨_,rfl⟩:=h; exact ⟨hk,trivial⟩
 | close m=>simp only [chg] at h; split at h <;> simp at h; obtain ⟨_,rfl⟩:=h; simp only [nns,nn1]; exact ⟨⟨by decide,xb1 hr _⟩,trivial⟩
 | out=>cases rest with
  | nil=>simp [chg] at h
  | cons d r=>simp only [chg] at h; split at h <;> simp at h; obtain ⟨_,rfl⟩:=h; simp [nns]
 | opn =>
  simp only [chg] at h
  split at h
  ·next m v _=>split at h <;> simp at h; obtain ⟨_,rfl⟩:=h; simp only [nns,nn1] at hr; exact hr.1.2
  ·cases h
 | twice =>
  simp only [chg] at h
  split at h
  ·simp at h; obtain ⟨_,rfl⟩:=h; simp only [nns,nn1] at hr ⊢; exact ⟨hr.1,trivial,hr.1,trivial⟩
  ·cases h
 | part m=>cases rest with
  | nil=>simp [chg] at h
  | cons d r =>
   simp only [chg,Option.map_eq_some_iff] at h; obtain ⟨p,hp,e⟩:=h; simp at e; obtain ⟨_,rfl⟩:=e
   simp only [nns] at hr ⊢
   cases d <;> simp only [prt] at hp
   ·split at hp <;> simp at hp; subst hp; simp only [nn1]; exact ⟨by omega,by omega,trivial⟩
   ·simp at hp; subst hp; simp [nn1]
   ·simp at hp; subst hp; simp [nn1]
   ·split at hp <;> simp at hp; subst hp; simp only [nn1] at hr ⊢; exact ⟨⟨by omega,hr.1.2⟩,⟨by omega,hr.1.2⟩,trivial⟩
 | once =>
  simp only [chg] at h
  split at h
  ·split at h <;> simp at h; obtain ⟨_,rfl⟩:=h; simp only [nns,nn1] at hr ⊢; exact ⟨hr.1,trivial⟩
  ·cases h
 | join =>
  simp only [chg] at h
  split at h
  ·next d e r =>
   simp only [Option.map_eq_some_iff] at h; obtain ⟨p,hp,e⟩:=h; simp at e; obtain ⟨_,rfl⟩:=e
   simp only [nns] at hr ⊢
   refine ⟨?_,trivial⟩
   cases d <;> cases e <;> simp only [jn] at hp <;> first | (cases hp; done) | skip
   ·cases hp; simp only [nn1] at hr ⊢; omega
   ·cases hp; simp [nn1]
   ·cases hp; simp [nn1]
   ·split at hp <;> cases hp; simp only [nn1] at hr ⊢; exact ⟨by omega,hr.1.2⟩
  ·cases h
theorem yt3 {w:List Dd} {k:Kd} {i:Int} {v:List Dd} (hw:nns w) (hk:nnk k) (h:cha w k i=some v):nns v:=by
 unfold cha at h
 split at h
 ·obtain ⟨⟨n,x⟩,hc,rfl⟩:=Option.map_eq_some_iff.mp h
  rw [um0,um0]
  exact ⟨⟨xb1 hw _,xt3 (zb1 hw _) hk hc⟩,zb1 hw _⟩
 ·cases h
theorem vl2:∀ {way:List Int} {w:List Dd} {k:Kd} {i:Int} {v:List Dd},nns w->nnk k->aft way w k i=some v->nns v
 | [],w,k,i,v,hw,hk,h=>yt3 hw hk h
 | a :: way,w,k,i,v,hw,hk,h=>by
  simp only [aft] at h
  split at h
  ·split at h
   ·next n u hu =>
    obtain ⟨v',hv,rfl⟩:=Option.map_eq_some_iff.mp h
    have m:=yb1 hw (List.mem_of_getElem? hu)
    simp only [nn1] at m
    rw [um0,um0]
    simp only [nns,nn1]
    exact ⟨⟨xb1 hw _,⟨m.1,vl2 m.2 hk hv⟩,trivial⟩,zb1 hw _⟩
   ·cases h
  ·cases h
noncomputable def num:Dd->Int
 | .go n=>n
 | .jump n=>n
 | .turn n=>n
 | .times n _=>n
noncomputable def bk (rest:List Dd):Kd->Kd
 | .join=>match rest with
  | d :: _=>.part (num d)
  | []=>.join
 | .part _=>.join
 | .out=>match rest with
  | d :: _=>.inn d
  | []=>.out
 | .inn _=>.out
 | .opn=>match rest with
  | .times _ v :: _=>.close v.length
  | _=>.opn
 | .close _=>.opn
 | .once=>.twice
 | .twice=>.once
noncomputable def sub:List Int->List Dd->List Dd
 | [],w=>w
 | a :: way,w=>match w[a.toNat]? with
  | some (.times _ v)=>sub way v
  | _=>w
theorem vn0 {α:Type} (l:List α) {n:Int} (h0:0<=n) (h1:n<=l.length):cut3 l none (some n)=l.take n.toNat:=by
 unfold cut3 sIx3
 simp only [List.drop_zero,Nat.sub_zero]
 rw [if_neg (by omega),Nat.min_eq_left (by omega)]
theorem un0 {α:Type} (l:List α) {n:Int} (h0:0<=n) (h1:n<=l.length):cut3 l (some n) none=l.drop n.toNat:=by
 unfold cut3 sIx3
 simp only []
 rw [if_neg (by omega),Nat.min_eq_left (by omega)]
 exact List.take_of_length_le (by simp)
theorem zt2 {α:Type} (l:List α) {n m:Int} (h0:0<=n) (h1:0<=m) (h2:n + m<=l.length):cut3 l (some n) (some (n + m))=(l.drop n.toNat).take m.toNat:=by
 unfold cut3 sIx3
 simp only []
 rw [if_neg (by omega),if_neg (by omega),Nat.min_eq_left (by omega),Nat.min_eq_left (by omega)]
 congr 1
 omega
theorem tk0:∀ (w:List Dd) (n:Nat),(encs w).take n=encs (w.take n)
 | [],n=>by simp [encs]
 | d :: r,0=>by simp [encs]
 | d :: r,n + 1=>by simp only [encs,List.take_succ_cons,tk0 r n]
theorem tj0:∀ (w:List Dd) (n:Nat),(encs w).drop n=encs (w.drop n)
 | [],n=>by simp [encs]
 | d :: r,0=>by simp [encs]
 | d :: r,n + 1=>by simp only [encs,List.drop_succ_cons,tj0 r n]
theorem se0:∀ a b,encs (a ++ b)=encs a ++ encs b
 | [],b=>by simp [encs]
 | d :: r,b=>by simp only [List.cons_append,encs,se0 r b]
mutual
theorem yz3:∀ a b:Dd,PyData.eqv (pe a) (pe b)=true->a=b
 | .go n,.go m,h=>by simp [pe,PyData.eqv,PyData.eqvAll] at h; rw [h]
 | .jump n,.jump m,h=>by simp [pe,PyData.eqv,PyData.eqvAll] at h; rw [h]
 | .turn n,.turn m,h=>by simp [pe,PyData.eqv,PyData.eqvAll] at h; rw [h]
 | .times n v,.times m u,h=>by
  simp [pe,PyData.eqv,PyData.eqvAll] at h
  rw [h.1,yz0 v u h.2]
 | .go n,.jump m,h=>by simp [pe,PyData.eqv,PyData.eqvAll] at h; exact absurd h.1 (by decide)
 | .go n,.turn m,h=>by simp [pe,PyData.eqv,PyData.eqvAll] at h; exact absurd h.1 (by decide)
 | .go n,.times m _,h=>by simp [pe,PyData.eqv,PyData.eqvAll] at h
 | .jump n,.go m,h=>by simp [pe,PyData.eqv,PyData.eqvAll] at h; exact absurd h.1 (by decide)
 | .jump n,.turn m,h=>by simp [pe,PyData.eqv,PyData.eqvAll] at h; exact absurd h.1 (by decide)
 | .jump n,.times m _,h=>by simp [pe,PyData.eqv,PyData.eqvAll] at h
 | .turn n,.go m,h=>by simp [pe,PyData.eqv,PyData.eqvAll] at h; exact absurd h.1 (by decide)
 | .turn n,.jump m,h=>by simp [pe,PyData.eqv,PyData.eqvAll] at h; exact absurd h.1 (by decide)
 | .turn n,.times m _,h=>by simp [pe,PyData.eqv,PyData.eqvAll] at h
 | .times n _,.go m,h=>by simp [pe,PyData.eqv,PyData.eqvAll] at h
 | .times n _,.jump m,h=>by simp [pe,PyData.eqv,PyData.eqvAll] at h
 | .times n _,.turn m,h=>by simp [pe,PyData.eqv,PyData.eqvAll] at h
theorem yz0:∀ a b:List Dd,PyData.eqvAll (pes a) (pes b)=true->a=b
 | [],[],_=>rfl
 | [],d :: r,h=>by simp [pes,PyData.eqvAll] at h
 | d :: r,[],h=>by simp [pes,PyData.eqvAll] at h
 | d :: r,e :: s,h=>by
  simp [pes,PyData.eqvAll] at h
  rw [yz3 d e h.1,yz0 r s h.2]
end
theorem eq_W {v u:List Dd} (hv:deps v<=20) (hu:deps u<=20) {μ:Mu} {K:VK3} (k:∀ b,(b=true ↔ v=u)->K (.bl b) μ):eqR (.tup (encs v)) (.tup (encs u)) μ K:=by
 have d:∀ v,datM μ (.tup (encs v))=some (.tuple (pes v)):=λ v=>by simp only [datM,dat,uh0]
 have dp:∀ v,deps v<=20->(PyData.tuple (pes v)).depth<=64:=λ v h=>by have:=vh0 v; simp only [PyData.depth]; omega
 rw [yx0 rfl (d v) (d u) (dp v hv) (dp u hu)]
 refine k _ ⟨λ h=>yz0 v u (by simpa [PyData.eqv] using h),λ h=>?_⟩
 subst h
 simp [PyData.eqv,xx0]
theorem ne_W {v u:List Dd} (hv:deps v<=20) (hu:deps u<=20) {μ:Mu} {K:VK3} (k:∀ b,(b=true ↔ v=u)->K (.bl (!b)) μ):neR (.tup (encs v)) (.tup (encs u)) μ K:=by
 have d:∀ v,datM μ (.tup (encs v))=some (.tuple (pes v)):=λ v=>by simp only [datM,dat,uh0]
 have dp:∀ v,deps v<=20->(PyData.tuple (pes v)).depth<=64:=λ v h=>by have:=vh0 v; simp only [PyData.depth]; omega
 rw [yp0 rfl (d v) (d u) (dp v hv) (dp u hu)]
 refine k _ ⟨λ h=>yz0 v u (by simpa [PyData.eqv] using h),λ h=>?_⟩
 subst h
 simp [PyData.eqv,xx0]
theorem vk0 {l:List D} {i:Int} {d:D} {μ:Mu} {K:VK3} (e:atI l i=some d) (k:K d μ):ixR (.tup l) (.int i) μ K:=by
 unfold ixR
 simp only [e]
 exact k
noncomputable def vt1:Sp3:=λ ds μ Q=>∃ (w x:List Dd) (p n:Int),ds=[.tup (encs w),.int p,.int n,.tup (encs x)] /\ 0<=p /\ 0<=n /\ p + n<=w.length /\ w.length + x.length<=1000 /\ Q (.tup (encs (w.take p.toNat ++ x ++ w.drop (p.toNat + n.toNat)))) μ
theorem ui3 (ds:List D) (μ:Mu) (Q:VK3) (h:vt1 ds μ Q):xz2 { nx:=λ _ μ'=>Q .non μ',rt:=Q } (uc0 zw2 ds) μ:=by
 obtain ⟨w,x,p,n,rfl,h0,h1,h2,hl,q⟩:=h
 have hz:(1000:Nat) < sizeLine:=by decide
 have e1:cut3 (encs w) none (some p)=encs (w.take p.toNat):=by rw [vn0 _ h0 (by rw [yb0]; omega),tk0]
 have e2:cut3 (encs w) (some (p + n)) none=encs (w.drop (p.toNat + n.toNat)):=by
  rw [un0 _ (by omega) (by rw [yb0]; omega),tj0,show (p + n).toNat=p.toNat + n.toNat by omega]
 have l1:(w.take p.toNat).length<=w.length:=by rw [List.length_take]; omega
 have l2:(w.take p.toNat).length + (w.drop (p.toNat + n.toNat)).length<=w.length:=by rw [List.length_take,List.length_drop]; omega
 refine ⟨?_,?_,?_⟩
 ·show (cut3 (encs w) none (some p)).length + (encs x).length<=_
  rw [e1,yb0,yb0]; omega
 ·show (cut3 (encs w) none (some p) ++ encs x).length + (cut3 (encs w) (some (p + n)) none).length<=_
  rw [e1,e2,List.length_append,yb0,yb0,yb0]; omega
 ·show Q (.tup (cut3 (encs w) none (some p) ++ encs x ++ cut3 (encs w) (some (p + n)) none)) μ
  rw [e1,e2,<- se0,<- se0]
  exact q
noncomputable def sa2:Sp3:=λ ds μ Q=>∃ d,ds=[enc d] /\ dep d<=20 /\ Q (.bl (idl d)) μ
theorem isE (w:List Dd) {b:Bool} (h:b=true ↔ w=[]):b=w.isEmpty:=by
 cases w with
 | nil=>cases b <;> simp at h; rfl
 | cons d r=>cases b <;> simp at h; rfl
theorem wi3 (ds:List D) (μ:Mu) (Q:VK3) (h:sa2 ds μ Q):ty2 { nx:=λ _ μ'=>Q .non μ',rt:=Q } (uc0 xw2 ds) μ:=by
 obtain ⟨d,rfl,hd,q⟩:=h
 have z2:2<=sizeLine:=by decide
 cases d with
 | go n=>exact ⟨z2,q⟩
 | jump n=>exact ⟨z2,q⟩
 | turn n=>exact ⟨show (0:Int) < 4 by decide,q⟩
 | times n w =>
  simp only [dep] at hd
  simp only [idl] at q
  by_cases c:n=0
  ·show if (decide (n=0))=true then _ else _
   rw [if_pos (decide_eq_true c)]
   rw [decide_eq_true c] at q
   exact q
  ·show if (decide (n=0))=true then _ else _
   rw [if_neg (λ h=>c (of_decide_eq_true h))]
   rw [decide_eq_false c,Bool.false_or] at q
   refine ⟨Nat.zero_le _,?_⟩
   show eqR (.tup (encs w)) (.tup (encs [])) μ Q
   refine eq_W (by omega) (by simp [deps]) λ b hb=>?_
   rw [isE w hb]
   exact q
theorem sd0 {c:TT3} {t r:TS3} {D':Ends3} {ρ:St3} {μ:Mu} (hc:∀ K:Bool->Mu->Prop,K false μ->c ρ μ K) (k:r D' ρ μ):seq3 (ifs3 c t tc0) r D' ρ μ:=hc _ k
theorem vo3 {t u:TE3} {ρ:St3} {μ:Mu} {K:Bool->Mu->Prop} (h1:∀ K:VK3,K (.bl false) μ->t ρ μ K) (h2:∀ K:VK3,K (.bl false) μ->u ρ μ K) (k:K false μ):or3 (b3 t) (b3 u) ρ μ K:=h1 _ (h2 _ k)
theorem vv1 {v:List Dd} (hv:deps v<=20) {l:List D} (hl:l=[] \/ l=[.tup (encs v)]) {μ:Mu} {K:VK3} (k:K (.bl false) μ):neR (.tup l) (.tup l) μ K:=by
 rcases hl with rfl | rfl
 ·exact ne_W (v:=[]) (u:=[]) (by simp [deps]) (by simp [deps]) λ b hb=>by rw [hb.mpr rfl]; exact k
 ·have d:datM μ (.tup [.tup (encs v)])=some (.tuple [.tuple (pes v)]):=by simp only [datM,dat,dats,uh0]
  have dp:(PyData.tuple [.tuple (pes v)]).depth<=64:=by have:=vh0 v; simp only [PyData.depth,PyData.depthAll]; omega
  rw [yp0 rfl d d dp dp,show PyData.eqv (.tuple [.tuple (pes v)]) (.tuple [.tuple (pes v)])=true by simp [PyData.eqv,PyData.eqvAll,xx0]]
  exact k
theorem za4 (k:Kd):uj0 (kn k)=some true:=by cases k <;> rfl
theorem wa4 {t:TE3} {ρ:St3} {μ:Mu} {k:Kd} {K:Bool->Mu->Prop} (h:∀ K:VK3,K (.str (kn k)) μ->t ρ μ K) (q:K false μ):b3 (mdn3 true uj0 t) ρ μ K:=by
 unfold b3 mdn3
 refine h _ ?_
 dsimp only
 rw [za4]
 exact q
theorem ts0:∀ {w:List Dd} {d:Dd},d ∈ w->dep d<=deps w
 | e :: r,d,h=>by
  simp only [deps]
  rcases List.mem_cons.mp h with rfl | h
  ·omega
  ·have:=ts0 h; omega
theorem ux0:∀ {w:List Dd} {d:Dd},d ∈ w->cnt d<=cnts w
 | e :: r,d,h=>by
  simp only [cnts]
  rcases List.mem_cons.mp h with rfl | h
  ·omega
  ·have:=ux0 h; omega
theorem wl2 {w:List Dd} {n:Nat} {d:Dd} (h:w[n]?=some d):(encs w)[n]?=some (enc d):=by
 induction w generalizing n with
 | nil=>simp at h
 | cons e r ih =>
  cases n with
  | zero=>simp at h; subst h; simp [encs]
  | succ n=>simp only [encs,List.getElem?_cons_succ] at h ⊢; exact ih h
theorem up3 {w:List Dd} {n:Nat} {d:Dd} (h:w[n]?=some d):(w.drop n).take 1=[d] /\ n < w.length:=by
 have la:n < w.length:=by
  rcases Nat.lt_or_ge n w.length with z | z
  ·exact z
  ·rw [List.getElem?_eq_none z] at h; cases h
 refine ⟨?_,la⟩
 rw [List.getElem?_eq_getElem la] at h
 rw [List.drop_eq_getElem_cons la,List.take_succ_cons,Option.some.inj h]
 simp
mutual
inductive ShD:D->Prop where
 | nil:ShD (.tup [])
 | mk (s:Str) (r:List D):(∀ x,x ∈ r->ShV x)->ShD (.tup (.str s :: r))
inductive ShV:D->Prop where
 | int (n:Int):ShV (.int n)
 | wd (l:List D):(∀ x,x ∈ l->ShD x)->ShV (.tup l)
end
noncomputable def ckN (s:Str):D->Bool
 | .int n=>decide (-G<=n /\ n<=G) && !(decide (n < 0) && (["go", "times"]:List Str).contains s)
 | _=>false
noncomputable def ckD (cw:D->Int->Option Nat) (k:Int):D->Option Nat
 | .tup [.str s,a]=>if (["go", "jump", "turn"]:List Str).contains s=true /\ ckN s a=true then some 1 else none
 | .tup [.str s,a,b]=>if s = "times" /\ ckN s a=true then (match cw b (k + 1) with
  | some c=>some (1 + c)
  | none=>none) else none
 | _=>none
noncomputable def ckL (cd:D->Option Nat):List D->Nat->Option Nat
 | [],c=>some c
 | d :: r,c=>match cd d with
  | some m=>if 30 < c + m then none else ckL cd r (c + m)
  | none=>none
noncomputable def ckW:Nat->D->Int->Option Nat
 | n + 1,.tup l,k=>if 4 < k then none else ckL (ckD (ckW n) k) l 0
 | _,_,_=>none
noncomputable def told (XE:XE3) (μ:Mu) (Q:Nat->Prop):Option Nat->Prop
 | some c=>Q c
 | none=>XE "NoWord" μ
noncomputable def xt1 (XE:XE3):Sp3:=λ ds μ Q=>∃ (s:Str) (d:D),ds=[.str s,d] /\ ShV d /\ told XE μ (λ _=>Q .non μ) (if ckN s d=true then some 0 else none)
theorem uj3 (XE:XE3) (ds:List D) (μ:Mu) (Q:VK3) (h:xt1 XE ds μ Q):zm2 XE { nx:=λ _ μ'=>Q .non μ',rt:=Q } (uc0 uh2 ds) μ:=by
 obtain ⟨s,d,rfl,sh,q⟩:=h
 cases sh with
 | wd l hl =>
  simp only [ckN,Bool.false_eq_true,if_false,told] at q
  exact And.intro (by decide) q
 | int n =>
  simp only [zm2,seq3,ifs3,not3,b3,zb0,za0,v3,uc0,List.map_cons,List.map_nil,uh2,List.length_cons,List.length_nil,Nat.zero_add,Nat.reduceAdd,Nat.reduceSub,List.replicate,List.cons_append,List.nil_append,getI,c3,nil3,isiR,tyN,isIn,and_true,if_true,Bool.not_true,Bool.false_eq_true,tf0,tc0,o3,absR,gtR,uk0,decide_eq_true_eq,and3,ltR,inR,strs?,if_false]
  by_cases h1 : -G<=n /\ n<=G
  ·have e1:¬ (99999999999999999999 < if n < 0 then -n else n):=by unfold G at h1; split <;> omega
   rw [if_neg e1]
   by_cases h2:n < 0
   ·rw [if_pos h2]
    cases h3:(["go", "times"]:List Str).contains s with
    | true =>
     have e:ckN s (.int n)=false:=by simp only [ckN,h1,h2,h3]; decide
     rw [e] at q
     simp only [Bool.false_eq_true,if_false,told] at q
     rw [if_pos rfl]
     exact ⟨by decide,q⟩
    | false =>
     have e:ckN s (.int n)=true:=by simp only [ckN,h1,h2,h3]; decide
     rw [e] at q
     simp only [if_true,told] at q
     rw [if_neg (by decide)]
     exact q
   ·have e:ckN s (.int n)=true:=by simp only [ckN,h1,h2]; simp
    rw [e] at q
    simp only [if_true,told] at q
    rw [if_neg h2]
    exact q
  ·have e1:99999999999999999999 < if n < 0 then -n else n:=by unfold G at h1; split <;> omega
   rw [if_pos e1]
   have e:ckN s (.int n)=false:=by simp only [ckN,h1]; simp
   rw [e] at q
   simp only [Bool.false_eq_true,if_false,told] at q
   exact ⟨by decide,q⟩
noncomputable def ya1 (j:Nat) (XE:XE3):Sp3:=λ ds μ Q=>∃ (d:D) (k:Int),ds=[d,.int k] /\ 4 < k + j /\ k<=4 /\ 0<=k /\ ShD d /\ told XE μ (λ c=>Q (.int c) μ) (ckD (ckW j) k d)
noncomputable def yu0 (j:Nat) (XE:XE3):Sp3:=λ ds μ Q=>∃ (d:D) (k:Int),ds=[d,.int k] /\ (k<=4->4 < k + j) /\ k<=5 /\ 0<=k /\ ShV d /\ told XE μ (λ c=>Q (.int c) μ) (ckW (j + 1) d k)
theorem zj3 (j:Nat) (XE:XE3) (ds:List D) (μ:Mu) (Q:VK3) (h:ya1 (j + 1) XE ds μ Q):tr1 XE xt1 (yu0 j) { nx:=λ _ μ'=>Q .non μ',rt:=Q } (uc0 tq1 ds) μ:=by
 obtain ⟨d,k,rfl,h1,h2,h3,sh,q⟩:=h
 cases sh with
 | nil =>
  simp only [ckD,told] at q
  exact And.intro (by decide) q
 | mk s r hr =>
  match r,hr,q with
  | [],hr,q =>
   simp only [ckD,told] at q
   exact And.intro (by decide) q
  | [a],hr,q =>
   simp only [ckD] at q
   simp only [tr1,seq3,ifs3,not3,b3,zb0,za0,v3,uc0,List.map_cons,List.map_nil,tq1,List.length_cons,List.length_nil,Nat.zero_add,Nat.reduceAdd,Nat.reduceSub,List.replicate,List.cons_append,List.nil_append,getI,c3,nil3,isiR,tyN,isIn,if_true,Bool.not_true,Bool.false_eq_true,tf0,tc0,and3,o3,lenR,cst2,ixR,atI0,inR,strs?,if_false,yl0,atI1,ret3,addR,tm0,decide_eq_true_eq,xt0,Int.reduceEq]
   cases hp:(["go", "jump", "turn"]:List Str).contains s with
   | true =>
    rw [hp] at q
    simp only [true_and] at q
    simp only [if_true]
    refine ⟨s,a,rfl,hr a (by simp),?_⟩
    cases hn:ckN s a with
    | true =>
     rw [hn] at q
     simp only [if_true,told] at q ⊢
     exact q
    | false =>
     rw [hn] at q
     simp only [Bool.false_eq_true,if_false,told] at q ⊢
     exact q
   | false =>
    rw [hp] at q
    simp only [Bool.false_eq_true,false_and,if_false,told] at q
    simp only [Bool.false_eq_true,if_false]
    exact ⟨by decide,q⟩
  | [a,b],hr,q =>
   simp only [ckD] at q
   simp only [tr1,seq3,ifs3,not3,b3,zb0,za0,v3,uc0,List.map_cons,List.map_nil,tq1,List.length_cons,List.length_nil,Nat.zero_add,Nat.reduceAdd,Nat.reduceSub,List.replicate,List.cons_append,List.nil_append,getI,c3,nil3,isiR,tyN,isIn,if_true,Bool.not_true,Bool.false_eq_true,tf0,tc0,and3,o3,lenR,cst3,ixR,atI0,inR,strs?,if_false,yl0,atI1,ret3,atI2,addR,tm0,decide_eq_true_eq,xt0,Int.reduceEq]
   by_cases hs:s = "times"
   ·rw [if_pos hs]
    refine ⟨s,a,rfl,hr a (by simp),?_⟩
    cases hn:ckN s a with
    | true =>
     rw [hn] at q
     simp only [hs,true_and,if_true] at q
     simp only [if_true,told]
     refine ⟨b,k + 1,rfl,λ _=>by omega,by omega,by omega,hr b (by simp),?_⟩
     cases hw:ckW (j + 1) b (k + 1) with
     | none=>rw [hw] at q; exact q
     | some c =>
      rw [hw] at q
      simp only [told] at q ⊢
      have e:((1 + c:Nat):Int)=1 + (c:Int):=by omega
      rw [e] at q
      exact q
    | false =>
     rw [hn] at q
     simp only [Bool.false_eq_true,and_false,if_false,told] at q ⊢
     exact q
   ·rw [if_neg hs]
    simp only [hs,false_and,if_false,told] at q
    exact ⟨by decide,q⟩
  | a :: b :: c :: r,hr,q =>
   simp only [ckD,told] at q
   simp only [tr1,seq3,ifs3,not3,b3,zb0,za0,v3,uc0,List.map_cons,List.map_nil,tq1,List.length_cons,List.length_nil,Nat.zero_add,Nat.reduceAdd,Nat.reduceSub,List.replicate,List.cons_append,List.nil_append,getI,c3,nil3,isiR,tyN,isIn,if_true,Bool.not_true,Bool.false_eq_true,tf0,tc0,and3,o3,lenR,ixR,atI0,inR,strs?,if_false,yl0,atI1,ret3,atI2,addR,tm0,decide_eq_true_eq,xt0]
   have e2:¬ (((r.length + 1 + 1 + 1 + 1:Nat):Int)=2):=by omega
   have e3:¬ (((r.length + 1 + 1 + 1 + 1:Nat):Int)=3):=by omega
   simp only [e2,e3,if_false]
   exact ⟨by decide,q⟩
theorem wj3 (j:Nat) (XE:XE3) (ds:List D) (μ:Mu) (Q:VK3) (h:yu0 j XE ds μ Q):xm2 XE (ya1 j) { nx:=λ _ μ'=>Q .non μ',rt:=Q } (uc0 wh2 ds) μ:=by
 obtain ⟨d,k,rfl,h1,h2,h3,sh,q⟩:=h
 cases sh with
 | int n =>
  simp only [ckW,told] at q
  exact And.intro (by decide) q
 | wd l hl =>
  simp only [ckW] at q
  simp only [xm2,seq3,ifs3,not3,b3,zb0,za0,v3,uc0,List.map_cons,List.map_nil,wh2,List.length_cons,List.length_nil,Nat.zero_add,Nat.reduceAdd,Nat.reduceSub,List.replicate,List.cons_append,List.nil_append,getI,c3,nil3,isiR,tyN,isIn,if_true,Bool.not_true,Bool.false_eq_true,tf0,tc0,o3,gtR,uk0,decide_eq_true_eq,set3,for3,is3,List.set_cons_succ,List.set_cons_zero,if_false]
  by_cases hk:4 < k
  ·rw [if_pos hk] at q ⊢
   exact ⟨by decide,q⟩
  ·rw [if_neg hk] at q ⊢
   refine tl0 (λ r ρ μ'=>μ'=μ /\ ∃ (c:Nat) (dd:Option D),ρ=[some (.tup l),some (.int k),some (.int c),dd] /\ (∀ x,x ∈ r->ShD x) /\ told XE μ (λ c=>Q (.int c) μ) (ckL (ckD (ckW j) k) r c)) ?_ (λ _ _ _ _=>trivial) ?_ ?_
   ·exact ⟨rfl,0,none,rfl,hl,q⟩
   ·rintro ρ μ' ⟨rfl,c,dd,rfl,_,e2⟩
    simp only [ckL,told] at e2
    simp only [ret3,v3,getI]
    exact e2
   ·rintro x rest ρ μ' ⟨rfl,c,dd,rfl,hs,e2⟩
    simp only [gn3,seq3,set3,o3,v3,List.set_cons_succ,List.set_cons_zero,getI,zb0,za0,nil3,addR,ifs3,b3,c3,uk0,decide_eq_true_eq,tc0]
    refine ⟨x,k,rfl,h1 (by omega),by omega,h3,hs x (by simp),?_⟩
    simp only [ckL] at e2
    cases hc:ckD (ckW j) k x with
    | none=>rw [hc] at e2; exact e2
    | some m =>
     rw [hc] at e2
     dsimp only at e2
     simp only [told]
     by_cases h30:30 < c + m
     ·rw [if_pos h30] at e2
      rw [if_pos (by omega)]
      exact ⟨by decide,e2⟩
     ·rw [if_neg h30] at e2
      rw [if_neg (by omega)]
      refine ⟨trivial,c + m,some x,?_,λ y hy=>hs y (List.mem_cons_of_mem _ hy),e2⟩
      have e:((c + m:Nat):Int)=(c:Int) + (m:Int):=by omega
      rw [e]
noncomputable def Bad (d:D):Prop:=ShV d /\ ckW 6 d 0=none
noncomputable def ss0 (XE:XE3):Sp3:=λ ds μ Q=>∃ d,ds=[d] /\ ShV d /\ told XE μ (λ _=>Q .non μ) (ckW 6 d 0)
theorem vj3 (XE:XE3) (ds:List D) (μ:Mu) (Q:VK3) (h:ss0 XE ds μ Q):ym2 XE (yu0 5) { nx:=λ _ μ'=>Q .non μ',rt:=Q } (uc0 vh2 ds) μ:=by
 obtain ⟨d,rfl,sh,q⟩:=h
 simp only [ym2,yl0,zb0,za0,v3,uc0,List.map_cons,List.map_nil,vh2,List.length_cons,List.length_nil,Nat.zero_add,Nat.reduceSub,List.replicate,List.cons_append,List.nil_append,getI,c3,nil3]
 exact ⟨d,0,rfl,λ _=>by decide,by decide,by decide,sh,q⟩
theorem tk2 {n:Int} (h:0<=n /\ n<=G) (s:Str):ckN s (.int n)=true:=by
 have h1 : -G<=n /\ n<=G:=by unfold G at *; omega
 have h2:¬ n < 0:=by omega
 simp only [ckN,h1,h2]; simp
theorem yy1 {n:Int} (h : -G<=n /\ n<=G) {s:Str} (hs:(["go", "times"]:List Str).contains s=false):ckN s (.int n)=true:=by
 simp only [ckN,h,hs]; simp
mutual
theorem ts3:∀ (d:Dd) (j:Nat) (k:Int),okd d->cnt d<=30->k + dep d<=4->4 < k + j->ckD (ckW j) k (enc d)=some (cnt d)
 | .go n,j,k,h,_,_,_=>by simp only [okd] at h; simp only [enc,ckD,kp_go,tk2 h,cnt,and_self,if_true]
 | .jump n,j,k,h,_,_,_=>by simp only [okd] at h; simp only [enc,ckD,kp_jump,yy1 h kz_jump,cnt,and_self,if_true]
 | .turn n,j,k,h,_,_,_=>by simp only [okd] at h; simp only [enc,ckD,kp_turn,yy1 h kz_turn,cnt,and_self,if_true]
 | .times n w,j,k,h,hc,hd,hj=>by
  simp only [okd] at h
  simp only [cnt] at hc
  simp only [dep] at hd
  obtain ⟨i,rfl⟩:∃ i,j=i + 1:=⟨j - 1,by omega⟩
  have e:=zy1 w i (k + 1) h.2 0 (by omega) (by omega) (λ _=>by omega)
  simp only [enc,ckD,tk2 h.1,and_self,if_true,ckW,if_neg (show ¬ 4 < k + 1 by omega),e,cnt,Nat.zero_add]
theorem zy1:∀ (w:List Dd) (j:Nat) (k:Int),oks w->∀ c:Nat,c + cnts w<=30->k + deps w<=4->(w ≠ []->4 < k + j)->ckL (ckD (ckW j) k) (encs w) c=some (c + cnts w)
 | [],j,k,_,c,_,_,_=>by simp only [encs,ckL,cnts,Nat.add_zero]
 | d :: r,j,k,h,c,hc,hd,hj=>by
  simp only [oks] at h
  simp only [cnts] at hc
  simp only [deps] at hd
  have e1:=ts3 d j k h.1 (by omega) (by omega) (hj (by simp))
  have e2:=zy1 r j k h.2 (c + cnt d) (by omega) (by omega) (λ _=>hj (by simp))
  simp only [encs,ckL,e1,if_neg (show ¬ 30 < c + cnt d by omega),e2,cnts,Nat.add_assoc]
end
theorem uk2 {w:List Dd} (h:Wd w):ckW 6 (.tup (encs w)) 0=some (cnts w):=by
 obtain ⟨h1,h2,h3⟩:=h
 have e:=zy1 w 5 0 h1 0 (by omega) (by omega) (λ _=>by decide)
 simp only [ckW,if_neg (show ¬ (4:Int) < 0 by decide),e,Nat.zero_add]
mutual
theorem wn2:∀ d:Dd,ShD (enc d)
 | .go n=>by simp only [enc]; exact .mk _ _ (by intro x hx; simp only [List.mem_singleton] at hx; subst hx; exact .int n)
 | .jump n=>by simp only [enc]; exact .mk _ _ (by intro x hx; simp only [List.mem_singleton] at hx; subst hx; exact .int n)
 | .turn n=>by simp only [enc]; exact .mk _ _ (by intro x hx; simp only [List.mem_singleton] at hx; subst hx; exact .int n)
 | .times n w=>by
  simp only [enc]
  refine .mk _ _ (by
   intro x hx
   simp only [List.mem_cons,List.not_mem_nil,or_false] at hx
   rcases hx with rfl | rfl
   ·exact .int n
   ·exact .wd _ (zu0 w))
theorem zu0:∀ (w:List Dd) (x:D),x ∈ encs w->ShD x
 | [],x,h=>by simp [encs] at h
 | d :: r,x,h=>by
  simp only [encs,List.mem_cons] at h
  rcases h with rfl | h
  ·exact wn2 d
  ·exact zu0 r x h
end
inductive Gb (XE:XE3) (μ:Mu) (d:D) (R:List Dd->Prop):Prop where
 | good (w:List Dd):d=.tup (encs w)->Wd w->R w->Gb XE μ d R
 | bad:Bad d->XE "NoWord" μ->Gb XE μ d R
mutual
noncomputable def lim1 (M:Int):Dd->Prop
 | .go n=>-M<=n /\ n<=M
 | .jump n=>-M<=n /\ n<=M
 | .turn n=>-M<=n /\ n<=M
 | .times n w=>(-M<=n /\ n<=M) /\ lims M w
noncomputable def lims (M:Int):List Dd->Prop
 | []=>True
 | d :: r=>lim1 M d /\ lims M r
end
mutual
theorem se1 {M M':Int} (h:M<=M'):∀ d,lim1 M d->lim1 M' d
 | .go n,a=>by simp only [lim1] at a ⊢; omega
 | .jump n,a=>by simp only [lim1] at a ⊢; omega
 | .turn n,a=>by simp only [lim1] at a ⊢; omega
 | .times n w,a=>by simp only [lim1] at a ⊢; exact ⟨by omega,sg0 h w a.2⟩
theorem sg0 {M M':Int} (h:M<=M'):∀ w,lims M w->lims M' w
 | [],_=>by simp [lims]
 | d :: r,a=>by simp only [lims] at a ⊢; exact ⟨se1 h d a.1,sg0 h r a.2⟩
end
theorem wk0 (M:Int):∀ a b,lims M (a ++ b) ↔ lims M a /\ lims M b
 | [],b=>by simp [lims]
 | d :: r,b=>by simp only [List.cons_append,lims,wk0 M r b,and_assoc]
theorem wu0 {M:Int}:∀ {w:List Dd} {d:Dd},lims M w->d ∈ w->lim1 M d
 | [],_,_,h=>by simp at h
 | e :: r,d,h,m=>by
  simp only [lims] at h
  rcases List.mem_cons.mp m with rfl | m
  ·exact h.1
  ·exact wu0 h.2 m
theorem uh1 {M:Int}:∀ {w:List Dd},(∀ d ∈ w,lim1 M d)->lims M w
 | [],_=>by simp [lims]
 | d :: r,h=>by simp only [lims]; exact ⟨h d (by simp),uh1 λ e he=>h e (by simp [he])⟩
theorem xw0 {M:Int} {w:List Dd} (h:lims M w) (n:Nat):lims M (w.take n):=uh1 λ d hd=>wu0 h (List.mem_of_mem_take hd)
theorem yw0 {M:Int} {w:List Dd} (h:lims M w) (n:Nat):lims M (w.drop n):=uh1 λ d hd=>wu0 h (List.mem_of_mem_drop hd)
end Pv
namespace Pv
open PySem Mw
noncomputable def ue0:Sp3:=λ ds μ Q=>∃ (ns:List Int) (k:Int),ds=[.fls (ns.map D.int),.int k] /\ 0<=k /\ ∀ a b p,0<=a->μ p=none->Q (.ref p) (updM μ p (.lst [.int a,.int b]))
theorem ww3 (ds:List D) (μ:Mu) (Q:VK3) (h:ue0 ds μ Q):t_q9 { nx:=λ _ μ'=>Q .non μ',rt:=Q } (uc0 N_q9 ds) μ:=by
 obtain ⟨ns,k,rfl,hk,q⟩:=h
 have e:((10:Int) ^ (18:Int).toNat)=1000000000000000000:=by decide
 have c:CPow 10 18:=⟨by decide,by decide,by decide⟩
 simp only [t_q9,seq3,set3,c3,ifs3,b3,o3,v3,uc0,List.map_cons,List.map_nil,N_q9,List.length_cons,List.length_nil,Nat.zero_add,Nat.reduceAdd,Nat.reduceSub,List.replicate,List.cons_append,List.nil_append,List.set_cons_succ,List.set_cons_zero,getI,zb0,za0,nil3,lenR,ltR,uk0,decide_eq_true_eq,ixR,powR,int2,c,geR,e,ret3,lst3,subR,true_and,tc0,mulR,addR,modR]
 have key:∀ i:Int,(if 1000000000000000000<=i then 2<=sizeLine /\ ∀ p,μ p=none->Q (.ref p) (updM μ p (.lst [.int (i - 1000000000000000000),.int 1]))
     else CMul 7919 k /\ (0:Int) < 2147483647 /\ 2<=sizeLine /\ ∀ p,μ p=none->Q (.ref p) (updM μ p (.lst [.int ((i + 7919 * k) % 2147483647),.int 0]))):=by
  intro i
  split
  ·exact ⟨by decide,λ p hp=>q _ _ p (by omega) hp⟩
  ·exact ⟨.inl (.inl (by decide)),by decide,by decide,λ p hp=>q _ _ p (Int.emod_nonneg _ (by decide)) hp⟩
 split
 ·next h1 =>
  obtain ⟨d,hd,e⟩:=yz1 (l:=ns.map D.int) hk h1
  obtain ⟨i,_,rfl⟩:=List.mem_map.mp hd
  simp only [e]
  exact key i
 ·exact key 0
noncomputable def uf0:Sp3:=λ ds μ Q=>∃ (p:Addr) (m a b:Int),ds=[.ref p,.int m] /\ 0 < m /\ m < 2 ^ 80 /\ μ p=some (.lst [.int a,.int b]) /\ 0<=a ∧
 ∀ r a' b',0<=r->r < m->0<=a'->Q (.int r) (updM μ p (.lst [.int a',.int b']))
theorem wk3 (ds:List D) (μ:Mu) (Q:VK3) (h:uf0 ds μ Q):um2 { nx:=λ _ μ'=>Q .non μ',rt:=Q } (uc0 xi2 ds) μ:=by
 obtain ⟨p,m,a,b,rfl,h1,h2,h3,h4,q⟩:=h
 simp only [um2,seq3,ifs3,and3,b3,o3,v3,uc0,List.map_cons,List.map_nil,xi2,List.length_cons,List.length_nil,Nat.zero_add,Nat.reduceAdd,Nat.reduceSub,List.replicate,List.cons_append,List.nil_append,getI,c3,ixR,h3,atI1,gtR,uk0,decide_eq_true_eq,set3,modR,int2,asg3,List.set_cons_succ,List.set_cons_zero,tf2,sub3,ret3,tc0,mulR,addR,Bool.false_eq_true,if_false,xt0,atI0,ixN0,ixN1]
 have main:CMul a 48271 /\ (0:Int) < 2147483647 /\ (∀ c:Int,c=(a * 48271 + 69621) % 2147483647->CMul c c /\ CMul 16807 c /\ (0:Int) < 2147483629 /\ ∀ e:Int,e=(c * c + 16807 * c) % 2147483629->CMul e e /\ CMul 39373 e /\ (0:Int) < 2147483587 /\ ((0:Int) < 8 /\ (8:Int) < 2 ^ 120) /\ 0 < m ∧
     Q (.int ((e * e + 39373 * e) % 2147483587 / 8 % m)) (updM μ p (.lst [.int c,.int 0]))):=by
  refine ⟨.inl (.inr (by decide)),by decide,λ c hc=>?_⟩
  have n1:0<=c:=by rw [hc]; exact Int.emod_nonneg _ (by decide)
  have n2:c < 2147483647:=by rw [hc]; exact Int.emod_lt_of_pos _ (by decide)
  refine ⟨.inl (.inl (by omega)),.inl (.inl (by decide)),by decide,λ e he=>?_⟩
  have n3:0<=e:=by rw [he]; exact Int.emod_nonneg _ (by decide)
  have n4:e < 2147483629:=by rw [he]; exact Int.emod_lt_of_pos _ (by decide)
  exact ⟨.inl (.inl (by omega)),.inl (.inl (by decide)),by decide,⟨by decide,by decide⟩,h1,q _ _ _ (Int.emod_nonneg _ (by omega)) (Int.emod_lt_of_pos _ h1) n1⟩
 obtain ⟨m1,m2,m3⟩:=main
 obtain ⟨m4,m5,m6,m7⟩:=m3 _ rfl
 obtain ⟨m8,m9,m10,m11,m12,m13⟩:=m7 _ rfl
 split
 ·split
  ·refine ⟨h1,⟨h1,by omega⟩,?_⟩
   exact q _ _ _ (Int.emod_nonneg _ (by omega)) (Int.emod_lt_of_pos _ h1) (Int.ediv_nonneg h4 (by omega))
  ·simp only [sa0,atI0,List.length_cons,List.length_nil,Nat.zero_add,Nat.reduceAdd,ixN0,List.set_cons_zero,sj0]
   exact ⟨m1,m2,m4,m5,m6,m8,m9,m10,m11,m12,m13⟩
 ·simp only [sa0,atI0,List.length_cons,List.length_nil,Nat.zero_add,Nat.reduceAdd,ixN0,List.set_cons_zero,sj0]
  exact ⟨m1,m2,m4,m5,m6,m8,m9,m10,m11,m12,m13⟩
mutual
noncomputable def sd1:Dd->Prop
 | .go n=>0<=n /\ n<=2
 | .jump n=>-2<=n /\ n<=2
 | .turn n=>-4<=n /\ n<=4
 | .times n w=>(0<=n /\ n<=3) /\ w.length<=4 /\ sds w
noncomputable def sds:List Dd->Prop
 | []=>True
 | d :: r=>sd1 d /\ sds r
end
theorem tp0:∀ a b,sds (a ++ b) ↔ sds a /\ sds b
 | [],b=>by simp [sds]
 | d :: r,b=>by simp only [List.cons_append,sds,tp0 r b,and_assoc]
theorem yg2:∀ a b,deps (a ++ b)=max (deps a) (deps b)
 | [],b=>by simp [deps]
 | d :: r,b=>by simp only [List.cons_append,deps,yg2 r b]; omega
theorem uw0 {a b:Nat} (h:a<=b):4 ^ a<=4 ^ b:=Nat.pow_le_pow_right (by decide) h
mutual
theorem wb3:∀ d,sd1 d->okd d /\ 3 * cnt d + 1<=4 * 4 ^ dep d
 | .go n,h=>by
  simp only [sd1] at h
  simp only [okd,G,dep,cnt]
  omega
 | .jump n,h=>by
  simp only [sd1] at h
  simp only [okd,G,dep,cnt]
  omega
 | .turn n,h=>by
  simp only [sd1] at h
  simp only [okd,G,dep,cnt]
  omega
 | .times n w,h=>by
  simp only [sd1] at h
  obtain ⟨h1,h2,h3⟩:=h
  obtain ⟨a1,a4⟩:=tt1 w h3
  simp only [okd,G,dep,cnt]
  rw [Nat.add_comm 1 (deps w),Nat.pow_succ]
  have c4:1<=4 ^ deps w:=Nat.pow_pos (by decide)
  have c3:w.length=0 \/ w.length=1 \/ w.length=2 \/ w.length=3 \/ w.length=4:=by omega
  refine ⟨⟨by omega,a1⟩,?_⟩
  rcases c3 with e | e | e | e | e <;> rw [e] at a4 <;> omega
theorem tt1:∀ w,sds w->oks w /\ 3 * cnts w + w.length<=w.length * (4 * 4 ^ deps w)
 | [],h=>by simp [oks,cnts]
 | d :: r,h=>by
  simp only [sds] at h
  obtain ⟨a1,a4⟩:=wb3 d h.1
  obtain ⟨b1,b4⟩:=tt1 r h.2
  simp only [oks,cnts,deps,List.length_cons,Nat.add_mul,Nat.one_mul]
  have c3:4 ^ dep d<=4 ^ max (dep d) (deps r):=uw0 (by omega)
  have c4:4 ^ deps r<=4 ^ max (dep d) (deps r):=uw0 (by omega)
  have e3:r.length * (4 * 4 ^ deps r)<=r.length * (4 * 4 ^ max (dep d) (deps r)):=Nat.mul_le_mul_left _ (by omega)
  exact ⟨⟨a1,b1⟩,by omega⟩
end
theorem un2 {d:Dd} (h:sd1 d) (hd:dep d<=2):Wd [d]:=by
 obtain ⟨a,b⟩:=wb3 d h
 have c:4 ^ dep d<=4 ^ 2:=uw0 hd
 exact ⟨by simp only [oks]; exact ⟨a,trivial⟩,by simp only [deps]; omega,by simp only [cnts]; omega⟩
theorem vu0 {α:Type} (l:List α) (a:α):atI (l ++ [a]) (-1)=some a:=by
 unfold atI ixN
 rw [if_neg (by decide),if_pos (by rw [List.length_append,List.length_singleton]; omega)]
 simp only [Option.bind_some]
 rw [show ((-1:Int) + ((l ++ [a]).length:Int)).toNat=l.length by rw [List.length_append,List.length_singleton]; omega]
 simp
theorem ne_L {w:List Dd} (hw:deps w<=20) {r q:Addr} {μ:Mu} (hr:μ r=some (.lst (encs w))) (hq:μ q=some (.lst [])) {K:VK3} (k:K (.bl (!w.isEmpty)) μ):neR (.ref r) (.ref q) μ K:=by
 have d1:datM μ (.ref r)=some (.list (pes w)):=by simp only [datM,hr,uh0]
 have d2:datM μ (.ref q)=some (.list []):=by simp only [datM,hq,dats]
 have dp:(PyData.list (pes w)).depth<=64:=by have:=vh0 w; simp only [PyData.depth]; omega
 rw [yp0 rfl d1 d2 dp (by decide)]
 rw [show PyData.eqv (.list (pes w)) (.list [])=w.isEmpty by cases w <;> simp [pes,PyData.eqv,PyData.eqvAll]]
 exact k
noncomputable def zo0 (j:Nat):Sp3:=λ ds μ Q=>∃ (p:Addr) (deep m:Int),ds=[.ref p,.int deep,.int m] /\ deep < j /\ 0<=deep /\ deep<=10 /\ 0<=m /\ m<=1000 /\ ∃ a b,μ p=some (.lst [.int a,.int b]) /\ 0<=a ∧
 ∀ w a' b' μ',ExtB p μ μ'->μ' p=some (.lst [.int a',.int b'])->0<=a'->sds w->(deps w:Int)<=deep->(w.length:Int)<=2 * m->Q (.tup (encs w)) μ'
noncomputable def spLd (j:Nat):Sp3:=λ ds μ Q=>∃ (p:Addr) (deep:Int),ds=[.ref p,.int deep] /\ deep < j /\ 0<=deep /\ deep<=10 /\ ∃ a b,μ p=some (.lst [.int a,.int b]) /\ 0<=a ∧
 ∀ d a' b' μ',ExtB p μ μ'->μ' p=some (.lst [.int a',.int b'])->0<=a'->sd1 d->(dep d:Int)<=deep->Q (enc d) μ'
theorem zx3 (j:Nat) (ds:List D) (μ:Mu) (Q:VK3) (h:spLd (j + 1) ds μ Q):t_q2 (zo0 j) uf0 { nx:=λ _ μ'=>Q .non μ',rt:=Q } (uc0 N_q2 ds) μ:=by
 obtain ⟨p,deep,rfl,h1,h2,h10,a,b,h3,h4,q⟩:=h
 simp only [t_q2,seq3,set3,zb0,za0,v3,uc0,List.map_cons,List.map_nil,N_q2,List.length_cons,List.length_nil,Nat.zero_add,Nat.reduceAdd,Nat.reduceSub,List.replicate,List.cons_append,List.nil_append,getI,o3,c3,gtR,uk0,nil3,intR,mulR,decide_eq_true_eq,addR,ifs3,b3,List.set_cons_succ,List.set_cons_zero,ret3,tup3,subR,tc0,ltR]
 refine ⟨.inl (.inl (by decide)),p,_,a,b,rfl,by split <;> omega,by split <;> omega,h3,h4,λ k a1 b1 k1 k2 k3=>?_⟩
 have ex:∀ o,ExtB p μ (updM μ p o):=λ o=>ExtB.upd
 simp only [xt0,decide_eq_true_eq]
 split
 ·refine ⟨p,9,a1,b1,rfl,by decide,by decide,sa0,k3,λ n a2 b2 n1 n2 n3=>?_⟩
  simp only [sj0]
  exact ⟨by decide,q (.turn (n - 4)) a2 b2 _ (ex _) sa0 n3 (by simp only [sd1]; omega) (by simp only [dep]; omega)⟩
 ·split
  ·refine ⟨p,5,a1,b1,rfl,by decide,by decide,sa0,k3,λ n a2 b2 n1 n2 n3=>?_⟩
   simp only [sj0]
   exact ⟨by decide,q (.jump (n - 2)) a2 b2 _ (ex _) sa0 n3 (by simp only [sd1]; omega) (by simp only [dep]; omega)⟩
  ·split
   ·refine ⟨p,3,a1,b1,rfl,by decide,by decide,sa0,k3,λ n a2 b2 n1 n2 n3=>?_⟩
    simp only [sj0]
    exact ⟨by decide,q (.go n) a2 b2 _ (ex _) sa0 n3 (by simp only [sd1]; omega) (by simp only [dep]; omega)⟩
   ·next g1 g2 g3 =>
    have hd:0 < deep:=by
     by_cases hd:0 < deep
     ·exact hd
     ·simp [hd] at k2; omega
    refine ⟨p,4,a1,b1,rfl,by decide,by decide,sa0,k3,λ n a2 b2 n1 n2 n3=>?_⟩
    simp only [sj0]
    refine ⟨p,3,a2,b2,rfl,by decide,by decide,sa0,n3,λ m a3 b3 x1 x2 x3=>?_⟩
    simp only [sj0]
    refine ⟨p,deep - 1,m,rfl,by omega,by omega,by omega,x1,by omega,a3,b3,sa0,x3,λ w a4 b4 μ4 y1 y2 y3 y4 y5 y6=>?_⟩
    exact ⟨by decide,q (.times n w) a4 b4 μ4 ((ex _).trans y1) y2 y3 (by simp only [sd1]; exact ⟨by omega,by omega,y4⟩) (by simp only [dep]; omega)⟩
theorem yx3 (j:Nat) (ds:List D) (μ:Mu) (Q:VK3) (h:zo0 j ds μ Q):t_q3 (spLd j) uf0 { nx:=λ _ μ'=>Q .non μ',rt:=Q } (uc0 N_q3 ds) μ:=by
 obtain ⟨p,deep,m,rfl,h1,h2,h10,m0,m1,a,b,h3,h4,q⟩:=h
 have hz:(100000:Nat) < sizeLine:=by decide
 simp only [t_q3,seq3,set3,lst3,nil3,List.length_nil,for3,ir3,za0,v3,uc0,List.map_cons,List.map_nil,N_q3,List.length_cons,Nat.zero_add,Nat.reduceAdd,Nat.reduceSub,List.replicate,List.cons_append,List.nil_append,List.set_cons_succ,List.set_cons_zero,getI,subR]
 refine ⟨by omega,λ r hr=>⟨⟨by omega,by omega⟩,?_⟩⟩
 refine tl0 (λ l ρ μ'=>∃ (r:Addr) (w:List Dd) (o:Option D),ρ=[some (.ref p),some (.int deep),some (.int m),some (.ref r),o] /\ r ≠ p /\ μ r=none /\ μ' r=some (.lst (encs w)) /\ ExtB p μ μ' /\ (∃ a b,μ' p=some (.lst [.int a,.int b]) /\ 0<=a) /\ sds w /\ (deps w:Int)<=deep /\ (w.length:Int) + 2 * (l.length:Int)<=2 * m) ?_ (λ _ _ _ _=>trivial) ?_ ?_
 ·refine ⟨r,[],none,rfl,Ne.symm (zk0 h3 hr),hr,sa0,(Ext.new hr).b p,⟨a,b,by rw [xc0 (zk0 h3 hr)]; exact h3,h4⟩,by simp only [sds],by simp only [deps]; omega,?_⟩
  simp only [rngD,List.length_map,List.length_range,List.length_nil]
  omega
 ·rintro ρ μ' ⟨r,w,o,rfl,rp,r0,er,ex,⟨a',b',e2,e3⟩,w1,w2,w3⟩
  simp only [ret3,zb0,za0,v3,getI,nil3,tupR,er]
  exact q w a' b' μ' ex e2 e3 w1 w2 (by simpa using w3)
 ·rintro x l ρ μ' ⟨r,w,o,rfl,rp,r0,er,ex,⟨a',b',e2,e3⟩,w1,w2,w3⟩
  rw [List.length_cons] at w3
  have wl:w.length<=2000:=by omega
  simp only [gn3,ifs3,and3,b3,o3,v3,List.set_cons_succ,List.set_cons_zero,getI,lst3,nil3,List.length_nil,zb0,za0,c3,yl0,mt3,un3,negR,ixR,appR,set3,tup3,uk0,List.length_cons,Nat.zero_add,Nat.reduceAdd,addR,Bool.false_eq_true,if_false]
  refine ⟨by omega,λ s hs=>?_⟩
  have fresh:∀ {μ2:Mu} {s:Addr},ExtB p μ μ2->(∃ o,μ2 p=some o)->μ2 s=none->μ s=none:=λ {μ2 s} e1 e2 e3=>by
   cases h:μ s with
   | none=>rfl
   | some o =>
    by_cases c:s=p
    ·subst c; obtain ⟨o,e⟩:=e2; rw [e] at e3; cases e3
    ·rw [e1 s o c h] at e3; cases e3
  have app:∀ (μ2:Mu) (K:VK3),μ2 r=some (.lst (encs w))->ExtB p μ μ2->(∃ a b,μ2 p=some (.lst [.int a,.int b]) /\ 0<=a) ->
      (∀ d μ3,μ3 r=some (.lst (encs w))->ExtB p μ μ3->(∃ a b,μ3 p=some (.lst [.int a,.int b]) /\ 0<=a)->sd1 d->(dep d:Int)<=deep->K (enc d) μ3)->spLd j [.ref p,.int deep] μ2 K:=λ μ2 K g1 g2 ⟨a1,b1,g3,g4⟩ g5 =>
   ⟨p,deep,rfl,h1,h2,h10,a1,b1,g3,g4,λ d a2 b2 μ3 y1 y2 y3 y4 y5=>g5 d μ3 (y1 r _ rp g1) (g2.trans y1) ⟨a2,b2,y2,y3⟩ y4 y5⟩
  have fin:∀ (d:Dd) (μ3:Mu),μ3 r=some (.lst (encs w))->ExtB p μ μ3->(∃ a b,μ3 p=some (.lst [.int a,.int b]) /\ 0<=a)->sd1 d->(dep d:Int)<=deep ->
      ∃ (r':Addr) (w':List Dd) (o:Option D),[some (D.ref p),some (.int deep),some (.int m),some (.ref r),some x]=[some (.ref p),some (.int deep),some (.int m),some (.ref r'),o] /\ r' ≠ p /\ μ r'=none /\ updM μ3 r (.lst (encs w ++ [enc d])) r'=some (.lst (encs w')) /\ ExtB p μ (updM μ3 r (.lst (encs w ++ [enc d]))) /\ (∃ a b,updM μ3 r (.lst (encs w ++ [enc d])) p=some (.lst [.int a,.int b]) /\ 0<=a) /\ sds w' /\ (deps w':Int)<=deep /\ (w'.length:Int) + 2 * (l.length:Int)<=2 * m:=λ d μ3 g1 g2 ⟨a1,b1,g3,g4⟩ g5 g6=>by
   refine ⟨r,w ++ [d],some x,rfl,rp,r0,by rw [sa0,se0]; simp only [encs],λ c o hc hq=>?_,⟨a1,b1,by rw [xc0 (Ne.symm rp)]; exact g3,g4⟩,?_,?_,?_⟩
   ·rw [xc0 (zk0 hq r0)]; exact g2 c o hc hq
   ·rw [tp0]; simp only [sds]; exact ⟨w1,g5,trivial⟩
   ·rw [yg2]; simp only [deps]; omega
   ·rw [List.length_append]; simp only [List.length_cons,List.length_nil]; omega
  have n1:s ≠ r:=λ h=>by subst h; rw [er] at hs; cases hs
  have n2:s ≠ p:=λ h=>by subst h; rw [e2] at hs; cases hs
  have er1:updM μ' s (.lst []) r=some (.lst (encs w)):=by rw [xc0 (Ne.symm n1)]; exact er
  have ep1:updM μ' s (.lst []) p=some (.lst [.int a',.int b']):=by rw [xc0 (Ne.symm n2)]; exact e2
  have ex1:ExtB p μ (updM μ' s (.lst [])):=ex.trans ((Ext.new hs).b p)
  refine ne_L (by omega) er1 sa0 ?_
  rcases List.eq_nil_or_concat w with rfl | ⟨v,e,rfl⟩
  ·simp only [List.isEmpty_nil,Bool.not_true,Bool.false_eq_true,if_false]
   refine ⟨by omega,λ s2 hs2=>?_⟩
   have n3:s2 ≠ r:=λ h=>by subst h; rw [er1] at hs2; cases hs2
   have n4:s2 ≠ p:=λ h=>by subst h; rw [ep1] at hs2; cases hs2
   have er3:updM (updM μ' s (.lst [])) s2 (.lst []) r=some (.lst (encs [])):=by rw [xc0 (Ne.symm n3)]; exact er1
   refine ne_L (w:=[]) (by simp [deps]) er3 sa0 ?_
   simp only [List.isEmpty_nil,Bool.not_true,Bool.false_eq_true,er3,if_false]
   refine app _ _ er3 (ex1.trans ((Ext.new hs2).b p)) ⟨a',b',by rw [xc0 (Ne.symm n4)]; exact ep1,e3⟩ λ d μ3 g1 g2 g3 g4 g5=>?_
   simp only [g1]
   exact ⟨by rw [yb0,List.length_nil]; omega,fin d μ3 g1 g2 g3 g4 g5⟩
  ·simp only [List.concat_eq_append] at *
   have ee:encs (v ++ [e])=encs v ++ [enc e]:=by rw [se0]; simp only [encs]
   have il:(v ++ [e]).isEmpty=false:=by simp
   have se:sd1 e /\ (dep e:Int)<=deep:=by
    rw [tp0] at w1
    rw [yg2] at w2
    simp only [sds,deps] at w1 w2
    exact ⟨w1.2.1,by omega⟩
   simp only [il,Bool.not_false,if_true]
   refine ⟨p,4,a',b',rfl,by decide,by decide,ep1,e3,λ t a2 b2 t1 t2 t3=>?_⟩
   have er2:∀ o,updM (updM μ' s (.lst [])) p o r=some (.lst (encs (v ++ [e]))):=λ o=>by rw [xc0 rp]; exact er1
   have ex2:∀ o,ExtB p μ (updM (updM μ' s (.lst [])) p o):=λ o=>ex1.trans ExtB.upd
   simp only [xt0,decide_eq_true_eq]
   split
   ·simp only [er2,ee,vu0]
    refine ⟨by rw [List.length_append,yb0,List.length_singleton]; rw [List.length_append,List.length_singleton] at wl; omega,?_⟩
    have:=fin e _ (er2 (.lst [.int a2,.int b2])) (ex2 _) ⟨a2,b2,sa0,t3⟩ se.1 se.2
    rw [ee] at this
    exact this
   ·refine ⟨by omega,λ s2 hs2=>?_⟩
    have n3:s2 ≠ r:=λ h=>by subst h; rw [er2] at hs2; cases hs2
    have n4:s2 ≠ p:=λ h=>by subst h; rw [sa0] at hs2; cases hs2
    generalize hμ2:updM (updM μ' s (.lst [])) p (.lst [.int a2,.int b2])=μ2 at hs2 ⊢
    have g1:μ2 r=some (.lst (encs (v ++ [e]))):=by rw [<- hμ2]; exact er2 _
    have g2:ExtB p μ μ2:=by rw [<- hμ2]; exact ex2 _
    have g3:μ2 p=some (.lst [.int a2,.int b2]):=by rw [<- hμ2]; exact sa0
    have f1:updM μ2 s2 (.lst []) r=some (.lst (encs (v ++ [e]))):=by rw [xc0 (Ne.symm n3)]; exact g1
    have f2:ExtB p μ (updM μ2 s2 (.lst [])):=g2.trans ((Ext.new hs2).b p)
    have f3:updM μ2 s2 (.lst []) p=some (.lst [.int a2,.int b2]):=by rw [xc0 (Ne.symm n4)]; exact g3
    refine ne_L (w:=v ++ [e]) (by omega) f1 sa0 ?_
    generalize updM μ2 s2 (.lst [])=μ4 at f1 f2 f3 ⊢
    simp only [il,Bool.not_false,f1,ee,vu0,if_true]
    have rest:∀ μ5:Mu,μ5 r=some (.lst (encs (v ++ [e])))->ExtB p μ μ5->(∃ a b,μ5 p=some (.lst [.int a,.int b]) /\ 0<=a)->∀ K:VK3,(∀ d μ3,(encs (v ++ [e])).length < sizeLine->μ3 r=some (.lst (encs (v ++ [e])))->ExtB p μ μ3->(∃ a b,μ3 p=some (.lst [.int a,.int b]) /\ 0<=a)->sd1 d->(dep d:Int)<=deep->K (enc d) μ3)->spLd j [.ref p,.int deep] μ5 K:=λ μ5 y1 y2 y3 K y4=>app μ5 K y1 y2 y3 λ d μ3 z1 z2 z3 z4 z5=>y4 d μ3 (by rw [yb0]; omega) z1 z2 z3 z4 z5
    cases e with
    | go n =>
     simp only [enc,atI0,tm0,decide_eq_true_eq,if_true]
     refine ⟨p,3,a2,b2,rfl,by decide,by decide,f3,t3,λ t' a4 b4 u1 u2 u3=>?_⟩
     have f4:∀ o,updM μ4 p o r=some (.lst (encs v ++ [enc (.go n)])):=λ o=>by rw [xc0 rp,f1,ee]
     simp only [xt0,decide_eq_true_eq]
     split
     ·simp only [f4,enc,vu0,atI1]
      simp only [enc] at f4
      refine ⟨by decide,by decide,λ s3 hs3=>?_⟩
      have n5:s3 ≠ r:=λ h=>by subst h; rw [f4] at hs3; cases hs3
      have n6:s3 ≠ p:=λ h=>by subst h; rw [sa0] at hs3; cases hs3
      simp only [xc0 (Ne.symm n5),f4,sa0,List.length_cons,List.length_nil,Nat.zero_add,Nat.reduceAdd]
      refine ⟨by rw [List.length_append,yb0,List.length_singleton]; rw [List.length_append,List.length_singleton] at wl; omega,λ s4 hs4=>?_⟩
      have n7:s4 ≠ s3:=λ h=>by subst h; rw [sa0] at hs4; cases hs4
      have n8:s4 ≠ p:=λ h=>by subst h; rw [xc0 (Ne.symm n6),sa0] at hs4; cases hs4
      have ex5:ExtB p μ (updM (updM μ4 p (.lst [.int a4,.int b4])) s3 (.lst [.tup [.str "jump",.int (0 - n)],.tup [.str "go",.int n]])):=(f2.trans ExtB.upd).trans ((Ext.new hs3).b p)
      have ep5:updM (updM μ4 p (.lst [.int a4,.int b4])) s3 (.lst [.tup [.str "jump",.int (0 - n)],.tup [.str "go",.int n]]) p=some (.lst [.int a4,.int b4]):=by rw [xc0 (Ne.symm n6),sa0]
      refine ⟨s4,v ++ [.go n] ++ [.jump (0 - n),.go n],some x,rfl,n8,fresh ex5 ⟨_,ep5⟩ hs4,?_,ex5.trans ((Ext.new hs4).b p),⟨a4,b4,by rw [xc0 (Ne.symm n8)]; exact ep5,u3⟩,?_,?_,?_⟩
      ·rw [sa0,se0,se0]; simp only [encs,enc]
      ·rw [tp0]; simp only [sds,sd1] at se ⊢; exact ⟨w1,⟨by omega,by omega⟩,⟨by omega,by omega⟩,trivial⟩
      ·rw [yg2]; simp only [deps,dep]; omega
      ·rw [List.length_append]; simp only [List.length_cons,List.length_nil]; omega
     ·simp only [f4]
      refine rest _ (by rw [f4,ee]) (f2.trans ExtB.upd) ⟨a4,b4,sa0,u3⟩ _ λ d μ3 z0 z1 z2 z3 z4 z5=>?_
      simp only [z1]
      exact ⟨z0,fin d μ3 z1 z2 z3 z4 z5⟩
    | jump n =>
     simp only [enc,atI0,tm0,kn_jump_go,decide_eq_true_eq,f1,if_false]
     refine rest _ f1 f2 ⟨a2,b2,f3,t3⟩ _ λ d μ3 z0 z1 z2 z3 z4 z5=>?_
     simp only [z1]
     exact ⟨z0,fin d μ3 z1 z2 z3 z4 z5⟩
    | turn n =>
     simp only [enc,atI0,tm0,kn_turn_go,decide_eq_true_eq,f1,if_false]
     refine rest _ f1 f2 ⟨a2,b2,f3,t3⟩ _ λ d μ3 z0 z1 z2 z3 z4 z5=>?_
     simp only [z1]
     exact ⟨z0,fin d μ3 z1 z2 z3 z4 z5⟩
    | times n u =>
     simp only [enc,atI0,tm0,kn_times_go,decide_eq_true_eq,f1,if_false]
     refine rest _ f1 f2 ⟨a2,b2,f3,t3⟩ _ λ d μ3 z0 z1 z2 z3 z4 z5=>?_
     simp only [z1]
     exact ⟨z0,fin d μ3 z1 z2 z3 z4 z5⟩
end Pv
namespace Pv
open PySem Mw
noncomputable def spLI:Sp3:=λ ds μ Q=>∃ d,ds=[enc d] /\ dep d<=20 /\ Q (.bl (idl d)) μ
theorem tw3 (ds:List D) (μ:Mu) (Q:VK3) (h:spLI ds μ Q):t_q6 { nx:=λ _ μ'=>Q .non μ',rt:=Q } (uc0 N_q6 ds) μ:=by
 obtain ⟨d,rfl,hd,q⟩:=h
 cases d with
 | go n =>
  simp only [idl] at q
  by_cases c:n=0
  ·show if (decide (n=0))=true then _ else _
   rw [if_pos (decide_eq_true c)]
   rw [decide_eq_true c] at q
   exact q
  ·show if (decide (n=0))=true then _ else _
   rw [if_neg (λ h=>c (of_decide_eq_true h))]
   rw [decide_eq_false c] at q
   exact q
 | jump n =>
  simp only [idl] at q
  by_cases c:n=0
  ·show if (decide (n=0))=true then _ else _
   rw [if_pos (decide_eq_true c)]
   rw [decide_eq_true c] at q
   exact q
  ·show if (decide (n=0))=true then _ else _
   rw [if_neg (λ h=>c (of_decide_eq_true h))]
   rw [decide_eq_false c] at q
   exact q
 | turn n=>exact ⟨show (0:Int) < 4 by decide,q⟩
 | times n w =>
  simp only [dep] at hd
  simp only [idl] at q
  by_cases c:n=0
  ·show if (decide (n=0))=true then _ else _
   rw [if_pos (decide_eq_true c)]
   rw [decide_eq_true c] at q
   exact q
  ·show if (decide (n=0))=true then _ else _
   rw [if_neg (λ h=>c (of_decide_eq_true h))]
   rw [decide_eq_false c,Bool.false_or] at q
   refine ⟨Nat.zero_le _,?_⟩
   show eqR (.tup (encs w)) (.tup (encs [])) μ Q
   refine eq_W (by omega) (by simp [deps]) λ b hb=>?_
   rw [isE w hb]
   exact q
noncomputable def encC:Option (Nat × List Dd)->D
 | none=>.non
 | some (n,x)=>.tup [.int n,.tup (encs x)]
theorem zh0 {c:TT3} {t r:TS3} {D':Ends3} {ρ:St3} {μ:Mu} (hc:∀ K:Bool->Mu->Prop,K true μ->c ρ μ K) (k:t { D' with nx:=r D' } ρ μ):seq3 (ifs3 c t tc0) r D' ρ μ:=hc _ k
theorem uu2 (a b z:Str):([PyData.str a,.str b].any λ e=>PyData.eqv e (.str z))=(decide (a=z) || decide (b=z)):=by rw [Bool.eq_iff_iff]; simp [PyData.eqv]
theorem tj2 {a b z:Str} (ha:PyData.strOk a=true) (hb:PyData.strOk b=true) (hz:PyData.strOk z=true) {p:Addr} {μ:Mu} (hp:μ p=some (.lst [.str a,.str b])) {c:Bool} (hc:(decide (a=z) || decide (b=z))=c) {K:VK3} (k:K (.bl c) μ):inR false (.str z) (.ref p) μ K:=by
 show inD false (.str z) (.ref p) μ K
 have d1:datM μ (.str z)=some (.str z):=by simp only [datM,dat,hz,if_true]
 have d2:datM μ (.ref p)=some (.list [.str a,.str b]):=by simp only [datM,hp,dats,dat,ha,hb,if_true]
 unfold inD
 simp only [d1,d2]
 refine ⟨⟨by simp [PyData.depth],by simp [PyData.depth,PyData.depthAll]⟩,?_⟩
 rw [uu2,hc]
 exact k
theorem vl1 (n:Int) (r:List Dd) [Decidable (r.take 2=[.jump (0 - n),.go n])]:chg (.go n :: r) .once=if r.take 2=[.jump (0 - n),.go n] then some (3,[.go n]) else none:=by
 rcases r with _ | ⟨d,_ | ⟨e,r⟩⟩
 ·simp [chg]
 ·simp [chg]
 ·cases d <;> cases e <;> simp [chg]
  all_goals (split <;> split <;> simp_all <;> omega)
noncomputable def spLC:Sp3:=λ ds μ Q=>∃ (w:List Dd) (i:Int) (k:Kd) (way:List Int) (i0:Int),ds=[.tup (encs w),.int i,yh0 k way i0] /\ 0<=i /\ i<=w.length /\ deps w<=10 /\ (∀ d,k=.inn d->dep d<=10) /\ ∀ μ',Ext μ μ'->Q (encC (chg (w.drop i.toNat) k)) μ'
theorem sm0:∀ (w:List Dd) (n:Nat),deps (w.drop n)<=deps w
 | [],n=>by simp
 | d :: r,0=>by simp
 | d :: r,n + 1=>by have:=sm0 r n; simp only [List.drop_succ_cons,deps]; omega
theorem vp0:∀ (w:List Dd) (n:Nat),deps (w.take n)<=deps w
 | [],n=>by simp
 | d :: r,0=>by simp [deps]
 | d :: r,n + 1=>by have:=vp0 r n; simp only [List.take_succ_cons,deps]; omega
noncomputable def kdn:Dd->Str
 | .go _ => "go"
 | .jump _ => "jump"
 | .turn _ => "turn"
 | .times _ _ => "times"
theorem ix0 (e:Dd) {μ:Mu} {K:VK3} (k:K (.str (kdn e)) μ):ixR (enc e) (.int 0) μ K:=by cases e <;> exact k
theorem ix1 (e:Dd) {μ:Mu} {K:VK3} (k:K (.int (num e)) μ):ixR (enc e) (.int 1) μ K:=by cases e <;> exact k
theorem o3_l {r:R3} {a b:TE3} {ρ:St3} {μ:Mu} {x:D} {Q:VK3} (ha:∀ K:VK3,K x μ->a ρ μ K) (k:b ρ μ λ y μ2=>r x y μ2 Q):o3 r a b ρ μ Q:=ha _ k
theorem o3_2 {r:R3} {a b:TE3} {ρ:St3} {μ:Mu} {x y:D} {Q:VK3} (ha:∀ K:VK3,K x μ->a ρ μ K) (hb:∀ K:VK3,K y μ->b ρ μ K) (k:r x y μ Q):o3 r a b ρ μ Q:=ha _ (hb _ k)
theorem xb3 {r:D->Option Int->Option Int->Mu->VK3->Prop} {te:TE3} {tl th:TO3} {ρ:St3} {μ:Mu} {x:D} {Q:VK3} (ha:∀ K:VK3,K x μ->te ρ μ K) (k:tl ρ μ λ l μ2=>th ρ μ2 λ u μ3=>r x l u μ3 Q):sl3 r te tl th ρ μ Q:=ha _ k
theorem or_t {t u:TE3} {ρ:St3} {μ:Mu} {K:Bool->Mu->Prop} (h1:∀ K:VK3,K (.bl true) μ->t ρ μ K) (k:K true μ):or3 (b3 t) (b3 u) ρ μ K:=h1 _ k
theorem wo3 {t u:TE3} {ρ:St3} {μ:Mu} {K:Bool->Mu->Prop} (h1:∀ K:VK3,K (.bl false) μ->t ρ μ K) (h2:∀ K:VK3,K (.bl true) μ->u ρ μ K) (k:K true μ):or3 (b3 t) (b3 u) ρ μ K:=h1 _ (h2 _ k)
noncomputable def tl2:Dd->List D
 | .times _ v=>[.tup (encs v)]
 | _=>[]
theorem sl2 (e:Dd) {μ:Mu} {K:VK3} (k:K (.tup (tl2 e)) μ):slR (enc e) (some 2) none μ K:=by cases e <;> exact k
theorem ve0 {a:TE3} {u:TA3} {ρ:St3} {μ:Mu} {x:D} {Q:List D->Mu->Prop} (ha:∀ K:VK3,K x μ->a ρ μ K) (k:u ρ μ λ ds μ2=>Q (x :: ds) μ2):za0 a u ρ μ Q:=ha _ k
theorem sn0 {u:TA3} {ρ:St3} {μ:Mu} {ds:List D} {Q:VK3} (ha:∀ K:List D->Mu->Prop,K ds μ->u ρ μ K) (l:ds.length<=sizeLine) (k:Q (.tup ds) μ):tup3 u ρ μ Q:=ha _ ⟨l,k⟩
theorem yv0 {c:TT3} {t r:TS3} {D':Ends3} {ρ:St3} {μ:Mu} (hc:c ρ μ λ b μ1=>if b=true then t { D' with nx:=r D' } ρ μ1 else r D' ρ μ1):seq3 (ifs3 c t tc0) r D' ρ μ:=hc
theorem yn2 (d:Dd):PyData.strOk (kdn d)=true:=by cases d <;> first | exact sj1 | exact wa1 | exact za1 | exact ym0
noncomputable def cc (d:Dd):Bool:=decide (("go" : Str)=kdn d) || decide (("times" : Str)=kdn d)
noncomputable def wt (m:Int):Dd->Dd
 | .go _=>.go m
 | .jump _=>.jump m
 | .turn _=>.turn m
 | .times _ v=>.times m v
theorem vs3 (m:Int) (d:Dd):enc (wt m d)=.tup ([.str (kdn d),.int m] ++ tl2 d):=by cases d <;> rfl
theorem zj2 (m:Int) (d:Dd):prt m d=if (cc d && !decide (0<=m /\ m<=num d))=true then none else some (wt m d,wt (num d - m) d):=by
 cases d with
 | go n =>
  have:cc (.go n)=true:=rfl
  rw [this,Bool.true_and]
  show (if 0<=m /\ m<=n then some (Dd.go m,Dd.go (n - m)) else none)=if (!decide (0<=m /\ m<=n))=true then none else some (Dd.go m,Dd.go (n - m))
  by_cases c:0<=m /\ m<=n
  ·rw [if_pos c,decide_eq_true c]; rfl
  ·rw [if_neg c,decide_eq_false c]; rfl
 | jump n=>rfl
 | turn n=>rfl
 | times n v =>
  have:cc (.times n v)=true:=rfl
  rw [this,Bool.true_and]
  show (if 0<=m /\ m<=n then some (Dd.times m v,Dd.times (n - m) v) else none)=if (!decide (0<=m /\ m<=n))=true then none else some (Dd.times m v,Dd.times (n - m) v)
  by_cases c:0<=m /\ m<=n
  ·rw [if_pos c,decide_eq_true c]; rfl
  ·rw [if_neg c,decide_eq_false c]; rfl
theorem nch {tb tc:TE3} {ρ:St3} {μ:Mu} {m n:Int} (hb:∀ K:VK3,K (.int m) μ->tb ρ μ K) (hc:∀ K:VK3,K (.int n) μ->tc ρ μ K) {K:Bool->Mu->Prop} (k:K (!decide (0<=m /\ m<=n)) μ):not3 (b3 (ch3 leR leR (c3 (.int 0)) tb tc)) ρ μ K:=by
 simp only [not3,b3,ch3,c3]
 refine hb _ ?_
 simp only [leR,uk0]
 by_cases c1:0<=m
 ·simp only [decide_eq_true c1]
  refine hc _ ?_
  by_cases c2:m<=n
  ·rw [decide_eq_true ⟨c1,c2⟩] at k
   simp only [decide_eq_true c2]
   exact k
  ·rw [decide_eq_false (λ h=>c2 h.2)] at k
   simp only [decide_eq_false c2]
   exact k
 ·rw [decide_eq_false (λ h=>c1 h.1)] at k
  simp only [decide_eq_false c1]
  exact k
theorem in_y {a tb tc:TE3} {d:Dd} {m:Int} {ρ:St3} {μ:Mu} {K:Bool->Mu->Prop} (ha:∀ μ (K:VK3),K (.str (kdn d)) μ->a ρ μ K) (hb:∀ μ (K:VK3),K (.int m) μ->tb ρ μ K) (hc:∀ μ (K:VK3),K (.int (num d)) μ->tc ρ μ K)
    (k:∀ p,μ p=none->K (cc d && !decide (0<=m /\ m<=num d)) (updM μ p (.lst [.str "go",.str "times"]))):and3 (b3 (o3 (inR false) a (lst3 (za0 (c3 (.str "go")) (za0 (c3 (.str "times")) nil3))))) (not3 (b3 (ch3 leR leR (c3 (.int 0)) tb tc))) ρ μ K:=by
 unfold and3 b3 o3
 refine ha _ _ ?_
 refine ⟨show 2<=sizeLine by decide,λ p hp=>tj2 (c:=cc d) sj1 ym0 (yn2 d) sa0 rfl ?_⟩
 have x:=k p hp
 cases e:cc d with
 | true=>rw [e] at x; exact nch (hb _) (hc _) x
 | false=>rw [e] at x; exact x
theorem xs3 (s t:Str) (n m:Int):PyData.eqv (.tuple [.str s,.int n]) (.tuple [.str t,.int m])=(decide (s=t) && decide (n=m)):=by rw [Bool.eq_iff_iff]; simp [PyData.eqv,PyData.eqvAll]
noncomputable abbrev ρC (w:List Dd) (i:Int) (k:Kd) (way:List Int) (i0:Int) (rest:List Dd) (o1 o2:Option D):St3:=[some (.tup (encs w)),some (.int i),some (yh0 k way i0),some (.tup (encs rest)),some (.str (kn k)),o1,o2]
theorem wx3 (ds:List D) (μ:Mu) (Q:VK3) (h:spLC ds μ Q):t_q1 spLI { nx:=λ _ μ'=>Q .non μ',rt:=Q } (uc0 N_q1 ds) μ:=by
 obtain ⟨w,i,k,way,i0,rfl,h0,h1,hw,hk,q⟩:=h
 have z2:2<=sizeLine:=by decide
 have z1:1<=sizeLine:=by decide
 have z3:3<=sizeLine:=by decide
 have q0:=q μ (Ext.refl μ)
 show yo0 spLI { nx:=λ _ μ'=>Q .non μ',rt:=Q } [some (.tup (encs w)),some (.int i),some (yh0 k way i0),some (.tup (cut3 (encs w) (some i) none)),none,none,none] μ
 have hr:=sm0 w i.toNat
 rw [un0 _ h0 (by rw [yb0]; exact h1),tj0]
 generalize w.drop i.toNat=rest at q q0 hr ⊢
 have ek:∀ K:VK3,K (.str (kn k)) μ->ixR (yh0 k way i0) (.int 0) μ K:=λ K kk=>vk0 atI0 kk
 refine ek (λ d μ1=>si0 spLI { nx:=λ _ μ'=>Q .non μ',rt:=Q } [some (.tup (encs w)),some (.int i),some (yh0 k way i0),some (.tup (encs rest)),some d,none,none] μ1) ?_
 show si0 spLI { nx:=λ _ μ'=>Q .non μ',rt:=Q } (ρC w i k way i0 rest none none) μ
 have mid:(∀ m,k ≠ .close m)->(∀ d,k ≠ .inn d)->(∀ d r,rest=d :: r->ti0 spLI { nx:=λ _ μ'=>Q .non μ',rt:=Q } (ρC w i k way i0 (d :: r) (some (enc d)) none) μ)->xo0 spLI { nx:=λ _ μ'=>Q .non μ',rt:=Q } (ρC w i k way i0 rest none none) μ:=λ n1 n2 go=>by
  refine ⟨Nat.zero_le _,?_⟩
  show eqR (.tup (encs rest)) (.tup (encs [])) μ _
  refine eq_W (by omega) (by simp [deps]) λ b hb=>?_
  cases rest with
  | nil =>
   rw [hb.mpr rfl]
   have e:encC (chg [] k)=.non:=by
    cases k with
    | close m=>exact absurd rfl (n1 m)
    | inn d=>exact absurd rfl (n2 d)
    | _=>rfl
   rw [e] at q0
   exact q0
  | cons d r =>
   have:b=false:=by cases b with
    | false=>rfl
    | true=>exact absurd (hb.mp rfl) (by simp)
   subst this
   exact vk0 (K:=λ d' μ1=>ti0 spLI { nx:=λ _ μ'=>Q .non μ',rt:=Q } (ρC w i k way i0 (d :: r) (some d') none) μ1) atI0 (go d r rfl)
 cases k with
 | inn d =>
  refine zh0 (λ K kk=>kk) ?_
  refine ⟨d,rfl,by have:=hk d rfl; omega,?_⟩
  simp only [chg] at q0
  show if idl d=true then _ else _
  by_cases c:idl d=true
  ·rw [if_pos c] at q0 ⊢
   exact ⟨z1,z2,q0⟩
  ·rw [if_neg c] at q0 ⊢
   exact q0
 | close m =>
  refine sd0 (λ K kk=>kk) ?_
  refine zh0 (λ K kk=>kk) ?_
  simp only [chg] at q0
  by_cases c1:m < 0
  ·rw [if_neg (by omega)] at q0
   show if decide (m < 0)=true then _ else _
   rw [if_pos (decide_eq_true c1)]
   exact q0
  ·show if decide (m < 0)=true then _ else _
   rw [if_neg (λ h=>c1 (of_decide_eq_true h))]
   by_cases c2:(rest.length:Int) < m
   ·rw [if_neg (by omega)] at q0
    show if decide (((encs rest).length:Int) < m)=true then _ else _
    rw [if_pos (decide_eq_true (by rw [yb0]; exact c2))]
    exact q0
   ·rw [if_pos (by omega)] at q0
    show if decide (((encs rest).length:Int) < m)=true then _ else _
    rw [if_neg (λ h=>c2 (by have:=of_decide_eq_true h; rw [yb0] at this; exact this))]
    refine ⟨z3,z1,z2,?_⟩
    show Q (.tup [.int m,.tup [.tup [.str "times",.int 1,.tup (cut3 (encs rest) none (some m))]]]) μ
    rw [vn0 _ (by omega) (by rw [yb0]; omega),tk0]
    simp only [encC,encs,enc] at q0
    rw [show ((m.toNat:Nat):Int)=m by omega] at q0
    exact q0
 | out =>
  refine sd0 (λ K kk=>kk) (sd0 (λ K kk=>kk) (mid (by simp) (by simp) λ d r e=>?_))
  subst e
  refine zh0 (λ K kk=>kk) ?_
  simp only [deps] at hr
  refine ⟨d,rfl,by omega,?_⟩
  simp only [chg] at q0
  show if idl d=true then _ else _
  by_cases c:idl d=true
  ·rw [if_pos c] at q0 ⊢
   exact ⟨Nat.zero_le _,z2,q0⟩
  ·rw [if_neg c] at q0 ⊢
   exact q0
 | opn =>
  refine sd0 (λ K kk=>kk) (sd0 (λ K kk=>kk) (mid (by simp) (by simp) λ d r e=>?_))
  subst e
  refine sd0 (λ K kk=>kk) (zh0 (λ K kk=>kk) ?_)
  have ed:∀ (s:Str) (n:Int) (b:Bool),PyData.strOk s=true->b=(decide (s = "times") && decide (n=1))->∀ K:VK3,K (.bl b) μ->eqR (.tup [.str s,.int n]) (.tup [.str "times",.int 1]) μ K:=λ s n b hs hb K kk=>by
   have d1:∀ (s:Str) (n:Int),PyData.strOk s=true->datM μ (.tup [.str s,.int n])=some (.tuple [.str s,.int n]):=λ s n h=>by simp only [datM,dat,dats,h,if_true]
   rw [yx0 rfl (d1 s n hs) (d1 "times" 1 ym0) (by simp [PyData.depth,PyData.depthAll]) (by simp [PyData.depth,PyData.depthAll])]
   rw [xs3,<- hb]; exact kk
  simp only [chg] at q0
  cases d with
  | go n=>exact ⟨z2,ed "go" n false sj1 rfl _ q0⟩
  | jump n=>exact ⟨z2,ed "jump" n false wa1 rfl _ q0⟩
  | turn n=>exact ⟨z2,ed "turn" n false za1 rfl _ q0⟩
  | times n v =>
   by_cases c:n=1
   ·subst c
    exact ⟨z2,ed "times" 1 true ym0 rfl _ ⟨z2,q0⟩⟩
   ·simp only [if_neg c] at q0
    exact ⟨z2,ed "times" n false ym0 (by rw [decide_eq_false c,Bool.and_false]) _ q0⟩
 | twice =>
  refine sd0 (λ K kk=>kk) (sd0 (λ K kk=>kk) (mid (by simp) (by simp) λ d r e=>?_))
  subst e
  refine sd0 (λ K kk=>kk) (sd0 (λ K kk=>kk) (zh0 (λ K kk=>kk) ?_))
  simp only [chg] at q0
  cases d with
  | go n =>
   refine ⟨z2,z3,z2,?_⟩
   show Q (.tup [.int 1,.tup [enc (.go n),.tup [.str "jump",.int (0 - n)],enc (.go n)]]) μ
   rw [show (0 - n:Int) = -n by omega]
   exact q0
  | jump n=>exact q0
  | turn n=>exact q0
  | times n v=>exact q0
 | part m =>
  refine sd0 (λ K kk=>kk) (sd0 (λ K kk=>kk) (mid (by simp) (by simp) λ d r e=>?_))
  subst e
  refine sd0 (λ K kk=>kk) (sd0 (λ K kk=>kk) (sd0 (λ K kk=>kk) (zh0 (λ K kk=>kk) ?_)))
  refine yv0 (in_y (d:=d) (m:=m) (λ μ K k=>ix0 d k) (λ μ K k=>k) (λ μ K k=>ix1 d k) λ p hp=>?_)
  have x:=q _ (Ext.new (o:=.lst [.str "go",.str "times"]) hp)
  simp only [chg,zj2] at x
  have l1:2 + (tl2 d).length<=sizeLine:=by have:(tl2 d).length<=1:=(by cases d <;> simp [tl2]); omega
  by_cases c:(cc d && !decide (0<=m /\ m<=num d))=true
  ·rw [if_pos c] at x ⊢
   exact x
  ·rw [if_neg c] at x ⊢
   simp only [Option.map_some,encC,encs,vs3] at x
   exact sn0 (ds:=[D.int 1,D.tup [D.tup ([D.str (kdn d),D.int m] ++ tl2 d),D.tup ([D.str (kdn d),D.int (num d - m)] ++ tl2 d)]]) (λ Q k=>ve0 (x:=D.int 1) (λ K k=>k) (ve0 (x:=D.tup [D.tup ([D.str (kdn d),D.int m] ++ tl2 d),D.tup ([D.str (kdn d),D.int (num d - m)] ++ tl2 d)])
    (λ K k=>sn0 (ds:=[D.tup ([D.str (kdn d),D.int m] ++ tl2 d),D.tup ([D.str (kdn d),D.int (num d - m)] ++ tl2 d)]) (λ Q k=>ve0 (x:=D.tup ([D.str (kdn d),D.int m] ++ tl2 d))
     (λ K k=>o3_2 (x:=D.tup [D.str (kdn d),D.int m]) (y:=D.tup (tl2 d)) (λ K k=>sn0 (ds:=[D.str (kdn d),D.int m]) (λ Q k=>ve0 (λ K k=>ix0 d k) (ve0 (x:=D.int m) (λ K k=>k) k)) z2 k) (λ K k=>sl2 d k) ⟨l1,k⟩)
     (ve0 (x:=D.tup ([D.str (kdn d),D.int (num d - m)] ++ tl2 d))
      (λ K k=>o3_2 (x:=D.tup [D.str (kdn d),D.int (num d - m)]) (y:=D.tup (tl2 d)) (λ K k=>sn0 (ds:=[D.str (kdn d),D.int (num d - m)]) (λ Q k=>ve0 (λ K k=>ix0 d k) (ve0 (x:=D.int (num d - m)) (λ K k=>o3_2 (x:=D.int (num d)) (y:=D.int m) (λ K k=>ix1 d k) (λ K k=>k) k) k)) z2 k) (λ K k=>sl2 d k) ⟨l1,k⟩) k)) z2 k) k)) z2 x
 | once =>
  refine sd0 (λ K kk=>kk) (sd0 (λ K kk=>kk) (mid (by simp) (by simp) λ d r e=>?_))
  subst e
  refine sd0 (λ K kk=>kk) (sd0 (λ K kk=>kk) (sd0 (λ K kk=>kk) (sd0 (λ K kk=>kk) (zh0 (λ K kk=>kk) ?_))))
  simp only [deps] at hr
  cases d with
  | go n =>
   haveI:Decidable (r.take 2=[.jump (0 - n),.go n]):=Classical.propDecidable _
   rw [vl1] at q0
   refine ⟨z2,z2,?_⟩
   show eqR (.tup (cut3 (encs (.go n :: r)) (some 1) (some 3))) (.tup (encs [.jump (0 - n),.go n])) μ _
   have e:cut3 (encs (.go n :: r)) (some 1) (some 3)=encs (r.take 2):=by
    rw [<- tk0]
    unfold cut3 sIx3
    simp only [encs,List.length_cons]
    rw [if_neg (by decide),if_neg (by decide),show min (1:Int).toNat ((encs r).length + 1)=1 from Nat.min_eq_left (by omega),List.drop_succ_cons,List.drop_zero]
    show List.take (min 3 ((encs r).length + 1) - 1) (encs r)=List.take 2 (encs r)
    rcases Nat.lt_or_ge (encs r).length 2 with z | z
    ·rw [List.take_of_length_le (by omega),List.take_of_length_le (by omega)]
    ·rw [Nat.min_eq_left (by omega)]
   rw [e]
   refine eq_W (by have:=vp0 r 2; omega) (by simp [deps,dep]) λ b hb=>?_
   cases b with
   | true =>
    rw [if_pos (hb.mp rfl)] at q0
    exact ⟨z1,z2,q0⟩
   | false =>
    rw [if_neg (λ h=>by cases hb.mpr h)] at q0
    exact q0
  | jump n=>exact q0
  | turn n=>exact q0
  | times n v=>exact q0
 | join =>
  refine sd0 (λ K kk=>kk) (sd0 (λ K kk=>kk) (mid (by simp) (by simp) λ d r e=>?_))
  subst e
  refine sd0 (λ K kk=>kk) (sd0 (λ K kk=>kk) (sd0 (λ K kk=>kk) (sd0 (λ K kk=>kk) (sd0 (λ K kk=>kk) ?_))))
  simp only [deps] at hr
  cases r with
  | nil =>
   refine zh0 (λ K kk=>kk) ?_
   exact q0
  | cons e r =>
  simp only [deps] at hr
  have e0:decide ((((encs (d :: e :: r)).length:Nat):Int) < 2)=false:=decide_eq_false (by rw [yb0]; simp only [List.length_cons]; omega)
  have z:∀ {c:TT3} {K:Bool->Mu->Prop},c (ρC w i .join way i0 (d :: e :: r) (some (enc d)) none) μ K->or3 (b3 (o3 ltR (zb0 lenR (za0 (v3 3) nil3)) (c3 (.int 2)))) c (ρC w i .join way i0 (d :: e :: r) (some (enc d)) none) μ K:=λ {c K} kk=>by
   show if decide ((((encs (d :: e :: r)).length:Nat):Int) < 2)=true then K true μ else c (ρC w i .join way i0 (d :: e :: r) (some (enc d)) none) μ K
   rw [e0]
   exact kk
  have t1:∀ K:VK3,K (enc e) μ->o3 ixR (v3 3) (c3 (.int 1)) (ρC w i .join way i0 (d :: e :: r) (some (enc d)) none) μ K:=λ K kk=>vk0 atI1 kk
  have n1:∀ K:VK3,K (.bl (!decide (kdn e=kdn d))) μ->o3 neR (o3 ixR (o3 ixR (v3 3) (c3 (.int 1))) (c3 (.int 0))) (o3 ixR (v3 5) (c3 (.int 0))) (ρC w i .join way i0 (d :: e :: r) (some (enc d)) none) μ K:=λ K kk=>o3_2 (λ K kk=>o3_l t1 (ix0 e kk)) (λ K kk=>ix0 d kk) kk
  have n2:∀ K:VK3,neR (.tup (tl2 e)) (.tup (tl2 d)) μ K->o3 neR (sl3 slR (o3 ixR (v3 3) (c3 (.int 1))) (pt3 (c3 (.int 2))) np3) (sl3 slR (v3 5) (pt3 (c3 (.int 2))) np3) (ρC w i .join way i0 (d :: e :: r) (some (enc d)) none) μ K:=λ K kk=>o3_2 (λ K kk=>xb3 t1 (sl2 e kk)) (λ K kk=>sl2 d kk) kk
  have lst:Q (.tup [.int 2,D.tup [D.tup ([D.str (kdn d),D.int (num d + num e)] ++ tl2 d)]]) μ->sl0 spLI { nx:=λ _ μ'=>Q .non μ',rt:=Q } (ρC w i .join way i0 (d :: e :: r) (some (enc d)) none) μ:=λ kk =>
   sn0 (ds:=[.int 2,D.tup [D.tup ([D.str (kdn d),D.int (num d + num e)] ++ tl2 d)]]) (λ Q k=>ve0 (x:=.int 2) (λ K k=>k) (ve0 (x:=D.tup [D.tup ([D.str (kdn d),D.int (num d + num e)] ++ tl2 d)]) (λ K k=>sn0 (ds:=[D.tup ([D.str (kdn d),D.int (num d + num e)] ++ tl2 d)]) (λ Q k=>ve0 (x:=D.tup ([D.str (kdn d),D.int (num d + num e)] ++ tl2 d)) (λ K k=>o3_2 (x:=D.tup [D.str (kdn d),D.int (num d + num e)]) (y:=.tup (tl2 d)) (λ K k=>sn0 (ds:=[D.str (kdn d),D.int (num d + num e)]) (λ Q k=>ve0 (λ K k=>ix0 d k) (ve0 (x:=.int (num d + num e)) (λ K k=>o3_2 (x:=.int (num d)) (y:=.int (num e)) (λ K k=>ix1 d k) (λ K k=>o3_l t1 (ix1 e k)) k) k)) z2 k) (λ K k=>sl2 d k) ⟨show 2 + (tl2 d).length<=sizeLine by have:(tl2 d).length<=1:=(by cases d <;> simp [tl2]); omega,k⟩) k) z1 k) k)) z2 kk
  have mm:∀ d e:Dd,kdn e ≠ kdn d->jn d e=none:=λ d e h=>by
   cases d <;> cases e <;> first | rfl | exact absurd rfl h
  by_cases ck:kdn e=kdn d
  ·have ck':(!decide (kdn e=kdn d))=false:=by rw [decide_eq_true ck]; rfl
   have same:∀ v,deps v<=20->tl2 e=tl2 d->(tl2 d=[] \/ tl2 d=[.tup (encs v)])->Q (.tup [.int 2,D.tup [D.tup ([D.str (kdn d),D.int (num d + num e)] ++ tl2 d)]]) μ->xm0 spLI { nx:=λ _ μ'=>Q .non μ',rt:=Q } (ρC w i .join way i0 (d :: e :: r) (some (enc d)) none) μ:=λ v hv e1 e2 kk =>
    sd0 (λ K kk=>z (vo3 (λ K kk=>n1 K (by rw [ck']; exact kk)) (λ K kk=>n2 K (by rw [e1]; exact vv1 (v:=v) hv e2 kk)) kk)) (lst kk)
   cases d <;> cases e <;> first | (simp only [kdn,Pv.kn_go_jump,Pv.kn_go_turn,Pv.kn_go_times,Pv.kn_jump_go,Pv.kn_jump_turn,Pv.kn_jump_times,Pv.kn_turn_go,Pv.kn_turn_jump,Pv.kn_turn_times,Pv.kn_times_go,Pv.kn_times_jump,Pv.kn_times_turn,Pv.kp_go,Pv.kp_jump,Pv.kp_turn,Pv.kp_times,Pv.kz_go,Pv.kz_jump,Pv.kz_turn,Pv.kz_times] at ck; done) | skip
   ·exact same [] (by simp [deps]) rfl (.inl rfl) q0
   ·exact same [] (by simp [deps]) rfl (.inl rfl) q0
   ·exact same [] (by simp [deps]) rfl (.inl rfl) q0
   ·rename_i a v b v'
    simp only [dep] at hr
    simp only [chg,jn] at q0
    by_cases c:v=v'
    ·subst c
     rw [if_pos rfl] at q0
     exact same v (by omega) rfl (.inr rfl) q0
    ·rw [if_neg c] at q0
     refine zh0 (λ K kk=>z (wo3 (λ K kk=>n1 K (by rw [ck']; exact kk)) (λ K kk=>n2 K ?_) kk)) q0
     show neR (.tup [.tup (encs v')]) (.tup [.tup (encs v)]) μ _
     have dd:∀ v,datM μ (.tup [.tup (encs v)])=some (.tuple [.tuple (pes v)]):=λ v=>by simp only [datM,dat,dats,uh0]
     have dp:∀ v,deps v<=20->(PyData.tuple [.tuple (pes v)]).depth<=64:=λ v h=>by have:=vh0 v; simp only [PyData.depth,PyData.depthAll]; omega
     rw [yp0 rfl (dd v') (dd v) (dp v' (by omega)) (dp v (by omega))]
     have ev:PyData.eqv (.tuple [.tuple (pes v')]) (.tuple [.tuple (pes v)])=false:=by
      rw [Bool.eq_false_iff]
      intro h
      simp only [PyData.eqv,PyData.eqvAll,Bool.and_true] at h
      exact c (yz0 v' v h).symm
     rw [ev]
     exact kk
  ·have e1:=mm d e ck
   have ck':(!decide (kdn e=kdn d))=true:=by rw [decide_eq_false ck]; rfl
   simp only [chg,e1] at q0
   exact zh0 (λ K kk=>z (or_t (λ K kk=>n1 K (by rw [ck']; exact kk)) kk)) q0
theorem yt2 {α:Type} (x:α) (t:List α):cut3 (x :: t) (some 1) none=t:=by rw [un0 _ (by decide) (by rw [List.length_cons]; omega)]; rfl
theorem vx1 {α:Type} (x y:α) (t:List α):cut3 (x :: y :: t) (some 2) none=t:=by rw [un0 _ (by decide) (by rw [List.length_cons,List.length_cons]; omega)]; rfl
theorem atN {α:Type} {l:List α} {a:Int} {d:α} (h0:0<=a) (h:l[a.toNat]?=some d):atI l a=some d:=by
 have hl:a.toNat < l.length:=by
  rcases Nat.lt_or_ge a.toNat l.length with z | z
  ·exact z
  ·rw [List.getElem?_eq_none z] at h; cases h
 unfold atI ixN
 rw [if_pos h0,if_pos (by omega)]
 exact h
theorem uj2 {w:List Dd} {a:Int} {d:Dd} (h0:0<=a) (h:w[a.toNat]?=some d) {μ:Mu} {K:VK3} (k:K (enc d) μ):ixR (.tup (encs w)) (.int a) μ K:=vk0 (atN h0 (wl2 h)) k
theorem zx0:∀ l:List Int,dats (l.map D.int)=some (l.map PyData.int)
 | []=>rfl
 | a :: r=>by simp only [List.map_cons,dats,dat,zx0 r]
theorem us0:∀ l:List Int,PyData.depthAll (l.map PyData.int)<=1
 | []=>by simp [PyData.depthAll]
 | a :: r=>by have:=us0 r; simp only [List.map_cons,PyData.depthAll,PyData.depth]; omega
theorem vj2 (l:List Int) {μ:Mu} {K:VK3} (k:K (.bl (!l.isEmpty)) μ):neR (.tup (l.map D.int)) (.tup []) μ K:=by
 have d1:datM μ (.tup (l.map D.int))=some (.tuple (l.map PyData.int)):=by simp only [datM,dat,zx0]
 have d2:datM μ (.tup [])=some (.tuple []):=by simp only [datM,dat,dats]
 rw [yp0 rfl d1 d2 (by have:=us0 l; simp only [PyData.depth]; omega) (by simp [PyData.depth,PyData.depthAll])]
 rw [show PyData.eqv (.tuple (l.map PyData.int)) (.tuple [])=l.isEmpty by cases l <;> simp [PyData.eqv,PyData.eqvAll]]
 exact k
theorem nch2 {tb tc:TE3} {ρ:St3} {μ:Mu} {m n:Int} (hb:∀ K:VK3,K (.int m) μ->tb ρ μ K) (hc:∀ K:VK3,K (.int n) μ->tc ρ μ K) {K:Bool->Mu->Prop} (k:K (!decide (0<=m /\ m < n)) μ):not3 (b3 (ch3 leR ltR (c3 (.int 0)) tb tc)) ρ μ K:=by
 simp only [not3,b3,ch3,c3]
 refine hb _ ?_
 simp only [leR,uk0]
 by_cases c1:0<=m
 ·simp only [decide_eq_true c1]
  refine hc _ ?_
  simp only [ltR,uk0]
  by_cases c2:m < n
  ·rw [decide_eq_true ⟨c1,c2⟩] at k
   simp only [decide_eq_true c2]
   exact k
  ·rw [decide_eq_false (λ h=>c2 h.2)] at k
   simp only [decide_eq_false c2]
   exact k
 ·rw [decide_eq_false (λ h=>c1 h.1)] at k
  simp only [decide_eq_false c1]
  exact k
theorem vn2 {t:TE3} {j:Nat} {r:TS3} {D':Ends3} {ρ:St3} {μ:Mu} {x:D} (h:∀ K:VK3,K x μ->t ρ μ K) (k:r D' (ρ.set j (some x)) μ):seq3 (set3 j t) r D' ρ μ:=h _ k
theorem or_c {c u:TT3} {ρ:St3} {μ:Mu} {b:Bool} {K:Bool->Mu->Prop} (h:∀ K:Bool->Mu->Prop,K b μ->c ρ μ K) (k:if b=true then K true μ else u ρ μ K):or3 c u ρ μ K:=h _ k
theorem b3_c {t:TE3} {ρ:St3} {μ:Mu} {b:Bool} {K:Bool->Mu->Prop} (h:∀ K:VK3,K (.bl b) μ->t ρ μ K) (k:K b μ):b3 t ρ μ K:=h _ k
noncomputable def encO:Option (List Dd)->D
 | none=>.non
 | some v=>.tup (encs v)
noncomputable def xj0 (j:Nat):Sp3:=λ ds μ Q=>∃ (w:List Dd) (k:Kd) (way:List Int) (i:Int),ds=[.tup (encs w),yh0 k way i] /\ way.length < j /\ way.length<=1000 /\ deps w<=10 /\ cnts w<=200 /\ (∀ d,k=.inn d->dep d<=10) /\ ∀ μ',Ext μ μ'->Q (encO (aft way w k i)) μ'
theorem vg2 {rest:List Dd} {k:Kd} {n:Nat} {x:List Dd} (h:chg rest k=some (n,x)):x.length<=cnts rest + 3:=by
 cases k with
 | inn d=>simp only [chg] at h; split at h <;> simp at h; obtain ⟨_,rfl⟩:=h; simp <;> omega
 | close m=>simp only [chg] at h; split at h <;> simp at h; obtain ⟨_,rfl⟩:=h; simp <;> omega
 | out=>cases rest with
  | nil=>simp [chg] at h
  | cons d r=>simp only [chg] at h; split at h <;> simp at h; obtain ⟨_,rfl⟩:=h; simp
 | opn =>
  simp only [chg] at h
  split at h
  ·next m v r=>split at h <;> simp at h; obtain ⟨_,rfl⟩:=h; have:=wf0 v; simp only [cnts,cnt]; omega
  ·cases h
 | twice =>
  simp only [chg] at h
  split at h
  ·simp at h; obtain ⟨_,rfl⟩:=h; simp
  ·cases h
 | part m=>cases rest with
  | nil=>simp [chg] at h
  | cons d r=>simp only [chg,Option.map_eq_some_iff] at h; obtain ⟨p,_,e⟩:=h; simp at e; obtain ⟨_,rfl⟩:=e; simp <;> omega
 | once =>
  simp only [chg] at h
  split at h
  ·split at h <;> simp at h; obtain ⟨_,rfl⟩:=h; simp <;> omega
  ·cases h
 | join =>
  simp only [chg] at h
  split at h
  ·simp only [Option.map_eq_some_iff] at h; obtain ⟨p,_,e⟩:=h; simp at e; obtain ⟨_,rfl⟩:=e; simp <;> omega
  ·cases h
theorem vx0:∀ (w:List Dd) (n:Nat),cnts (w.drop n)<=cnts w
 | [],n=>by simp
 | d :: r,0=>by simp
 | d :: r,n + 1=>by have:=vx0 r n; simp only [List.drop_succ_cons,cnts]; omega
theorem ur2 (k:Kd):(ned k).length<=1:=by cases k <;> simp [ned]
theorem vx3 (j:Nat) (ds:List D) (μ:Mu) (Q:VK3) (h:xj0 (j + 1) ds μ Q):t_q0 (xj0 j) spLC { nx:=λ _ μ'=>Q .non μ',rt:=Q } (uc0 N_q0 ds) μ:=by
 obtain ⟨w,k,way,i,rfl,hj,hl,hw,hc,hk,q⟩:=h
 have z1:1<=sizeLine:=by decide
 have z2:2<=sizeLine:=by decide
 have z3:3<=sizeLine:=by decide
 have hz:(1000:Nat) < sizeLine:=by decide
 have lw:=wf0 w
 cases way with
 | nil =>
  refine sd0 (ρ:=[some (.tup (encs w)),some (yh0 k [] i),none,none,none]) (λ K kk=>b3_c (λ K kk=>o3_2 (x:=.tup (([]:List Int).map D.int)) (y:=.tup []) (λ K kk=>vk0 atI1 kk) (λ K kk=>⟨Nat.zero_le _,kk⟩) (vj2 [] kk)) kk) ?_
  refine vn2 (x:=.int i) (λ K kk=>vk0 atI2 kk) ?_
  refine yv0 (nch (m:=i) (n:=((encs w).length:Int)) (λ K k=>k) (λ K k=>k) ?_)
  by_cases c:0<=i /\ i<=((encs w).length:Int)
  ·rw [decide_eq_true c,if_neg (by decide)]
   rw [yb0] at c
   refine ⟨w,i,k,[],i,rfl,c.1,c.2,hw,hk,λ μ' ex=>?_⟩
   have qq:=q μ' ex
   simp only [aft,cha,if_pos c] at qq
   cases hx:chg (w.drop i.toNat) k with
   | none =>
    rw [hx] at qq
    exact qq
   | some p =>
    obtain ⟨n,x⟩:=p
    rw [hx] at qq
    have l3:=vy1 hx
    rw [List.length_drop] at l3
    have l4:=vg2 hx
    have l5:=vx0 w i.toNat
    have e1:cut3 (encs w) none (some i)=encs (w.take i.toNat):=by rw [vn0 _ c.1 (by rw [yb0]; omega),tk0]
    have e2:cut3 (encs w) (some (i + (n:Int))) none=encs (w.drop (i.toNat + n)):=by
     rw [un0 _ (by omega) (by rw [yb0]; omega),tj0,show (i + (n:Int)).toNat=i.toNat + n by omega]
    have l1:(w.take i.toNat).length<=w.length:=by rw [List.length_take]; omega
    have l2:(w.drop (i.toNat + n)).length<=w.length:=by rw [List.length_drop]; omega
    refine ⟨?_,?_,?_⟩
    ·show (cut3 (encs w) none (some i)).length + (encs x).length<=_
     rw [e1,yb0,yb0]; omega
    ·show (cut3 (encs w) none (some i) ++ encs x).length + (cut3 (encs w) (some (i + (n:Int))) none).length<=_
     rw [e1,e2,List.length_append,yb0,yb0,yb0]; omega
    ·show Q (.tup (cut3 (encs w) none (some i) ++ encs x ++ cut3 (encs w) (some (i + (n:Int))) none)) μ'
     rw [e1,e2,<- se0,<- se0]
     exact qq
  ·rw [decide_eq_false c,if_pos (by decide)]
   have qq:=q μ (Ext.refl μ)
   rw [yb0] at c
   simp only [aft,cha,if_neg c] at qq
   exact qq
 | cons a way =>
  refine zh0 (ρ:=[some (.tup (encs w)),some (yh0 k (a :: way) i),none,none,none]) (λ K kk=>b3_c (λ K kk=>o3_2 (x:=.tup ((a :: way).map D.int)) (y:=.tup []) (λ K kk=>vk0 atI1 kk) (λ K kk=>⟨Nat.zero_le _,kk⟩) (vj2 (a :: way) kk)) kk) ?_
  refine vn2 (x:=.int a) (λ K kk=>o3_l (x:=.tup ((a :: way).map D.int)) (λ K kk=>vk0 atI1 kk) (vk0 atI0 kk)) ?_
  have q0:=q μ (Ext.refl μ)
  refine yv0 (or_c (b:=!decide (0<=a /\ a < ((encs w).length:Int))) (λ K kk=>nch2 (m:=a) (n:=((encs w).length:Int)) (λ K k=>k) (λ K k=>k) kk) ?_)
  by_cases c:0<=a /\ a < ((encs w).length:Int)
  ·rw [decide_eq_true c,if_neg (by decide)]
   rw [yb0] at c
   have hlt:a.toNat < w.length:=by omega
   obtain ⟨d,hd⟩:∃ d,w[a.toNat]?=some d:=⟨_,List.getElem?_eq_getElem hlt⟩
   have ta:∀ (μ:Mu) (o3' o4:Option D) (K:VK3),K (enc d) μ->o3 ixR (v3 0) (v3 2) [some (.tup (encs w)),some (yh0 k (a :: way) i),some (.int a),o3',o4] μ K:=λ μ o3' o4 K kk=>uj2 c.1 hd kk
   refine b3_c (b:=!decide (kdn d = "times")) (λ K kk=>o3_2 (x:=.str (kdn d)) (y:=.str "times") (λ K kk=>o3_l (ta μ none none) (ix0 d kk)) (λ K kk=>kk) kk) ?_
   have mu:=List.mem_of_getElem? hd
   have c1:=ux0 mu
   have d1:=ts0 mu
   cases d with
   | go n=>simp only [aft,if_pos c.1,hd] at q0; exact q0
   | jump n=>simp only [aft,if_pos c.1,hd] at q0; exact q0
   | turn n=>simp only [aft,if_pos c.1,hd] at q0; exact q0
   | times n v =>
    simp only [cnt,dep] at c1 d1
    rw [List.length_cons] at hj hl
    refine o3_l (r:=ixR) (ta μ none none) ?_
    have er:([D.str (kn k),D.tup (way.map D.int)] ++ cut3 (.str (kn k) :: .tup ((a :: way).map .int) :: .int i :: ned k) (some 2) none)=.str (kn k) :: .tup (way.map .int) :: .int i :: ned k:=by rw [vx1]; rfl
    have nl:=ur2 k
    refine o3_2 (r:=addR) (x:=.tup [D.str (kn k),D.tup (way.map D.int)]) (y:=.tup (cut3 (.str (kn k) :: .tup ((a :: way).map .int) :: .int i :: ned k) (some 2) none)) (λ K kk=>sn0 (ds:=[D.str (kn k),D.tup (way.map D.int)]) (λ Q kk=>ve0 (x:=.str (kn k)) (λ K kk=>vk0 atI0 kk) (ve0 (x:=.tup (way.map D.int)) (λ K kk=>xb3 (x:=.tup ((a :: way).map D.int)) (λ K kk=>vk0 atI1 kk) (show K (.tup (cut3 ((a :: way).map D.int) (some 1) none)) _ by rw [List.map_cons,yt2]; exact kk)) kk)) z2 kk) (λ K kk=>kk) ⟨?_,?_⟩
    ·rw [vx1]; simp only [List.length_cons,List.length_nil]; omega
    ·rw [er]
     refine ⟨v,k,way,i,rfl,by omega,by omega,by omega,by omega,hk,λ μ' ex=>?_⟩
     have qq:=q μ' ex
     simp only [aft,if_pos c.1,hd] at qq
     cases hx:aft way v k i with
     | none =>
      rw [hx] at qq
      exact qq
     | some v' =>
      rw [hx] at qq
      have e1:cut3 (encs w) none (some a)=encs (w.take a.toNat):=by rw [vn0 _ c.1 (by rw [yb0]; omega),tk0]
      have e2:cut3 (encs w) (some (a + 1)) none=encs (w.drop (a.toNat + 1)):=by
       rw [un0 _ (by omega) (by rw [yb0]; omega),tj0,show (a + 1).toNat=a.toNat + 1 by omega]
      have l1:(w.take a.toNat).length<=w.length:=by rw [List.length_take]; omega
      have l2:(w.drop (a.toNat + 1)).length<=w.length:=by rw [List.length_drop]; omega
      show o3 addR (o3 addR (sl3 slR (v3 0) np3 (pt3 (v3 2))) (tup3 (za0 (tup3 (za0 (c3 (.str "times")) (za0 (o3 ixR (o3 ixR (v3 0) (v3 2)) (c3 (.int 1))) (za0 (v3 3) nil3)))) nil3))) (sl3 slR (v3 0) (pt3 (o3 addR (v3 2) (c3 (.int 1)))) np3) [some (.tup (encs w)),some (yh0 k (a :: way) i),some (.int a),some (.tup (encs v')),none] μ' Q
      refine o3_2 (x:=.tup (encs (w.take a.toNat) ++ [enc (.times n v')])) (y:=.tup (encs (w.drop (a.toNat + 1)))) (λ K kk=>o3_2 (r:=addR) (x:=.tup (encs (w.take a.toNat))) (y:=.tup [enc (.times n v')]) (λ K kk=>(show K (.tup (cut3 (encs w) none (some a))) μ' by rw [e1]; exact kk)) (λ K kk=>sn0 (ds:=[enc (.times n v')]) (λ Q kk=>ve0 (x:=enc (.times n v')) (λ K kk=>sn0 (ds:=[D.str "times",D.int n,D.tup (encs v')]) (λ Q kk=>ve0 (x:=.str "times") (λ K kk=>kk) (ve0 (x:=.int n) (λ K kk=>o3_l (ta μ' _ _) kk) (ve0 (x:=.tup (encs v')) (λ K kk=>kk) kk))) z3 kk) kk) z1 kk) ⟨?_,kk⟩) (λ K kk=>(show K (.tup (cut3 (encs w) (some (a + 1)) none)) μ' by rw [e2]; exact kk)) ⟨?_,?_⟩
      ·rw [yb0]; simp only [List.length_cons,List.length_nil]; omega
      ·rw [List.length_append,yb0,yb0]; simp only [List.length_cons,List.length_nil]; omega
      ·simp only [Option.map_some,encO,se0,encs] at qq
       exact qq
  ·rw [decide_eq_false c,if_pos (by decide)]
   rw [yb0] at c
   have:aft (a :: way) w k i=none:=by
    simp only [aft]
    by_cases c0:0<=a
    ·rw [if_pos c0,List.getElem?_eq_none (by omega)]
    ·rw [if_neg c0]
   rw [this] at q0
   exact q0
end Pv
namespace Pv
open PySem Mw
noncomputable def us1 (XE:XE3):Sp3:=λ ds μ Q=>∃ (d:Dd) (x:D),ds=[.tup [enc d],x] /\ dep d<=20 /\ (idl d=true->Q (.tup []) μ) /\ (idl d=false->XE "NoStep" μ)
theorem xi3 (XE:XE3) (ds:List D) (μ:Mu) (Q:VK3) (h:us1 XE ds μ Q):wy2 XE sa2 { nx:=λ _ μ'=>Q .non μ',rt:=Q } (uc0 uv2 ds) μ:=by
 obtain ⟨d,x,rfl,hd,q,hx⟩:=h
 refine ⟨d,rfl,hd,?_⟩
 cases hi:idl d with
 | true=>exact ⟨Nat.zero_le _,q hi⟩
 | false=>exact ⟨show 1<=sizeLine by decide,hx hi⟩
noncomputable def ts1 (XE:XE3):Sp3:=λ ds μ Q=>∃ (d:Dd) (x:D),ds=[.tup [enc d],x] /\ (∀ v,d=.times 1 v->Q (.tup (encs v)) μ) /\ ((∀ v,d ≠ .times 1 v)->XE "NoStep" μ)
theorem sh3 (XE:XE3) (ds:List D) (μ:Mu) (Q:VK3) (h:ts1 XE ds μ Q):zy2 XE { nx:=λ _ μ'=>Q .non μ',rt:=Q } (uc0 vv2 ds) μ:=by
 obtain ⟨d,x,rfl,q,hx⟩:=h
 have z1:1<=sizeLine:=by decide
 cases d with
 | go n=>exact ⟨z1,hx (by simp)⟩
 | jump n=>exact ⟨z1,hx (by simp)⟩
 | turn n=>exact ⟨z1,hx (by simp)⟩
 | times n v =>
  show if (!decide (n=1))=true then _ else _
  by_cases c:n=1
  ·subst c
   exact q v rfl
  ·rw [if_pos (by simp [c])]
   exact ⟨z1,hx (by simp [c])⟩
noncomputable def vj1 (XE:XE3):Sp3:=λ ds μ Q=>∃ (d:Dd) (x:D),ds=[.tup [enc d],x] /\ (∀ n,d=.go n->Q (.tup (encs [.go n,.jump (-n),.go n])) μ) /\ ((∀ n,d ≠ .go n)->XE "NoStep" μ)
theorem ti3 (XE:XE3) (ds:List D) (μ:Mu) (Q:VK3) (h:vj1 XE ds μ Q):yz2 XE { nx:=λ _ μ'=>Q .non μ',rt:=Q } (uc0 ww2 ds) μ:=by
 obtain ⟨d,x,rfl,q,hx⟩:=h
 have z1:1<=sizeLine:=by decide
 cases d with
 | go n=>exact ⟨show 2<=sizeLine by decide,show 3<=sizeLine by decide,q n rfl⟩
 | jump n=>exact ⟨z1,hx (by simp)⟩
 | turn n=>exact ⟨z1,hx (by simp)⟩
 | times n v=>exact ⟨z1,hx (by simp)⟩
noncomputable def ss1 (XE:XE3):Sp3:=λ ds μ Q=>∃ (d e f:Dd) (x:D),ds=[.tup (encs [d,e,f]),x] /\ deps [d,e,f]<=20 /\ (∀ n,[d,e,f]=[.go n,.jump (-n),.go n]->Q (.tup [enc (.go n)]) μ) /\ ((∀ n,[d,e,f] ≠ [.go n,.jump (-n),.go n])->XE "NoStep" μ)
theorem si3 (XE:XE3) (ds:List D) (μ:Mu) (Q:VK3) (h:ss1 XE ds μ Q):zz2 XE vj1 { nx:=λ _ μ'=>Q .non μ',rt:=Q } (uc0 vw2 ds) μ:=by
 obtain ⟨d,e,f,x,rfl,hd,q,hx⟩:=h
 have z1:1<=sizeLine:=by decide
 refine ⟨d,x,rfl,λ n hn=>?_,λ hn=>hx λ n h=>?_⟩
 ·subst hn
  refine ne_W (v:=[.go n,e,f]) (u:=[.go n,.jump (-n),.go n]) hd (by simp [deps,dep]) λ b hb=>?_
  cases b with
  | true=>exact q n (hb.mp rfl)
  | false =>
   refine ⟨z1,hx λ m h=>?_⟩
   have:m=n:=by simp at h; exact h.1.symm
   subst this
   exact absurd (hb.mpr h) (by simp)
 ·simp at h
  exact hn n h.1
noncomputable def yt1 (XE:XE3):Sp3:=λ ds μ Q=>∃ (d e:Dd) (x:D),ds=[.tup [enc d,enc e],x] /\ dep d<=20 /\ dep e<=20 /\ (∀ j,jn d e=some j->Q (.tup [enc j]) μ) /\ (jn d e=none->XE "NoStep" μ)
theorem zi3 (XE:XE3) (ds:List D) (μ:Mu) (Q:VK3) (h:yt1 XE ds μ Q):uy2 XE { nx:=λ _ μ'=>Q .non μ',rt:=Q } (uc0 sv2 ds) μ:=by
 obtain ⟨d,e,x,rfl,hd,he,q,hx⟩:=h
 have z1:1<=sizeLine:=by decide
 have z2:2<=sizeLine:=by decide
 show xk0 XE { nx:=λ _ μ'=>Q .non μ',rt:=Q } [some (.tup [enc d,enc e]),some x,some (enc d),some (enc e)] μ
 have n1:∀ K:VK3,K (.bl (!decide (kdn d=kdn e))) μ->o3 neR (o3 ixR (v3 2) (c3 (.int 0))) (o3 ixR (v3 3) (c3 (.int 0))) [some (.tup [enc d,enc e]),some x,some (enc d),some (enc e)] μ K:=λ K kk=>o3_2 (λ K kk=>ix0 d kk) (λ K kk=>ix0 e kk) kk
 have n2:∀ K:VK3,neR (.tup (tl2 d)) (.tup (tl2 e)) μ K->o3 neR (sl3 slR (v3 2) (pt3 (c3 (.int 2))) np3) (sl3 slR (v3 3) (pt3 (c3 (.int 2))) np3) [some (.tup [enc d,enc e]),some x,some (enc d),some (enc e)] μ K:=λ K kk=>o3_2 (λ K kk=>sl2 d kk) (λ K kk=>sl2 e kk) kk
 have z3:3<=sizeLine:=by decide
 have l1:2 + (tl2 d).length<=sizeLine:=by have:(tl2 d).length<=1:=(by cases d <;> simp [tl2]); omega
 have lst:Q (.tup [.tup ([D.str (kdn d),D.int (num d + num e)] ++ tl2 d)]) μ->wo0 XE { nx:=λ _ μ'=>Q .non μ',rt:=Q } [some (.tup [enc d,enc e]),some x,some (enc d),some (enc e)] μ:=λ kk =>
  sn0 (ds:=[D.tup ([D.str (kdn d),D.int (num d + num e)] ++ tl2 d)]) (λ Q k=>ve0 (x:=D.tup ([D.str (kdn d),D.int (num d + num e)] ++ tl2 d)) (λ K k=>o3_2 (x:=D.tup [D.str (kdn d),D.int (num d + num e)]) (y:=D.tup (tl2 d)) (λ K k=>sn0 (ds:=[D.str (kdn d),D.int (num d + num e)]) (λ Q k=>ve0 (λ K k=>ix0 d k) (ve0 (x:=D.int (num d + num e)) (λ K k=>o3_2 (x:=D.int (num d)) (y:=D.int (num e)) (λ K k=>ix1 d k) (λ K k=>ix1 e k) k) k)) z2 k) (λ K k=>sl2 d k) ⟨l1,k⟩) k) z1 kk
 by_cases ck:kdn d=kdn e
 ·have ck':(!decide (kdn d=kdn e))=false:=by rw [decide_eq_true ck]; rfl
  have same:∀ v,deps v<=20->tl2 e=tl2 d->(tl2 d=[] \/ tl2 d=[.tup (encs v)])->Q (.tup [.tup ([D.str (kdn d),D.int (num d + num e)] ++ tl2 d)]) μ->xk0 XE { nx:=λ _ μ'=>Q .non μ',rt:=Q } [some (.tup [enc d,enc e]),some x,some (enc d),some (enc e)] μ:=λ v hv e1 e2 kk =>
   sd0 (λ K kk=>vo3 (λ K kk=>n1 K (by rw [ck']; exact kk)) (λ K kk=>n2 K (by rw [e1]; exact vv1 (v:=v) hv e2 kk)) kk) (lst kk)
  cases d <;> cases e <;> first | (simp only [kdn,Pv.kn_go_jump,Pv.kn_go_turn,Pv.kn_go_times,Pv.kn_jump_go,Pv.kn_jump_turn,Pv.kn_jump_times,Pv.kn_turn_go,Pv.kn_turn_jump,Pv.kn_turn_times,Pv.kn_times_go,Pv.kn_times_jump,Pv.kn_times_turn,Pv.kp_go,Pv.kp_jump,Pv.kp_turn,Pv.kp_times,Pv.kz_go,Pv.kz_jump,Pv.kz_turn,Pv.kz_times] at ck; done) | skip
  ·exact same [] (by simp [deps]) rfl (.inl rfl) (q _ rfl)
  ·exact same [] (by simp [deps]) rfl (.inl rfl) (q _ rfl)
  ·exact same [] (by simp [deps]) rfl (.inl rfl) (q _ rfl)
  ·rename_i a v b v'
   simp only [dep] at hd he
   simp only [jn] at q hx
   by_cases c:v=v'
   ·subst c
    rw [if_pos rfl] at q
    exact same v (by omega) rfl (.inr rfl) (q _ rfl)
   ·rw [if_neg c] at hx
    refine zh0 (λ K kk=>wo3 (λ K kk=>n1 K (by rw [ck']; exact kk)) (λ K kk=>n2 K ?_) kk) ⟨z1,hx rfl⟩
    show neR (.tup [.tup (encs v)]) (.tup [.tup (encs v')]) μ _
    have dd:∀ v,datM μ (.tup [.tup (encs v)])=some (.tuple [.tuple (pes v)]):=λ v=>by simp only [datM,dat,dats,uh0]
    have dp:∀ v,deps v<=20->(PyData.tuple [.tuple (pes v)]).depth<=64:=λ v h=>by have:=vh0 v; simp only [PyData.depth,PyData.depthAll]; omega
    rw [yp0 rfl (dd v) (dd v') (dp v (by omega)) (dp v' (by omega))]
    have ev:PyData.eqv (.tuple [.tuple (pes v)]) (.tuple [.tuple (pes v')])=false:=by
     rw [Bool.eq_false_iff]
     intro h
     simp only [PyData.eqv,PyData.eqvAll,Bool.and_true] at h
     exact c (yz0 v v' h)
    rw [ev]
    exact kk
 ·have mm:jn d e=none:=by cases d <;> cases e <;> first | rfl | exact absurd rfl ck
  have ck':(!decide (kdn d=kdn e))=true:=by rw [decide_eq_false ck]; rfl
  exact zh0 (λ K kk=>or_t (λ K kk=>n1 K (by rw [ck']; exact kk)) kk) ⟨z1,hx mm⟩
noncomputable def uj1 (XE:XE3):Sp3:=λ ds μ Q=>∃ (w:List Dd) (p n:Int),ds=[.tup (encs w),.int p,.int n] /\ (0<=p->0<=n->p + n<=w.length->Q (.tup (encs ((w.drop p.toNat).take n.toNat))) μ) /\ (¬ (0<=p /\ 0<=n /\ p + n<=w.length)->XE "NoStep" μ)
theorem xj3 (XE:XE3) (ds:List D) (μ:Mu) (Q:VK3) (h:uj1 XE ds μ Q):wz2 XE { nx:=λ _ μ'=>Q .non μ',rt:=Q } (uc0 uw2 ds) μ:=by
 obtain ⟨w,p,n,rfl,q,hx⟩:=h
 have z1:1<=sizeLine:=by decide
 show if (decide (p < 0))=true then _ else _
 by_cases c0:p < 0
 ·rw [if_pos (decide_eq_true c0)]
  exact ⟨z1,hx (by omega)⟩
 rw [if_neg (λ h=>c0 (of_decide_eq_true h))]
 show if (decide (n < 0))=true then _ else _
 by_cases c1:n < 0
 ·rw [if_pos (decide_eq_true c1)]
  exact ⟨z1,hx (by omega)⟩
 rw [if_neg (λ h=>c1 (of_decide_eq_true h))]
 show if (decide (((encs w).length:Int) < p + n))=true then _ else _
 by_cases c:p + n<=w.length
 ·rw [if_neg (λ h=>by have:=of_decide_eq_true h; rw [yb0] at this; omega)]
  show Q (.tup (cut3 (encs w) (some p) (some (p + n)))) μ
  rw [zt2 _ (by omega) (by omega) (by rw [yb0]; exact c),tj0,tk0]
  exact q (by omega) (by omega) c
 ·rw [if_pos (decide_eq_true (by rw [yb0]; omega))]
  exact ⟨z1,hx (by omega)⟩
noncomputable def ws1 (XE:XE3):Sp3:=λ ds μ Q=>∃ (d:Dd) (x:D),ds=[x,enc d] /\ dep d<=20 /\ (idl d=true->Q (.tup [enc d]) μ) /\ (idl d=false->XE "NoStep" μ)
theorem uh3 (XE:XE3) (ds:List D) (μ:Mu) (Q:VK3) (h:ws1 XE ds μ Q):xy2 XE sa2 { nx:=λ _ μ'=>Q .non μ',rt:=Q } (uc0 zv2 ds) μ:=by
 obtain ⟨d,x,rfl,hd,q,hx⟩:=h
 refine ⟨d,rfl,hd,?_⟩
 cases hi:idl d with
 | true=>exact ⟨show 1<=sizeLine by decide,q hi⟩
 | false=>exact ⟨show 1<=sizeLine by decide,hx hi⟩
noncomputable def zt1 (XE:XE3):Sp3:=λ ds μ Q=>∃ (v:List Dd) (x:D),ds=[.tup (encs v),x] /\ Q (.tup [enc (.times 1 v)]) μ
theorem yj3 (XE:XE3) (ds:List D) (μ:Mu) (Q:VK3) (h:zt1 XE ds μ Q):vz2 XE { nx:=λ _ μ'=>Q .non μ',rt:=Q } (uc0 tw2 ds) μ:=by
 obtain ⟨v,x,rfl,q⟩:=h
 exact ⟨show 3<=sizeLine by decide,show 1<=sizeLine by decide,q⟩
noncomputable def vs1 (XE:XE3):Sp3:=λ ds μ Q=>∃ (d:Dd) (m:Int),ds=[.tup [enc d],.int m] /\ (∀ p,prt m d=some p->Q (.tup [enc p.1,enc p.2]) μ) /\ (prt m d=none->XE "NoStep" μ)
theorem th3 (XE:XE3) (ds:List D) (μ:Mu) (Q:VK3) (h:vs1 XE ds μ Q):yy2 XE { nx:=λ _ μ'=>Q .non μ',rt:=Q } (uc0 wv2 ds) μ:=by
 obtain ⟨d,m,rfl,q,hx⟩:=h
 have z1:1<=sizeLine:=by decide
 have z2:2<=sizeLine:=by decide
 have z3:3<=sizeLine:=by decide
 cases d with
 | go a =>
  simp only [prt] at q hx
  show if (decide (m < 0))=true then _ else _
  by_cases c1:m < 0
  ·rw [if_pos (decide_eq_true c1)]
   exact ⟨z1,hx (if_neg (by omega))⟩
  rw [if_neg (λ h=>c1 (of_decide_eq_true h))]
  show if (decide (a - m < 0))=true then _ else _
  by_cases c2:a - m < 0
  ·rw [if_pos (decide_eq_true c2)]
   exact ⟨z1,hx (if_neg (by omega))⟩
  rw [if_neg (λ h=>c2 (of_decide_eq_true h))]
  exact ⟨z2,z2,z2,z2,z2,q _ (if_pos (by omega))⟩
 | jump a=>exact ⟨z2,z2,z2,z2,z2,q _ rfl⟩
 | turn a=>exact ⟨z2,z2,z2,z2,z2,q _ rfl⟩
 | times a v =>
  simp only [prt] at q hx
  show if (decide (m < 0))=true then _ else _
  by_cases c1:m < 0
  ·rw [if_pos (decide_eq_true c1)]
   exact ⟨z1,hx (if_neg (by omega))⟩
  rw [if_neg (λ h=>c1 (of_decide_eq_true h))]
  show if (decide (a - m < 0))=true then _ else _
  by_cases c2:a - m < 0
  ·rw [if_pos (decide_eq_true c2)]
   exact ⟨z1,hx (if_neg (by omega))⟩
  rw [if_neg (λ h=>c2 (of_decide_eq_true h))]
  exact ⟨z2,z3,z2,z3,z2,q _ (if_pos (by omega))⟩
noncomputable def dmk (k:Kd):Prop:=∀ d,k=.inn d->dep d<=10
noncomputable def wt1 (XE:XE3):Sp3:=λ ds μ Q=>∃ (w:List Dd) (k:Kd) (way:List Int) (i:Int),ds=[.tup (encs w),yh0 k way i] /\ deps w<=10 /\ cnts w<=100 /\ dmk k /\ (∀ v,cha w k i=some v->Q (.tup (encs v)) μ) /\ (cha w k i=none->XE "NoStep" μ)
theorem sj3 (XE:XE3) (ds:List D) (μ:Mu) (Q:VK3) (h:wt1 XE ds μ Q):tz2 XE zt1 uj1 ss1 vj1 vt1 yt1 us1 ts1 vs1 ws1 { nx:=λ _ μ'=>Q .non μ',rt:=Q } (uc0 xx2 ds) μ:=by
 obtain ⟨w,k,way,i,rfl,hd,hl',hk,q,hx⟩:=h
 have hl:w.length<=100:=Nat.le_trans (wf0 w) hl'
 have last:0<=i->i<=w.length->∀ {m:Int} {n:Nat} {x:List Dd},m=n->chg (w.drop i.toNat) k=some (n,x)->x.length<=500->vt1 [.tup (encs w),.int i,.int m,.tup (encs x)] μ Q:=λ i0 i1 {m n x} hm hc lx=>by
  subst hm
  have hn:=vy1 hc
  rw [List.length_drop] at hn
  exact ⟨w,x,i,n,rfl,i0,by omega,by omega,by omega,by rw [Int.toNat_natCast]; exact q _ (by unfold cha; rw [if_pos ⟨i0,i1⟩,hc]; rfl)⟩
 have none':(0<=i->i<=w.length->chg (w.drop i.toNat) k=none)->XE "NoStep" μ:=λ h=>hx (by
  unfold cha
  by_cases c:0<=i /\ i<=w.length
  ·rw [if_pos c,h c.1 c.2]; rfl
  ·rw [if_neg c])
 refine sd0 (ρ:=[some (.tup (encs w)),some (yh0 k way i),none,none,none]) (λ K k'=>wa4 (k:=k) (λ K kk=>(show ixR (yh0 k way i) (.int 0) μ K from vk0 atI0 kk)) k') ?_
 have hlen:(w.drop i.toNat).length=w.length - i.toNat:=List.length_drop
 have hdd:=sm0 w i.toNat
 have hcc:=vx0 w i.toNat
 generalize hr:w.drop i.toNat=rest at hlen last none' hdd hcc
 cases k with
 | inn d =>
  refine ⟨w,i,0,rfl,λ i0 _ i1=>?_,λ c=>none' λ i0 i1=>by omega⟩
  have hd2:=hk d rfl
  exact ⟨d,_,rfl,by omega,λ ci=>last i0 (by omega) (n:=0) (x:=[d]) rfl (by simp only [chg,if_pos ci]) (by simp),λ ci=>none' λ _ _=>by simp [chg,ci]⟩
 | close m =>
  refine ⟨w,i,m,rfl,λ i0 m0 i1=>?_,λ c=>none' λ i0 i1=>?_⟩
  ·rw [hr]
   exact ⟨rest.take m.toNat,_,rfl,last i0 (by omega) (m:=m) (n:=m.toNat) (x:=[.times 1 (rest.take m.toNat)]) (by omega) (by simp only [chg]; rw [if_pos (by omega)]) (by simp)⟩
  ·simp only [chg]; rw [if_neg (by omega)]
 | out =>
  refine ⟨w,i,1,rfl,λ i0 _ i1=>?_,λ c=>none' λ i0 i1=>?_⟩
  ·cases rest with
   | nil=>simp at hlen; omega
   | cons d r =>
    simp only [deps] at hdd
    rw [hr]
    exact ⟨d,_,rfl,by omega,λ ci=>last i0 (by omega) (n:=1) (x:=[]) rfl (by simp only [chg,if_pos ci]) (by simp),λ ci=>none' λ _ _=>by simp [chg,ci]⟩
  ·cases rest with
   | nil=>rfl
   | cons d r=>rw [List.length_cons] at hlen; omega
 | opn =>
  refine ⟨w,i,1,rfl,λ i0 _ i1=>?_,λ c=>none' λ i0 i1=>?_⟩
  ·cases rest with
   | nil=>simp at hlen; omega
   | cons d r =>
    rw [hr]
    refine ⟨d,_,rfl,λ v hv=>?_,λ hv=>none' λ _ _=>?_⟩
    ·subst hv
     have:=wf0 v
     simp only [cnts,cnt] at hcc
     exact last i0 (by omega) (n:=1) (x:=v) rfl (by simp only [chg,if_true]) (by omega)
    ·cases d with
     | times n v =>
      simp only [chg]
      rw [if_neg (λ h=>hv v (by rw [h]))]
     | _=>rfl
  ·cases rest with
   | nil=>rfl
   | cons d r=>rw [List.length_cons] at hlen; omega
 | twice =>
  refine ⟨w,i,1,rfl,λ i0 _ i1=>?_,λ c=>none' λ i0 i1=>?_⟩
  ·cases rest with
   | nil=>simp at hlen; omega
   | cons d r =>
    rw [hr]
    refine ⟨d,_,rfl,λ n hn=>?_,λ hn=>none' λ _ _=>?_⟩
    ·subst hn
     exact last i0 (by omega) (n:=1) (x:=[.go n,.jump (-n),.go n]) rfl (by simp only [chg]) (by simp)
    ·cases d with
     | go n=>exact absurd rfl (hn n)
     | _=>rfl
  ·cases rest with
   | nil=>rfl
   | cons d r=>rw [List.length_cons] at hlen; omega
 | part m =>
  refine ⟨w,i,1,rfl,λ i0 _ i1=>?_,λ c=>none' λ i0 i1=>?_⟩
  ·cases rest with
   | nil=>simp at hlen; omega
   | cons d r =>
    rw [hr]
    exact ⟨d,m,rfl,λ p hp=>last i0 (by omega) (n:=1) (x:=[p.1,p.2]) rfl (by simp only [chg,hp,Option.map_some]) (by simp),λ hp=>none' λ _ _=>by simp only [chg,hp,Option.map_none]⟩
  ·cases rest with
   | nil=>rfl
   | cons d r=>rw [List.length_cons] at hlen; omega
 | join =>
  refine ⟨w,i,2,rfl,λ i0 _ i1=>?_,λ c=>none' λ i0 i1=>?_⟩
  ·rcases rest with _ | ⟨d,_ | ⟨e,r⟩⟩
   ·simp at hlen; omega
   ·simp at hlen; omega
   ·have e2:((w.drop i.toNat).take (2:Int).toNat)=[d,e]:=by rw [hr]; rfl
    rw [e2]
    simp only [deps] at hdd
    exact ⟨d,e,_,rfl,by omega,by omega,λ j hj=>last i0 (by omega) (n:=2) (x:=[j]) rfl (by simp only [chg,hj,Option.map_some]) (by simp),λ hj=>none' λ _ _=>by simp only [chg,hj,Option.map_none]⟩
  ·rcases rest with _ | ⟨d,_ | ⟨e,r⟩⟩
   ·rfl
   ·rfl
   ·simp only [List.length_cons] at hlen; omega
 | once =>
  refine ⟨w,i,3,rfl,λ i0 _ i1=>?_,λ c=>none' λ i0 i1=>?_⟩
  ·rcases rest with _ | ⟨d,_ | ⟨e,_ | ⟨f,r⟩⟩⟩
   ·simp at hlen; omega
   ·simp at hlen; omega
   ·simp at hlen; omega
   ·have e2:((w.drop i.toNat).take (3:Int).toNat)=[d,e,f]:=by rw [hr]; rfl
    rw [e2]
    simp only [deps] at hdd
    refine ⟨d,e,f,_,rfl,by simp only [deps]; omega,λ n hn=>?_,λ hn=>none' λ _ _=>?_⟩
    ·simp at hn
     obtain ⟨rfl,rfl,rfl⟩:=hn
     exact last i0 (by omega) (n:=3) (x:=[.go n]) rfl (by simp [chg]) (by simp)
    ·cases d with
     | go n =>
      haveI:Decidable ((e :: f :: r).take 2=[.jump (0 - n),.go n]):=Classical.propDecidable _
      rw [vl1,if_neg]
      intro h
      simp at h
      exact hn n (by rw [h.1,h.2])
     | _=>rfl
  ·rcases rest with _ | ⟨d,_ | ⟨e,_ | ⟨f,r⟩⟩⟩
   ·rfl
   ·cases d <;> rfl
   ·cases d <;> cases e <;> rfl
   ·simp only [List.length_cons] at hlen; omega
noncomputable def ua2 (j:Nat) (XE:XE3):Sp3:=λ ds μ Q=>∃ (w:List Dd) (way:List Int) (k:Kd) (way0:List Int) (i:Int),ds=[.tup (encs w),.tup (way.map .int),yh0 k way0 i] /\ way.length < j /\ deps w<=10 /\ cnts w<=100 /\ dmk k /\ (∀ v,aft way w k i=some v->Q (.tup (encs v)) μ) /\ (aft way w k i=none->XE "NoStep" μ)
theorem tj3 (j:Nat) (XE:XE3) (ds:List D) (μ:Mu) (Q:VK3) (h:ua2 (j + 1) XE ds μ Q):uz2 XE wt1 (ua2 j) uj1 vt1 { nx:=λ _ μ'=>Q .non μ',rt:=Q } (uc0 sw2 ds) μ:=by
 obtain ⟨w,way,k,way0,i,rfl,hj,hd,hl,hk,q,hx⟩:=h
 cases way with
 | nil=>exact ⟨w,k,way0,i,rfl,hd,hl,hk,q,hx⟩
 | cons a way =>
  have lw:=wf0 w
  have z1:1<=sizeLine:=by decide
  rw [List.length_cons] at hj
  have e0:decide ((((a :: way).map D.int).length:Int)=0)=false:=decide_eq_false (by rw [List.length_map,List.length_cons]; omega)
  refine sd0 (ρ:=[some (.tup (encs w)),some (.tup ((a :: way).map D.int)),some (yh0 k way0 i),none,none]) (λ K k'=>(show K (decide ((((a :: way).map D.int).length:Int)=0)) μ by rw [e0]; exact k')) ?_
  show ixR (.tup ((a :: way).map D.int)) (.int 0) μ _
  refine vk0 atI0 ?_
  refine ⟨w,a,1,rfl,λ c _ la=>?_,λ c=>hx ?_⟩
  ·obtain ⟨d,hu⟩:∃ d,w[a.toNat]?=some d:=⟨_,List.getElem?_eq_getElem (by omega)⟩
   obtain ⟨e1,_⟩:=up3 hu
   rw [show (1:Int).toNat=1 from rfl,e1]
   have mu:=List.mem_of_getElem? hu
   have c1:=ux0 mu
   have d1:=ts0 mu
   have bad:(∀ n u,d ≠ .times n u)->aft (a :: way) w k i=none:=λ hn=>by
    simp only [aft,if_pos c,hu]
    cases d with
    | times n u=>exact absurd rfl (hn n u)
    | _=>rfl
   cases d with
   | go n=>exact ⟨z1,hx (bad (by simp))⟩
   | jump n=>exact ⟨z1,hx (bad (by simp))⟩
   | turn n=>exact ⟨z1,hx (bad (by simp))⟩
   | times n u =>
   simp only [cnt,dep] at c1 d1
   simp only [aft,if_pos c,hu] at q hx
   have e2:cut3 ((a :: way).map D.int) (some 1) none=way.map D.int:=by rw [un0 _ (by decide) (by rw [List.length_map,List.length_cons]; omega)]; rfl
   refine ⟨u,way,k,way0,i,(show [D.tup (encs u),D.tup (cut3 ((a :: way).map D.int) (some 1) none),yh0 k way0 i]=_ by rw [e2]),by omega,by omega,by omega,hk,λ v' hv'=>?_,λ hv'=>hx (by rw [hv']; rfl)⟩
   rw [hv'] at q
   conv=>whnf
   rw [show atI ((a :: way).map D.int) 0=some (.int a) from atI0]
   refine ⟨show 3<=sizeLine by decide,z1,w,[.times n v'],a,1,rfl,c,by decide,by omega,by rw [List.length_singleton]; omega,q _ rfl⟩
  ·simp only [aft]
   by_cases c0:0<=a
   ·rw [if_pos c0,List.getElem?_eq_none (by omega)]
   ·rw [if_neg c0]
mutual
theorem ss3:∀ (d:Dd) (j:Nat) (k:Int) (c:Nat),k<=4->ckD (ckW j) k (enc d)=some c->okd d /\ cnt d=c /\ k + dep d<=4
 | .go n,j,k,c,hk,h=>by
  simp only [enc,ckD,Pv.kn_go_jump,Pv.kn_go_turn,Pv.kn_go_times,Pv.kn_jump_go,Pv.kn_jump_turn,Pv.kn_jump_times,Pv.kn_turn_go,Pv.kn_turn_jump,Pv.kn_turn_times,Pv.kn_times_go,Pv.kn_times_jump,Pv.kn_times_turn,Pv.kp_go,Pv.kp_jump,Pv.kp_turn,Pv.kp_times,Pv.kz_go,Pv.kz_jump,Pv.kz_turn,Pv.kz_times] at h
  split at h <;> simp at h
  next hc =>
  have:=hc.2
  simp [ckN] at this
  subst h
  simp only [okd,cnt,dep]
  refine ⟨⟨by have:=this.2; omega,this.1.2⟩,trivial,by omega⟩
 | .jump n,j,k,c,hk,h=>by
  simp only [enc,ckD,Pv.kn_go_jump,Pv.kn_go_turn,Pv.kn_go_times,Pv.kn_jump_go,Pv.kn_jump_turn,Pv.kn_jump_times,Pv.kn_turn_go,Pv.kn_turn_jump,Pv.kn_turn_times,Pv.kn_times_go,Pv.kn_times_jump,Pv.kn_times_turn,Pv.kp_go,Pv.kp_jump,Pv.kp_turn,Pv.kp_times,Pv.kz_go,Pv.kz_jump,Pv.kz_turn,Pv.kz_times] at h
  split at h <;> simp at h
  next hc =>
  have:=hc.2
  simp [ckN] at this
  subst h
  simp only [okd,cnt,dep]
  refine ⟨this.1,trivial,by omega⟩
 | .turn n,j,k,c,hk,h=>by
  simp only [enc,ckD,Pv.kn_go_jump,Pv.kn_go_turn,Pv.kn_go_times,Pv.kn_jump_go,Pv.kn_jump_turn,Pv.kn_jump_times,Pv.kn_turn_go,Pv.kn_turn_jump,Pv.kn_turn_times,Pv.kn_times_go,Pv.kn_times_jump,Pv.kn_times_turn,Pv.kp_go,Pv.kp_jump,Pv.kp_turn,Pv.kp_times,Pv.kz_go,Pv.kz_jump,Pv.kz_turn,Pv.kz_times] at h
  split at h <;> simp at h
  next hc =>
  have:=hc.2
  simp [ckN] at this
  subst h
  simp only [okd,cnt,dep]
  refine ⟨this.1,trivial,by omega⟩
 | .times n w,j,k,c,hk,h=>by
  simp only [enc,ckD] at h
  split at h
  ·next hc =>
   have hn:=hc.2
   simp [ckN] at hn
   cases j with
   | zero=>simp [ckW] at h
   | succ j =>
    simp only [ckW] at h
    by_cases c4:4 < k + 1
    ·rw [if_pos c4] at h; cases h
    ·rw [if_neg c4] at h
     cases hw:ckL (ckD (ckW j) (k + 1)) (encs w) 0 with
     | none=>rw [hw] at h; cases h
     | some m =>
      rw [hw] at h
      cases h
      obtain ⟨a1,a2,a3⟩:=wy1 w j (k + 1) 0 m (by omega) hw
      simp only [okd,cnt,dep]
      exact ⟨⟨⟨by have:=hn.2; omega,hn.1.2⟩,a1⟩,by omega,by omega⟩
  ·cases h
theorem wy1:∀ (w:List Dd) (j:Nat) (k:Int) (c m:Nat),k<=4->ckL (ckD (ckW j) k) (encs w) c=some m->oks w /\ c + cnts w=m /\ k + deps w<=4
 | [],j,k,c,m,hk,h=>by
  simp only [encs,ckL] at h
  cases h
  simp only [oks,cnts,deps]
  exact ⟨trivial,by omega,by omega⟩
 | d :: r,j,k,c,m,hk,h=>by
  simp only [encs,ckL] at h
  cases hd:ckD (ckW j) k (enc d) with
  | none=>rw [hd] at h; cases h
  | some x =>
   rw [hd] at h
   dsimp only at h
   split at h
   ·cases h
   ·obtain ⟨a1,a2,a3⟩:=ss3 d j k x hk hd
    obtain ⟨b1,b2,b3'⟩:=wy1 r j k (c + x) m hk h
    simp only [oks,cnts,deps]
    exact ⟨⟨a1,b1⟩,by omega,by omega⟩
end
theorem sk2:∀ (l:List D) (cd:D->Option Nat) (c m:Nat),c<=30->ckL cd l c=some m->m<=30
 | [],cd,c,m,hc,h=>by simp only [ckL] at h; cases h; exact hc
 | d :: r,cd,c,m,hc,h=>by
  simp only [ckL] at h
  split at h
  ·split at h
   ·cases h
   ·exact sk2 r cd _ m (by omega) h
  ·cases h
theorem xy1 (v:List Dd):(Wd v->ckW 6 (.tup (encs v)) 0=some (cnts v)) /\ (¬ Wd v->ckW 6 (.tup (encs v)) 0=none):=by
 refine ⟨uk2,λ hn=>?_⟩
 cases h:ckW 6 (.tup (encs v)) 0 with
 | none=>rfl
 | some m =>
  exfalso
  simp only [ckW] at h
  rw [if_neg (by decide)] at h
  obtain ⟨a1,a2,a3⟩:=wy1 v 5 0 0 m (by decide) h
  have:=sk2 _ _ 0 m (by decide) h
  exact hn ⟨a1,by omega,by omega⟩
noncomputable def va2 (XE:XE3):Sp3:=λ ds μ Q=>∃ (w:List Dd) (k:Kd) (way:List Int) (i:Int),ds=[.tup (encs w),yh0 k way i] /\ way.length < 7 /\ Wd w /\ dmk k /\ (∀ v,aft way w k i=some v->Wd v->Q (.tup (encs v)) μ) /\ (∀ v,aft way w k i=some v->¬ Wd v->XE "NoRoom" μ) /\ (aft way w k i=none->XE "NoStep" μ)
theorem wh3 (XE:XE3) (ds:List D) (μ:Mu) (Q:VK3) (h:va2 XE ds μ Q):tx2 XE (ua2 7) ss0 { nx:=λ _ μ'=>Q .non μ',rt:=Q } (uc0 xv2 ds) μ:=by
 obtain ⟨w,k,way,i,rfl,hw,wd,hk,q,hr,hx⟩:=h
 have a1:deps w<=10:=by have:=wd.2.1; omega
 have a2:cnts w<=100:=by have:=wd.2.2; omega
 have z1:1<=sizeLine:=by decide
 have fin:∀ v,aft way w k i=some v->ss0 (λ c μ2=>c = "NoWord" /\ 1<=sizeLine /\ XE "NoRoom" μ2) [.tup (encs v)] μ (λ _ μ'=>Q (.tup (encs v)) μ'):=λ v hv=>by
  refine ⟨_,rfl,.wd _ λ x hx=>zu0 v x hx,?_⟩
  by_cases c:Wd v
  ·rw [(xy1 v).1 c]; exact q v hv c
  ·rw [(xy1 v).2 c]; exact ⟨rfl,z1,hr v hv c⟩
 cases k <;> exact ⟨w,way,_,way,i,rfl,hw,a1,a2,hk,fin,hx⟩
theorem xc1 {XE:XE3} {w:List Dd} {μ:Mu} {Q:VK3} (hw:Wd w) (q:Q .non μ):ss0 XE [.tup (encs w)] μ Q:=⟨_,rfl,.wd _ λ x hx=>zu0 w x hx,by rw [uk2 hw]; exact q⟩
end Pv
namespace Pv
open PySem Mw
noncomputable def spSz (j:Nat):Sp3:=λ ds μ Q=>∃ w:List Dd,ds=[.tup (encs w)] /\ deps w < j /\ ∀ p μ',Ext μ μ'->μ' p=some (.lst [.int ((cnts w:Int) + 1),.int (deps w)])->Q (.ref p) μ'
theorem sz_a (a d:Nat):((a:Int) + 1 + 1 + ((d:Int) - 1))=((a + (d + 0):Nat):Int) + 1:=by omega
theorem sz_b (a d:Nat):(if (d:Int) > (a:Int) then (d:Int) else (a:Int))=((max a (max d 0):Nat):Int):=by split <;> omega
theorem sl1 {p:Addr} {l:List D} {i:Int} {d:D} {μ:Mu} {K:VK3} (h:μ p=some (.lst l)) (e:atI l i=some d) (k:K d μ):ixR (.ref p) (.int i) μ K:=by
 simp only [ixR,h,e]; exact k
theorem xn2 {A B:TS3} {K:Ends3} {ρ:St3} {μ:Mu} {k c:Str} {l:List D} (i:Nat) (h:getI ρ i=some (.tup (.str k :: l))) (hk:(k=c)=False) (hB:B K ρ μ):ifs3 (b3 (o3 eqR (o3 ixR (v3 i) (c3 (.int 0))) (c3 (.str c)))) A B K ρ μ:=by
 simp only [ifs3,b3,o3,v3,c3,h,ixR,atI0,tm0,hk,decide_false,Bool.false_eq_true,if_false]; exact hB
theorem va3 {A B:TS3} {K:Ends3} {ρ:St3} {μ:Mu} {k:Str} {l:List D} (i:Nat) (h:getI ρ i=some (.tup (.str k :: l))) (hA:A K ρ μ):ifs3 (b3 (o3 eqR (o3 ixR (v3 i) (c3 (.int 0))) (c3 (.str k)))) A B K ρ μ:=by
 simp only [ifs3,b3,o3,v3,c3,h,ixR,atI0,tm0,decide_true,if_true]; exact hA
theorem sz0 {K:Ends3} {w x:D} {r u:Addr} {a b c d:Int} {μ2:Mu} (h1:μ2 r=some (.lst [.int a,.int b])) (h2:μ2 u=some (.lst [.int c,.int d])) (h:∀ s2,μ2 s2=none->K.nx [some w,some (.ref s2),some x,some (.ref u)] (updM μ2 s2 (.lst [.int (a + 1 + c),.int (if d > b then d else b)]))) :
    set3 1 (lst3 (za0 (o3 addR (o3 addR (o3 ixR (v3 1) (c3 (.int 0))) (c3 (.int 1))) (o3 ixR (v3 3) (c3 (.int 0)))) (za0 (zb0 mxR (za0 (o3 ixR (v3 1) (c3 (.int 1))) (za0 (o3 ixR (v3 3) (c3 (.int 1))) nil3))) nil3))) K [some w,some (.ref r),some x,some (.ref u)] μ2:=by
 simp only [set3,lst3,za0,o3,zb0,v3,c3,getI,nil3]
 refine sl1 h1 rfl ?_
 simp only [addR]
 refine sl1 h2 rfl ?_
 simp only [addR]
 refine sl1 h1 rfl ?_
 refine sl1 h2 rfl ?_
 rw [yq3]
 exact ⟨show 2<=sizeLine by decide,h⟩
theorem tu3 {K:Ends3} {A B C:Option D} {z:Addr} {a b:Int} {μ2:Mu} (h2:μ2 z=some (.lst [.int a,.int b])) (h:∀ s2,μ2 s2=none->K.nx [A,B,C,some (.ref s2)] (updM μ2 s2 (.lst [.int (a - 1),.int (b + 1)]))) :
    set3 3 (lst3 (za0 (o3 subR (o3 ixR (v3 3) (c3 (.int 0))) (c3 (.int 1))) (za0 (o3 addR (o3 ixR (v3 3) (c3 (.int 1))) (c3 (.int 1))) nil3))) K [A,B,C,some (.ref z)] μ2:=by
 simp only [set3,lst3,za0,o3,zb0,v3,c3,getI,nil3]
 refine sl1 h2 rfl ?_
 simp only [subR,uk0]
 refine sl1 h2 rfl ?_
 simp only [addR]
 exact ⟨show 2<=sizeLine by decide,h⟩
theorem vw3 (j:Nat) (ds:List D) (μ:Mu) (Q:VK3) (h:spSz (j + 1) ds μ Q):t_q8 (spSz j) { nx:=λ _ μ'=>Q .non μ',rt:=Q } (uc0 N_q8 ds) μ:=by
 obtain ⟨w,rfl,hj,q⟩:=h
 refine ⟨by decide,λ r hr=>?_⟩
 refine tl0 (λ l ρ μ'=>∃ (a b:List Dd) (r:Addr) (o1 o2:Option D),a ++ b=w /\ l=encs b /\ ρ=[some (.tup (encs w)),some (.ref r),o1,o2] /\ Ext μ μ' /\ μ' r=some (.lst [.int ((cnts a:Int) + 1),.int (deps a)])) ?_ (λ _ _ _ _=>trivial) ?_ ?_
 ·exact ⟨[],w,r,none,none,rfl,rfl,rfl,Ext.new hr,by rw [sa0]; simp [cnts,deps]⟩
 ·rintro ρ μ' ⟨a,b,r,o1,o2,e,eb,rfl,ex,er⟩
  have:b=[]:=by cases b with
   | nil=>rfl
   | cons d t=>simp [encs] at eb
  subst this
  rw [List.append_nil] at e
  subst e
  exact q r μ' ex er
 ·rintro x l ρ μ' ⟨a,b,r,o1,o2,e,eb,rfl,ex,er⟩
  cases b with
  | nil=>simp [encs] at eb
  | cons d b =>
  simp only [encs,List.cons.injEq] at eb
  obtain ⟨rfl,rfl⟩:=eb
  refine ⟨by decide,λ s hs=>?_⟩
  have er1:updM μ' s (.lst [.int 0,.int 0]) r=some (.lst [.int ((cnts a:Int) + 1),.int (deps a)]):=by rw [xc0 (zk0 er hs)]; exact er
  have last:∀ (u:Addr) (μ2:Mu) (x y:Int) (o1 o2:Option D),Ext μ' μ2->x=(cnt d:Int) - 1->y=dep d->∀ s2,μ2 s2=none->∃ (a' b':List Dd) (r':Addr) (o3 o4:Option D),a' ++ b'=w /\ encs b=encs b' /\ [some (D.tup (encs w)),some (.ref s2),o1,o2]=[some (.tup (encs w)),some (.ref r'),o3,o4] /\ Ext μ (updM μ2 s2 (.lst [.int ((cnts a:Int) + 1 + 1 + x),.int (if y > (deps a:Int) then y else (deps a:Int))])) /\ updM μ2 s2 (.lst [.int ((cnts a:Int) + 1 + 1 + x),.int (if y > (deps a:Int) then y else (deps a:Int))]) r'=some (.lst [.int ((cnts a':Int) + 1),.int (deps a')]):=by
   intro u μ2 x y o1 o2 g1 hx hy s2 hs2
   refine ⟨a ++ [d],b,s2,_,_,by rw [<- e]; simp,rfl,rfl,(ex.trans g1).trans (Ext.new hs2),?_⟩
   rw [sa0,vr0,zi0,hx,hy,sz_a,sz_b]
   simp only [cnts,deps]
  have hd:dep d<=deps w:=by rw [<- e,zi0]; simp only [deps]; omega
  cases d with
  | go n =>
   dsimp only [seq3]
   refine xn2 2 rfl kn_go_times ?_
   refine sz0 er1 (sa0 ..) ?_
   exact last s _ 0 0 _ _ (Ext.new hs) (by simp [cnt]) (by simp [dep])
  | jump n =>
   dsimp only [seq3]
   refine xn2 2 rfl kn_jump_times ?_
   refine sz0 er1 (sa0 ..) ?_
   exact last s _ 0 0 _ _ (Ext.new hs) (by simp [cnt]) (by simp [dep])
  | turn n =>
   dsimp only [seq3]
   refine xn2 2 rfl kn_turn_times ?_
   refine sz0 er1 (sa0 ..) ?_
   exact last s _ 0 0 _ _ (Ext.new hs) (by simp [cnt]) (by simp [dep])
  | times n v =>
   simp only [dep] at hd
   dsimp only [seq3]
   refine va3 2 rfl ?_
   refine ⟨v,rfl,by omega,λ z μ2 g1 g2=>?_⟩
   have er2:=g1 _ _ er1
   refine tu3 g2 λ s2 hs2=>?_
   have er3:updM μ2 s2 (.lst [.int ((cnts v:Int) + 1 - 1),.int ((deps v:Int) + 1)]) r=some (.lst [.int ((cnts a:Int) + 1),.int (deps a)]):=by rw [xc0 (zk0 er2 hs2)]; exact er2
   refine sz0 er3 (sa0 ..) ?_
   exact last s2 _ _ _ _ _ (((Ext.new hs).trans g1).trans (Ext.new hs2)) (by simp only [cnt]; omega) (by simp only [dep]; omega)
noncomputable def yn0 (j:Nat):Sp3:=λ ds μ Q=>∃ w:List Dd,ds=[.tup (encs w)] /\ deps w < j /\ deps w<=9 /\ ∀ b μ',Ext μ μ'->(b=true ↔ bnds w /\ cnts w<=30 /\ deps w<=4)->Q (.bl b) μ'
theorem ur0:∀ a b,bnds (a ++ b) ↔ bnds a /\ bnds b
 | [],b=>by simp [bnds]
 | d :: r,b=>by simp only [List.cons_append,bnds,ur0 r b,and_assoc]
theorem sw3 (j:Nat) (ds:List D) (μ:Mu) (Q:VK3) (h:yn0 (j + 1) ds μ Q):t_q5 (yn0 j) (spSz 10) { nx:=λ _ μ'=>Q .non μ',rt:=Q } (uc0 N_q5 ds) μ:=by
 obtain ⟨w,rfl,hj,hj9,q⟩:=h
 have e20:((10:Int) ^ (20:Int).toNat)=100000000000000000000:=by decide
 have c20:CPow 10 20:=⟨by decide,by decide,by decide⟩
 simp only [t_q5,seq3,asg3,zb0,za0,v3,uc0,List.map_cons,List.map_nil,N_q5,List.length_cons,List.length_nil,Nat.zero_add,Nat.reduceAdd,Nat.reduceSub,List.replicate,List.cons_append,List.nil_append,getI,nil3,geR,powR,leR]
 refine ⟨w,rfl,by omega,λ p μ1 x1 e1=>?_⟩
 simp only [vf2,e1,List.length_cons,List.length_nil,Nat.zero_add,Nat.reduceAdd,sr0,gn3,yq1,seq3,for3,is3,v3,List.set_cons_succ,List.set_cons_zero,getI,true_and]
 refine tl0 (λ l ρ μ'=>∃ (a b:List Dd) (o:Option D),a ++ b=w /\ l=encs b /\ ρ=[some (.tup (encs w)),some (.int ((cnts w:Int) + 1)),some (.int (deps w)),o] /\ Ext μ μ' /\ bnds a) ?_ (λ _ _ _ _=>trivial) ?_ ?_
 ·exact ⟨[],w,none,rfl,rfl,rfl,x1,by simp [bnds]⟩
 ·rintro ρ μ' ⟨a,b,o,e,eb,rfl,ex,hb⟩
  have:b=[]:=by cases b with
   | nil=>rfl
   | cons d t=>simp [encs] at eb
  subst this
  rw [List.append_nil] at e
  subst e
  simp only [ret3,vq1,o3,v3,getI,c3,uk0,decide_eq_true_eq]
  split
  ·exact q _ μ' ex ⟨λ h=>⟨hb,by omega,by have:=of_decide_eq_true h; omega⟩,λ h=>decide_eq_true (by omega)⟩
  ·exact q _ μ' ex ⟨λ h=>(by cases h),λ h=>by omega⟩
 ·rintro x l ρ μ' ⟨a,b,o,e,eb,rfl,ex,hb⟩
  cases b with
  | nil=>simp [encs] at eb
  | cons d b =>
  simp only [encs,List.cons.injEq] at eb
  obtain ⟨rfl,rfl⟩:=eb
  have hd:dep d<=deps w:=by rw [<- e,zi0]; simp only [deps]; omega
  have bd:bnds w->bnd1 d:=λ h=>by rw [<- e,ur0] at h; simp only [bnds] at h; exact h.2.1
  have fin:∀ μ2:Mu,Ext μ μ2->bnd1 d->∃ (a' b':List Dd) (o:Option D),a' ++ b'=w /\ encs b=encs b' /\ [some (D.tup (encs w)),some (.int ((cnts w:Int) + 1)),some (.int (deps w)),some (enc d)]=[some (.tup (encs w)),some (.int ((cnts w:Int) + 1)),some (.int (deps w)),o] /\ Ext μ μ2 /\ bnds a':=λ μ2 g1 g2 =>
   ⟨a ++ [d],b,_,by rw [<- e]; simp,rfl,rfl,g1,by rw [ur0]; exact ⟨hb,by simp only [bnds]; exact ⟨g2,trivial⟩⟩⟩
  cases d with
  | go n =>
   simp only [gn3,ifs3,or3,b3,o3,zb0,za0,v3,enc,List.set_cons_succ,List.set_cons_zero,getI,c3,ixR,atI1,nil3,absR,int2,c20,uk0,e20,decide_eq_true_eq,ret3,tc0,if_true,and3,atI0,not3,Bool.not_eq_true',Bool.false_eq_true,if_false,tm0,kn_go_times,true_and]
   have hA:n<=(if n < 0 then -n else n) /\ -n<=(if n < 0 then -n else n) /\ ((if n < 0 then -n else n)=n \/ (if n < 0 then -n else n) = -n):=by split <;> omega
   generalize (if n < 0 then -n else n)=A at hA ⊢
   split
   ·exact q _ μ' ex ⟨λ h=>(by cases h),λ h=>by have:=bd h.1; simp only [bnd1,G] at this; omega⟩
   ·exact fin μ' ex (by simp only [bnd1,G]; omega)
  | jump n =>
   simp only [gn3,ifs3,or3,b3,o3,zb0,za0,v3,enc,List.set_cons_succ,List.set_cons_zero,getI,c3,ixR,atI1,nil3,absR,int2,c20,uk0,e20,decide_eq_true_eq,ret3,tc0,if_true,and3,atI0,not3,Bool.not_eq_true',Bool.false_eq_true,if_false,tm0,kn_jump_times,true_and]
   have hA:n<=(if n < 0 then -n else n) /\ -n<=(if n < 0 then -n else n) /\ ((if n < 0 then -n else n)=n \/ (if n < 0 then -n else n) = -n):=by split <;> omega
   generalize (if n < 0 then -n else n)=A at hA ⊢
   split
   ·exact q _ μ' ex ⟨λ h=>(by cases h),λ h=>by have:=bd h.1; simp only [bnd1,G] at this; omega⟩
   ·exact fin μ' ex (by simp only [bnd1,G]; omega)
  | turn n =>
   simp only [gn3,ifs3,or3,b3,o3,zb0,za0,v3,enc,List.set_cons_succ,List.set_cons_zero,getI,c3,ixR,atI1,nil3,absR,int2,c20,uk0,e20,decide_eq_true_eq,ret3,tc0,if_true,and3,atI0,not3,Bool.not_eq_true',Bool.false_eq_true,if_false,tm0,kn_turn_times,true_and]
   have hA:n<=(if n < 0 then -n else n) /\ -n<=(if n < 0 then -n else n) /\ ((if n < 0 then -n else n)=n \/ (if n < 0 then -n else n) = -n):=by split <;> omega
   generalize (if n < 0 then -n else n)=A at hA ⊢
   split
   ·exact q _ μ' ex ⟨λ h=>(by cases h),λ h=>by have:=bd h.1; simp only [bnd1,G] at this; omega⟩
   ·exact fin μ' ex (by simp only [bnd1,G]; omega)
  | times n v =>
   simp only [gn3,ifs3,or3,b3,o3,zb0,za0,v3,enc,List.set_cons_succ,List.set_cons_zero,getI,c3,ixR,atI1,nil3,absR,int2,c20,uk0,e20,decide_eq_true_eq,ret3,tc0,if_true,and3,atI0,not3,atI2,Bool.not_eq_true',Bool.false_eq_true,if_false,tm0,true_and]
   have hA:n<=(if n < 0 then -n else n) /\ -n<=(if n < 0 then -n else n) /\ ((if n < 0 then -n else n)=n \/ (if n < 0 then -n else n) = -n):=by split <;> omega
   generalize (if n < 0 then -n else n)=A at hA ⊢
   split
   ·exact q _ μ' ex ⟨λ h=>(by cases h),λ h=>by have:=bd h.1; simp only [bnd1,G] at this; omega⟩
   ·simp only [dep] at hd
    refine ⟨v,rfl,by omega,by omega,λ b2 μ2 g1 g2=>?_⟩
    simp only []
    cases b2 with
    | false =>
     simp only [if_true]
     refine q _ μ2 (ex.trans g1) ⟨λ h=>(by cases h),λ h=>?_⟩
     have b1:=bd h.1
     simp only [bnd1] at b1
     have c1:cnt (.times n v)<=cnts w:=by rw [<- e,vr0]; simp only [cnts]; omega
     simp only [cnt] at c1
     exact absurd (g2.mpr ⟨b1.2,by omega,by omega⟩) (by simp)
    | true=>exact fin μ2 (ex.trans g1) (by simp only [bnd1,G]; exact ⟨by omega,(g2.mp rfl).1⟩)
end Pv
namespace Pv
open PySem Mw
theorem wg2 {S:Mu->Prop} {p:Addr} {tc:TT3} {Q:VK3} {l:List D} {o:Option D} {rest:St3} {μ:Mu} (f:D->Bool) (hp:μ p=none) (hl:l.length<=sizeLine) (hS:∀ μ',Ext μ μ'->S μ')
    (hx:∀ x ∈ l,∀ μ' R,Ext μ μ'->R (f x) μ'->tc (some x :: rest) μ' R) (hQ:∀ μ',Ext μ μ'->μ' p=some (.lst (l.filter f))->Q (.ref p) μ'):zt3 S p (gn3 0) tc (v3 0) Q l (o :: rest) (updM μ p (.lst [])):=by
 refine ⟨λ r ys ρ μ'=>Ext μ μ' /\ μ' p=some (.lst ys) /\ (∃ o',ρ=o' :: rest) /\ ∃ a,a ++ r=l /\ ys=a.filter f,?_,?_,?_,?_⟩
 ·exact ⟨Ext.new hp,sa0,⟨o,rfl⟩,[],rfl,rfl⟩
 ·rintro r ys ρ μ' ⟨h1,h2,_⟩
  exact ⟨hS _ h1,h2⟩
 ·rintro ys ρ μ' ⟨h1,h2,_,a,e,rfl⟩
  rw [List.append_nil] at e
  subst e
  exact hQ _ h1 h2
 ·rintro x r ys ρ μ' ⟨h1,h2,⟨o',rfl⟩,a,e,rfl⟩
  refine ⟨?_,?_⟩
  ·have h3:=congrArg List.length e
   rw [List.length_append,List.length_cons] at h3
   have:=List.length_filter_le f a
   omega
  ·refine hx x (by rw [<- e]; simp) μ' _ h1 ?_
   have e2:(a ++ [x]) ++ r=l:=by rw [<- e]; simp
   cases c:f x with
   | true =>
    refine ⟨h2,λ b v hb=>?_,sa0,⟨_,rfl⟩,a ++ [x],e2,?_⟩
    ·rw [xc0 (zk0 hb hp)]
     exact h1 b v hb
    ·rw [List.filter_append]
     simp [c]
   | false =>
    refine ⟨h1,h2,⟨_,rfl⟩,a ++ [x],e2,?_⟩
    rw [List.filter_append]
    simp [c]
noncomputable def Vw:List Int->List Dd->Prop
 | [],_=>True
 | a :: way,w=>0<=a /\ ∃ n v,w[a.toNat]?=some (.times n v) /\ Vw way v
noncomputable def isT:Option Dd->Bool
 | some (.times _ _)=>true
 | _=>false
noncomputable def fT (w:List Dd):D->Bool
 | .int a=>isT w[a.toNat]?
 | _=>false
theorem wl1:∀ l:List D,(∀ x ∈ l,∃ a,x=.int a)->∃ ps,dats l=some ps /\ PyData.depthAll ps<=1 /\ ps.isEmpty=l.isEmpty
 | [],_=>⟨[],rfl,by simp [PyData.depthAll],rfl⟩
 | x :: r,h=>by
  obtain ⟨a,rfl⟩:=h x (by simp)
  obtain ⟨ps,e,d,_⟩:=wl1 r λ y hy=>h y (by simp [hy])
  exact ⟨.int a :: ps,by simp only [dats,dat,e],by simp only [PyData.depthAll,PyData.depth]; omega,rfl⟩
theorem xt2 {l:List D} (hl:∀ x ∈ l,∃ a,x=.int a) {r q:Addr} {μ:Mu} (hr:μ r=some (.lst l)) (hq:μ q=some (.lst [])) {K:VK3} (k:K (.bl l.isEmpty) μ):eqR (.ref r) (.ref q) μ K:=by
 obtain ⟨ps,e,d,em⟩:=wl1 l hl
 have d1:datM μ (.ref r)=some (.list ps):=by simp only [datM,hr,e]
 have d2:datM μ (.ref q)=some (.list []):=by simp only [datM,hq,dats]
 rw [yx0 rfl d1 d2 (by simp only [PyData.depth]; omega) (by decide)]
 rw [show PyData.eqv (.list ps) (.list [])=ps.isEmpty by cases ps <;> simp [PyData.eqv,PyData.eqvAll],em]
 exact k
noncomputable def spWy (j:Nat):Sp3:=λ ds μ Q=>∃ (p:Addr) (w:List Dd) (a b:Int),ds=[.ref p,.tup (encs w)] /\ deps w < j /\ deps w<=10 /\ cnts w<=1000 /\ μ p=some (.lst [.int a,.int b]) /\ 0<=a ∧
 ∀ way a' b' μ',ExtB p μ μ'->μ' p=some (.lst [.int a',.int b'])->0<=a'->Vw way w->way.length<=deps w->Q (.tup [.tup (way.map D.int),.tup (encs (sub way w))]) μ'
theorem yk3 (j:Nat) (ds:List D) (μ:Mu) (Q:VK3) (h:spWy (j + 1) ds μ Q):vm2 uf0 (spWy j) { nx:=λ _ μ'=>Q .non μ',rt:=Q } (uc0 sh2 ds) μ:=by
 obtain ⟨p,w,a,b,rfl,hj,hd,hc,h3,h4,q⟩:=h
 have hz:(100000:Nat) < sizeLine:=by decide
 have lw:=wf0 w
 simp only [vm2,seq3,set3,tx1,ir3,za0,zb0,v3,uc0,List.map_cons,List.map_nil,sh2,List.length_cons,List.length_nil,Nat.zero_add,Nat.reduceAdd,Nat.reduceSub,List.replicate,List.cons_append,List.nil_append,getI,nil3,lenR,ifs3,or3,b3,o3,List.set_cons_succ,List.set_cons_zero,lst3,ret3,tup3,tc0,ixR,asg3,c3,zf2,sr0,gn3,yq1,addR,if_true,Option.bind_none,Option.bind_some]
 refine ⟨⟨by omega,by rw [yb0]; omega⟩,λ r hr=>?_⟩
 have hpr:p ≠ r:=zk0 h3 hr
 refine wg2 (fT w) hr (by simp only [rngD,List.length_map,List.length_range]; rw [yb0]; omega) (λ _ _=>trivial) ?_ ?_
 ·rintro x hx μ' R ex kk
  obtain ⟨n,hn,rfl⟩:=List.mem_map.mp hx
  rw [List.mem_range] at hn
  rw [yb0] at hn
  have hlt:(0 + (n:Int)).toNat < w.length:=by omega
  obtain ⟨d,hd'⟩:∃ d,w[(0 + (n:Int)).toNat]?=some d:=⟨_,List.getElem?_eq_getElem hlt⟩
  refine b3_c (b:=decide (kdn d = "times")) (λ K k=>o3_2 (x:=.str (kdn d)) (y:=.str "times") (λ K k=>o3_l (x:=enc d) (λ K k=>uj2 (by omega) hd' k) (ix0 d k)) (λ K k=>k) k) ?_
  simp only [fT,hd',isT] at kk
  cases d <;> exact kk
 ·rintro μ1 ex1 er
  simp only []
  have hL:∀ x ∈ (rngD 0 ((encs w).length:Int).toNat).filter (fT w),(∃ a,x=.int a) /\ ∃ a,x=.int a /\ 0<=a /\ ∃ n v,w[a.toNat]?=some (.times n v):=λ x hx=>by
   obtain ⟨h1,h2⟩:=List.mem_filter.mp hx
   obtain ⟨n,hn,rfl⟩:=List.mem_map.mp h1
   refine ⟨⟨_,rfl⟩,_,rfl,by omega,?_⟩
   simp only [fT] at h2
   cases e:w[(0 + (n:Int)).toNat]? with
   | none=>rw [e] at h2; cases h2
   | some d =>
    rw [e] at h2
    cases d with
    | times n v=>exact ⟨n,v,rfl⟩
    | _=>cases h2
  have ll:((rngD 0 ((encs w).length:Int).toNat).filter (fT w)).length<=1000:=by
   refine Nat.le_trans (List.length_filter_le _ _) ?_
   simp only [rngD,List.length_map,List.length_range]
   rw [yb0]
   omega
  generalize (rngD 0 ((encs w).length:Int).toNat).filter (fT w)=L at er hL ll
  refine ⟨by omega,λ s hs=>?_⟩
  have n1:s ≠ r:=λ h=>by subst h; rw [er] at hs; cases hs
  have e1p:μ1 p=some (.lst [.int a,.int b]):=ex1 _ _ h3
  have n2:s ≠ p:=λ h=>by subst h; rw [e1p] at hs; cases hs
  have f1:updM μ1 s (.lst []) r=some (.lst L):=by rw [xc0 (Ne.symm n1)]; exact er
  have f2:updM μ1 s (.lst []) p=some (.lst [.int a,.int b]):=by rw [xc0 (Ne.symm n2)]; exact e1p
  have f3:Ext μ (updM μ1 s (.lst [])):=ex1.trans (Ext.new hs)
  refine xt2 (λ x hx=>(hL x hx).1) f1 sa0 ?_
  generalize updM μ1 s (.lst [])=μ2 at f1 f2 f3
  have here:∀ a' b' μ',ExtB p μ μ'->μ' p=some (.lst [.int a',.int b'])->0<=a'->(0:Nat)<=sizeLine /\ 2<=sizeLine /\ Q (.tup [.tup [],.tup (encs w)]) μ':=λ a' b' μ' g1 g2 g3=>⟨Nat.zero_le _,by omega,q [] a' b' μ' g1 g2 g3 trivial (Nat.zero_le _)⟩
  cases L with
  | nil =>
   simp only [List.isEmpty_nil,if_true]
   exact here a b μ2 (f3.b p) f2 h4
  | cons x0 L0 =>
   simp only [List.isEmpty_cons,Bool.false_eq_true,if_false]
   refine ⟨p,2,a,b,rfl,by decide,by decide,f2,h4,λ t a2 b2 t1 t2 t3=>?_⟩
   simp only [xt0,decide_eq_true_eq]
   split
   ·exact here a2 b2 _ ((f3.b p).trans ExtB.upd) sa0 t3
   ·have f4:updM μ2 p (.lst [.int a2,.int b2]) r=some (.lst (x0 :: L0)):=by rw [xc0 (Ne.symm hpr)]; exact f1
    simp only [f4,List.length_cons]
    refine ⟨p,_,a2,b2,rfl,by rw [List.length_cons] at ll; omega,by rw [List.length_cons] at ll; omega,sa0,t3,λ t' a3 b3 u1 u2 u3=>?_⟩
    have f5:updM (updM μ2 p (.lst [.int a2,.int b2])) p (.lst [.int a3,.int b3]) r=some (.lst (x0 :: L0)):=by rw [xc0 (Ne.symm hpr)]; exact f4
    obtain ⟨x,hx,ex⟩:=yz1 (l:=x0 :: L0) u1 (by rw [List.length_cons]; omega)
    obtain ⟨_,c,rfl,c0,n,v,hv⟩:=hL x hx
    have ea:atI (encs w) c=some (enc (.times n v)):=atN c0 (wl2 hv)
    simp only [f5,ex,ea,enc,atI2]
    have mu:=List.mem_of_getElem? hv
    have c1:=ux0 mu
    have d1:=ts0 mu
    simp only [cnt,dep] at c1 d1
    refine ⟨p,v,a3,b3,rfl,by omega,by omega,by omega,sa0,u3,λ way a' b' μ' g1 g2 g3 g4 g5=>?_⟩
    simp only [List.length_cons,List.length_nil,Nat.zero_add,Nat.reduceAdd,List.cons_append,List.nil_append,true_and]
    refine ⟨by omega,by rw [List.length_map]; omega,by omega,?_⟩
    have:=q (c :: way) a' b' μ' (((f3.b p).trans (ExtB.upd.trans ExtB.upd)).trans g1) g2 g3 ⟨c0,n,v,hv,g4⟩ (by rw [List.length_cons]; omega)
    simp only [sub,hv] at this
    exact this
noncomputable def spI1:Sp3:=λ ds μ Q=>∃ (p:Addr) (a b:Int),ds=[.ref p] /\ μ p=some (.lst [.int a,.int b]) /\ 0<=a ∧
 ∀ d a' b' μ',ExtB p μ μ'->μ' p=some (.lst [.int a',.int b'])->0<=a'->idl d=true->nn1 d->dep d<=2->lim1 4 d->Q (enc d) μ'
theorem uw3 (ds:List D) (μ:Mu) (Q:VK3) (h:spI1 ds μ Q):t_q7 uf0 { nx:=λ _ μ'=>Q .non μ',rt:=Q } (uc0 N_q7 ds) μ:=by
 obtain ⟨p,a,b,rfl,h3,h4,q⟩:=h
 simp only [t_q7,seq3,set3,lst3,za0,tup3,c3,nil3,List.length_cons,List.length_nil,Nat.zero_add,Nat.reduceAdd,o3,zb0,v3,uc0,List.map_cons,List.map_nil,N_q7,Nat.reduceSub,List.replicate,List.cons_append,List.nil_append,getI,mulR,subR,uk0,ret3,List.set_cons_succ,List.set_cons_zero,addR,ixR]
 refine ⟨by decide,by decide,p,3,a,b,rfl,by decide,by decide,h3,h4,λ t a1 b1 t1 t2 t3=>?_⟩
 simp only []
 refine ⟨.inl (.inl (by decide)),by decide,by decide,by decide,by decide,by decide,λ r hr=>?_⟩
 have hpr:r ≠ p:=λ h=>by subst h; rw [sa0] at hr; cases hr
 have f1:updM (updM μ p (.lst [.int a1,.int b1])) r (.lst [.tup [.str "go",.int 0],.tup [.str "jump",.int 0],.tup [.str "turn",.int (4 * t - 4)],.tup [.str "times",.int 0,.tup [.tup [.str "go",.int 2]]]]) p=some (.lst [.int a1,.int b1]):=by rw [xc0 (Ne.symm hpr),sa0]
 have x1:ExtB p μ (updM (updM μ p (.lst [.int a1,.int b1])) r (.lst [.tup [.str "go",.int 0],.tup [.str "jump",.int 0],.tup [.str "turn",.int (4 * t - 4)],.tup [.str "times",.int 0,.tup [.tup [.str "go",.int 2]]]])):=ExtB.upd.trans ((Ext.new hr).b p)
 have fr:updM (updM μ p (.lst [.int a1,.int b1])) r (.lst [.tup [.str "go",.int 0],.tup [.str "jump",.int 0],.tup [.str "turn",.int (4 * t - 4)],.tup [.str "times",.int 0,.tup [.tup [.str "go",.int 2]]]]) r=some (.lst [.tup [.str "go",.int 0],.tup [.str "jump",.int 0],.tup [.str "turn",.int (4 * t - 4)],.tup [.str "times",.int 0,.tup [.tup [.str "go",.int 2]]]]):=sa0
 generalize updM (updM μ p (.lst [.int a1,.int b1])) r (.lst [.tup [.str "go",.int 0],.tup [.str "jump",.int 0],.tup [.str "turn",.int (4 * t - 4)],.tup [.str "times",.int 0,.tup [.tup [.str "go",.int 2]]]])=μ2 at f1 x1 fr ⊢
 refine ⟨p,4,a1,b1,rfl,by decide,by decide,f1,t3,λ t' a2 b2 u1 u2 u3=>?_⟩
 simp only []
 refine ⟨by decide,by decide,by decide,λ s hs=>?_⟩
 have hsp:s ≠ p:=λ h=>by subst h; rw [sa0] at hs; cases hs
 have fr2:updM μ2 p (.lst [.int a2,.int b2]) r=some (.lst [.tup [.str "go",.int 0],.tup [.str "jump",.int 0],.tup [.str "turn",.int (4 * t - 4)],.tup [.str "times",.int 0,.tup [.tup [.str "go",.int 2]]]]):=by rw [xc0 hpr]; exact fr
 have hsr:s ≠ r:=λ h=>by subst h; rw [fr2] at hs; cases hs
 have fr3:updM (updM μ2 p (.lst [.int a2,.int b2])) s (.lst [.tup [.str "times",.int t',.tup []]]) r=some (.lst [.tup [.str "go",.int 0],.tup [.str "jump",.int 0],.tup [.str "turn",.int (4 * t - 4)],.tup [.str "times",.int 0,.tup [.tup [.str "go",.int 2]]]]):=by rw [xc0 (Ne.symm hsr)]; exact fr2
 simp only [fr3,sa0,List.length_cons,List.length_nil,Nat.zero_add,Nat.reduceAdd,List.cons_append,List.nil_append]
 refine ⟨by decide,λ s2 hs2=>?_⟩
 have f4:updM (updM μ2 p (.lst [.int a2,.int b2])) s (.lst [.tup [.str "times",.int t',.tup []]]) p=some (.lst [.int a2,.int b2]):=by rw [xc0 (Ne.symm hsp),sa0]
 have h2p:s2 ≠ p:=λ h=>by subst h; rw [f4] at hs2; cases hs2
 refine ⟨p,5,a2,b2,rfl,by decide,by decide,by rw [xc0 (Ne.symm h2p)]; exact f4,u3,λ k a3 b3 k1 k2 k3=>?_⟩
 simp only [xc0 h2p,sa0]
 have fin:∀ d,idl d=true->nn1 d->dep d<=2->lim1 4 d->Q (enc d) (updM (updM (updM (updM μ2 p (.lst [.int a2,.int b2])) s (.lst [.tup [.str "times",.int t',.tup []]])) s2 (.lst [.tup [.str "go",.int 0],.tup [.str "jump",.int 0],.tup [.str "turn",.int (4 * t - 4)],.tup [.str "times",.int 0,.tup [.tup [.str "go",.int 2]]],.tup [.str "times",.int t',.tup []]])) p (.lst [.int a3,.int b3])):=λ d d1 d2 d3 d4 =>
  q d a3 b3 _ ((((x1.trans ExtB.upd).trans ((Ext.new hs).b p)).trans ((Ext.new hs2).b p)).trans ExtB.upd) sa0 k3 d1 d2 d3 d4
 have hk:k=0 \/ k=1 \/ k=2 \/ k=3 \/ k=4:=by omega
 rcases hk with rfl | rfl | rfl | rfl | rfl
 ·exact fin (.go 0) rfl (by simp [nn1]) (by simp [dep]) (by simp only [lim1]; omega)
 ·exact fin (.jump 0) rfl (by simp [nn1]) (by simp [dep]) (by simp only [lim1]; omega)
 ·exact fin (.turn (4 * t - 4)) (by simp only [idl,decide_eq_true_eq]; omega) (by simp [nn1]) (by simp [dep]) (by simp only [lim1]; omega)
 ·exact fin (.times 0 [.go 2]) rfl (by simp [nn1,nns]) (by simp [dep,deps]) (by simp [lim1,lims])
 ·exact fin (.times t' []) (by simp [idl]) (by simp [nn1,nns]; omega) (by simp [dep,deps]) (by simp [lim1,lims]; omega)
theorem wi2:∀ {way:List Int} {w:List Dd},Vw way w->cnts (sub way w)<=cnts w /\ deps (sub way w)<=deps w
 | [],w,_=>⟨Nat.le_refl _,Nat.le_refl _⟩
 | a :: way,w,h=>by
  obtain ⟨h0,n,v,hv,h⟩:=h
  have ih:=wi2 h
  have c1:=ux0 (List.mem_of_getElem? hv)
  have d1:=ts0 (List.mem_of_getElem? hv)
  simp only [cnt,dep] at c1 d1
  simp only [sub,hv]
  omega
theorem vz1:∀ {way:List Int} {w:List Dd} {d:Dd} {i:Int},Vw way w->idl d=true->0<=i->i<=(sub way w).length->∃ v,aft way w (.inn d) i=some v
 | [],w,d,i,_,hd,h0,h1=>by
  simp only [sub] at h1
  simp only [aft,cha,if_pos (And.intro h0 h1),chg,if_pos hd]
  exact ⟨_,rfl⟩
 | a :: way,w,d,i,h,hd,h0,h1=>by
  obtain ⟨ha,n,v,hv,h⟩:=h
  simp only [sub,hv] at h1
  obtain ⟨v',e⟩:=vz1 h hd h0 h1
  simp only [aft,if_pos ha,hv,e]
  exact ⟨_,rfl⟩
noncomputable def kok (k:Kd):Prop:=(∀ d,k=.inn d->dep d<=2 /\ nn1 d /\ lim1 4 d) /\ ∀ m,k=.part m->0<=m /\ m<=2
theorem tj1:PyData.strOk ("part" : Str)=true:=by decide +kernel
theorem ud1:PyData.strOk ("close" : Str)=true:=by decide +kernel
theorem ut1 (k:Kd):PyData.strOk (kn k)=true:=by cases k <;> (simp only [kn]; decide +kernel)
theorem xf2 {z:Str} {c:Bool} {ρ:St3} {μ:Mu} {K:Bool->Mu->Prop} (h6:getI ρ 6=some (.str z)) (hz:PyData.strOk z=true) (hc:(decide (("part" : Str)=z) || decide (("close" : Str)=z))=c) (k:∀ q,μ q=none->K c (updM μ q (.lst [.str "part",.str "close"]))):b3 (o3 (inR false) (v3 6) (lst3 (za0 (c3 (.str "part")) (za0 (c3 (.str "close")) nil3)))) ρ μ K:=by
 unfold b3 o3 v3
 rw [h6]
 exact ⟨show 2<=sizeLine by decide,λ p hp=>tj2 tj1 ud1 hz sa0 hc (k p hp)⟩
theorem wa2 {w:List Dd} {k:Kd} {way:List Int} {i:Int} {g:Addr} {ys:List D} {E:Ends3} {μ:Mu} {ρ:St3} (h1:getI ρ 1=some (.tup (encs w))) (h5:getI ρ 5=some (.ref g)) (h8:getI ρ 8=some (yh0 k way i)) (hg:μ g=some (.lst ys)) (hl:ys.length < sizeLine)
    (b1:way.length < 6) (b2:deps w<=10) (b3':cnts w<=200) (b4:∀ d,k=.inn d->dep d<=10) (hn:aft way w k i=none->∀ μ',Ext μ μ'->E.nx ρ μ') (hs:∀ v,aft way w k i=some v->∀ μ',Ext μ μ'->E.nx ρ (updM μ' g (.lst (ys ++ [yh0 k way i])))) :
    (ifs3 (b3 (o3 (isNR true) (zb0 (xj0 6) (za0 (v3 1) (za0 (v3 8) nil3))) (c3 .non))) (yl0 (mt3 appR (v3 5) (za0 (v3 8) nil3))) tc0) E ρ μ:=by
 simp only [ifs3,b3,o3,zb0,za0,v3,h1,h8,nil3]
 refine ⟨w,k,way,i,rfl,b1,by omega,b2,b3',b4,λ μ' ex=>?_⟩
 cases e:aft way w k i with
 | none=>exact hn e μ' ex
 | some v =>
  have hg':=ex _ _ hg
  show (yl0 (mt3 appR (v3 5) (za0 (v3 8) nil3))) E ρ μ'
  simp only [yl0,mt3,v3,h5,h8,za0,nil3,hg',appR]
  exact ⟨hl,hs v e μ' ex⟩
theorem uf2 {ti:TI3} {g:TG3} {tb r:TS3} {D':Ends3} {ρ:St3} {μ:Mu} {l:List D} {S:Mu->Prop} (h:∀ R:List D->(Mu->Prop)->Mu->Prop,R l S μ->ti ρ μ R) (k:zq1 S g tb { D' with nx:=r D' } l ρ μ):seq3 (for3 ti g tb) r D' ρ μ:=h _ k
theorem zb4 {ti:TI3} {g:TG3} {tb:TS3} {D':Ends3} {ρ:St3} {μ:Mu} {l:List D} {S:Mu->Prop} (h:∀ R:List D->(Mu->Prop)->Mu->Prop,R l S μ->ti ρ μ R) (k:zq1 S g tb D' l ρ μ):for3 ti g tb D' ρ μ:=h _ k
noncomputable def KL:List D:=[.str "join",.str "part",.str "out",.str "in",.str "open",.str "close",.str "once",.str "twice"]
noncomputable def Mem (μ0:Mu) (p kq g:Addr) (ys:List D) (μ:Mu):Prop:=ExtB p μ0 μ /\ μ kq=some (.lst KL) /\ μ g=some (.lst ys) /\ ∃ a b,μ p=some (.lst [.int a,.int b]) /\ 0<=a
theorem Mem.ext {μ0 μ μ':Mu} {p kq g:Addr} {ys:List D} (m:Mem μ0 p kq g ys μ) (e:Ext μ μ'):Mem μ0 p kq g ys μ':=by
 obtain ⟨m1,m2,m3,a,b,m4,m5⟩:=m
 exact ⟨m1.trans (e.b p),e _ _ m2,e _ _ m3,a,b,e _ _ m4,m5⟩
theorem Mem.extB {μ0 μ μ':Mu} {p kq g:Addr} {ys:List D} (m:Mem μ0 p kq g ys μ) (n1:kq ≠ p) (n2:g ≠ p) (e:ExtB p μ μ') {a b:Int} (h:μ' p=some (.lst [.int a,.int b])) (h0:0<=a):Mem μ0 p kq g ys μ':=by
 obtain ⟨m1,m2,m3,_⟩:=m
 exact ⟨m1.trans e,e _ _ n1 m2,e _ _ n2 m3,a,b,h,h0⟩
theorem Mem.app {μ0 μ:Mu} {p kq g:Addr} {ys zs:List D} (m:Mem μ0 p kq g ys μ) (n1:g ≠ p) (n2:g ≠ kq) (h:μ0 g=none):Mem μ0 p kq g zs (updM μ g (.lst zs)):=by
 obtain ⟨m1,m2,m3,a,b,m4,m5⟩:=m
 refine ⟨λ c o hc ho=>?_,by rw [xc0 (Ne.symm n2)]; exact m2,sa0,a,b,by rw [xc0 (Ne.symm n1)]; exact m4,m5⟩
 rw [xc0 (zk0 ho h)]
 exact m1 c o hc ho
noncomputable def Gds (w:List Dd) (way:List Int) (ys:List D):Prop:=∀ y ∈ ys,∃ k i v,y=yh0 k way i /\ aft way w k i=some v /\ kok k
noncomputable def spSt:Sp3:=λ ds μ Q=>∃ (p:Addr) (w:List Dd) (a b:Int),ds=[.ref p,.tup (encs w)] /\ Wd w /\ μ p=some (.lst [.int a,.int b]) /\ 0<=a ∧
 ∀ k way i v a' b' μ',ExtB p μ μ'->μ' p=some (.lst [.int a',.int b'])->0<=a'->aft way w k i=some v->Vw way w->way.length<=4->kok k->Q (yh0 k way i) μ'
theorem vk3 (ds:List D) (μ:Mu) (Q:VK3) (h:spSt ds μ Q):xa3 (xj0 6) spI1 uf0 (spWy 6) { nx:=λ _ μ'=>Q .non μ',rt:=Q } (uc0 zx2 ds) μ:=by
 obtain ⟨p,w,a,b,rfl,wd,h3,h4,q⟩:=h
 obtain ⟨_,wd2,wd3⟩:=wd
 have hz:(100000:Nat) < sizeLine:=by decide
 refine ⟨p,w,a,b,rfl,by omega,by omega,by omega,h3,h4,λ way a1 b1 μ1 x1 e1 e1' hv hl=>⟨rfl,?_⟩⟩
 show uq0 (xj0 6) spI1 uf0 (spWy 6) { nx:=λ _ μ'=>Q .non μ',rt:=Q } [some (.ref p),some (.tup (encs w)),some (.tup (way.map D.int)),some (.tup (encs (sub way w))),none,none,none,none,none] μ1
 have sb:=wi2 hv
 have ls:=wf0 (sub way w)
 refine ⟨show 8<=sizeLine by omega,λ kq hkq=>?_⟩
 refine ⟨Nat.zero_le _,λ g hg=>?_⟩
 have npk:kq ≠ p:=λ h=>by subst h; rw [e1] at hkq; cases hkq
 have ng0:g ≠ kq:=λ h=>by subst h; rw [sa0] at hg; cases hg
 have ng1:g ≠ p:=λ h=>by subst h; rw [xc0 (Ne.symm npk),e1] at hg; cases hg
 have g0:μ1 g=none:=by rw [xc0 ng0] at hg; exact hg
 have M0:Mem μ1 p kq g [] (updM (updM μ1 kq (.lst KL)) g (.lst [])):=⟨((Ext.new hkq).trans (Ext.new hg)).b p,by rw [xc0 (Ne.symm ng0),sa0],sa0,a1,b1,by rw [xc0 (Ne.symm ng1),xc0 (Ne.symm npk)]; exact e1,e1'⟩
 show vq0 (xj0 6) spI1 uf0 (spWy 6) { nx:=λ _ μ'=>Q .non μ',rt:=Q } [some (.ref p),some (.tup (encs w)),some (.tup (way.map D.int)),some (.tup (encs (sub way w))),some (.ref kq),some (.ref g),none,none,none] (updM (updM μ1 kq (.lst KL)) g (.lst []))
 generalize updM (updM μ1 kq (.lst KL)) g (.lst [])=μ2 at M0 ⊢
 have ek:μ2 kq=some (.lst KL):=M0.2.1
 have ek':∀ R:List D->(Mu->Prop)->Mu->Prop,R KL (λ μ=>μ kq=some (.lst KL)) μ2->is3 (v3 4) [some (.ref p),some (.tup (encs w)),some (.tup (way.map D.int)),some (.tup (encs (sub way w))),some (.ref kq),some (.ref g),none,none,none] μ2 R:=λ R h=>by
  simp only [is3,v3,getI,ek]
  exact h
 refine uf2 ek' ?_
 refine tl0 (λ l ρ μ'=>∃ (ys:List D) (o6 o7 o8:Option D),ρ=[some (.ref p),some (.tup (encs w)),some (.tup (way.map D.int)),some (.tup (encs (sub way w))),some (.ref kq),some (.ref g),o6,o7,o8] /\ Mem μ1 p kq g ys μ' /\ Gds w way ys /\ ys.length + 100 * l.length<=800 /\ (∃ a,a ++ l=KL) /\ (ys ≠ [] \/ D.str "in" ∈ l)) ?_ ?_ ?_ ?_
 ·exact ⟨[],none,none,none,rfl,M0,λ y hy=>(by cases hy),by simp [KL],⟨[],rfl⟩,.inr (by simp [KL])⟩
 ·rintro l ρ μ' ⟨ys,_,_,_,_,m,_⟩
  exact m.2.1
 ·rintro ρ μ' ⟨ys,o6,o7,o8,rfl,m,hg,hl',_,hne⟩
  obtain ⟨m1,m2,m3,a',b',m4,m5⟩:=m
  have hy : ys ≠ [] := by rcases hne with h | h
                          ·exact h
                          ·cases h
  have hp:0 < ys.length:=List.length_pos_iff.mpr hy
  simp only [wq0,ret3,o3,v3,getI,zb0,za0,nil3,lenR,m3,ixR]
  simp only [List.length_nil,Nat.mul_zero,Nat.add_zero] at hl'
  refine ⟨p,ys.length,a',b',rfl,by omega,by omega,m4,m5,λ t a2 b2 t1 t2 t3=>?_⟩
  have m6:updM μ' p (.lst [.int a2,.int b2]) g=some (.lst ys):=by rw [xc0 ng1]; exact m3
  obtain ⟨y,hy1,hy2⟩:=yz1 (l:=ys) t1 t2
  obtain ⟨k,i,v,rfl,e,ko⟩:=hg y hy1
  simp only [m6,hy2]
  exact q k way i v a2 b2 _ ((x1.trans m1).trans ExtB.upd) sa0 t3 e hv (by omega) ko
 ·rintro x l ρ μ' ⟨ys,o6,o7,o8,rfl,m,hg,hl',⟨al,hal⟩,hne⟩
  rw [List.length_cons] at hl'
  have hx:x ∈ KL:=by rw [<- hal]; simp
  refine zb4 (l:=rngD 0 (((encs (sub way w)).length:Int) + 1).toNat) (S:=λ _=>True) (λ R k=>⟨⟨show -(2 ^ 62)<=(((encs (sub way w)).length:Int) + 1) by omega,show (((encs (sub way w)).length:Int) + 1) < 2 ^ 62 by rw [yb0]; omega⟩,k⟩) ?_
  rw [yb0]
  refine tl0 (λ r ρ μ'=>∃ (ys:List D) (o7 o8:Option D),ρ=[some (.ref p),some (.tup (encs w)),some (.tup (way.map D.int)),some (.tup (encs (sub way w))),some (.ref kq),some (.ref g),some x,o7,o8] /\ Mem μ1 p kq g ys μ' /\ Gds w way ys /\ ys.length + r.length + 100 * l.length<=800 /\ (∀ y ∈ r,∃ i:Int,y=.int i /\ 0<=i /\ i<=(sub way w).length) /\ (ys ≠ [] \/ D.str "in" ∈ l \/ (x=D.str "in" /\ r ≠ []))) ?_ (λ _ _ _ _=>trivial) ?_ ?_
  ·refine ⟨ys,o7,o8,rfl,m,hg,?_,?_,?_⟩
   ·simp only [rngD,List.length_map,List.length_range]; omega
   ·intro y hy
    obtain ⟨n,hn,rfl⟩:=List.mem_map.mp hy
    rw [List.mem_range] at hn
    exact ⟨_,rfl,by omega,by omega⟩
   ·rcases hne with h | h
    ·exact .inl h
    ·rcases List.mem_cons.mp h with h | h
     ·refine .inr (.inr ⟨h.symm,λ e=>?_⟩)
      have:=congrArg List.length e
      simp only [rngD,List.length_map,List.length_range,List.length_nil] at this
      omega
     ·exact .inr (.inl h)
  ·rintro ρ μ' ⟨ys,o7,o8,rfl,m,hg,hl',_,hne⟩
   refine ⟨ys,_,_,_,rfl,m,hg,by simpa using hl',⟨al ++ [x],by rw [<- hal]; simp⟩,?_⟩
   rcases hne with h | h | h
   ·exact .inl h
   ·exact .inr h
   ·exact absurd rfl h.2
  ·rintro y r ρ μ' ⟨ys,o7,o8,rfl,m,hg,hl',hr,hne⟩
   obtain ⟨i,rfl,i0,i1⟩:=hr _ (List.mem_cons_self)
   rw [List.length_cons] at hl'
   have hr':∀ y ∈ r,∃ i:Int,y=.int i /\ 0<=i /\ i<=(sub way w).length:=λ y hy=>hr y (List.mem_cons_of_mem _ hy)
   have lst:∀ (k:Kd) (E:Ends3) (μ3:Mu),x=.str (kn k)->kok k->(∀ d,k=.inn d->idl d=true)->Mem μ1 p kq g ys μ3->(∀ ρ μ',(∃ (ys:List D) (o7 o8:Option D),ρ=[some (.ref p),some (.tup (encs w)),some (.tup (way.map D.int)),some (.tup (encs (sub way w))),some (.ref kq),some (.ref g),some x,o7,o8] /\ Mem μ1 p kq g ys μ' /\ Gds w way ys /\ ys.length + r.length + 100 * l.length<=800 /\ (∀ y ∈ r,∃ i:Int,y=.int i /\ 0<=i /\ i<=(sub way w).length) /\ (ys ≠ [] \/ D.str "in" ∈ l \/ (x=D.str "in" /\ r ≠ [])))->E.nx ρ μ') ->
       (ifs3 (b3 (o3 (isNR true) (zb0 (xj0 6) (za0 (v3 1) (za0 (v3 8) nil3))) (c3 .non))) (yl0 (mt3 appR (v3 5) (za0 (v3 8) nil3))) tc0) E [some (.ref p),some (.tup (encs w)),some (.tup (way.map D.int)),some (.tup (encs (sub way w))),some (.ref kq),some (.ref g),some x,some (.int i),some (yh0 k way i)] μ3:=λ k E μ3 ex ko ki m3 nx=>by
    refine wa2 rfl rfl rfl m3.2.2.1 (by omega) (by omega) (by omega) (by omega) (λ d e=>by have:=(ko.1 d e).1; omega) (λ hn μ4 e4=>?_) (λ v hs μ4 e4=>?_)
    ·refine nx _ _ ⟨ys,_,_,rfl,m3.ext e4,hg,by omega,hr',?_⟩
     rcases hne with h | h | h
     ·exact .inl h
     ·exact .inr (.inl h)
     ·cases k with
      | inn d =>
       obtain ⟨v,hv'⟩:=vz1 hv (ki d rfl) i0 i1
       rw [hv'] at hn; cases hn
      | _=>rw [ex] at h; exact absurd h.1 (by simp only [kn,D.str.injEq]; decide)
    ·refine nx _ _ ⟨ys ++ [yh0 k way i],_,_,rfl,(m3.ext e4).app ng1 ng0 g0,λ y hy=>?_,by rw [List.length_append,List.length_singleton]; omega,hr',.inl (by simp)⟩
     rcases List.mem_append.mp hy with hy | hy
     ·exact hg y hy
     ·rw [List.mem_singleton.mp hy]; exact ⟨k,i,v,rfl,hs,ko⟩
   refine vn2 (x:=.tup [x,.tup (way.map D.int),.int i]) (λ K kk=>⟨show 3<=sizeLine by omega,kk⟩) ?_
   obtain ⟨m1,m2,m3,a2,b2,m4,m5⟩:=id m
   have plain:∀ k:Kd,x=.str (kn k)->ned k=[]->(decide (("part" : Str)=kn k) || decide (("close" : Str)=kn k))=false->(∀ K:Bool->Mu->Prop,∀ μ,K false μ->K (decide (kn k=("in" : Str))) μ)->∀ E:Ends3,(∀ ρ μ',(∃ (ys:List D) (o7 o8:Option D),ρ=[some (.ref p),some (.tup (encs w)),some (.tup (way.map D.int)),some (.tup (encs (sub way w))),some (.ref kq),some (.ref g),some x,o7,o8] /\ Mem μ1 p kq g ys μ' /\ Gds w way ys /\ ys.length + r.length + 100 * l.length<=800 /\ (∀ y ∈ r,∃ i:Int,y=.int i /\ 0<=i /\ i<=(sub way w).length) /\ (ys ≠ [] \/ D.str "in" ∈ l \/ (x=D.str "in" /\ r ≠ [])))->E.nx ρ μ') ->
       (seq3 (ifs3 (b3 (o3 (inR false) (v3 6) (lst3 (za0 (c3 (.str "part")) (za0 (c3 (.str "close")) nil3))))) (set3 8 (o3 addR (v3 8) (tup3 (za0 (zb0 uf0 (za0 (v3 0) (za0 (c3 (.int 3)) nil3))) nil3)))) tc0) (seq3 (ifs3 (b3 (o3 eqR (v3 6) (c3 (.str "in")))) (set3 8 (o3 addR (v3 8) (tup3 (za0 (zb0 spI1 (za0 (v3 0) nil3)) nil3)))) tc0) (ifs3 (b3 (o3 (isNR true) (zb0 (xj0 6) (za0 (v3 1) (za0 (v3 8) nil3))) (c3 .non))) (yl0 (mt3 appR (v3 5) (za0 (v3 8) nil3))) tc0))) E [some (.ref p),some (.tup (encs w)),some (.tup (way.map D.int)),some (.tup (encs (sub way w))),some (.ref kq),some (.ref g),some x,some (.int i),some (.tup [x,.tup (way.map D.int),.int i])] μ':=λ k ex hn hc hi E nx=>by
    have ko:kok k:=⟨λ d e=>(by rw [e] at hn; cases hn),λ d e=>(by rw [e] at hn; cases hn)⟩
    have ki:∀ d,k=.inn d->idl d=true:=λ d e=>by rw [e] at hn; cases hn
    refine yv0 (xf2 (z:=kn k) (c:=false) (by rw [ex]; rfl) (ut1 k) hc λ s hs=>?_)
    rw [if_neg (by decide)]
    have e8:D.tup [x,.tup (way.map D.int),.int i]=yh0 k way i:=by rw [ex,yh0,hn]
    rw [e8]
    refine sd0 (λ K kk=>?_) (lst k E _ ex ko ki (m.ext (Ext.new hs)) nx)
    rw [ex]
    exact hi (λ b μ=>K b μ) _ kk
   simp only [KL,List.mem_cons,List.mem_nil_iff,or_false] at hx
   rcases hx with hx | hx | hx | hx | hx | hx | hx | hx
   ·exact plain .join hx rfl rfl (λ K μ k=>k) _ λ _ _ h=>h
   ·subst hx
    refine yv0 (xf2 (z := "part") (c:=true) rfl tj1 rfl λ s hs=>?_)
    rw [if_pos rfl]
    have M1:=m.ext (Ext.new (o:=.lst [.str "part",.str "close"]) hs)
    have m4':=Ext.new (o:=.lst [.str "part",.str "close"]) hs _ _ m4
    refine ⟨p,3,a2,b2,rfl,by decide,by decide,m4',m5,λ t a3 bb3 t1 t2 t3=>⟨show 1<=sizeLine by omega,show 3 + 1<=sizeLine by omega,?_⟩⟩
    dsimp only
    refine sd0 (λ K kk=>kk) ?_
    exact lst (.part t) _ _ rfl ⟨λ d e=>(by cases e),λ m e=>by cases e; exact ⟨t1,by omega⟩⟩ (λ d e=>by cases e) (M1.extB npk ng1 ExtB.upd sa0 t3) λ _ _ h=>h
   ·exact plain .out hx rfl rfl (λ K μ k=>k) _ λ _ _ h=>h
   ·subst hx
    refine yv0 (xf2 (z := "in") (c:=false) rfl (ut1 (.inn (.go 0))) rfl λ s hs=>?_)
    rw [if_neg (by decide)]
    have M1:=m.ext (Ext.new (o:=.lst [.str "part",.str "close"]) hs)
    have m4':=Ext.new (o:=.lst [.str "part",.str "close"]) hs _ _ m4
    refine zh0 (λ K kk=>kk) ?_
    refine ⟨p,a2,b2,rfl,m4',m5,λ d a3 b3 μ5 g1 g2 g3 g4 g5 g6 g7=>⟨show 1<=sizeLine by omega,show 3 + 1<=sizeLine by omega,?_⟩⟩
    exact lst (.inn d) _ _ rfl ⟨λ d e=>(by cases e; exact ⟨g6,g5,g7⟩),λ m e=>by cases e⟩ (λ d e=>by cases e; exact g4) (M1.extB npk ng1 g1 g2 g3) λ _ _ h=>h
   ·exact plain .opn hx rfl rfl (λ K μ k=>k) _ λ _ _ h=>h
   ·subst hx
    refine yv0 (xf2 (z := "close") (c:=true) rfl ud1 rfl λ s hs=>?_)
    rw [if_pos rfl]
    have M1:=m.ext (Ext.new (o:=.lst [.str "part",.str "close"]) hs)
    have m4':=Ext.new (o:=.lst [.str "part",.str "close"]) hs _ _ m4
    refine ⟨p,3,a2,b2,rfl,by decide,by decide,m4',m5,λ t a3 bb3 t1 t2 t3=>⟨show 1<=sizeLine by omega,show 3 + 1<=sizeLine by omega,?_⟩⟩
    dsimp only
    refine sd0 (λ K kk=>kk) ?_
    exact lst (.close t) _ _ rfl ⟨λ d e=>(by cases e),λ m e=>by cases e⟩ (λ d e=>by cases e) (M1.extB npk ng1 ExtB.upd sa0 t3) λ _ _ h=>h
   ·exact plain .once hx rfl rfl (λ K μ k=>k) _ λ _ _ h=>h
   ·exact plain .twice hx rfl rfl (λ K μ k=>k) _ λ _ _ h=>h
theorem yu2 {rest:List Dd} {k:Kd} {n:Nat} {x:List Dd} (ko:∀ d,k=.inn d->dep d<=2) (h:chg rest k=some (n,x)):deps x<=deps rest + 3:=by
 cases k with
 | inn d=>simp only [chg] at h; split at h <;> simp at h; obtain ⟨_,rfl⟩:=h; have:=ko d rfl; simp only [deps]; omega
 | close m=>simp only [chg] at h; split at h <;> simp at h; obtain ⟨_,rfl⟩:=h; have:=vp0 rest m.toNat; simp only [deps,dep]; omega
 | out=>cases rest with
  | nil=>simp [chg] at h
  | cons d r=>simp only [chg] at h; split at h <;> simp at h; obtain ⟨_,rfl⟩:=h; simp [deps]
 | opn =>
  simp only [chg] at h
  split at h
  ·next m v r=>split at h <;> simp at h; obtain ⟨_,rfl⟩:=h; simp only [deps,dep]; omega
  ·cases h
 | twice =>
  simp only [chg] at h
  split at h
  ·simp at h; obtain ⟨_,rfl⟩:=h; simp [deps,dep]
  ·cases h
 | part m=>cases rest with
  | nil=>simp [chg] at h
  | cons d r =>
   simp only [chg,Option.map_eq_some_iff] at h; obtain ⟨p,hp,e⟩:=h; simp at e; obtain ⟨_,rfl⟩:=e
   rw [zj2] at hp
   split at hp <;> simp at hp
   subst hp
   have:∀ m,dep (wt m d)=dep d:=λ m=>by cases d <;> rfl
   simp only [deps,this]; omega
 | once =>
  simp only [chg] at h
  split at h
  ·split at h <;> simp at h; obtain ⟨_,rfl⟩:=h; simp [deps,dep]
  ·cases h
 | join =>
  simp only [chg] at h
  split at h
  ·next d e r =>
   simp only [Option.map_eq_some_iff] at h; obtain ⟨p,hp,e'⟩:=h; simp at e'; obtain ⟨_,rfl⟩:=e'
   have:dep p=dep d:=by
    cases d <;> cases e <;> simp only [jn] at hp <;> first | (cases hp; done) | skip
    ·cases hp; rfl
    ·cases hp; rfl
    ·cases hp; rfl
    ·split at hp <;> cases hp; rfl
   simp only [deps,this]; omega
  ·cases h
theorem vi1:∀ {way:List Int} {w:List Dd} {k:Kd} {i:Int} {v:List Dd},(∀ d,k=.inn d->dep d<=2)->aft way w k i=some v->deps v<=deps w + 3
 | [],w,k,i,v,ko,h=>by
  simp only [aft,cha] at h
  split at h
  ·next c =>
   obtain ⟨⟨n,x⟩,hc,rfl⟩:=Option.map_eq_some_iff.mp h
   have h1:=yu2 ko hc
   have h2:=sm0 w i.toNat
   have h3:=sm0 w (i.toNat + n)
   have h4:=vp0 w i.toNat
   simp only [zi0]
   omega
  ·cases h
 | a :: way,w,k,i,v,ko,h=>by
  simp only [aft] at h
  split at h
  ·split at h
   ·next n u hu =>
    obtain ⟨v',hv,rfl⟩:=Option.map_eq_some_iff.mp h
    have ih:=vi1 ko hv
    have d1:=ts0 (List.mem_of_getElem? hu)
    have h3:=sm0 w (a.toNat + 1)
    have h4:=vp0 w a.toNat
    simp only [dep] at d1
    simp only [zi0,deps,dep]
    omega
   ·cases h
  ·cases h
theorem ix_l {p:Addr} {l:List D} {i:Int} {d:D} {μ:Mu} {K:VK3} (e:μ p=some (.lst l)) (h:atI l i=some d) (k:K d μ):ixR (.ref p) (.int i) μ K:=by
 unfold ixR
 simp only [e,h]
 exact k
theorem si2:∀ n:Nat,oks (List.replicate n (.go 1)) /\ cnts (List.replicate n (.go 1))=n /\ deps (List.replicate n (.go 1))=0
 | 0=>by simp [oks,cnts,deps]
 | n + 1=>by
  obtain ⟨a,b,c⟩:=si2 n
  have g:(1:Int)<=G:=by decide
  simp only [List.replicate_succ,oks,cnts,deps,okd,cnt,dep,a,b,c]
  refine ⟨⟨⟨by decide,g⟩,trivial⟩,by omega,by simp⟩
theorem tt2:∀ a b,cnts (a ++ b)=cnts a + cnts b
 | [],b=>by simp [cnts]
 | d :: r,b=>by simp only [List.cons_append,cnts,tt2 r b]; omega
theorem yu1:∀ n:Nat,(List.replicate n [enc (.go 1)]).flatten=encs (List.replicate n (.go 1))
 | 0=>by simp [encs]
 | n + 1=>by rw [List.replicate_succ,List.replicate_succ,List.flatten_cons,yu1 n]; simp [encs]
noncomputable def xf (x cls:Str):Bool:=cls == x || cls == "PenError" || cls == "ValueError"
theorem sx {x:Str} (h:x ∈ xnames) (cls:Str):subX cls x=some (xf x cls):=by
 unfold subX
 rw [if_pos (by simpa using h)]
 rfl
noncomputable def flg (x:Str):List Bool:=[xf x "NoWord",xf x "NoPicture",xf x "NoRoom",xf x "NoStep",xf x "NoNumber",xf x "BadNote",xf x "ValueError"]
noncomputable def spMk:Sp3:=λ ds μ Q=>∃ (x:Str),ds=[.exc x] /\ x ∈ xnames /\ ∀ p μ',Ext μ μ'->μ' p=some (.lst ((flg x).map D.bl))->Q (.ref p) μ'
theorem xk3 (ds:List D) (μ:Mu) (Q:VK3) (h:spMk ds μ Q):wm2 { nx:=λ _ μ'=>Q .non μ',rt:=Q } (uc0 th2 ds) μ:=by
 obtain ⟨x,rfl,hx,q⟩:=h
 simp only [wm2,seq3,set3,lst3,za0,isx3,v3,uc0,List.map_cons,List.map_nil,th2,List.length_cons,List.length_nil,Nat.zero_add,Nat.reduceAdd,Nat.reduceSub,List.replicate,List.cons_append,List.nil_append,getI,sx hx,nil3,ret3,o3,List.set_cons_succ,List.set_cons_zero,addR]
 refine ⟨by decide,λ p hp=>⟨by decide,λ r hr=>?_⟩⟩
 have hpr:p ≠ r:=zk0 sa0 hr
 simp only [xc0 hpr,sa0,List.length_cons,List.length_nil,Nat.zero_add,Nat.reduceAdd,List.cons_append,List.nil_append]
 exact ⟨by decide,λ t ht=>q t _ ((Ext.new hp).trans ((Ext.new hr).trans (Ext.new ht))) sa0⟩
theorem yr0 {cls c:Str} {b:Bool} (h:subX cls c=some b):c ∈ xnames:=by
 unfold subX at h
 split at h
 ·next e=>simpa using e
 ·cases h
theorem vf1:∀ L:List Bool,dats (L.map D.bl)=some (L.map PyData.bool)
 | []=>rfl
 | b :: r=>by simp only [List.map_cons,dats,dat,vf1 r]
theorem xi1:∀ L:List Bool,PyData.depthAll (L.map PyData.bool)<=1
 | []=>by simp [PyData.depthAll]
 | b :: r=>by have:=xi1 r; simp only [List.map_cons,PyData.depthAll,PyData.depth]; omega
theorem ss2:∀ L:List Bool,PyData.eqvAll (L.map PyData.bool) (L.map PyData.bool)=true
 | []=>rfl
 | b :: r=>by simp only [List.map_cons,PyData.eqvAll,ss2 r]; simp [PyData.eqv]
theorem eq_B {f1 f2:Addr} {L:List Bool} {μ:Mu} {K:VK3} (h1:μ f1=some (.lst (L.map D.bl))) (h2:μ f2=some (.lst (L.map D.bl))) (k:K (.bl true) μ):eqR (.ref f1) (.ref f2) μ K:=by
 have d1:datM μ (.ref f1)=some (.list (L.map PyData.bool)):=by simp only [datM,h1,vf1]
 have d2:datM μ (.ref f2)=some (.list (L.map PyData.bool)):=by simp only [datM,h2,vf1]
 have dp:(PyData.list (L.map PyData.bool)).depth<=64:=by have:=xi1 L; simp only [PyData.depth]; omega
 rw [yx0 rfl d1 d2 dp dp,show PyData.eqv (.list (L.map PyData.bool)) (.list (L.map PyData.bool))=true by simp only [PyData.eqv]; exact ss2 L]
 exact k
end Pv
namespace Pv
open PySem Mw
theorem xu2 {M:Int} {rest:List Dd} {k:Kd} {n:Nat} {x:List Dd} (hM:4<=M) (hr:lims M rest) (hk:kok k) (h:chg rest k=some (n,x)):lims (2 * M) x:=by
 have up:M<=2 * M:=by omega
 cases k with
 | inn d=>simp only [chg] at h; split at h <;> simp at h; obtain ⟨_,rfl⟩:=h; simp only [lims]; exact ⟨se1 (by omega) d (hk.1 d rfl).2.2,trivial⟩
 | close m=>simp only [chg] at h; split at h <;> simp at h; obtain ⟨_,rfl⟩:=h; simp only [lims,lim1]; exact ⟨⟨by omega,sg0 up _ (xw0 hr _)⟩,trivial⟩
 | out=>cases rest with
  | nil=>simp [chg] at h
  | cons d r=>simp only [chg] at h; split at h <;> simp at h; obtain ⟨_,rfl⟩:=h; simp [lims]
 | opn =>
  simp only [chg] at h
  split at h
  ·next m v _=>split at h <;> simp at h; obtain ⟨_,rfl⟩:=h; simp only [lims,lim1] at hr; exact sg0 up _ hr.1.2
  ·cases h
 | twice =>
  simp only [chg] at h
  split at h
  ·simp at h; obtain ⟨_,rfl⟩:=h; simp only [lims,lim1] at hr ⊢; refine ⟨by omega,by omega,by omega,trivial⟩
  ·cases h
 | part m=>cases rest with
  | nil=>simp [chg] at h
  | cons d r =>
   simp only [chg,Option.map_eq_some_iff] at h; obtain ⟨p,hp,e⟩:=h; simp at e; obtain ⟨_,rfl⟩:=e
   have hm:=hk.2 m rfl
   simp only [lims] at hr ⊢
   cases d <;> simp only [prt] at hp
   ·split at hp <;> simp at hp; subst hp; simp only [lim1] at hr ⊢; exact ⟨by omega,by omega,trivial⟩
   ·simp at hp; subst hp; simp only [lim1] at hr ⊢; exact ⟨by omega,by omega,trivial⟩
   ·simp at hp; subst hp; simp only [lim1] at hr ⊢; exact ⟨by omega,by omega,trivial⟩
   ·split at hp <;> simp at hp; subst hp; simp only [lim1] at hr ⊢; exact ⟨⟨by omega,sg0 up _ hr.1.2⟩,⟨by omega,sg0 up _ hr.1.2⟩,trivial⟩
 | once =>
  simp only [chg] at h
  split at h
  ·split at h <;> simp at h; obtain ⟨_,rfl⟩:=h; simp only [lims,lim1] at hr ⊢; exact ⟨by omega,trivial⟩
  ·cases h
 | join =>
  simp only [chg] at h
  split at h
  ·next d e r =>
   simp only [Option.map_eq_some_iff] at h; obtain ⟨p,hp,e⟩:=h; simp at e; obtain ⟨_,rfl⟩:=e
   simp only [lims] at hr ⊢
   refine ⟨?_,trivial⟩
   cases d <;> cases e <;> simp only [jn] at hp <;> first | (cases hp; done) | skip
   ·cases hp; simp only [lim1] at hr ⊢; omega
   ·cases hp; simp only [lim1] at hr ⊢; omega
   ·cases hp; simp only [lim1] at hr ⊢; omega
   ·split at hp <;> cases hp; simp only [lim1] at hr ⊢; exact ⟨by omega,sg0 up _ hr.1.2⟩
  ·cases h
theorem wz1 {M:Int} (hM:4<=M):∀ {way:List Int} {w:List Dd} {k:Kd} {i:Int} {v:List Dd},lims M w->kok k->aft way w k i=some v->lims (2 * M) v
 | [],w,k,i,v,hw,hk,h=>by
  simp only [aft,cha] at h
  split at h
  ·obtain ⟨⟨n,x⟩,hc,rfl⟩:=Option.map_eq_some_iff.mp h
   have up:M<=2 * M:=by omega
   rw [wk0,wk0]
   exact ⟨⟨sg0 up _ (xw0 hw _),xu2 hM (yw0 hw _) hk hc⟩,sg0 up _ (yw0 hw _)⟩
  ·cases h
 | a :: way,w,k,i,v,hw,hk,h=>by
  simp only [aft] at h
  split at h
  ·split at h
   ·next n u hu =>
    obtain ⟨v',hv,rfl⟩:=Option.map_eq_some_iff.mp h
    have m:=wu0 hw (List.mem_of_getElem? hu)
    have up:M<=2 * M:=by omega
    simp only [lim1] at m
    rw [wk0,wk0]
    simp only [lims,lim1]
    exact ⟨⟨sg0 up _ (xw0 hw _),⟨by omega,wz1 hM m.2 hk hv⟩,trivial⟩,sg0 up _ (yw0 hw _)⟩
   ·cases h
  ·cases h
mutual
theorem vi2:∀ d,sd1 d->lim1 4 d
 | .go n,h=>by simp only [sd1] at h; simp only [lim1]; omega
 | .jump n,h=>by simp only [sd1] at h; simp only [lim1]; omega
 | .turn n,h=>by simp only [sd1] at h; simp only [lim1]; omega
 | .times n w,h=>by simp only [sd1] at h; simp only [lim1]; exact ⟨by omega,xh1 w h.2.2⟩
theorem xh1:∀ w,sds w->lims 4 w
 | [],_=>by simp [lims]
 | d :: r,h=>by simp only [sds] at h; simp only [lims]; exact ⟨vi2 d h.1,xh1 r h.2⟩
end
noncomputable abbrev St:=Kd × List Int × Int
noncomputable def encS (s:St):D:=yh0 s.1 s.2.1 s.2.2
noncomputable def okS (s:St):Prop:=s.2.1.length<=5 /\ dmk s.1 /\ nnk s.1 /\ ∀ d,s.1=.inn d->dep d<=2
open Classical in
noncomputable def wkR (w:List Dd):List St->Except Str (List Dd)
 | []=>.ok w
 | s :: r=>match aft s.2.1 w s.1 s.2.2 with
  | none=>.error "NoStep"
  | some v=>if Wd v then wkR v r else .error "NoRoom"
theorem xn0 {w v:List Dd} {s:St} {r:List St} (h:aft s.2.1 w s.1 s.2.2=some v) (hv:Wd v):wkR w (s :: r)=wkR v r:=by
 rw [wkR,h]
 exact if_pos hv
theorem sq0 {w v:List Dd} {s:St} {r:List St} (h:aft s.2.1 w s.1 s.2.2=some v) (hv:¬ Wd v):wkR w (s :: r)=.error "NoRoom" := by
 rw [wkR,h]
 exact if_neg hv
theorem xr0 {w:List Dd} {s:St} {r:List St} (h:aft s.2.1 w s.1 s.2.2=none):wkR w (s :: r)=.error "NoStep" := by
 rw [wkR,h]
theorem uu0:∀ {a b:List St} {w t:List Dd},wkR w a=.ok t->wkR w (a ++ b)=wkR t b
 | [],b,w,t,h=>by
  simp only [wkR] at h
  cases h
  rfl
 | s :: a,b,w,t,h=>by
  cases hv:aft s.2.1 w s.1 s.2.2 with
  | none=>rw [xr0 hv] at h; cases h
  | some v =>
   by_cases c:Wd v
   ·rw [xn0 hv c] at h
    rw [List.cons_append,xn0 hv c]
    exact uu0 h
   ·rw [sq0 hv c] at h; cases h
theorem sq1:∀ {a:List St} {w t:List Dd} (n:Nat),Wd w->wkR w a=.ok t->∃ u,wkR w (a.take n)=.ok u /\ Wd u
 | a,w,t,0,hw,h=>⟨w,by simp [wkR],hw⟩
 | [],w,t,n + 1,hw,h=>⟨w,by simp [wkR],hw⟩
 | s :: a,w,t,n + 1,hw,h=>by
  cases hv:aft s.2.1 w s.1 s.2.2 with
  | none=>rw [xr0 hv] at h; cases h
  | some v =>
   by_cases c:Wd v
   ·rw [xn0 hv c] at h
    obtain ⟨u,e,hu⟩:=sq1 n c h
    exact ⟨u,by rw [List.take_succ_cons,xn0 hv c]; exact e,hu⟩
   ·rw [sq0 hv c] at h; cases h
theorem xr1:∀ {a:List St} {w:List Dd} {x:Str},wkR w a=.error x->x = "NoStep" \/ x = "NoRoom"
 | [],w,x,h=>by simp [wkR] at h
 | s :: a,w,x,h=>by
  cases hv:aft s.2.1 w s.1 s.2.2 with
  | none=>rw [xr0 hv] at h; cases h; exact .inl rfl
  | some v =>
   by_cases c:Wd v
   ·rw [xn0 hv c] at h; exact xr1 h
   ·rw [sq0 hv c] at h; cases h; exact .inr rfl
noncomputable def wkT (XE:XE3) (μ:Mu) (Q:List Dd->Prop):Except Str (List Dd)->Prop
 | .ok v=>Q v
 | .error x=>XE x μ
noncomputable def vg0 (XE:XE3):Sp3:=λ ds μ Q=>∃ (w:List Dd) (g:Addr) (ss:List St),ds=[.tup (encs w),.ref g] /\ μ g=some (.lst (ss.map encS)) /\ Wd w /\ (∀ s ∈ ss,okS s) /\ wkT XE μ (λ v=>Wd v->Q (.tup (encs v)) μ) (wkR w ss)
theorem vh3 (XE:XE3) (ds:List D) (μ:Mu) (Q:VK3) (h:vg0 XE ds μ Q):sx2 XE ss0 va2 { nx:=λ _ μ'=>Q .non μ',rt:=Q } (uc0 yv2 ds) μ:=by
 obtain ⟨w,g,ss,rfl,hg,wd,hs,q⟩:=h
 refine xc1 (XE:=XE) (w:=w) (Q:=λ _ μ'=>(seq3 (set3 2 (v3 0)) (seq3 (for3 (is3 (v3 1)) (gn3 3) (set3 2 (zb0 (va2 XE) (za0 (v3 2) (za0 (v3 3) nil3))))) (ret3 (v3 2)))) { nx:=λ _ μ'=>Q .non μ',rt:=Q } [some (.tup (encs w)),some (.ref g),none,none] μ') wd ?_
 have ei:∀ R:List D->(Mu->Prop)->Mu->Prop,R (ss.map encS) (λ μ=>μ g=some (.lst (ss.map encS))) μ->is3 (v3 1) [some (.tup (encs w)),some (.ref g),some (.tup (encs w)),none] μ R:=λ R h=>by
  simp only [is3,v3,getI,hg]
  exact h
 refine uf2 ei ?_
 refine tl0 (λ l ρ μ'=>μ'=μ /\ ∃ (v:List Dd) (r:List St) (o:Option D),l=r.map encS /\ ρ=[some (.tup (encs w)),some (.ref g),some (.tup (encs v)),o] /\ Wd v /\ (∀ s ∈ r,okS s) /\ wkT XE μ (λ v=>Wd v->Q (.tup (encs v)) μ) (wkR v r)) ⟨rfl,w,ss,none,rfl,rfl,wd,hs,q⟩ (λ _ _ _ ⟨h,_⟩=>by rw [h]; exact hg) ?_ ?_
 ·rintro ρ μ' ⟨rfl,v,r,o,e,rfl,wv,_,q⟩
  cases r with
  | nil=>exact q wv
  | cons s r=>simp at e
 ·rintro x l ρ μ' ⟨rfl,v,r,o,e,rfl,wv,hr,q⟩
  cases r with
  | nil=>simp at e
  | cons s r =>
  simp only [List.map_cons,List.cons.injEq] at e
  obtain ⟨rfl,rfl⟩:=e
  obtain ⟨s1,s2,s3,s4⟩:=hr s (by simp)
  refine ⟨v,s.1,s.2.1,s.2.2,rfl,by omega,wv,s2,λ u hu wu=>?_,λ u hu wu=>?_,λ hn=>?_⟩
  ·rw [xn0 hu wu] at q
   exact ⟨rfl,u,r,_,rfl,rfl,wu,λ s hs=>hr s (by simp [hs]),q⟩
  ·rw [sq0 hu wu] at q
   exact q
  ·rw [xr0 hn] at q
   exact q
noncomputable def th0 (XE:XE3):Sp3:=λ ds μ Q=>∃ (w u:List Dd) (g:Addr) (ss:List St),ds=[.tup (encs w),.tup (encs u),.ref g] /\ μ g=some (.lst (ss.map encS)) /\ Wd w /\ Wd u /\ (∀ s ∈ ss,okS s) /\ ∀ b,(b=true ↔ wkR w ss=.ok u)->Q (.bl b) μ
theorem vi3 (XE:XE3) (ds:List D) (μ:Mu) (Q:VK3) (h:th0 XE ds μ Q):sy2 XE ss0 vg0 { nx:=λ _ μ'=>Q .non μ',rt:=Q } (uc0 yw2 ds) μ:=by
 obtain ⟨w,u,g,ss,rfl,hg,wd,wu,hs,q⟩:=h
 refine xc1 (XE:=XE) (w:=w) (Q:=λ _ μ'=>(seq3 (yl0 (zb0 (ss0 XE) (za0 (v3 1) nil3))) (si1 vg0 ze0 (za0 (v3 0) (za0 (v3 2) nil3)) (v3 1) (ret3 (c3 (.bl false))))) { nx:=λ _ μ'=>Q .non μ',rt:=Q } [some (.tup (encs w)),some (.tup (encs u)),some (.ref g)] μ') wd ?_
 refine xc1 (XE:=XE) (w:=u) (Q:=λ _ μ'=>(si1 vg0 ze0 (za0 (v3 0) (za0 (v3 2) nil3)) (v3 1) (ret3 (c3 (.bl false)))) { nx:=λ _ μ'=>Q .non μ',rt:=Q } [some (.tup (encs w)),some (.tup (encs u)),some (.ref g)] μ') wu ?_
 refine ⟨w,g,ss,rfl,hg,wd,hs,?_⟩
 have du:=wu.2.1
 cases hw:wkR w ss with
 | ok v =>
  intro wv
  have dv:=wv.2.1
  show eqR (.tup (encs v)) (.tup (encs u)) μ Q
  refine eq_W (by omega) (by omega) λ b hb=>q b ?_
  rw [hb,hw]
  exact ⟨λ e=>by rw [e],λ e=>by cases e; rfl⟩
 | error x =>
  refine ⟨?_,q false ?_⟩
  ·rcases xr1 hw with rfl | rfl <;> decide
  ·rw [hw]
   exact ⟨λ e=>(by cases e),λ e=>(by cases e)⟩
noncomputable def tt3 (Q:VK3) (μ:Mu):Except Str (List Dd)->Prop
 | .ok v=>∀ μ',Ext μ μ'->Wd v->Q (.tup (encs v)) μ'
 | .error x=>∀ r μ',Ext μ μ'->μ' r=some (.lst ((flg x).map D.bl))->Q (.ref r) μ'
noncomputable def sh0:Sp3:=λ ds μ Q=>∃ (w:List Dd) (g:Addr) (ss:List St),ds=[.tup (encs w),.ref g] /\ μ g=some (.lst (ss.map encS)) /\ Wd w /\ (∀ s ∈ ss,okS s) /\ tt3 Q μ (wkR w ss)
theorem zk3 (ds:List D) (μ:Mu) (Q:VK3) (h:sh0 ds μ Q):sz2 spMk vg0 { nx:=λ _ μ'=>Q .non μ',rt:=Q } (uc0 yx2 ds) μ:=by
 obtain ⟨w,g,ss,rfl,hg,wd,hs,q⟩:=h
 refine ⟨Nat.zero_le _,λ p hp=>?_⟩
 refine ⟨w,g,ss,rfl,(Ext.new hp) _ _ hg,wd,hs,?_⟩
 cases hw:wkR w ss with
 | ok v =>
  rw [hw] at q
  exact λ wv=>q _ (Ext.new hp) wv
 | error x =>
  rw [hw] at q
  have hx:x ∈ xnames /\ okX x=true:=by rcases xr1 hw with rfl | rfl <;> decide
  exact ⟨hx.2,x,rfl,hx.1,λ r μ' x e=>q r μ' ((Ext.new hp).trans x) e⟩
noncomputable def endR:Except Str (List Dd)->Option (List Dd)
 | .ok v=>some v
 | .error _=>none
noncomputable def vo0:Sp3:=λ ds μ Q=>∃ (w:List Dd) (g:Addr) (ss:List St),ds=[.tup (encs w),.ref g] /\ μ g=some (.lst (ss.map encS)) /\ Wd w /\ (∀ s ∈ ss,okS s) /\ ∀ μ',Ext μ μ'->Q (encO (endR (wkR w ss))) μ'
theorem yr1 {w v:List Dd} {k:Kd} {way:List Int} {i:Int} (wd:Wd w) (nk:nnk k) (h:aft way w k i=some v):Wd v ↔ bnds v /\ cnts v<=30 /\ deps v<=4:=by
 have nw:nns w:=((ve1 w).mp wd.1).1
 constructor
 ·rintro ⟨a,b,c⟩
  exact ⟨((ve1 v).mp a).2,c,b⟩
 ·rintro ⟨a,b,c⟩
  exact ⟨(ve1 v).mpr ⟨vl2 nw nk h,a⟩,c,b⟩
theorem xx3 (ds:List D) (μ:Mu) (Q:VK3) (h:vo0 ds μ Q):t_q4 (xj0 6) (yn0 9) { nx:=λ _ μ'=>Q .non μ',rt:=Q } (uc0 N_q4 ds) μ:=by
 obtain ⟨w,g,ss,rfl,hg,wd,hs,q⟩:=h
 have ei:∀ R:List D->(Mu->Prop)->Mu->Prop,R (ss.map encS) (λ μ=>μ g=some (.lst (ss.map encS))) μ->is3 (v3 1) [some (.tup (encs w)),some (.ref g),none] μ R:=λ R h=>by
  simp only [is3,v3,getI,hg]
  exact h
 refine uf2 ei ?_
 refine tl0 (λ l ρ μ'=>Ext μ μ' /\ ∃ (v:List Dd) (r:List St) (o:Option D),l=r.map encS /\ ρ=[some (.tup (encs v)),some (.ref g),o] /\ Wd v /\ (∀ s ∈ r,okS s) /\ endR (wkR v r)=endR (wkR w ss)) ⟨Ext.refl _,w,ss,none,rfl,rfl,wd,hs,rfl⟩ (λ _ _ _ ⟨h,_⟩=>h _ _ hg) ?_ ?_
 ·rintro ρ μ' ⟨x,v,r,o,e,rfl,wv,_,ee⟩
  cases r with
  | nil =>
   rw [<- ee] at q
   exact q μ' x
  | cons s r=>simp at e
 ·rintro x l ρ μ' ⟨ex,v,r,o,e,rfl,wv,hr,ee⟩
  cases r with
  | nil=>simp at e
  | cons s r =>
  simp only [List.map_cons,List.cons.injEq] at e
  obtain ⟨rfl,rfl⟩:=e
  obtain ⟨s1,s2,s3,s4⟩:=hr s (by simp)
  have dv:=wv.2.1
  have cv:=wv.2.2
  refine ⟨v,s.1,s.2.1,s.2.2,rfl,by omega,by omega,by omega,by omega,s2,λ μ1 x1=>?_⟩
  cases hu:aft s.2.1 v s.1 s.2.2 with
  | none =>
   rw [xr0 hu] at ee
   rw [<- ee] at q
   exact q μ1 (ex.trans x1)
  | some u =>
   have du:=vi1 s4 hu
   refine ⟨u,rfl,by omega,by omega,λ f μ2 x2 hf=>?_⟩
   rw [<- yr1 wv s3 hu] at hf
   cases f with
   | true =>
    have wu:=hf.mp rfl
    rw [xn0 hu wu] at ee
    exact ⟨(ex.trans x1).trans x2,u,r,_,rfl,rfl,wu,λ s hs=>hr s (by simp [hs]),ee⟩
   | false =>
    have wu:¬ Wd u:=λ h=>by have:=hf.mpr h; cases this
    rw [sq0 hu wu] at ee
    rw [<- ee] at q
    exact q μ2 ((ex.trans x1).trans x2)
end Pv
namespace Pv
open PySem Mw
noncomputable def pstL:Kd->List PyData
 | .part m=>[.int m]
 | .inn d=>[pe d]
 | .close m=>[.int m]
 | _=>[]
noncomputable def pst (s:St):PyData:=.tuple (.str (kn s.1) :: .tuple (s.2.1.map PyData.int) :: .int s.2.2 :: pstL s.1)
theorem zg2 (k:Kd):dats (ned k)=some (pstL k):=by
 cases k with
 | part m=>rfl
 | inn d=>simp only [ned,dats,wx1,pstL]
 | close m=>rfl
 | _=>rfl
theorem us3 (s:St):dat (encS s)=some (pst s):=by
 simp only [encS,yh0,dat,dats,ut1,if_true,zx0,zg2,pst]
theorem yi1:∀ ss:List St,dats (ss.map encS)=some (ss.map pst)
 | []=>rfl
 | s :: r=>by simp only [List.map_cons,dats,us3,yi1 r]
theorem xg2 {s:St} (h:okS s):(pst s).depth<=30:=by
 have hi:=us0 s.2.1
 have hn:PyData.depthAll (pstL s.1)<=6:=by
  obtain ⟨k,way,i⟩:=s
  cases k with
  | inn d =>
   have h1:=yl1 d
   have h2:=h.2.2.2 d rfl
   simp only [pstL,PyData.depthAll]
   omega
  | _=>simp [pstL,PyData.depthAll,PyData.depth]
 simp only [pst,PyData.depth,PyData.depthAll]
 omega
theorem zl1:∀ {ss:List St},(∀ s ∈ ss,okS s)->PyData.depthAll (ss.map pst)<=30
 | [],_=>by simp [PyData.depthAll]
 | s :: r,h=>by
  have h1:=xg2 (h s (by simp))
  have h2:=zl1 (ss:=r) λ s hs=>h s (by simp [hs])
  simp only [List.map_cons,PyData.depthAll]
  omega
theorem sk1:∀ l:List Int,PyData.eqvAll (l.map PyData.int) (l.map PyData.int)=true
 | []=>rfl
 | a :: r=>by simp [PyData.eqvAll,PyData.eqv,sk1 r]
theorem ys3 (s:St):PyData.eqv (pst s) (pst s)=true:=by
 have hn:PyData.eqvAll (pstL s.1) (pstL s.1)=true:=by
  cases s.1 <;> simp [pstL,PyData.eqvAll,PyData.eqv,xk2]
 simp [pst,PyData.eqv,PyData.eqvAll,sk1,hn]
theorem yk2:∀ ss:List St,PyData.eqvAll (ss.map pst) (ss.map pst)=true
 | []=>rfl
 | s :: r=>by simp [PyData.eqvAll,ys3,yk2 r]
theorem ya4 {ss:List St} (h:∀ s ∈ ss,okS s) {g f:Addr} {μ:Mu} (hg:μ g=some (.lst (ss.map encS))) (hf:μ f=some (.lst (ss.map encS))) {K:VK3} (k:K (.bl false) μ):neR (.ref g) (.ref f) μ K:=by
 have d1:datM μ (.ref g)=some (.list (ss.map pst)):=by simp only [datM,hg,yi1]
 have d2:datM μ (.ref f)=some (.list (ss.map pst)):=by simp only [datM,hf,yi1]
 have dp:(PyData.list (ss.map pst)).depth<=64:=by have:=zl1 h; simp only [PyData.depth]; omega
 rw [yp0 rfl d1 d2 dp dp,show PyData.eqv (.list (ss.map pst)) (.list (ss.map pst))=true by simp only [PyData.eqv]; exact yk2 ss]
 exact k
theorem ne_B {f1 f2:Addr} {L:List Bool} {μ:Mu} {K:VK3} (h1:μ f1=some (.lst (L.map D.bl))) (h2:μ f2=some (.lst (L.map D.bl))) (k:K (.bl false) μ):neR (.ref f1) (.ref f2) μ K:=by
 have d1:datM μ (.ref f1)=some (.list (L.map PyData.bool)):=by simp only [datM,h1,vf1]
 have d2:datM μ (.ref f2)=some (.list (L.map PyData.bool)):=by simp only [datM,h2,vf1]
 have dp:(PyData.list (L.map PyData.bool)).depth<=64:=by have:=xi1 L; simp only [PyData.depth]; omega
 rw [yp0 rfl d1 d2 dp dp,show PyData.eqv (.list (L.map PyData.bool)) (.list (L.map PyData.bool))=true by simp only [PyData.eqv]; exact ss2 L]
 exact k
theorem sp3 {w v:List Dd} {k:Kd} {way:List Int} {i:Int} (wl:way.length<=4) (ko:kok k):okS (k,way,i) :=
 ⟨by show way.length<=5; omega,λ d e=>by have:=(ko.1 d e).1; omega,by
  show nnk k
  cases k with
  | inn d=>exact (ko.1 d rfl).2.1
  | _=>trivial,λ d e=>(ko.1 d e).1⟩
theorem eq_O {o:Option (List Dd)} {u:List Dd} (hu:deps u<=20) (ho:∀ v,o=some v->deps v<=20) {μ:Mu} {K:VK3} (k:∀ b,(b=true ↔ o=some u)->K (.bl b) μ):eqR (encO o) (.tup (encs u)) μ K:=by
 cases o with
 | none =>
  have d:datM μ (.tup (encs u))=some (.tuple (pes u)):=by simp only [datM,dat,uh0]
  have dp:(PyData.tuple (pes u)).depth<=64:=by have:=vh0 u; simp only [PyData.depth]; omega
  show eqR .non (.tup (encs u)) μ K
  rw [yx0 (p:=.none) rfl rfl d (by simp [PyData.depth]) dp]
  exact k _ (by simp [PyData.eqv])
 | some v =>
  refine eq_W (ho v rfl) hu λ b hb=>k b ?_
  rw [hb]
  exact ⟨λ e=>by rw [e],λ e=>by cases e; rfl⟩
theorem ui1:∀ {ss:List St} {w t:List Dd},Wd w->wkR w ss=.ok t->Wd t
 | [],w,t,hw,h=>by simp only [wkR] at h; cases h; exact hw
 | s :: r,w,t,hw,h=>by
  cases hv:aft s.2.1 w s.1 s.2.2 with
  | none=>rw [xr0 hv] at h; cases h
  | some v =>
   by_cases c:Wd v
   ·rw [xn0 hv c] at h; exact ui1 c h
   ·rw [sq0 hv c] at h; cases h
noncomputable def dpt:Nat->List Dd
 | 0=>[.go 1]
 | n + 1=>[.times 1 (dpt n)]
theorem wk2:∀ n,oks (dpt n) /\ cnts (dpt n)=n + 1 /\ deps (dpt n)=n
 | 0 => by have g:(1:Int)<=G:=by decide
           simp only [dpt,oks,okd,cnts,cnt,deps,dep]; exact ⟨⟨⟨by decide,g⟩,trivial⟩,by simp,by simp⟩
 | n + 1=>by
  obtain ⟨a,b,c⟩:=wk2 n
  have g:(1:Int)<=G:=by decide
  simp only [dpt,oks,okd,cnts,cnt,deps,dep,a,b,c]
  exact ⟨⟨⟨⟨by decide,g⟩,trivial⟩,trivial⟩,by omega,by omega⟩
noncomputable def badS:List St:=[(.out,[],40),(.join,[],-1),(.opn,[77],0),(.inn (.go 1),[],0)]
theorem yh2 {u:List Dd} (hu:Wd u) {s:St} (h:s ∈ badS):aft s.2.1 u s.1 s.2.2=none /\ okS s:=by
 have l1:=wf0 u
 have l2:=hu.2.2
 simp only [badS,List.mem_cons,List.not_mem_nil,or_false] at h
 rcases h with rfl | rfl | rfl | rfl
 ·exact ⟨by simp only [aft,cha]; rw [if_neg (by omega)],by simp,λ d e=>(by cases e),trivial,λ d e=>(by cases e)⟩
 ·exact ⟨by simp only [aft,cha]; rw [if_neg (by omega)],by simp,λ d e=>(by cases e),trivial,λ d e=>(by cases e)⟩
 ·refine ⟨?_,by simp,λ d e=>(by cases e),trivial,λ d e=>(by cases e)⟩
  simp only [aft]
  rw [if_pos (by decide),List.getElem?_eq_none (by show u.length<=77; omega)]
 ·refine ⟨?_,by simp,λ d e=>(by cases e; simp [dep]),by simp [nnk,nn1],λ d e=>(by cases e; simp [dep])⟩
  simp only [aft,cha,chg,idl]
  rw [if_pos ⟨by decide,by omega⟩]
  simp
theorem vt3 {r:Int} (h0:0<=r) (h1:r < 4):∃ s,s ∈ badS /\ atI (badS.map encS) r=some (encS s):=by
 have:r=0 \/ r=1 \/ r=2 \/ r=3:=by omega
 rcases this with rfl | rfl | rfl | rfl
 ·exact ⟨(.out,[],40),by simp [badS],rfl⟩
 ·exact ⟨(.join,[],-1),by simp [badS],rfl⟩
 ·exact ⟨(.opn,[77],0),by simp [badS],rfl⟩
 ·exact ⟨(.inn (.go 1),[],0),by simp [badS],rfl⟩
noncomputable abbrev SS (p:Addr) (μ:Mu):Prop:=∃ a b,μ p=some (.lst [.int a,.int b]) /\ 0<=a
theorem uf1 {α:Type} (l:List α) {n:Int} (h0:0<=n):cut3 l (some n) none=l.drop n.toNat:=by
 unfold cut3 sIx3
 simp only []
 rw [if_neg (by omega)]
 rcases Nat.le_total n.toNat l.length with c | c
 ·rw [Nat.min_eq_left c]
  exact List.take_of_length_le (by simp)
 ·rw [Nat.min_eq_right c,List.drop_of_length_le c]
  simp
theorem va4 {p:Addr} {l:List D} {μ:Mu} {Q:VK3} (h:μ p=some (.lst l)) (k:Q (.int l.length) μ):lenR [.ref p] μ Q:=by
 unfold lenR
 simp only [h]
 exact k
theorem vq3 {p:Addr} {l:List D} {μ:Mu} {Q:VK3} (h:μ p=some (.lst l)) (k:∀ r,μ r=none->Q (.ref r) (updM μ r (.lst l))):tv1 [.ref p] μ Q:=by
 unfold tv1
 simp only [h]
 exact k
theorem sl_l {p:Addr} {l:List D} {a b:Option Int} {μ:Mu} {Q:VK3} (h:μ p=some (.lst l)) (k:∀ r,μ r=none->Q (.ref r) (updM μ r (.lst (cut3 l a b)))):slR (.ref p) a b μ Q:=by
 unfold slR
 simp only [h]
 exact k
theorem su2 {p q:Addr} {l m:List D} {μ:Mu} {Q:VK3} (h:μ p=some (.lst l)) (h2:μ q=some (.lst m)) (hl:l.length + m.length<=sizeLine) (k:∀ r,μ r=none->Q (.ref r) (updM μ r (.lst (l ++ m)))):addR (.ref p) (.ref q) μ Q:=by
 unfold addR
 simp only [h,h2]
 exact ⟨hl,k⟩
theorem v_o {μ:Mu} {ρ:St3} {i:Nat} {d:D} {K:VK3} (h:getI ρ i=some d) (k:K d μ):v3 i ρ μ K:=by
 unfold v3
 rw [h]
 exact k
noncomputable abbrev EE (Q:VK3):Ends3:={ nx:=λ _ μ'=>Q .non μ',rt:=Q }
noncomputable abbrev L2':=wj1 (xj0 6) (zo0 3) vo0 (yn0 9) ue0 spSt uf0 sh0 th0 vg0
noncomputable abbrev L3':=zj1 (xj0 6) (zo0 3) vo0 (yn0 9) ue0 spSt uf0 sh0 th0 vg0
noncomputable abbrev L6':=tz0 (xj0 6) (zo0 3) vo0 (yn0 9) ue0 spSt uf0 sh0 th0 vg0
noncomputable abbrev L9':=uz0 (xj0 6) (zo0 3) vo0 (yn0 9) ue0 spSt uf0 sh0 th0 vg0
noncomputable abbrev L10':=su0 (xj0 6) (zo0 3) vo0 (yn0 9) ue0 spSt uf0 sh0 th0 vg0
noncomputable abbrev L12':=wd1 (xj0 6) (zo0 3) vo0 (yn0 9) ue0 spSt uf0 sh0 th0 vg0
noncomputable abbrev L13':=zd1 (xj0 6) (zo0 3) vo0 (yn0 9) ue0 spSt uf0 sh0 th0 vg0
noncomputable abbrev L14':=yd1 (xj0 6) (zo0 3) vo0 (yn0 9) ue0 spSt uf0 sh0 th0 vg0
noncomputable abbrev L18':=sc1 (xj0 6) (zo0 3) vo0 (yn0 9) ue0 spSt uf0 sh0 th0 vg0
theorem ut3 (i j:Int) (μ:Mu) (Q:VK3):addR (.int i) (.int j) μ Q=Q (.int (i + j)) μ:=rfl
noncomputable abbrev L19':=tc1 (xj0 6) (zo0 3) vo0 (yn0 9) ue0 spSt uf0 sh0 th0 vg0
noncomputable abbrev L20':=tu0 (xj0 6) (zo0 3) vo0 (yn0 9) ue0 spSt uf0 sh0 th0 vg0
theorem ua4 {Q:VK3} (q:∀ μ',Q (.bl true) μ') {p g:Addr} {w t:List Dd} {ss:List St} {m:Int} {μ:Mu} {c0 c4 c5 c6 c7 c9 c10 c11 c12 c13:Option D} (wd:Wd w) (hok:∀ s ∈ ss,okS s) (hw:wkR w ss=.ok t) (m0:0<=m) (m1:m<=ss.length) (hl:ss.length<=8) (hg:μ g=some (.lst (ss.map encS))) (gp:g ≠ p) (hs:SS p μ) :
    L19' (EE Q) [c0,some (.ref p),some (.tup (encs w)),some (.ref g),c4,c5,c6,c7,some (.int m),c9,c10,c11,c12,c13] μ:=by
 have z0:=Nat.zero_le sizeLine
 have z1:1<=sizeLine:=by decide
 have z2:2<=sizeLine:=by decide
 have z3:3<=sizeLine:=by decide
 have z4:4<=sizeLine:=by decide
 have z7:7<=sizeLine:=by decide
 have hz:(1000:Nat) < sizeLine:=by decide
 obtain ⟨a,b,e,ha⟩:=hs
 refine ⟨z0,z3,z0,z3,z1,z3,z0,z2,z4,z4,λ r1 hr1=>?_⟩
 have n1:r1 ≠ p:=λ h=>by subst h; rw [e] at hr1; cases hr1
 have n2:r1 ≠ g:=λ h=>by subst h; rw [hg] at hr1; cases hr1
 refine ⟨p,4,a,b,rfl,by decide,by decide,by rw [xc0 (Ne.symm n1)]; exact e,ha,λ r a1 b1 r0 r1' ha1=>?_⟩
 obtain ⟨s,hs,es⟩:=vt3 r0 r1'
 refine ix_l (l:=badS.map encS) (by rw [xc0 n1]; exact sa0) es ?_
 have hg2:(updM (updM μ r1 (.lst (badS.map encS))) p (.lst [.int a1,.int b1])) g=some (.lst (ss.map encS)):=by rw [xc0 gp,xc0 (Ne.symm n2)]; exact hg
 show L20' (EE Q) [c0,some (.ref p),some (.tup (encs w)),some (.ref g),c4,c5,c6,c7,some (.int m),c9,c10,c11,c12,some (encS s)] (updM (updM μ r1 (.lst (badS.map encS))) p (.lst [.int a1,.int b1]))
 generalize updM (updM μ r1 (.lst (badS.map encS))) p (.lst [.int a1,.int b1])=μ2 at hg2 ⊢
 have c1:cut3 (ss.map encS) none (some m)=(ss.take m.toNat).map encS:=by rw [vn0 _ m0 (by rw [List.length_map]; omega),List.map_take]
 have c2:cut3 (ss.map encS) (some m) none=(ss.drop m.toNat).map encS:=by rw [uf1 _ m0,List.map_drop]
 have lt:(ss.take m.toNat).length<=8:=by rw [List.length_take]; omega
 have ld:(ss.drop m.toNat).length<=8:=by rw [List.length_drop]; omega
 simp only [L20',tu0,ret3,o3,zb0,za0,sl3,v3,getI,np3,pt3]
 refine sl_l hg2 λ q1 hq1=>?_
 rw [c1]
 refine ⟨z1,λ q2 hq2=>?_⟩
 have x1:=Ext.new (o:=.lst ((ss.take m.toNat).map encS)) hq1
 have x2:=Ext.new (o:=.lst [encS s]) hq2
 have e1:=x2 _ _ (sa0 (μ:=μ2) (a:=q1) (o:=.lst ((ss.take m.toNat).map encS)))
 refine su2 (l:=(ss.take m.toNat).map encS) (m:=[encS s]) e1 sa0 (by rw [List.length_map]; show _ + 1<=_; omega) λ q3 hq3=>?_
 have x3:=Ext.new (o:=.lst ((ss.take m.toNat).map encS ++ [encS s])) hq3
 have hg5:=x3 _ _ (x2 _ _ (x1 _ _ hg2))
 refine sl_l hg5 λ q4 hq4=>?_
 rw [c2]
 have x4:=Ext.new (o:=.lst ((ss.drop m.toNat).map encS)) hq4
 have e3:=x4 _ _ (sa0 (μ:=updM (updM μ2 q1 (.lst ((ss.take m.toNat).map encS))) q2 (.lst [encS s])) (a:=q3) (o:=.lst ((ss.take m.toNat).map encS ++ [encS s])))
 refine su2 e3 sa0 (by rw [List.length_append,List.length_map,List.length_map]; show _ + 1 + _<=_; omega) λ q5 hq5=>?_
 have el:(ss.take m.toNat).map encS ++ [encS s] ++ (ss.drop m.toNat).map encS=(ss.take m.toNat ++ s :: ss.drop m.toNat).map encS:=by simp
 rw [el]
 obtain ⟨u,hu,wu⟩:=sq1 m.toNat wd hw
 obtain ⟨bn,bo⟩:=yh2 wu hs
 refine ⟨w,q5,_,rfl,sa0,wd,λ s' hs'=>?_,?_⟩
 ·rcases List.mem_append.mp hs' with h | h
  ·exact hok s' (List.mem_of_mem_take h)
  ·rcases List.mem_cons.mp h with rfl | h
   ·exact bo
   ·exact hok s' (List.mem_of_mem_drop h)
 rw [uu0 hu,xr0 bn]
 intro r2 μ' x er
 refine ⟨z7,λ r3 hr3=>?_⟩
 exact eq_B (L:=flg "NoStep") (by rw [xc0 (zk0 er hr3)]; exact er) sa0 (q _)
theorem xj2 {Q:VK3} {v w:List Dd} {s:St} {m:Addr} {i j:Nat} {R:TS3} {ρ:St3} {μ:Mu} (hi:getI ρ i=some (.tup (encs w))) (hj:getI ρ j=some (.ref m)) (wd:Wd w) (ok:okS s) (hv:aft s.2.1 w s.1 s.2.2=some v) (nv:¬ Wd v) (hm:μ m=some (.lst [encS s])) (k:∀ μ',Ext μ μ'->R (EE Q) ρ μ') :
    (seq3 (ifs3 (or3 (b3 (o3 neR (zb0 sh0 (za0 (v3 i) (za0 (v3 j) nil3))) (lst3 (za0 (c3 (.bl false)) (za0 (c3 (.bl false)) (za0 (c3 (.bl true)) (za0 (c3 (.bl false)) (za0 (c3 (.bl false)) (za0 (c3 (.bl false)) (za0 (c3 (.bl true)) nil3)))))))))) (b3 (zb0 (th0 NX) (za0 (v3 i) (za0 (v3 i) (za0 (v3 j) nil3)))))) (ret3 (c3 (.bl false))) tc0) R) (EE Q) ρ μ:=by
 have z7:7<=sizeLine:=by decide
 have er:wkR w [s]=.error "NoRoom" := sq0 hv nv
 have oks':∀ s' ∈ [s],okS s':=λ s' h=>by rw [List.mem_singleton.mp h]; exact ok
 refine yv0 ?_
 simp only [or3,b3,o3,zb0,za0,v3,hi,hj,nil3]
 refine ⟨w,m,[s],rfl,hm,wd,oks',?_⟩
 rw [er]
 intro r μ1 x1 e1
 refine ⟨z7,λ r2 hr2=>?_⟩
 refine ne_B (L:=flg "NoRoom") (by rw [xc0 (zk0 e1 hr2)]; exact e1) sa0 ?_
 simp only [Bool.false_eq_true,if_false]
 have x2:=x1.trans (Ext.new (o:=.lst [D.bl false,.bl false,.bl true,.bl false,.bl false,.bl false,.bl true]) hr2)
 refine ⟨w,w,m,[s],rfl,x2 _ _ hm,wd,wd,oks',λ b hb=>?_⟩
 cases b with
 | true=>have:=hb.mp rfl; rw [er] at this; cases this
 | false=>exact k _ x2
theorem ta4 {Q:VK3} (q:∀ μ',Q (.bl true) μ') {p g:Addr} {w t:List Dd} {ss:List St} {m:Int} {μ:Mu} {c0 c4 c5 c6 c7 c9 c10 c11 c12 c13:Option D} (wd:Wd w) (hok:∀ s ∈ ss,okS s) (hw:wkR w ss=.ok t) (m0:0<=m) (m1:m<=ss.length) (hl:ss.length<=8) (hg:μ g=some (.lst (ss.map encS))) (gp:g ≠ p) (hs:SS p μ) :
    L12' (EE Q) [c0,some (.ref p),some (.tup (encs w)),some (.ref g),c4,c5,c6,c7,some (.int m),c9,c10,c11,c12,c13] μ:=by
 have z0:=Nat.zero_le sizeLine
 have z1:1<=sizeLine:=by decide
 have z2:2<=sizeLine:=by decide
 have z3:3<=sizeLine:=by decide
 have z4:4<=sizeLine:=by decide
 obtain ⟨o1,o2,o3'⟩:=si2 30
 have wf:Wd (List.replicate 30 (.go 1)):=⟨o1,by omega,by omega⟩
 have ef:(List.replicate (30:Int).toNat [D.tup [D.str "go",D.int 1]]).flatten=encs (List.replicate 30 (.go 1)):=yu1 30
 refine ⟨z2,z1,⟨⟨by decide,by decide⟩,by decide⟩,?_⟩
 show L13' (EE Q) [c0,some (.ref p),some (.tup (encs w)),some (.ref g),c4,c5,c6,c7,some (.int m),c9,some (.tup (List.replicate (30:Int).toNat [D.tup [D.str "go",D.int 1]]).flatten),c11,c12,c13] μ
 rw [ef]
 refine ⟨z0,z2,z4,z1,λ r1 hr1=>?_⟩
 have x1:=Ext.new (o:=.lst [encS (.inn (.go 0),[],3)]) hr1
 show L14' (EE Q) [c0,some (.ref p),some (.tup (encs w)),some (.ref g),c4,c5,c6,c7,some (.int m),c9,some (.tup (encs (List.replicate 30 (.go 1)))),some (.ref r1),c12,c13] (updM μ r1 (.lst [encS (.inn (.go 0),[],3)]))
 refine xj2 (s:=(.inn (.go 0),[],3)) (v:=(List.replicate 30 (.go 1)).take 3 ++ [.go 0] ++ (List.replicate 30 (.go 1)).drop 3) (i:=10) (j:=11) (m:=r1) rfl rfl wf ⟨by simp,λ d e=>(by cases e; simp [dep]),by simp [nnk,nn1],λ d e=>(by cases e; simp [dep])⟩ (by simp [aft,cha,chg,idl]) (λ h=>?_) sa0 λ μ2 x2=>?_
 ·have:=h.2.2
  rw [tt2,tt2] at this
  simp [cnts,cnt,List.replicate] at this
 have hg2:=x2 _ _ (x1 _ _ hg)
 have hs2:SS p μ2:=by
  obtain ⟨a,b,e,ha⟩:=hs
  exact ⟨a,b,x2 _ _ (x1 _ _ e),ha⟩
 refine ⟨z2,z1,?_⟩
 show xd1 (xj0 6) (zo0 3) vo0 (yn0 9) ue0 spSt uf0 sh0 th0 vg0 (EE Q) [c0,some (.ref p),some (.tup (encs w)),some (.ref g),c4,c5,c6,c7,some (.int m),c9,some (.tup (encs (List.replicate 30 (.go 1)))),some (.ref r1),some (.tup (encs (dpt 0))),c13] μ2
 refine uf2 (l:=rngD 0 (4:Int).toNat) (S:=λ _=>True) (λ R k=>⟨⟨by decide,by decide⟩,k⟩) ?_
 refine tl0 (λ l ρ μ'=>μ'=μ2 /\ ∃ (n:Nat) (c5:Option D),n + l.length=4 /\ ρ=[c0,some (.ref p),some (.tup (encs w)),some (.ref g),c4,c5,c6,c7,some (.int m),c9,some (.tup (encs (List.replicate 30 (.go 1)))),some (.ref r1),some (.tup (encs (dpt n))),c13]) ⟨rfl,0,c5,rfl,rfl⟩ (λ _ _ _ _=>trivial) ?_ ?_
 ·rintro ρ μ' ⟨rfl,n,c5,hn,rfl⟩
  have hn:n=4:=by simpa using hn
  subst hn
  obtain ⟨d1,d2,d3⟩:=wk2 4
  refine ⟨z0,z4,z1,λ r2 hr2=>?_⟩
  have x3:=Ext.new (o:=.lst [encS (.close 1,[],0)]) hr2
  show L18' (EE Q) [c0,some (.ref p),some (.tup (encs w)),some (.ref g),c4,c5,c6,c7,some (.int m),c9,some (.tup (encs (List.replicate 30 (.go 1)))),some (.ref r2),some (.tup (encs (dpt 4))),c13] (updM μ' r2 (.lst [encS (.close 1,[],0)]))
  refine xj2 (s:=(.close 1,[],0)) (v:=[.times 1 (dpt 4)]) (i:=12) (j:=11) (m:=r2) rfl rfl ⟨d1,by omega,by omega⟩ ⟨by simp,λ d e=>(by cases e),trivial,λ d e=>(by cases e)⟩ (by simp [aft,cha,chg,dpt]) (λ h=>?_) sa0 λ μ4 x4=>?_
  ·have:=h.2.1
   simp only [deps,dep,d3] at this
   omega
  ·refine ua4 q wd hok hw m0 m1 hl (x4 _ _ (x3 _ _ hg2)) gp ?_
   obtain ⟨a,b,e,ha⟩:=hs2
   exact ⟨a,b,x4 _ _ (x3 _ _ e),ha⟩
 ·rintro x l ρ μ' ⟨rfl,n,c5,hn,rfl⟩
  rw [List.length_cons] at hn
  exact ⟨z3,z1,rfl,n + 1,some x,by omega,rfl⟩
theorem sa4 {Q:VK3} (q:∀ μ',Q (.bl true) μ') {p g:Addr} {w t:List Dd} {ss:List St} {m:Int} {μ:Mu} {c0 c5 c6 c7 c9 c10 c11 c12 c13:Option D} (wd:Wd w) (hok:∀ s ∈ ss,okS s) (hw:wkR w ss=.ok t) (m0:0<=m) (m1:m<=ss.length) (hl:ss.length<=8) (hg:μ g=some (.lst (ss.map encS))) (gp:g ≠ p) (hs:SS p μ) :
    L10' (EE Q) [c0,some (.ref p),some (.tup (encs w)),some (.ref g),some (.tup (encs t)),c5,c6,c7,some (.int m),c9,c10,c11,c12,c13] μ:=by
 have hz:(1000:Nat) < sizeLine:=by decide
 have wt:=ui1 wd hw
 have dt:=wt.2.1
 have c1:cut3 (ss.map encS) none (some m)=(ss.take m.toNat).map encS:=by rw [vn0 _ m0 (by rw [List.length_map]; omega),List.map_take]
 have c2:cut3 (ss.map encS) (some (m + 1)) none=(ss.drop (m + 1).toNat).map encS:=by rw [uf1 _ (by omega),List.map_drop]
 have lt:(ss.take m.toNat).length<=8:=by rw [List.length_take]; omega
 have ld:(ss.drop (m + 1).toNat).length<=8:=by rw [List.length_drop]; omega
 simp only [L10',su0,seq3,set3,o3,sl3,v3,getI,np3,pt3,c3,ut3]
 refine sl_l hg λ q1 hq1=>?_
 rw [c1]
 have x1:=Ext.new (o:=.lst ((ss.take m.toNat).map encS)) hq1
 refine sl_l (x1 _ _ hg) λ q2 hq2=>?_
 rw [c2]
 have x2:=Ext.new (o:=.lst ((ss.drop (m + 1).toNat).map encS)) hq2
 refine su2 (x2 _ _ sa0) sa0 (by rw [List.length_map,List.length_map]; omega) λ q3 hq3=>?_
 rw [<- List.map_append]
 have x3:=Ext.new (o:=.lst ((ss.take m.toNat ++ ss.drop (m + 1).toNat).map encS)) hq3
 have x:=x1.trans (x2.trans x3)
 have e3:=sa0 (μ:=updM (updM μ q1 (.lst ((ss.take m.toNat).map encS))) q2 (.lst ((ss.drop (m + 1).toNat).map encS))) (a:=q3) (o:=.lst ((ss.take m.toNat ++ ss.drop (m + 1).toNat).map encS))
 have ok2:∀ s ∈ ss.take m.toNat ++ ss.drop (m + 1).toNat,okS s:=λ s h=>by
  rcases List.mem_append.mp h with h | h
  ·exact hok s (List.mem_of_mem_take h)
  ·exact hok s (List.mem_of_mem_drop h)
 generalize updM (updM (updM μ q1 (.lst ((ss.take m.toNat).map encS))) q2 (.lst ((ss.drop (m + 1).toNat).map encS))) q3 (.lst ((ss.take m.toNat ++ ss.drop (m + 1).toNat).map encS))=μ3 at x e3 ⊢
 generalize ss.take m.toNat ++ ss.drop (m + 1).toNat=s2 at e3 ok2 ⊢
 refine ⟨w,t,q3,s2,rfl,e3,wd,wt,ok2,λ b hb=>?_⟩
 refine ⟨w,q3,s2,rfl,e3,wd,ok2,λ μ4 x4=>?_⟩
 show v3 4 _ μ4 _
 refine v_o (d:=.tup (encs t)) rfl ?_
 refine eq_O (o:=endR (wkR w s2)) (u:=t) (by omega) (λ v hv=>?_) λ b2 hb2=>?_
 ·cases hh:wkR w s2 with
  | error x=>rw [hh] at hv; cases hv
  | ok v' =>
   rw [hh] at hv
   cases hv
   have:=(ui1 wd hh).2.1
   omega
 have eb:b=b2:=by
  have:b=true ↔ b2=true:=by
   rw [hb,hb2]
   cases wkR w s2 with
   | error x=>simp [endR]
   | ok v=>simp [endR]
  cases b <;> cases b2 <;> simp at this <;> rfl
 subst eb
 show if (!decide (b=b))=true then _ else _
 rw [if_neg (by simp)]
 refine ta4 q wd hok hw m0 m1 hl (x4 _ _ (x _ _ hg)) gp ?_
 obtain ⟨a,b,e,ha⟩:=hs
 exact ⟨a,b,x4 _ _ (x _ _ e),ha⟩
theorem law6 {Q:VK3} (q:∀ μ',Q (.bl true) μ') {p g:Addr} {w t:List Dd} {ss:List St} {μ:Mu} {c0 c5 c6 c7 c8 c9 c10 c11 c12 c13:Option D} (wd:Wd w) (hok:∀ s ∈ ss,okS s) (hw:wkR w ss=.ok t) (lt:lims 1024 t) (hl:ss.length<=8) (hg:μ g=some (.lst (ss.map encS))) (gp:g ≠ p) (hs:SS p μ) :
    L6' (EE Q) [c0,some (.ref p),some (.tup (encs w)),some (.ref g),some (.tup (encs t)),c5,c6,c7,c8,c9,c10,c11,c12,c13] μ:=by
 have z1:1<=sizeLine:=by decide
 have z2:2<=sizeLine:=by decide
 have wt:=ui1 wd hw
 have dt:=wt.2.1
 simp only [L6',tz0,seq3,set3,zb0,za0,nil3,v3,getI]
 refine vq3 hg λ h hh=>?_
 have x1:=Ext.new (o:=.lst (ss.map encS)) hh
 have e1:updM μ h (.lst (ss.map encS)) h=some (.lst (ss.map encS)):=sa0
 have hg1:=x1 _ _ hg
 have hs1:SS p (updM μ h (.lst (ss.map encS))):=by
  obtain ⟨a,b,e,ha⟩:=hs
  exact ⟨a,b,x1 _ _ e,ha⟩
 show yj1 (xj0 6) (zo0 3) vo0 (yn0 9) ue0 spSt uf0 sh0 th0 vg0 (EE Q) [c0,some (.ref p),some (.tup (encs w)),some (.ref g),some (.tup (encs t)),c5,c6,some (.ref h),c8,c9,c10,c11,c12,c13] (updM μ h (.lst (ss.map encS)))
 generalize updM μ h (.lst (ss.map encS))=μ1 at e1 hg1 hs1 ⊢
 refine yv0 ?_
 refine ⟨w,h,ss,rfl,e1,wd,hok,?_⟩
 rw [hw]
 intro _
 refine v_o (d:=.tup (encs t)) rfl ?_
 refine ne_W (v:=t) (u:=t) (by omega) (by omega) λ b hb=>?_
 rw [hb.mpr rfl]
 show or3 (b3 (o3 neR (v3 7) (v3 3))) _ _ μ1 _
 refine or_c (b:=false) (λ K kk=>b3_c (λ K2 kk2=>o3_2 (x:=.ref h) (y:=.ref g) (λ K k=>k) (λ K k=>k) (ya4 hok e1 hg1 kk2)) kk) ?_
 rw [if_neg (by decide)]
 refine ⟨w,t,h,ss,rfl,e1,wd,wt,hok,λ b hb=>?_⟩
 have hb1:b=true:=hb.mpr hw
 subst hb1
 show (xj1 (xj0 6) (zo0 3) vo0 (yn0 9) ue0 spSt uf0 sh0 th0 vg0) (EE Q) [c0,some (.ref p),some (.tup (encs w)),some (.ref g),some (.tup (encs t)),c5,c6,some (.ref h),c8,c9,c10,c11,c12,c13] μ1
 refine yv0 ?_
 have g6:(1000000:Int)<=G:=by decide
 refine ⟨⟨by decide,by decide,by decide⟩,z2,z1,w,[.go 1000000],h,ss,rfl,e1,wd,⟨by simp only [oks,okd]; exact ⟨⟨by decide,g6⟩,trivial⟩,by simp [deps,dep],by simp [cnts,cnt]⟩,hok,λ b hb=>?_⟩
 have hb1:b=false:=by
  cases b with
  | false=>rfl
  | true =>
   have:=hb.mp rfl
   rw [hw] at this
   cases this
   simp only [lims,lim1] at lt
   omega
 subst hb1
 show L9' (EE Q) [c0,some (.ref p),some (.tup (encs w)),some (.ref g),some (.tup (encs t)),c5,c6,some (.ref h),c8,c9,c10,c11,c12,c13] μ1
 simp only [L9',uz0,seq3,set3,zb0,za0,nil3,o3,v3,getI,c3]
 refine va4 hg1 ?_
 obtain ⟨a,b,e,ha⟩:=hs1
 have ll:(((ss.map encS).length:Nat):Int)=(ss.length:Int):=by rw [List.length_map]
 rw [ll]
 refine ⟨p,(ss.length:Int) + 1,a,b,rfl,by omega,by omega,e,ha,λ m a1 b1 m0 m1 ha1=>?_⟩
 exact sa4 q wd hok hw m0 (by omega) hl (by rw [xc0 gp]; exact hg1) gp ⟨a1,b1,sa0,ha1⟩
noncomputable def ta2:Sp3:=λ ds μ Q=>∃ ns:List Int,ds=[.fls (ns.map D.int)] /\ ns.length<=63 /\ ∀ μ',Q (.bl true) μ'
theorem yi3 (ds:List D) (μ:Mu) (Q:VK3) (h:ta2 ds μ Q):vy2 (xj0 6) (zo0 3) vo0 (yn0 9) ue0 spSt uf0 sh0 th0 vg0 { nx:=λ _ μ'=>Q .non μ',rt:=Q } (uc0 tv2 ds) μ:=by
 obtain ⟨ns,rfl,hl,q⟩:=h
 have hz:(1000:Nat) < sizeLine:=by decide
 refine ⟨ns,0,rfl,by decide,λ a b p ha hp=>?_⟩
 refine ⟨p,4,a,b,rfl,by decide,by decide,sa0,ha,λ m a1 b1 m0 m1 ha1=>?_⟩
 refine ⟨p,2,m,rfl,by decide,by decide,by decide,m0,by omega,a1,b1,sa0,ha1,λ w a2 b2 μ2 x2 e2 ha2 hs hd hlen=>?_⟩
 have dw:deps w<=2:=by omega
 show L2' (EE Q) [some (.fls (ns.map D.int)),some (.ref p),some (.tup (encs w)),none,none,none,none,none,none,none,none,none,none,none] μ2
 have main:∀ (w:List Dd) (μ3:Mu),Wd w->lims 4 w->SS p μ3->L3' (EE Q) [some (.fls (ns.map D.int)),some (.ref p),some (.tup (encs w)),none,none,none,none,none,none,none,none,none,none,none] μ3:=λ w μ3 wd lw ⟨a3,b3',e3,ha3⟩=>by
  refine ⟨Nat.zero_le _,λ g hg=>?_⟩
  have gp:g ≠ p:=λ h=>by subst h; rw [e3] at hg; cases hg
  refine ⟨p,9,a3,b3',rfl,by decide,by decide,by rw [xc0 (Ne.symm gp)]; exact e3,ha3,λ n a4 b4 n0 n1 ha4=>⟨⟨by omega,by omega⟩,?_⟩⟩
  refine tl0 (λ l ρ μ'=>∃ (ss:List St) (t:List Dd) (c5 c6:Option D),ρ=[some (.fls (ns.map D.int)),some (.ref p),some (.tup (encs w)),some (.ref g),some (.tup (encs t)),c5,c6,none,none,none,none,none,none,none] /\ μ' g=some (.lst (ss.map encS)) /\ SS p μ' /\ (∀ s ∈ ss,okS s) /\ wkR w ss=.ok t /\ Wd t /\ lims (4 * 2 ^ ss.length) t /\ ss.length + l.length<=8) ?_ (λ _ _ _ _=>trivial) ?_ ?_
  ·refine ⟨[],w,none,none,rfl,by rw [xc0 gp]; exact sa0,⟨a4,b4,sa0,ha4⟩,λ s hs=>(by cases hs),by simp [wkR],wd,by simpa using lw,?_⟩
   simp only [rngD,List.length_map,List.length_range,List.length_nil]
   omega
  ·rintro ρ μ' ⟨ss,t,c5,c6,rfl,hg',hs',hok,hw,wt,lt,hl'⟩
   have l8:ss.length<=8:=by simpa using hl'
   refine law6 q wd hok hw (sg0 ?_ t lt) l8 hg' gp hs'
   have:(2:Int) ^ ss.length<=2 ^ 8:=by
    have:=Nat.pow_le_pow_right (n:=2) (by decide) l8
    exact_mod_cast this
   omega
  ·rintro x l ρ μ' ⟨ss,t,c5,c6,rfl,hg',⟨a5,b5,e5,ha5⟩,hok,hw,wt,lt,hl'⟩
   rw [List.length_cons] at hl'
   have t2:=wt.2.1
   have t3:=wt.2.2
   refine ⟨p,t,a5,b5,rfl,wt,e5,ha5,λ k way i v a6 b6 μ6 x6 e6 ha6 hv vw wl ko=>?_⟩
   have oks1:okS (k,way,i):=sp3 (w:=t) (v:=v) wl ko
   have hg6:=x6 _ _ gp hg'
   have dk:dmk k:=oks1.2.1
   refine ⟨t,k,way,i,rfl,by omega,by omega,by omega,by omega,dk,λ μ7 x7=>?_⟩
   rw [hv]
   have dv:=vi1 oks1.2.2.2 hv
   refine ⟨v,rfl,by omega,by omega,λ f μ8 x8 hf=>?_⟩
   rw [<- yr1 wt oks1.2.2.1 hv] at hf
   have hg8:=x8 _ _ (x7 _ _ hg6)
   have e8:=x8 _ _ (x7 _ _ e6)
   cases f with
   | false=>exact ⟨ss,t,_,_,rfl,hg8,⟨a6,b6,e8,ha6⟩,hok,hw,wt,lt,by omega⟩
   | true =>
    have wv:=hf.mp rfl
    have happ:∀ K:VK3,K .non (updM μ8 g (.lst (ss.map encS ++ [yh0 k way i])))->mt3 appR (v3 3) (za0 (v3 6) nil3) [some (.fls (ns.map D.int)),some (.ref p),some (.tup (encs w)),some (.ref g),some (.tup (encs t)),some x,some (yh0 k way i),none,none,none,none,none,none,none] μ8 K:=λ K kk=>by
     simp only [mt3,v3,getI,hg8,za0,nil3,appR]
     exact ⟨by rw [List.length_map]; omega,kk⟩
    refine happ _ ?_
    refine ⟨t,k,way,i,rfl,by omega,by omega,by omega,by omega,dk,λ μ9 x9=>?_⟩
    rw [hv]
    have hg9:=x9 _ _ (sa0 (μ:=μ8) (a:=g) (o:=.lst (ss.map encS ++ [yh0 k way i])))
    have es:ss.map encS ++ [yh0 k way i]=(ss ++ [(k,way,i)]).map encS:=by simp [encS]
    rw [es] at hg9
    refine ⟨ss ++ [(k,way,i)],v,_,_,rfl,hg9,⟨a6,b6,x9 _ _ (by rw [xc0 (Ne.symm gp)]; exact e8),ha6⟩,λ s hs=>?_,?_,wv,?_,by rw [List.length_append,List.length_singleton]; omega⟩
    ·rcases List.mem_append.mp hs with h | h
     ·exact hok s h
     ·rw [List.mem_singleton.mp h]; exact oks1
    ·rw [uu0 hw,xn0 (s:=(k,way,i)) hv wv]
     simp [wkR]
    ·have hp:(1:Int)<=2 ^ ss.length:=by
       have:=Nat.one_le_two_pow (n:=ss.length)
       exact_mod_cast this
     have:=wz1 (by omega) lt ko hv
     rw [List.length_append,List.length_singleton,Int.pow_succ]
     rw [show 4 * (2 ^ ss.length * (2:Int))=2 * (4 * 2 ^ ss.length) by omega]
     exact this
 refine yv0 ?_
 refine ⟨w,rfl,by omega,by omega,λ f μ3 x3 hf=>?_⟩
 have e3:=x3 _ _ e2
 cases f with
 | true =>
  obtain ⟨f1,f2,f3⟩:=hf.mp rfl
  exact main w μ3 ⟨(tt1 w hs).1,f3,f2⟩ (xh1 w hs) ⟨a2,b2,e3,ha2⟩
 | false =>
  show L3' (EE Q) [some (.fls (ns.map D.int)),some (.ref p),some (.tup (cut3 (encs w) none (some 1))),none,none,none,none,none,none,none,none,none,none,none] μ3
  cases w with
  | nil=>exact main [] μ3 ⟨by simp [oks],by simp [deps],by simp [cnts]⟩ (by simp [lims]) ⟨a2,b2,e3,ha2⟩
  | cons d r =>
   have ec:cut3 (encs (d :: r)) none (some 1)=encs [d]:=by
    rw [vn0 _ (by decide) (by simp only [encs,List.length_cons]; omega)]; rfl
   rw [ec]
   simp only [sds,deps] at hs dw
   exact main [d] μ3 (un2 hs.1 (by omega)) (by simp only [lims]; exact ⟨vi2 d hs.1,trivial⟩) ⟨a2,b2,e3,ha2⟩
end Pv
namespace Pv
open PySem PySem.Spec PyProof.Rows L2
theorem bn1 {P:List Value->Prop} (h:∀ a,P [a]) (us:List Value) (e:us.length=1):P us:=by
 match us,e with
 | [a],_=>exact h a
theorem bn2 {P:List Value->Prop} (h:∀ a b,P [a,b]) (us:List Value) (e:us.length=2):P us:=by
 match us,e with
 | [a,b],_=>exact h a b
theorem bn3 {P:List Value->Prop} (h:∀ a b c,P [a,b,c]) (us:List Value) (e:us.length=3):P us:=by
 match us,e with
 | [a,b,c],_=>exact h a b c
theorem bn4 {P:List Value->Prop} (h:∀ a b c d,P [a,b,c,d]) (us:List Value) (e:us.length=4):P us:=by
 match us,e with
 | [a,b,c,d],_=>exact h a b c d
noncomputable abbrev NsR (K:Fg) (x:Str) (p:Addr):Prop:=PySem.W.nsIn K mainGlobals x=some (some (.ref p))
noncomputable def FnA (K:Fg) (x:Str) (st:Stmt) (p:Addr):Prop:=∃ oc od sl kV dc pm an cd ct,K.lookup p=some ⟨oc,od,.func (PySem.W.fnOf x x (up0 st) (wc0 st) (ta0 st) .none kV dc pm an cd ct),sl⟩ /\ PySem.W.codeIn K cd x=true /\ PySem.W.keepIn K (.ref p)=true
theorem fnA_mk {K:Fg} {x:Str} {st:Stmt} {p:Addr} {oc kV dc pm cd ct:Value} {od an:Option Addr} {sl:Array (Option Value)} (l:K.lookup p=some ⟨oc,od,.func (PySem.W.fnOf x x (up0 st) (wc0 st) (ta0 st) .none kV dc pm an cd ct),sl⟩) (c:PySem.W.codeIn K cd x=true) (k:PySem.W.keepIn K (.ref p)=true):FnA K x st p:=⟨_,_,_,_,_,_,_,_,_,l,c,k⟩
theorem FnA.fn {K:Fg} {x:Str} {st:Stmt} {p:Addr} (h:FnA K x st p):∃ fd,Fun K x x st p fd:=by
 obtain ⟨_,_,_,_,_,_,_,_,_,l,c,k⟩:=h
 exact ⟨_,sj2 (st:=st) l c k⟩
theorem all_mk {l:PySem.W.OpenLaw} {w:World} {K:Fg} {h:Heap} {mg:Str->Option Value} {fa:Addr} (X:K.In h) (G:h.Ns mainGlobals mg) (hfa:mg "law" = some (.ref fa))
    {p_q18:Addr}
    {p_q19:Addr}
    {p_q20:Addr}
    {p_q17:Addr}
    {p_q34:Addr}
    {p_q26:Addr}
    {p_q35:Addr}
    {p_q16:Addr}
    {p_q22:Addr}
    {p_q25:Addr}
    {p_q28:Addr}
    {p_q32:Addr}
    {p_q30:Addr}
    {p_q33:Addr}
    {p_q27:Addr}
    {p_q31:Addr}
    {p_q21:Addr}
    {p_q23:Addr}
    {p_q24:Addr}
    {p_q15:Addr}
    {p_q9:Addr}
    {p_q11:Addr}
    {p_q2:Addr}
    {p_q3:Addr}
    {p_q6:Addr}
    {p_q1:Addr}
    {p_q0:Addr}
    {p_q8:Addr}
    {p_q5:Addr}
    {p_q13:Addr}
    {p_q10:Addr}
    {p_q7:Addr}
    {p_q14:Addr}
    {p_q12:Addr}
    {p_q4:Addr}
    {p_q29:Addr}
    {t_1:Tok}
    {t_2:Tok}
    {t_3:Tok}
    {t_5:Tok}
    {t_6:Tok}
    {t_7:Tok}
    {q_4:Addr} {qo_4:Option Addr} {qn_4:Nat} {qs_4:Array (Option Value)}
    {t_9:Tok}
    {t_10:Tok}
    {q_8:Addr} {qo_8:Option Addr} {qn_8:Nat} {qs_8:Array (Option Value)}
    {t_12:Tok}
    {t_13:Tok}
    {t_14:Tok}
    {q_11:Addr} {qo_11:Option Addr} {qn_11:Nat} {qs_11:Array (Option Value)}
    {a_CHANGES:Addr} {es_CHANGES:Array DictEntry} {en_CHANGES:Nat}
    {a_DEEDS_TAKEN:Addr} {es_DEEDS_TAKEN:Array DictEntry} {en_DEEDS_TAKEN:Nat}
    {mt_DEEDS_TAKEN_0:Tok}
    {mt_DEEDS_TAKEN_1:Tok}
    {mt_DEEDS_TAKEN_2:Tok}
    {mt_DEEDS_TAKEN_3:Tok}
    {mt_DEEDS_TAKEN_4:Tok}
    {mt_DEEDS_TAKEN_5:Tok}
    {mt_DEEDS_TAKEN_6:Tok}
    {C_BadNote:Addr} {cdt_BadNote:ClassData}
    {C_NoNumber:Addr} {cdt_NoNumber:ClassData}
    {C_NoPicture:Addr} {cdt_NoPicture:ClassData}
    {C_NoRoom:Addr} {cdt_NoRoom:ClassData}
    {C_NoStep:Addr} {cdt_NoStep:ClassData}
    {C_NoWord:Addr} {cdt_NoWord:ClassData}
    {C_PenError:Addr} {cdt_PenError:ClassData}
    (a_q18:NsR K "check_word" p_q18) (A_q18:FnA K "check_word" xo1 p_q18)
    (a_q19:NsR K "checked_count" p_q19) (A_q19:FnA K "checked_count" sn1 p_q19)
    (a_q20:NsR K "checked_deed_count" p_q20) (A_q20:FnA K "checked_deed_count" tn1 p_q20)
    (a_q17:NsR K "check_number" p_q17) (A_q17:FnA K "check_number" yo1 p_q17)
    (a_q34:NsR K "walked" p_q34) (A_q34:FnA K "walked" ym1 p_q34)
    (a_q26:NsR K "holds" p_q26) (A_q26:FnA K "holds" xn1 p_q26)
    (a_q35:NsR K "word_behind" p_q35) (A_q35:FnA K "word_behind" xm1 p_q35)
    (a_q16:NsR K "changed_word" p_q16) (A_q16:FnA K "changed_word" zo1 p_q16)
    (a_q22:NsR K "deeds_from" p_q22) (A_q22:FnA K "deeds_from" vn1 p_q22)
    (a_q25:NsR K "exchanged" p_q25) (A_q25:FnA K "exchanged" yn1 p_q25)
    (a_q28:NsR K "join_deeds" p_q28) (A_q28:FnA K "join_deeds" tm1 p_q28)
    (a_q32:NsR K "part_deed" p_q32) (A_q32:FnA K "part_deed" wm1 p_q32)
    (a_q30:NsR K "leave_out" p_q30) (A_q30:FnA K "leave_out" um1 p_q30)
    (a_q33:NsR K "put_in" p_q33) (A_q33:FnA K "put_in" zm1 p_q33)
    (a_q27:NsR K "is_idle" p_q27) (A_q27:FnA K "is_idle" sm1 p_q27)
    (a_q31:NsR K "open_times" p_q31) (A_q31:FnA K "open_times" vm1 p_q31)
    (a_q21:NsR K "close_deeds" p_q21) (A_q21:FnA K "close_deeds" un1 p_q21)
    (a_q23:NsR K "draw_once" p_q23) (A_q23:FnA K "draw_once" wn1 p_q23)
    (a_q24:NsR K "draw_twice" p_q24) (A_q24:FnA K "draw_twice" zn1 p_q24)
    (a_q15:NsR K "changed_deeds" p_q15) (A_q15:FnA K "changed_deeds" wo1 p_q15)
    (a_q9:NsR K "_law_state" p_q9) (A_q9:FnA K "_law_state" s_q9 p_q9)
    (a_q11:NsR K "_law_take" p_q11) (A_q11:FnA K "_law_take" so1 p_q11)
    (a_q2:NsR K "_law_deed" p_q2) (A_q2:FnA K "_law_deed" s_q2 p_q2)
    (a_q3:NsR K "_law_deeds" p_q3) (A_q3:FnA K "_law_deeds" s_q3 p_q3)
    (a_q6:NsR K "_law_idle" p_q6) (A_q6:FnA K "_law_idle" s_q6 p_q6)
    (a_q1:NsR K "_law_change" p_q1) (A_q1:FnA K "_law_change" s_q1 p_q1)
    (a_q0:NsR K "_law_after" p_q0) (A_q0:FnA K "_law_after" s_q0 p_q0)
    (a_q8:NsR K "_law_size" p_q8) (A_q8:FnA K "_law_size" s_q8 p_q8)
    (a_q5:NsR K "_law_fits" p_q5) (A_q5:FnA K "_law_fits" s_q5 p_q5)
    (a_q13:NsR K "_law_way" p_q13) (A_q13:FnA K "_law_way" uo1 p_q13)
    (a_q10:NsR K "_law_step" p_q10) (A_q10:FnA K "_law_step" xp1 p_q10)
    (a_q7:NsR K "_law_idle_one" p_q7) (A_q7:FnA K "_law_idle_one" s_q7 p_q7)
    (a_q14:NsR K "_law_which" p_q14) (A_q14:FnA K "_law_which" vo1 p_q14)
    (a_q12:NsR K "_law_told" p_q12) (A_q12:FnA K "_law_told" to1 p_q12)
    (a_q4:NsR K "_law_end" p_q4) (A_q4:FnA K "_law_end" s_q4 p_q4)
    (a_q29:NsR K "law" p_q29) (A_q29:FnA K "law" zy0 p_q29)
    (e_MOST_DEEDS:PySem.W.nsIn K mainGlobals "MOST_DEEDS" = some (some (.int (30) t_1)))
    (e_MOST_DEEP:PySem.W.nsIn K mainGlobals "MOST_DEEP" = some (some (.int (4) t_2)))
    (e_GREATEST_NUMBER:PySem.W.nsIn K mainGlobals "GREATEST_NUMBER" = some (some (.int (99999999999999999999) t_3)))
    (e_PLAIN_KINDS:PySem.W.nsIn K mainGlobals "PLAIN_KINDS" = some (some (.ref q_4)))
    (ql_4:K.lookup q_4=some ⟨.type "tuple",qo_4,.seq #[.str "go" t_5,.str "jump" t_6,.str "turn" t_7] qn_4,qs_4⟩)
    (e_KINDS_FROM_NOUGHT:PySem.W.nsIn K mainGlobals "KINDS_FROM_NOUGHT" = some (some (.ref q_8)))
    (ql_8:K.lookup q_8=some ⟨.type "tuple",qo_8,.seq #[.str "go" t_9,.str "times" t_10] qn_8,qs_8⟩)
    (e_KINDS_WITH_NEED:PySem.W.nsIn K mainGlobals "KINDS_WITH_NEED" = some (some (.ref q_11)))
    (ql_11:K.lookup q_11=some ⟨.type "tuple",qo_11,.seq #[.str "part" t_12,.str "in" t_13,.str "close" t_14] qn_11,qs_11⟩)
    (e_CHANGES:PySem.W.nsIn K mainGlobals "CHANGES" = some (some (.ref a_CHANGES)))
    (lk_CHANGES:K.lookup a_CHANGES=some ⟨.type "dict",none,.dict es_CHANGES en_CHANGES,#[]⟩)
    (kl_CHANGES:PySem.W.KeysLit w.params es_CHANGES.toList)
    (sm_CHANGES:(a_CHANGES == sysModules)=false)
    (me_CHANGES_join_deeds:PySem.W.nsIn K a_CHANGES "join" = some (some (.ref p_q28)))
    (me_CHANGES_part_deed:PySem.W.nsIn K a_CHANGES "part" = some (some (.ref p_q32)))
    (me_CHANGES_leave_out:PySem.W.nsIn K a_CHANGES "out" = some (some (.ref p_q30)))
    (me_CHANGES_put_in:PySem.W.nsIn K a_CHANGES "in" = some (some (.ref p_q33)))
    (me_CHANGES_open_times:PySem.W.nsIn K a_CHANGES "open" = some (some (.ref p_q31)))
    (me_CHANGES_close_deeds:PySem.W.nsIn K a_CHANGES "close" = some (some (.ref p_q21)))
    (me_CHANGES_draw_once:PySem.W.nsIn K a_CHANGES "once" = some (some (.ref p_q23)))
    (me_CHANGES_draw_twice:PySem.W.nsIn K a_CHANGES "twice" = some (some (.ref p_q24)))
    (e_DEEDS_TAKEN:PySem.W.nsIn K mainGlobals "DEEDS_TAKEN" = some (some (.ref a_DEEDS_TAKEN)))
    (lk_DEEDS_TAKEN:K.lookup a_DEEDS_TAKEN=some ⟨.type "dict",none,.dict es_DEEDS_TAKEN en_DEEDS_TAKEN,#[]⟩)
    (kl_DEEDS_TAKEN:PySem.W.KeysLit w.params es_DEEDS_TAKEN.toList)
    (sm_DEEDS_TAKEN:(a_DEEDS_TAKEN == sysModules)=false)
    (me_DEEDS_TAKEN_0:PySem.W.nsIn K a_DEEDS_TAKEN "join" = some (some (.int 2 mt_DEEDS_TAKEN_0)))
    (me_DEEDS_TAKEN_1:PySem.W.nsIn K a_DEEDS_TAKEN "part" = some (some (.int 1 mt_DEEDS_TAKEN_1)))
    (me_DEEDS_TAKEN_2:PySem.W.nsIn K a_DEEDS_TAKEN "out" = some (some (.int 1 mt_DEEDS_TAKEN_2)))
    (me_DEEDS_TAKEN_3:PySem.W.nsIn K a_DEEDS_TAKEN "in" = some (some (.int 0 mt_DEEDS_TAKEN_3)))
    (me_DEEDS_TAKEN_4:PySem.W.nsIn K a_DEEDS_TAKEN "open" = some (some (.int 1 mt_DEEDS_TAKEN_4)))
    (me_DEEDS_TAKEN_5:PySem.W.nsIn K a_DEEDS_TAKEN "once" = some (some (.int 3 mt_DEEDS_TAKEN_5)))
    (me_DEEDS_TAKEN_6:PySem.W.nsIn K a_DEEDS_TAKEN "twice" = some (some (.int 1 mt_DEEDS_TAKEN_6)))
    (ac_BadNote:PySem.W.nsIn K mainGlobals "BadNote" = some (some (.ref C_BadNote)))
    (cl_BadNote:PySem.W.clsIn K C_BadNote=some cdt_BadNote)
    (tc_BadNote:PySem.W.typeIn K (.ref C_BadNote)=some (.type "type"))
    (ac_NoNumber:PySem.W.nsIn K mainGlobals "NoNumber" = some (some (.ref C_NoNumber)))
    (cl_NoNumber:PySem.W.clsIn K C_NoNumber=some cdt_NoNumber)
    (tc_NoNumber:PySem.W.typeIn K (.ref C_NoNumber)=some (.type "type"))
    (ac_NoPicture:PySem.W.nsIn K mainGlobals "NoPicture" = some (some (.ref C_NoPicture)))
    (cl_NoPicture:PySem.W.clsIn K C_NoPicture=some cdt_NoPicture)
    (tc_NoPicture:PySem.W.typeIn K (.ref C_NoPicture)=some (.type "type"))
    (ac_NoRoom:PySem.W.nsIn K mainGlobals "NoRoom" = some (some (.ref C_NoRoom)))
    (cl_NoRoom:PySem.W.clsIn K C_NoRoom=some cdt_NoRoom)
    (tc_NoRoom:PySem.W.typeIn K (.ref C_NoRoom)=some (.type "type"))
    (ac_NoStep:PySem.W.nsIn K mainGlobals "NoStep" = some (some (.ref C_NoStep)))
    (cl_NoStep:PySem.W.clsIn K C_NoStep=some cdt_NoStep)
    (tc_NoStep:PySem.W.typeIn K (.ref C_NoStep)=some (.type "type"))
    (ac_NoWord:PySem.W.nsIn K mainGlobals "NoWord" = some (some (.ref C_NoWord)))
    (cl_NoWord:PySem.W.clsIn K C_NoWord=some cdt_NoWord)
    (tc_NoWord:PySem.W.typeIn K (.ref C_NoWord)=some (.type "type"))
    (ac_PenError:PySem.W.nsIn K mainGlobals "PenError" = some (some (.ref C_PenError)))
    (cl_PenError:PySem.W.clsIn K C_PenError=some cdt_PenError)
    (tc_PenError:PySem.W.typeIn K (.ref C_PenError)=some (.type "type"))
    (q_NoRoom:PySem.W.excIn K C_NoRoom [.type "ValueError",.type "Exception",.type "BaseException",.type "object"] "ValueError.__new__" = true)
    (ek0_NoRoom:PySem.W.findIn K (.ref C_NoRoom) "__getattribute__" = some (some (.builtin "BaseException.__getattribute__")))
    (ek1_NoRoom:PySem.W.findIn K (.ref C_NoRoom) "__getattr__" = some none)
    (ek2_NoRoom:PySem.W.mroIn K C_NoRoom (.type "BaseException")=some true)
    (ek4_NoRoom:PySem.W.findIn K (.ref C_NoRoom) "__class__" = some (some (.builtin "object.__class__")))
    (ek5_NoRoom:PySem.W.specialIn K (.builtin "object.__class__") "__get__" = some (some (.builtin "getset_descriptor.__get__")))
    (ek6_NoRoom:PySem.W.takesIn K (.builtin "object.__class__")=some true)
    (ek7_NoRoom:PySem.W.mroIn K C_NoRoom (.type "object")=some true)
    (q_NoStep:PySem.W.excIn K C_NoStep [.type "ValueError",.type "Exception",.type "BaseException",.type "object"] "ValueError.__new__" = true)
    (ek0_NoStep:PySem.W.findIn K (.ref C_NoStep) "__getattribute__" = some (some (.builtin "BaseException.__getattribute__")))
    (ek1_NoStep:PySem.W.findIn K (.ref C_NoStep) "__getattr__" = some none)
    (ek2_NoStep:PySem.W.mroIn K C_NoStep (.type "BaseException")=some true)
    (ek4_NoStep:PySem.W.findIn K (.ref C_NoStep) "__class__" = some (some (.builtin "object.__class__")))
    (ek5_NoStep:PySem.W.specialIn K (.builtin "object.__class__") "__get__" = some (some (.builtin "getset_descriptor.__get__")))
    (ek6_NoStep:PySem.W.takesIn K (.builtin "object.__class__")=some true)
    (ek7_NoStep:PySem.W.mroIn K C_NoStep (.type "object")=some true)
    (q_NoWord:PySem.W.excIn K C_NoWord [.type "ValueError",.type "Exception",.type "BaseException",.type "object"] "ValueError.__new__" = true)
    (ek0_NoWord:PySem.W.findIn K (.ref C_NoWord) "__getattribute__" = some (some (.builtin "BaseException.__getattribute__")))
    (ek1_NoWord:PySem.W.findIn K (.ref C_NoWord) "__getattr__" = some none)
    (ek2_NoWord:PySem.W.mroIn K C_NoWord (.type "BaseException")=some true)
    (ek4_NoWord:PySem.W.findIn K (.ref C_NoWord) "__class__" = some (some (.builtin "object.__class__")))
    (ek5_NoWord:PySem.W.specialIn K (.builtin "object.__class__") "__get__" = some (some (.builtin "getset_descriptor.__get__")))
    (ek6_NoWord:PySem.W.takesIn K (.builtin "object.__class__")=some true)
    (ek7_NoWord:PySem.W.mroIn K C_NoWord (.type "object")=some true)
    (sb_NoRoom_BadNote:PySem.W.subIn K (.ref C_NoRoom) (.ref C_BadNote)=some false)
    (ne_NoRoom_BadNote:(Value.ref C_NoRoom == Value.ref C_BadNote)=false)
    (sb_NoStep_BadNote:PySem.W.subIn K (.ref C_NoStep) (.ref C_BadNote)=some false)
    (ne_NoStep_BadNote:(Value.ref C_NoStep == Value.ref C_BadNote)=false)
    (sb_NoWord_BadNote:PySem.W.subIn K (.ref C_NoWord) (.ref C_BadNote)=some false)
    (ne_NoWord_BadNote:(Value.ref C_NoWord == Value.ref C_BadNote)=false)
    (sb_NoRoom_NoNumber:PySem.W.subIn K (.ref C_NoRoom) (.ref C_NoNumber)=some false)
    (ne_NoRoom_NoNumber:(Value.ref C_NoRoom == Value.ref C_NoNumber)=false)
    (sb_NoStep_NoNumber:PySem.W.subIn K (.ref C_NoStep) (.ref C_NoNumber)=some false)
    (ne_NoStep_NoNumber:(Value.ref C_NoStep == Value.ref C_NoNumber)=false)
    (sb_NoWord_NoNumber:PySem.W.subIn K (.ref C_NoWord) (.ref C_NoNumber)=some false)
    (ne_NoWord_NoNumber:(Value.ref C_NoWord == Value.ref C_NoNumber)=false)
    (sb_NoRoom_NoPicture:PySem.W.subIn K (.ref C_NoRoom) (.ref C_NoPicture)=some false)
    (ne_NoRoom_NoPicture:(Value.ref C_NoRoom == Value.ref C_NoPicture)=false)
    (sb_NoStep_NoPicture:PySem.W.subIn K (.ref C_NoStep) (.ref C_NoPicture)=some false)
    (ne_NoStep_NoPicture:(Value.ref C_NoStep == Value.ref C_NoPicture)=false)
    (sb_NoWord_NoPicture:PySem.W.subIn K (.ref C_NoWord) (.ref C_NoPicture)=some false)
    (ne_NoWord_NoPicture:(Value.ref C_NoWord == Value.ref C_NoPicture)=false)
    (sb_NoStep_NoRoom:PySem.W.subIn K (.ref C_NoStep) (.ref C_NoRoom)=some false)
    (ne_NoStep_NoRoom:(Value.ref C_NoStep == Value.ref C_NoRoom)=false)
    (sb_NoWord_NoRoom:PySem.W.subIn K (.ref C_NoWord) (.ref C_NoRoom)=some false)
    (ne_NoWord_NoRoom:(Value.ref C_NoWord == Value.ref C_NoRoom)=false)
    (sb_NoRoom_NoStep:PySem.W.subIn K (.ref C_NoRoom) (.ref C_NoStep)=some false)
    (ne_NoRoom_NoStep:(Value.ref C_NoRoom == Value.ref C_NoStep)=false)
    (sb_NoWord_NoStep:PySem.W.subIn K (.ref C_NoWord) (.ref C_NoStep)=some false)
    (ne_NoWord_NoStep:(Value.ref C_NoWord == Value.ref C_NoStep)=false)
    (sb_NoRoom_NoWord:PySem.W.subIn K (.ref C_NoRoom) (.ref C_NoWord)=some false)
    (ne_NoRoom_NoWord:(Value.ref C_NoRoom == Value.ref C_NoWord)=false)
    (sb_NoStep_NoWord:PySem.W.subIn K (.ref C_NoStep) (.ref C_NoWord)=some false)
    (ne_NoStep_NoWord:(Value.ref C_NoStep == Value.ref C_NoWord)=false)
    (sb_NoRoom_ValueError:PySem.W.subIn K (.ref C_NoRoom) (.type "ValueError")=some true)
    (sb_NoStep_ValueError:PySem.W.subIn K (.ref C_NoStep) (.type "ValueError")=some true)
    (sb_NoWord_ValueError:PySem.W.subIn K (.ref C_NoWord) (.type "ValueError")=some true)
    (k3s:PySem.W.subIn K (.type "type") (.type "tuple")=some false)
    (k2s_PenError:PySem.W.subIn K (.ref C_PenError) (.type "BaseException")=some true)
    (sb_NoRoom_PenError:PySem.W.subIn K (.ref C_NoRoom) (.ref C_PenError)=some true)
    (sb_NoStep_PenError:PySem.W.subIn K (.ref C_NoStep) (.ref C_PenError)=some true)
    (sb_NoWord_PenError:PySem.W.subIn K (.ref C_NoWord) (.ref C_PenError)=some true)
    (k2s_NoWord:PySem.W.subIn K (.ref C_NoWord) (.type "BaseException")=some true)
    (sb_NoWord_NoWord:PySem.W.subIn K (.ref C_NoWord) (.ref C_NoWord)=some true)
    (k2s_NoStep:PySem.W.subIn K (.ref C_NoStep) (.type "BaseException")=some true)
    (sb_NoStep_NoStep:PySem.W.subIn K (.ref C_NoStep) (.ref C_NoStep)=some true)
    (k2s_NoRoom:PySem.W.subIn K (.ref C_NoRoom) (.type "BaseException")=some true)
    (sb_NoRoom_NoRoom:PySem.W.subIn K (.ref C_NoRoom) (.ref C_NoRoom)=some true)
    (zz_ValueError:PySem.W.nsIn K mainGlobals "ValueError" = some none)
    (zz_abs:PySem.W.nsIn K mainGlobals "abs" = some none)
    (zz_int:PySem.W.nsIn K mainGlobals "int" = some none)
    (zz_isinstance:PySem.W.nsIn K mainGlobals "isinstance" = some none)
    (zz_len:PySem.W.nsIn K mainGlobals "len" = some none)
    (zz_list:PySem.W.nsIn K mainGlobals "list" = some none)
    (zz_max:PySem.W.nsIn K mainGlobals "max" = some none)
    (zz_range:PySem.W.nsIn K mainGlobals "range" = some none)
    (zz_tuple:PySem.W.nsIn K mainGlobals "tuple" = some none) :
    ∃ fd:FuncData,(∀ (s:Shared) (v:Value),BindsTo s fd ⟨[v],[]⟩ [("script",v)]) /\ ∀ base:Heap,K.In base->base.Ns mainGlobals mg->FnOk l.prog w K mg base CX0 21 fa fd ["script"] (lift K ta2):=by
 have e:=hfa.symm.trans (PySem.W.mg_of X G a_q29)
 cases e
 have g_MOST_DEEDS:Gd K mg "MOST_DEEDS" wp0:=uw1 X G e_MOST_DEEDS
 have g_MOST_DEEP:Gd K mg "MOST_DEEP" wr0:=uw1 X G e_MOST_DEEP
 have g_GREATEST_NUMBER:Gd K mg "GREATEST_NUMBER" yi0:=uw1 X G e_GREATEST_NUMBER
 have g_PLAIN_KINDS:Gd K mg "PLAIN_KINDS" wn0:=vw1 X G e_PLAIN_KINDS (TupK.mk ql_4 (show 3<=sizeLine by decide) (.str (.str (.str .nil))))
 have g_KINDS_FROM_NOUGHT:Gd K mg "KINDS_FROM_NOUGHT" we0:=vw1 X G e_KINDS_FROM_NOUGHT (TupK.mk ql_8 (show 2<=sizeLine by decide) (.str (.str .nil)))
 have g_KINDS_WITH_NEED:Gd K mg "KINDS_WITH_NEED" yf0:=vw1 X G e_KINDS_WITH_NEED (TupK.mk ql_11 (show 3<=sizeLine by decide) (.str (.str (.str .nil))))
 have md_CHANGES:Mdc w K mg "CHANGES" a_CHANGES:=⟨PySem.W.mg_of X G e_CHANGES,sm_CHANGES,_,_,lk_CHANGES,kl_CHANGES⟩
 have mn_CHANGES_ok:=wb1 me_CHANGES_join_deeds me_CHANGES_part_deed me_CHANGES_leave_out me_CHANGES_put_in me_CHANGES_open_times me_CHANGES_close_deeds me_CHANGES_draw_once me_CHANGES_draw_twice
 have md_DEEDS_TAKEN:Mdc w K mg "DEEDS_TAKEN" a_DEEDS_TAKEN:=⟨PySem.W.mg_of X G e_DEEDS_TAKEN,sm_DEEDS_TAKEN,_,_,lk_DEEDS_TAKEN,kl_DEEDS_TAKEN⟩
 have mi_DEEDS_TAKEN_ok:=zs0 me_DEEDS_TAKEN_0 me_DEEDS_TAKEN_1 me_DEEDS_TAKEN_2 me_DEEDS_TAKEN_3 me_DEEDS_TAKEN_4 me_DEEDS_TAKEN_5 me_DEEDS_TAKEN_6
 have m_BadNote:=PySem.W.mg_of X G ac_BadNote
 have m_NoNumber:=PySem.W.mg_of X G ac_NoNumber
 have m_NoPicture:=PySem.W.mg_of X G ac_NoPicture
 have m_NoRoom:=PySem.W.mg_of X G ac_NoRoom
 have m_NoStep:=PySem.W.mg_of X G ac_NoStep
 have m_NoWord:=PySem.W.mg_of X G ac_NoWord
 have m_PenError:=PySem.W.mg_of X G ac_PenError
 have EK_NoRoom:ExcK K C_NoRoom:=⟨ek0_NoRoom,ek1_NoRoom,ek2_NoRoom,(by rw [cl_NoRoom]; rfl),ek4_NoRoom,ek5_NoRoom,ek6_NoRoom,ek7_NoRoom⟩
 have EK_NoStep:ExcK K C_NoStep:=⟨ek0_NoStep,ek1_NoStep,ek2_NoStep,(by rw [cl_NoStep]; rfl),ek4_NoStep,ek5_NoStep,ek6_NoStep,ek7_NoStep⟩
 have EK_NoWord:ExcK K C_NoWord:=⟨ek0_NoWord,ek1_NoWord,ek2_NoWord,(by rw [cl_NoWord]; rfl),ek4_NoWord,ek5_NoWord,ek6_NoWord,ek7_NoWord⟩
 have kk_NoRoom_BadNote:PySem.W.kitOne K (.ref C_NoRoom) (.ref C_BadNote)=some false:=sf0 ne_NoRoom_BadNote (ud0 cl_BadNote tc_BadNote sb_NoRoom_BadNote)
 have kk_NoStep_BadNote:PySem.W.kitOne K (.ref C_NoStep) (.ref C_BadNote)=some false:=sf0 ne_NoStep_BadNote (ud0 cl_BadNote tc_BadNote sb_NoStep_BadNote)
 have kk_NoWord_BadNote:PySem.W.kitOne K (.ref C_NoWord) (.ref C_BadNote)=some false:=sf0 ne_NoWord_BadNote (ud0 cl_BadNote tc_BadNote sb_NoWord_BadNote)
 have x_BadNote:∀ c C b,subX "BadNote" c=some b->PySem.W.nsIn K mainGlobals c=some (some (.ref C))->ExcK K C /\ PySem.W.kitOne K (.ref C) (.ref C_BadNote)=some b:=by
  intro c C b hs hn
  have hin:=yr0 hs
  simp only [xnames,List.mem_cons,List.not_mem_nil,or_false] at hin
  rcases hin with rfl | rfl | rfl
  ·rw [ac_NoRoom] at hn
   cases hn
   rw [show subX "BadNote" "NoRoom" = some false by decide] at hs
   cases hs
   exact ⟨EK_NoRoom,kk_NoRoom_BadNote⟩
  ·rw [ac_NoStep] at hn
   cases hn
   rw [show subX "BadNote" "NoStep" = some false by decide] at hs
   cases hs
   exact ⟨EK_NoStep,kk_NoStep_BadNote⟩
  ·rw [ac_NoWord] at hn
   cases hn
   rw [show subX "BadNote" "NoWord" = some false by decide] at hs
   cases hs
   exact ⟨EK_NoWord,kk_NoWord_BadNote⟩
 have kk_NoRoom_NoNumber:PySem.W.kitOne K (.ref C_NoRoom) (.ref C_NoNumber)=some false:=sf0 ne_NoRoom_NoNumber (ud0 cl_NoNumber tc_NoNumber sb_NoRoom_NoNumber)
 have kk_NoStep_NoNumber:PySem.W.kitOne K (.ref C_NoStep) (.ref C_NoNumber)=some false:=sf0 ne_NoStep_NoNumber (ud0 cl_NoNumber tc_NoNumber sb_NoStep_NoNumber)
 have kk_NoWord_NoNumber:PySem.W.kitOne K (.ref C_NoWord) (.ref C_NoNumber)=some false:=sf0 ne_NoWord_NoNumber (ud0 cl_NoNumber tc_NoNumber sb_NoWord_NoNumber)
 have x_NoNumber:∀ c C b,subX "NoNumber" c=some b->PySem.W.nsIn K mainGlobals c=some (some (.ref C))->ExcK K C /\ PySem.W.kitOne K (.ref C) (.ref C_NoNumber)=some b:=by
  intro c C b hs hn
  have hin:=yr0 hs
  simp only [xnames,List.mem_cons,List.not_mem_nil,or_false] at hin
  rcases hin with rfl | rfl | rfl
  ·rw [ac_NoRoom] at hn
   cases hn
   rw [show subX "NoNumber" "NoRoom" = some false by decide] at hs
   cases hs
   exact ⟨EK_NoRoom,kk_NoRoom_NoNumber⟩
  ·rw [ac_NoStep] at hn
   cases hn
   rw [show subX "NoNumber" "NoStep" = some false by decide] at hs
   cases hs
   exact ⟨EK_NoStep,kk_NoStep_NoNumber⟩
  ·rw [ac_NoWord] at hn
   cases hn
   rw [show subX "NoNumber" "NoWord" = some false by decide] at hs
   cases hs
   exact ⟨EK_NoWord,kk_NoWord_NoNumber⟩
 have kk_NoRoom_NoPicture:PySem.W.kitOne K (.ref C_NoRoom) (.ref C_NoPicture)=some false:=sf0 ne_NoRoom_NoPicture (ud0 cl_NoPicture tc_NoPicture sb_NoRoom_NoPicture)
 have kk_NoStep_NoPicture:PySem.W.kitOne K (.ref C_NoStep) (.ref C_NoPicture)=some false:=sf0 ne_NoStep_NoPicture (ud0 cl_NoPicture tc_NoPicture sb_NoStep_NoPicture)
 have kk_NoWord_NoPicture:PySem.W.kitOne K (.ref C_NoWord) (.ref C_NoPicture)=some false:=sf0 ne_NoWord_NoPicture (ud0 cl_NoPicture tc_NoPicture sb_NoWord_NoPicture)
 have x_NoPicture:∀ c C b,subX "NoPicture" c=some b->PySem.W.nsIn K mainGlobals c=some (some (.ref C))->ExcK K C /\ PySem.W.kitOne K (.ref C) (.ref C_NoPicture)=some b:=by
  intro c C b hs hn
  have hin:=yr0 hs
  simp only [xnames,List.mem_cons,List.not_mem_nil,or_false] at hin
  rcases hin with rfl | rfl | rfl
  ·rw [ac_NoRoom] at hn
   cases hn
   rw [show subX "NoPicture" "NoRoom" = some false by decide] at hs
   cases hs
   exact ⟨EK_NoRoom,kk_NoRoom_NoPicture⟩
  ·rw [ac_NoStep] at hn
   cases hn
   rw [show subX "NoPicture" "NoStep" = some false by decide] at hs
   cases hs
   exact ⟨EK_NoStep,kk_NoStep_NoPicture⟩
  ·rw [ac_NoWord] at hn
   cases hn
   rw [show subX "NoPicture" "NoWord" = some false by decide] at hs
   cases hs
   exact ⟨EK_NoWord,kk_NoWord_NoPicture⟩
 have kk_NoRoom_NoRoom:PySem.W.kitOne K (.ref C_NoRoom) (.ref C_NoRoom)=some true:=zw0
 have kk_NoStep_NoRoom:PySem.W.kitOne K (.ref C_NoStep) (.ref C_NoRoom)=some false:=sf0 ne_NoStep_NoRoom (ud0 cl_NoRoom tc_NoRoom sb_NoStep_NoRoom)
 have kk_NoWord_NoRoom:PySem.W.kitOne K (.ref C_NoWord) (.ref C_NoRoom)=some false:=sf0 ne_NoWord_NoRoom (ud0 cl_NoRoom tc_NoRoom sb_NoWord_NoRoom)
 have x_NoRoom:∀ c C b,subX "NoRoom" c=some b->PySem.W.nsIn K mainGlobals c=some (some (.ref C))->ExcK K C /\ PySem.W.kitOne K (.ref C) (.ref C_NoRoom)=some b:=by
  intro c C b hs hn
  have hin:=yr0 hs
  simp only [xnames,List.mem_cons,List.not_mem_nil,or_false] at hin
  rcases hin with rfl | rfl | rfl
  ·rw [ac_NoRoom] at hn
   cases hn
   rw [show subX "NoRoom" "NoRoom" = some true by decide] at hs
   cases hs
   exact ⟨EK_NoRoom,kk_NoRoom_NoRoom⟩
  ·rw [ac_NoStep] at hn
   cases hn
   rw [show subX "NoRoom" "NoStep" = some false by decide] at hs
   cases hs
   exact ⟨EK_NoStep,kk_NoStep_NoRoom⟩
  ·rw [ac_NoWord] at hn
   cases hn
   rw [show subX "NoRoom" "NoWord" = some false by decide] at hs
   cases hs
   exact ⟨EK_NoWord,kk_NoWord_NoRoom⟩
 have kk_NoRoom_NoStep:PySem.W.kitOne K (.ref C_NoRoom) (.ref C_NoStep)=some false:=sf0 ne_NoRoom_NoStep (ud0 cl_NoStep tc_NoStep sb_NoRoom_NoStep)
 have kk_NoStep_NoStep:PySem.W.kitOne K (.ref C_NoStep) (.ref C_NoStep)=some true:=zw0
 have kk_NoWord_NoStep:PySem.W.kitOne K (.ref C_NoWord) (.ref C_NoStep)=some false:=sf0 ne_NoWord_NoStep (ud0 cl_NoStep tc_NoStep sb_NoWord_NoStep)
 have x_NoStep:∀ c C b,subX "NoStep" c=some b->PySem.W.nsIn K mainGlobals c=some (some (.ref C))->ExcK K C /\ PySem.W.kitOne K (.ref C) (.ref C_NoStep)=some b:=by
  intro c C b hs hn
  have hin:=yr0 hs
  simp only [xnames,List.mem_cons,List.not_mem_nil,or_false] at hin
  rcases hin with rfl | rfl | rfl
  ·rw [ac_NoRoom] at hn
   cases hn
   rw [show subX "NoStep" "NoRoom" = some false by decide] at hs
   cases hs
   exact ⟨EK_NoRoom,kk_NoRoom_NoStep⟩
  ·rw [ac_NoStep] at hn
   cases hn
   rw [show subX "NoStep" "NoStep" = some true by decide] at hs
   cases hs
   exact ⟨EK_NoStep,kk_NoStep_NoStep⟩
  ·rw [ac_NoWord] at hn
   cases hn
   rw [show subX "NoStep" "NoWord" = some false by decide] at hs
   cases hs
   exact ⟨EK_NoWord,kk_NoWord_NoStep⟩
 have kk_NoRoom_NoWord:PySem.W.kitOne K (.ref C_NoRoom) (.ref C_NoWord)=some false:=sf0 ne_NoRoom_NoWord (ud0 cl_NoWord tc_NoWord sb_NoRoom_NoWord)
 have kk_NoStep_NoWord:PySem.W.kitOne K (.ref C_NoStep) (.ref C_NoWord)=some false:=sf0 ne_NoStep_NoWord (ud0 cl_NoWord tc_NoWord sb_NoStep_NoWord)
 have kk_NoWord_NoWord:PySem.W.kitOne K (.ref C_NoWord) (.ref C_NoWord)=some true:=zw0
 have x_NoWord:∀ c C b,subX "NoWord" c=some b->PySem.W.nsIn K mainGlobals c=some (some (.ref C))->ExcK K C /\ PySem.W.kitOne K (.ref C) (.ref C_NoWord)=some b:=by
  intro c C b hs hn
  have hin:=yr0 hs
  simp only [xnames,List.mem_cons,List.not_mem_nil,or_false] at hin
  rcases hin with rfl | rfl | rfl
  ·rw [ac_NoRoom] at hn
   cases hn
   rw [show subX "NoWord" "NoRoom" = some false by decide] at hs
   cases hs
   exact ⟨EK_NoRoom,kk_NoRoom_NoWord⟩
  ·rw [ac_NoStep] at hn
   cases hn
   rw [show subX "NoWord" "NoStep" = some false by decide] at hs
   cases hs
   exact ⟨EK_NoStep,kk_NoStep_NoWord⟩
  ·rw [ac_NoWord] at hn
   cases hn
   rw [show subX "NoWord" "NoWord" = some true by decide] at hs
   cases hs
   exact ⟨EK_NoWord,kk_NoWord_NoWord⟩
 have kk_NoRoom_ValueError:PySem.W.kitOne K (.ref C_NoRoom) (.type "ValueError")=some true:=sf0 rfl (zp0 (by decide +kernel) sb_NoRoom_ValueError)
 have kk_NoStep_ValueError:PySem.W.kitOne K (.ref C_NoStep) (.type "ValueError")=some true:=sf0 rfl (zp0 (by decide +kernel) sb_NoStep_ValueError)
 have kk_NoWord_ValueError:PySem.W.kitOne K (.ref C_NoWord) (.type "ValueError")=some true:=sf0 rfl (zp0 (by decide +kernel) sb_NoWord_ValueError)
 have x_ValueError:∀ c C b,subX "ValueError" c=some b->PySem.W.nsIn K mainGlobals c=some (some (.ref C))->ExcK K C /\ PySem.W.kitOne K (.ref C) (.type "ValueError")=some b:=by
  intro c C b hs hn
  have hin:=yr0 hs
  simp only [xnames,List.mem_cons,List.not_mem_nil,or_false] at hin
  rcases hin with rfl | rfl | rfl
  ·rw [ac_NoRoom] at hn
   cases hn
   rw [show subX "ValueError" "NoRoom" = some true by decide] at hs
   cases hs
   exact ⟨EK_NoRoom,kk_NoRoom_ValueError⟩
  ·rw [ac_NoStep] at hn
   cases hn
   rw [show subX "ValueError" "NoStep" = some true by decide] at hs
   cases hs
   exact ⟨EK_NoStep,kk_NoStep_ValueError⟩
  ·rw [ac_NoWord] at hn
   cases hn
   rw [show subX "ValueError" "NoWord" = some true by decide] at hs
   cases hs
   exact ⟨EK_NoWord,kk_NoWord_ValueError⟩
 have k3:PySem.W.kitCls K (.type "type") (.type "tuple")=some false:=zp0 (by decide +kernel) k3s
 have k2_PenError:=zp0 (T := "BaseException") (by decide +kernel) k2s_PenError
 have kc_NoRoom_PenError:=ud0 cl_PenError tc_PenError sb_NoRoom_PenError
 have kc_NoStep_PenError:=ud0 cl_PenError tc_PenError sb_NoStep_PenError
 have kc_NoWord_PenError:=ud0 cl_PenError tc_PenError sb_NoWord_PenError
 have ok_PenError:∀ c,okX c=true->∃ C,PySem.W.nsIn K mainGlobals c=some (some (.ref C)) /\ mg c=some (.ref C) /\ PySem.W.kitCls K (.ref C) (.ref C_PenError)=some true:=by
  intro c h
  have hin:c ∈ xnames:=by simpa [okX] using h
  simp only [xnames,List.mem_cons,List.not_mem_nil,or_false] at hin
  rcases hin with rfl | rfl | rfl
  ·exact ⟨C_NoRoom,ac_NoRoom,m_NoRoom,kc_NoRoom_PenError⟩
  ·exact ⟨C_NoStep,ac_NoStep,m_NoStep,kc_NoStep_PenError⟩
  ·exact ⟨C_NoWord,ac_NoWord,m_NoWord,kc_NoWord_PenError⟩
 have k2_NoWord:=zp0 (T := "BaseException") (by decide +kernel) k2s_NoWord
 have kc_NoWord_NoWord:=ud0 cl_NoWord tc_NoWord sb_NoWord_NoWord
 have k4_NoWord:=kc_NoWord_NoWord
 have k2_NoStep:=zp0 (T := "BaseException") (by decide +kernel) k2s_NoStep
 have kc_NoRoom_NoStep:=ud0 cl_NoStep tc_NoStep sb_NoRoom_NoStep
 have kc_NoStep_NoStep:=ud0 cl_NoStep tc_NoStep sb_NoStep_NoStep
 have k2_NoRoom:=zp0 (T := "BaseException") (by decide +kernel) k2s_NoRoom
 have kc_NoRoom_NoRoom:=ud0 cl_NoRoom tc_NoRoom sb_NoRoom_NoRoom
 have kc_NoStep_NoRoom:=ud0 cl_NoRoom tc_NoRoom sb_NoStep_NoRoom
 have okt_NoStep_NoRoom:∀ c,ze0 c=true->∃ C b1 b2,PySem.W.nsIn K mainGlobals c=some (some (.ref C)) /\ mg c=some (.ref C) /\ PySem.W.kitCls K (.ref C) (.ref C_NoStep)=some b1 /\ PySem.W.kitCls K (.ref C) (.ref C_NoRoom)=some b2 /\ (b1 || b2)=true:=by
  intro c h
  have hin:c = "NoStep" \/ c = "NoRoom" := by simpa [ze0] using h
  rcases hin with rfl | rfl
  ·exact ⟨C_NoStep,_,_,ac_NoStep,m_NoStep,kc_NoStep_NoStep,kc_NoStep_NoRoom,rfl⟩
  ·exact ⟨C_NoRoom,_,_,ac_NoRoom,m_NoRoom,kc_NoRoom_NoStep,kc_NoRoom_NoRoom,rfl⟩
 have z_ValueError:=PySem.W.mg_none_of X G zz_ValueError
 have z_abs:=PySem.W.mg_none_of X G zz_abs
 have z_int:=PySem.W.mg_none_of X G zz_int
 have z_isinstance:=PySem.W.mg_none_of X G zz_isinstance
 have z_len:=PySem.W.mg_none_of X G zz_len
 have z_list:=PySem.W.mg_none_of X G zz_list
 have z_max:=PySem.W.mg_none_of X G zz_max
 have z_range:=PySem.W.mg_none_of X G zz_range
 have z_tuple:=PySem.W.mg_none_of X G zz_tuple
 obtain ⟨_,F_q18⟩:=A_q18.fn
 have b_q18:=F_q18.binds (ps:=["word"]) λ _ _ _ _ _ _=>bn1 λ _=>rfl
 have m_q18:=PySem.W.mg_of X G a_q18
 obtain ⟨_,F_q19⟩:=A_q19.fn
 have b_q19:=F_q19.binds (ps:=["word", "depth"]) λ _ _ _ _ _ _=>bn2 λ _ _=>rfl
 have m_q19:=PySem.W.mg_of X G a_q19
 obtain ⟨_,F_q20⟩:=A_q20.fn
 have b_q20:=F_q20.binds (ps:=["deed", "depth"]) λ _ _ _ _ _ _=>bn2 λ _ _=>rfl
 have m_q20:=PySem.W.mg_of X G a_q20
 obtain ⟨_,F_q17⟩:=A_q17.fn
 have b_q17:=F_q17.binds (ps:=["kind", "number"]) λ _ _ _ _ _ _=>bn2 λ _ _=>rfl
 have m_q17:=PySem.W.mg_of X G a_q17
 obtain ⟨_,F_q34⟩:=A_q34.fn
 have b_q34:=F_q34.binds (ps:=["word", "steps"]) λ _ _ _ _ _ _=>bn2 λ _ _=>rfl
 have m_q34:=PySem.W.mg_of X G a_q34
 obtain ⟨_,F_q26⟩:=A_q26.fn
 have b_q26:=F_q26.binds (ps:=["one", "other", "steps"]) λ _ _ _ _ _ _=>bn3 λ _ _ _=>rfl
 have m_q26:=PySem.W.mg_of X G a_q26
 obtain ⟨_,F_q35⟩:=A_q35.fn
 have b_q35:=F_q35.binds (ps:=["word", "step"]) λ _ _ _ _ _ _=>bn2 λ _ _=>rfl
 have m_q35:=PySem.W.mg_of X G a_q35
 obtain ⟨_,F_q16⟩:=A_q16.fn
 have b_q16:=F_q16.binds (ps:=["word", "way", "step"]) λ _ _ _ _ _ _=>bn3 λ _ _ _=>rfl
 have m_q16:=PySem.W.mg_of X G a_q16
 obtain ⟨_,F_q22⟩:=A_q22.fn
 have b_q22:=F_q22.binds (ps:=["word", "place", "number"]) λ _ _ _ _ _ _=>bn3 λ _ _ _=>rfl
 have m_q22:=PySem.W.mg_of X G a_q22
 obtain ⟨_,F_q25⟩:=A_q25.fn
 have b_q25:=F_q25.binds (ps:=["word", "place", "number", "deeds"]) λ _ _ _ _ _ _=>bn4 λ _ _ _ _=>rfl
 have m_q25:=PySem.W.mg_of X G a_q25
 obtain ⟨_,F_q28⟩:=A_q28.fn
 have b_q28:=F_q28.binds (ps:=["deeds", "need"]) λ _ _ _ _ _ _=>bn2 λ _ _=>rfl
 have m_q28:=PySem.W.mg_of X G a_q28
 obtain ⟨_,F_q32⟩:=A_q32.fn
 have b_q32:=F_q32.binds (ps:=["deeds", "number"]) λ _ _ _ _ _ _=>bn2 λ _ _=>rfl
 have m_q32:=PySem.W.mg_of X G a_q32
 obtain ⟨_,F_q30⟩:=A_q30.fn
 have b_q30:=F_q30.binds (ps:=["deeds", "need"]) λ _ _ _ _ _ _=>bn2 λ _ _=>rfl
 have m_q30:=PySem.W.mg_of X G a_q30
 obtain ⟨_,F_q33⟩:=A_q33.fn
 have b_q33:=F_q33.binds (ps:=["deeds", "deed"]) λ _ _ _ _ _ _=>bn2 λ _ _=>rfl
 have m_q33:=PySem.W.mg_of X G a_q33
 obtain ⟨_,F_q27⟩:=A_q27.fn
 have b_q27:=F_q27.binds (ps:=["deed"]) λ _ _ _ _ _ _=>bn1 λ _=>rfl
 have m_q27:=PySem.W.mg_of X G a_q27
 obtain ⟨_,F_q31⟩:=A_q31.fn
 have b_q31:=F_q31.binds (ps:=["deeds", "need"]) λ _ _ _ _ _ _=>bn2 λ _ _=>rfl
 have m_q31:=PySem.W.mg_of X G a_q31
 obtain ⟨_,F_q21⟩:=A_q21.fn
 have b_q21:=F_q21.binds (ps:=["deeds", "number"]) λ _ _ _ _ _ _=>bn2 λ _ _=>rfl
 have m_q21:=PySem.W.mg_of X G a_q21
 obtain ⟨_,F_q23⟩:=A_q23.fn
 have b_q23:=F_q23.binds (ps:=["deeds", "need"]) λ _ _ _ _ _ _=>bn2 λ _ _=>rfl
 have m_q23:=PySem.W.mg_of X G a_q23
 obtain ⟨_,F_q24⟩:=A_q24.fn
 have b_q24:=F_q24.binds (ps:=["deeds", "need"]) λ _ _ _ _ _ _=>bn2 λ _ _=>rfl
 have m_q24:=PySem.W.mg_of X G a_q24
 obtain ⟨_,F_q15⟩:=A_q15.fn
 have b_q15:=F_q15.binds (ps:=["word", "step"]) λ _ _ _ _ _ _=>bn2 λ _ _=>rfl
 have m_q15:=PySem.W.mg_of X G a_q15
 obtain ⟨_,F_q9⟩:=A_q9.fn
 have b_q9:=F_q9.binds (ps:=["script", "k"]) λ _ _ _ _ _ _=>bn2 λ _ _=>rfl
 have m_q9:=PySem.W.mg_of X G a_q9
 obtain ⟨_,F_q11⟩:=A_q11.fn
 have b_q11:=F_q11.binds (ps:=["state", "many"]) λ _ _ _ _ _ _=>bn2 λ _ _=>rfl
 have m_q11:=PySem.W.mg_of X G a_q11
 obtain ⟨_,F_q2⟩:=A_q2.fn
 have b_q2:=F_q2.binds (ps:=["state", "deep"]) λ _ _ _ _ _ _=>bn2 λ _ _=>rfl
 have m_q2:=PySem.W.mg_of X G a_q2
 obtain ⟨_,F_q3⟩:=A_q3.fn
 have b_q3:=F_q3.binds (ps:=["state", "deep", "many"]) λ _ _ _ _ _ _=>bn3 λ _ _ _=>rfl
 have m_q3:=PySem.W.mg_of X G a_q3
 obtain ⟨_,F_q6⟩:=A_q6.fn
 have b_q6:=F_q6.binds (ps:=["deed"]) λ _ _ _ _ _ _=>bn1 λ _=>rfl
 have m_q6:=PySem.W.mg_of X G a_q6
 obtain ⟨_,F_q1⟩:=A_q1.fn
 have b_q1:=F_q1.binds (ps:=["deeds", "at", "step"]) λ _ _ _ _ _ _=>bn3 λ _ _ _=>rfl
 have m_q1:=PySem.W.mg_of X G a_q1
 obtain ⟨_,F_q0⟩:=A_q0.fn
 have b_q0:=F_q0.binds (ps:=["deeds", "step"]) λ _ _ _ _ _ _=>bn2 λ _ _=>rfl
 have m_q0:=PySem.W.mg_of X G a_q0
 obtain ⟨_,F_q8⟩:=A_q8.fn
 have b_q8:=F_q8.binds (ps:=["deeds"]) λ _ _ _ _ _ _=>bn1 λ _=>rfl
 have m_q8:=PySem.W.mg_of X G a_q8
 obtain ⟨_,F_q5⟩:=A_q5.fn
 have b_q5:=F_q5.binds (ps:=["deeds"]) λ _ _ _ _ _ _=>bn1 λ _=>rfl
 have m_q5:=PySem.W.mg_of X G a_q5
 obtain ⟨_,F_q13⟩:=A_q13.fn
 have b_q13:=F_q13.binds (ps:=["state", "deeds"]) λ _ _ _ _ _ _=>bn2 λ _ _=>rfl
 have m_q13:=PySem.W.mg_of X G a_q13
 obtain ⟨_,F_q10⟩:=A_q10.fn
 have b_q10:=F_q10.binds (ps:=["state", "deeds"]) λ _ _ _ _ _ _=>bn2 λ _ _=>rfl
 have m_q10:=PySem.W.mg_of X G a_q10
 obtain ⟨_,F_q7⟩:=A_q7.fn
 have b_q7:=F_q7.binds (ps:=["state"]) λ _ _ _ _ _ _=>bn1 λ _=>rfl
 have m_q7:=PySem.W.mg_of X G a_q7
 obtain ⟨_,F_q14⟩:=A_q14.fn
 have b_q14:=F_q14.binds (ps:=["e"]) λ _ _ _ _ _ _=>bn1 λ _=>rfl
 have m_q14:=PySem.W.mg_of X G a_q14
 obtain ⟨_,F_q12⟩:=A_q12.fn
 have b_q12:=F_q12.binds (ps:=["deeds", "steps"]) λ _ _ _ _ _ _=>bn2 λ _ _=>rfl
 have m_q12:=PySem.W.mg_of X G a_q12
 obtain ⟨_,F_q4⟩:=A_q4.fn
 have b_q4:=F_q4.binds (ps:=["deeds", "steps"]) λ _ _ _ _ _ _=>bn2 λ _ _=>rfl
 have m_q4:=PySem.W.mg_of X G a_q4
 obtain ⟨_,_,_,kV_q29,dc_q29,pm_q29,an_q29,cd_q29,ct_q29,l_q29,c_q29,k_q29⟩:=A_q29
 have F_q29:=sj2 (st:=zy0) l_q29 c_q29 k_q29
 have b_q29:=F_q29.binds (ps:=["script"]) λ _ _ _ _ _ _=>bn1 λ _=>rfl
 have m_q29:=PySem.W.mg_of X G a_q29
 refine ⟨PySem.W.fnOf "law" "law" (up0 zy0) (wc0 zy0) (ta0 zy0) .none kV_q29 dc_q29 pm_q29 an_q29 cd_q29 ct_q29,λ s v=>.of_eq rfl,λ base KB GB=>?_⟩
 have O_NoRoom:=su1 KB GB ac_NoRoom q_NoRoom
 have O_NoStep:=su1 KB GB ac_NoStep q_NoStep
 have O_NoWord:=su1 KB GB ac_NoWord q_NoWord
 have h_q17:CalX l.prog w K mg base (1) "check_number" ["kind", "number"] xt1:=xg0 F_q17 m_q17 b_q17 xd3 (by rintro _ _ _ _ ⟨_,_,rfl,_⟩; rfl) (k:=0) (λ cdv A outer s H E XE hr EX=>tf3 EX O_NoWord z_abs z_int z_isinstance g_GREATEST_NUMBER g_KINDS_FROM_NOUGHT hr) uj3
 have step_q19:∀ j,CalX l.prog w K mg base (2 * j + 1) "checked_deed_count" ["deed", "depth"] (ya1 j)->CalX l.prog w K mg base (2 * j + 1 + 1) "checked_count" ["word", "depth"] (yu0 j):=λ j ih=>xg0 F_q19 m_q19 b_q19 sc_q19 (by rintro _ _ _ _ ⟨_,_,rfl,_⟩; rfl) (k:=2 * j + 1) (λ cdv A outer s H E XE hr EX=>vf3 EX ih (Nat.le_refl _) O_NoWord z_isinstance z_tuple g_MOST_DEEDS g_MOST_DEEP hr) (wj3 j)
 have fam_q19:∀ j,CalX l.prog w K mg base (2 * j + 1) "checked_deed_count" ["deed", "depth"] (ya1 j):=λ j=>by
  induction j with
  | zero=>exact (xg1 F_q20 m_q20 b_q20 (by intro XE ds μ Q h; first | (obtain ⟨_,_,h⟩:=h; omega) | (obtain ⟨_,_,_,h⟩:=h; omega) | (obtain ⟨_,_,_,_,h⟩:=h; omega))).mono (by omega)
  | succ j ih=>exact (xg0 F_q20 m_q20 b_q20 uc3 (by rintro _ _ _ _ ⟨_,_,rfl,_⟩; rfl) (k:=2 * j + 1 + 1) (λ cdv A outer s H E XE hr EX=>wf3 EX h_q17 (by omega) (step_q19 j ih) (Nat.le_refl _) O_NoWord z_isinstance z_len z_tuple g_PLAIN_KINDS hr) (zj3 j)).mono (by omega)
 have h_q20:=fam_q19 5
 have h_q19:=step_q19 5 h_q20
 have h_q18:CalX l.prog w K mg base (13) "check_word" ["word"] ss0:=xg0 F_q18 m_q18 b_q18 sc3 (by rintro _ _ _ _ ⟨_,rfl,_⟩; rfl) (k:=12) (λ cdv A outer s H E XE hr EX=>uf3 EX h_q19 (by decide) hr) vj3
 have h_q22:CalX l.prog w K mg base (1) "deeds_from" ["word", "place", "number"] uj1:=xg0 F_q22 m_q22 b_q22 wc3 (by rintro _ _ _ _ ⟨_,_,_,rfl,_⟩; rfl) (k:=0) (λ cdv A outer s H E XE hr EX=>yf3 EX O_NoStep z_len hr) xj3
 have h_q25:Cal l.prog w K mg base (1) "exchanged" ["word", "place", "number", "deeds"] vt1:=zj0 F_q25 m_q25 b_q25 yc3 (by rintro _ _ _ ⟨_,_,_,_,rfl,_⟩; rfl) (k:=0) (λ cdv A outer s H E hr=>ue3 hr) ui3
 have h_q27:Cal l.prog w K mg base (1) "is_idle" ["deed"] sa2:=zj0 F_q27 m_q27 b_q27 sb3 (by rintro _ _ _ ⟨_,rfl,_⟩; rfl) (k:=0) (λ cdv A outer s H E hr=>we3 z_len hr) wi3
 have h_q30:CalX l.prog w K mg base (2) "leave_out" ["deeds", "need"] us1:=xg0 F_q30 m_q30 b_q30 tb3 (by rintro _ _ _ _ ⟨_,_,rfl,_⟩; rfl) (k:=1) (λ cdv A outer s H E XE hr EX=>xe3 EX h_q27 (by decide) O_NoStep hr) xi3
 have h_q33:CalX l.prog w K mg base (2) "put_in" ["deeds", "deed"] ws1:=xg0 F_q33 m_q33 b_q33 vb3 (by rintro _ _ _ _ ⟨_,_,rfl,_⟩; rfl) (k:=1) (λ cdv A outer s H E XE hr EX=>ud3 EX h_q27 (by decide) O_NoStep hr) uh3
 have h_q31:CalX l.prog w K mg base (1) "open_times" ["deeds", "need"] ts1:=xg0 F_q31 m_q31 b_q31 ub3 (by rintro _ _ _ _ ⟨_,_,rfl,_⟩; rfl) (k:=0) (λ cdv A outer s H E XE hr EX=>sd3 EX O_NoStep hr) sh3
 have h_q21:CalX l.prog w K mg base (1) "close_deeds" ["deeds", "number"] zt1:=xg0 F_q21 m_q21 b_q21 vc3 (by rintro _ _ _ _ ⟨_,_,rfl,_⟩; rfl) (k:=0) (λ cdv A outer s H E XE hr EX=>zf3 EX hr) yj3
 have h_q24:CalX l.prog w K mg base (1) "draw_twice" ["deeds", "need"] vj1:=xg0 F_q24 m_q24 b_q24 sc_q24 (by rintro _ _ _ _ ⟨_,_,rfl,_⟩; rfl) (k:=0) (λ cdv A outer s H E XE hr EX=>se3 EX O_NoStep hr) ti3
 have h_q23:CalX l.prog w K mg base (2) "draw_once" ["deeds", "need"] ss1:=xg0 F_q23 m_q23 b_q23 zc3 (by rintro _ _ _ _ ⟨_,_,_,_,rfl,_⟩; rfl) (k:=1) (λ cdv A outer s H E XE hr EX=>xf3 EX h_q24 (by decide) O_NoStep hr) si3
 have h_q32:CalX l.prog w K mg base (1) "part_deed" ["deeds", "number"] vs1:=xg0 F_q32 m_q32 b_q32 sc_q32 (by rintro _ _ _ _ ⟨_,_,rfl,_⟩; rfl) (k:=0) (λ cdv A outer s H E XE hr EX=>td3 EX O_NoStep g_KINDS_FROM_NOUGHT hr) th3
 have h_q28:CalX l.prog w K mg base (1) "join_deeds" ["deeds", "need"] yt1:=xg0 F_q28 m_q28 b_q28 sc_q28 (by rintro _ _ _ _ ⟨_,_,_,rfl,_⟩; rfl) (k:=0) (λ cdv A outer s H E XE hr EX=>ze3 EX O_NoStep hr) zi3
 have h_q15:CalX l.prog w K mg base (3) "changed_deeds" ["word", "step"] wt1:=xg0 F_q15 m_q15 b_q15 sc_q15 (by rintro _ _ _ _ ⟨_,_,_,_,rfl,_⟩; rfl) (k:=2) (λ cdv A outer s H E XE hr EX=>xg3 EX h_q21 (by decide) h_q22 (by decide) h_q23 (by decide) h_q24 (by decide) h_q25 (by decide) h_q28 (by decide) h_q30 (by decide) h_q31 (by decide) h_q32 (by decide) h_q33 (by decide) O_NoStep md_CHANGES mn_CHANGES_ok me_CHANGES_join_deeds m_q28 me_CHANGES_part_deed m_q32 me_CHANGES_leave_out m_q30 me_CHANGES_put_in m_q33 me_CHANGES_open_times m_q31 me_CHANGES_close_deeds m_q21 me_CHANGES_draw_once m_q23 me_CHANGES_draw_twice m_q24 md_DEEDS_TAKEN mi_DEEDS_TAKEN_ok g_KINDS_WITH_NEED hr) sj3
 have fam_q16:∀ j,CalX l.prog w K mg base (j + 3) "changed_word" ["word", "way", "step"] (ua2 j):=λ j=>by
  induction j with
  | zero=>exact (xg1 F_q16 m_q16 b_q16 (by intro XE ds μ Q h; first | (obtain ⟨_,_,h⟩:=h; omega) | (obtain ⟨_,_,_,h⟩:=h; omega) | (obtain ⟨_,_,_,_,h⟩:=h; omega) | (obtain ⟨_,_,_,_,_,h⟩:=h; omega) | (obtain ⟨_,_,_,_,_,_,h⟩:=h; omega) | (obtain ⟨_,_,_,_,_,_,_,_,h⟩:=h; omega) | (obtain ⟨_,_,_,_,_,_,_,h,_⟩:=h; split at h <;> omega))).mono (by omega)
  | succ j ih=>exact (xg0 F_q16 m_q16 b_q16 sc_q16 (by rintro _ _ _ _ ⟨_,_,_,_,_,rfl,_⟩; rfl) (k:=j + 3) (λ cdv A outer s H E XE hr EX=>sf3 EX h_q15 (by omega) ih (Nat.le_refl _) h_q22 (by omega) h_q25 (by omega) O_NoStep z_len hr) (tj3 j)).mono (by omega)
 have h_q16:=fam_q16 7
 have h_q35:CalX l.prog w K mg base (14) "word_behind" ["word", "step"] va2:=xg0 F_q35 m_q35 b_q35 sc_q35 (by rintro _ _ _ _ ⟨_,_,_,_,rfl,_⟩; rfl) (k:=13) (λ cdv A outer s H E XE hr EX=>zd3 EX h_q16 (by decide) h_q18 (by decide) O_NoRoom O_NoStep m_NoWord k2_NoWord k3 k4_NoWord z_len g_KINDS_WITH_NEED hr) wh3
 have h_q34:CalX l.prog w K mg base (15) "walked" ["word", "steps"] vg0:=xg0 F_q34 m_q34 b_q34 sc_q34 (by rintro _ _ _ _ ⟨_,_,_,rfl,_⟩; rfl) (k:=14) (λ cdv A outer s H E XE hr EX=>vd3 EX h_q18 (by decide) h_q35 (by decide) hr) vh3
 have h_q26:CalX l.prog w K mg base (16) "holds" ["one", "other", "steps"] th0:=xg0 F_q26 m_q26 b_q26 xc3 (by rintro _ _ _ _ ⟨_,_,_,_,rfl,_⟩; rfl) (k:=15) (λ cdv A outer s H E XE hr EX=>ve3 EX h_q18 (by decide) h_q34 (by decide) m_NoStep k2_NoStep m_NoRoom k2_NoRoom okt_NoStep_NoRoom hr) vi3
 have h_q9:Cal l.prog w K mg base (1) "_law_state" ["script", "k"] ue0:=zj0 F_q9 m_q9 b_q9 sc_q9 (by rintro _ _ _ ⟨_,_,rfl,_⟩; rfl) (k:=0) (λ cdv A outer s H E hr=>xv3 z_len hr) ww3
 have h_q11:Cal l.prog w K mg base (1) "_law_take" ["state", "many"] uf0:=zj0 F_q11 m_q11 b_q11 sc_q11 (by rintro _ _ _ ⟨_,_,_,_,rfl,_⟩; rfl) (k:=0) (λ cdv A outer s H E hr=>vg3 hr) wk3
 have step_q3:∀ j,Cal l.prog w K mg base (2 * j + 1) "_law_deed" ["state", "deep"] (spLd j)->Cal l.prog w K mg base (2 * j + 1 + 1) "_law_deeds" ["state", "deep", "many"] (zo0 j):=λ j ih=>zj0 F_q3 m_q3 b_q3 sc_q3 (by rintro _ _ _ ⟨_,_,_,rfl,_⟩; rfl) (k:=2 * j + 1) (λ cdv A outer s H E hr=>tv3 ih (Nat.le_refl _) h_q11 (by omega) z_range z_tuple hr) (yx3 j)
 have fam_q3:∀ j,Cal l.prog w K mg base (2 * j + 1) "_law_deed" ["state", "deep"] (spLd j):=λ j=>by
  induction j with
  | zero=>exact (xs0 F_q2 m_q2 b_q2 (by intro ds μ Q h; first | (obtain ⟨_,_,h⟩:=h; omega) | (obtain ⟨_,_,_,h⟩:=h; omega) | (obtain ⟨_,_,_,_,h⟩:=h; omega))).mono (by omega)
  | succ j ih=>exact (zj0 F_q2 m_q2 b_q2 sc_q2 (by rintro _ _ _ ⟨_,_,rfl,_⟩; rfl) (k:=2 * j + 1 + 1) (λ cdv A outer s H E hr=>sv3 (step_q3 j ih) (Nat.le_refl _) h_q11 (by omega) z_int hr) (zx3 j)).mono (by omega)
 have h_q2:=fam_q3 3
 have h_q3:=step_q3 3 h_q2
 have h_q6:Cal l.prog w K mg base (1) "_law_idle" ["deed"] spLI:=zj0 F_q6 m_q6 b_q6 su3 (by rintro _ _ _ ⟨_,rfl,_⟩; rfl) (k:=0) (λ cdv A outer s H E hr=>wv3 hr) tw3
 have h_q1:Cal l.prog w K mg base (2) "_law_change" ["deeds", "at", "step"] spLC:=zj0 F_q1 m_q1 b_q1 sc_q1 (by rintro _ _ _ ⟨_,_,_,_,_,rfl,_⟩; rfl) (k:=1) (λ cdv A outer s H E hr=>xw3 h_q6 (by decide) z_len hr) wx3
 have fam_q0:∀ j,Cal l.prog w K mg base (j + 2) "_law_after" ["deeds", "step"] (xj0 j):=λ j=>by
  induction j with
  | zero=>exact (xs0 F_q0 m_q0 b_q0 (by intro ds μ Q h; first | (obtain ⟨_,_,h⟩:=h; omega) | (obtain ⟨_,_,_,h⟩:=h; omega) | (obtain ⟨_,_,_,_,h⟩:=h; omega) | (obtain ⟨_,_,_,_,_,h⟩:=h; omega) | (obtain ⟨_,_,_,_,_,_,h⟩:=h; omega) | (obtain ⟨_,_,_,_,_,_,_,_,h⟩:=h; omega) | (obtain ⟨_,_,_,_,_,_,_,h,_⟩:=h; split at h <;> omega))).mono (by omega)
  | succ j ih=>exact (zj0 F_q0 m_q0 b_q0 sc_q0 (by rintro _ _ _ ⟨_,_,_,_,rfl,_⟩; rfl) (k:=j + 2) (λ cdv A outer s H E hr=>yw3 ih (Nat.le_refl _) h_q1 (by omega) z_len hr) (vx3 j)).mono (by omega)
 have h_q0:=fam_q0 6
 have fam_q8:∀ j,Cal l.prog w K mg base (j + 0) "_law_size" ["deeds"] (spSz j):=λ j=>by
  induction j with
  | zero=>exact (xs0 F_q8 m_q8 b_q8 (by intro ds μ Q h; first | (obtain ⟨_,_,h⟩:=h; omega) | (obtain ⟨_,_,_,h⟩:=h; omega) | (obtain ⟨_,_,_,_,h⟩:=h; omega) | (obtain ⟨_,_,_,_,_,h⟩:=h; omega) | (obtain ⟨_,_,_,_,_,_,h⟩:=h; omega) | (obtain ⟨_,_,_,_,_,_,_,_,h⟩:=h; omega) | (obtain ⟨_,_,_,_,_,_,_,h,_⟩:=h; split at h <;> omega))).mono (by omega)
  | succ j ih=>exact (zj0 F_q8 m_q8 b_q8 sc_q8 (by rintro _ _ _ ⟨_,rfl,_⟩; rfl) (k:=j + 0) (λ cdv A outer s H E hr=>yv3 ih (Nat.le_refl _) z_max hr) (vw3 j)).mono (by omega)
 have h_q8:=fam_q8 10
 have fam_q5:∀ j,Cal l.prog w K mg base (j + 10) "_law_fits" ["deeds"] (yn0 j):=λ j=>by
  induction j with
  | zero=>exact (xs0 F_q5 m_q5 b_q5 (by intro ds μ Q h; first | (obtain ⟨_,_,h⟩:=h; omega) | (obtain ⟨_,_,_,h⟩:=h; omega) | (obtain ⟨_,_,_,_,h⟩:=h; omega) | (obtain ⟨_,_,_,_,_,h⟩:=h; omega) | (obtain ⟨_,_,_,_,_,_,h⟩:=h; omega) | (obtain ⟨_,_,_,_,_,_,_,_,h⟩:=h; omega) | (obtain ⟨_,_,_,_,_,_,_,h,_⟩:=h; split at h <;> omega))).mono (by omega)
  | succ j ih=>exact (zj0 F_q5 m_q5 b_q5 sc_q5 (by rintro _ _ _ ⟨_,rfl,_⟩; rfl) (k:=j + 10) (λ cdv A outer s H E hr=>vv3 ih (Nat.le_refl _) h_q8 (by omega) z_abs hr) (sw3 j)).mono (by omega)
 have h_q5:=fam_q5 9
 have fam_q13:∀ j,Cal l.prog w K mg base (j + 1) "_law_way" ["state", "deeds"] (spWy j):=λ j=>by
  induction j with
  | zero=>exact (xs0 F_q13 m_q13 b_q13 (by intro ds μ Q h; first | (obtain ⟨_,_,h⟩:=h; omega) | (obtain ⟨_,_,_,h⟩:=h; omega) | (obtain ⟨_,_,_,_,h⟩:=h; omega) | (obtain ⟨_,_,_,_,_,h⟩:=h; omega) | (obtain ⟨_,_,_,_,_,_,h⟩:=h; omega) | (obtain ⟨_,_,_,_,_,_,_,_,h⟩:=h; omega) | (obtain ⟨_,_,_,_,_,_,_,h,_⟩:=h; split at h <;> omega))).mono (by omega)
  | succ j ih=>exact (zj0 F_q13 m_q13 b_q13 sc_q13 (by rintro _ _ _ ⟨_,_,_,_,rfl,_⟩; rfl) (k:=j + 1) (λ cdv A outer s H E hr=>zg3 h_q11 (by omega) ih (Nat.le_refl _) z_len z_range hr) (yk3 j)).mono (by omega)
 have h_q13:=fam_q13 6
 have h_q7:Cal l.prog w K mg base (2) "_law_idle_one" ["state"] spI1:=zj0 F_q7 m_q7 b_q7 sc_q7 (by rintro _ _ _ ⟨_,_,_,rfl,_⟩; rfl) (k:=1) (λ cdv A outer s H E hr=>zv3 h_q11 (by decide) hr) uw3
 have h_q10:Cal l.prog w K mg base (9) "_law_step" ["state", "deeds"] spSt:=zj0 F_q10 m_q10 b_q10 sc_q10 (by rintro _ _ _ ⟨_,_,_,_,rfl,_⟩; rfl) (k:=8) (λ cdv A outer s H E hr=>ug3 h_q0 (by decide) h_q7 (by decide) h_q11 (by decide) h_q13 (by decide) z_len z_range hr) vk3
 have h_q14:CalM l.prog w K mg base (1) "_law_which" ["e"] spMk:=zu2 F_q14 m_q14 b_q14 sc_q14 (by rintro _ _ _ ⟨_,rfl,_⟩; rfl) (k:=0) (λ cdv A outer s H E hr=>yg3 m_BadNote x_BadNote m_NoNumber x_NoNumber m_NoPicture x_NoPicture m_NoRoom x_NoRoom m_NoStep x_NoStep m_NoWord x_NoWord x_ValueError z_ValueError z_isinstance hr) xk3
 have h_q12:Cal l.prog w K mg base (16) "_law_told" ["deeds", "steps"] sh0:=zj0 F_q12 m_q12 b_q12 sc_q12 (by rintro _ _ _ ⟨_,_,_,rfl,_⟩; rfl) (k:=15) (λ cdv A outer s H E hr=>wg3 h_q14 (by decide) h_q34 (by decide) m_PenError k2_PenError k3 ok_PenError hr) zk3
 have h_q4:Cal l.prog w K mg base (20) "_law_end" ["deeds", "steps"] vo0:=zj0 F_q4 m_q4 b_q4 sc_q4 (by rintro _ _ _ ⟨_,_,_,rfl,_⟩; rfl) (k:=19) (λ cdv A outer s H E hr=>uv3 h_q0 (by decide) h_q5 (by decide) hr) xx3
 exact tw1 F_q29 sc_q29 (by rintro _ _ _ ⟨_,rfl,_⟩; rfl) (k:=20) (λ cdv A outer s H E hr=>ye3 h_q0 (by decide) h_q3 (by decide) h_q4 (by decide) h_q5 (by decide) h_q9 (by decide) h_q10 (by decide) h_q11 (by decide) h_q12 (by decide) h_q26 (by decide) h_q34 (by decide) z_len z_list z_range hr) yi3
theorem walk {l:PySem.W.OpenLaw} {q:Program} {loose:List Str} {XP:(Str->Option Value)->Heap->Prop} {YP:World->Heap->Prop} {d:DefRec} {K:Params->Fg} (hn:l.most=some 63) (hdf:d.params.defaults=[])
    (hY:∀ (w:World) (h:Heap),YP w h->(K w.params).In h)
    (F:∀ (w:World) (mg:Str->Option Value) (fa:Addr) (h:Heap),(K w.params).In h->h.Ns mainGlobals mg->mg d.name=some (.ref fa) ->
     ∃ fd:FuncData,(∀ (s:Shared) (u:Value),BindsTo s fd ⟨[u],[]⟩ [("script",u)]) /\ ∀ base:Heap,(K w.params).In base->base.Ns mainGlobals mg->FnOk l.prog w (K w.params) mg base CX0 21 fa fd ["script"] (lift (K w.params) ta2)) :
    PySem.W.WalkO q loose XP YP l.row.toRowW d [] (λ f vs=>PySem.call f vs) :=
 L2.walk_of (n:=63) (k:=21) (x := "script") (CX:=λ _=>CX0) (sp:=λ w=>lift (K w.params) ta2) hn (by decide) hdf ⟨rfl,by decide,by decide⟩ hY F (λ _ _ a ns hl hO hS=>td2 hO hS ⟨ns,rfl,hl,λ _=>rfl⟩) λ _ _ _ _ _ z=>z
end Pv
open PySem PySem.W PyProof.Rows
set_option maxRecDepth 100000 in
set_option maxHeartbeats 0 in
theorem PySem.Challenge.cw_penwright_k74_rows_of_steps_holds : PySem.Challenge.rw_penwright_k74_rows_of_steps.Holds := by
 w_on
 refine PySem.W.holds_law Pv.h_said λ said=>?_
 refine PySem.W.holds_open (YP:=PySem.W.Hook.says (PySem.W.kHook Pv.KK Pv.KA Pv.ke)) Pv.h_left (PySem.W.Hook.of (PySem.W.kHook Pv.KK Pv.KA Pv.ke)) (PySem.W.Hook.keeps (PySem.W.kHook Pv.KK Pv.KA Pv.ke)) (λ s e=>PySem.W.xl_of s (Bool.and_eq_true_iff.mp e).1) PySem.W.XL.keeps (by rfl) (by rfl) (by rfl) (λ s e=>PySem.W.recFacts_of (Bool.and_eq_true_iff.mp e).2) (by rfl) said (by decide +kernel) ⟨rfl,rfl,rfl,rfl,rfl,by decide +kernel⟩ ?hw ?hc
 case hw=>w_witness2
 k_fill
 refine Pv.walk (l:=PySem.Challenge.rw_penwright_k74_rows_of_steps) rfl rfl (λ w h Y=>PySem.W.kIn_of Y) ?F
 case F =>
  intro w mg fa h KX G hmg
  refine' Pv.all_mk KX G hmg ?a_q18 ?A_q18 ?a_q19 ?A_q19 ?a_q20 ?A_q20 ?a_q17 ?A_q17 ?a_q34 ?A_q34 ?a_q26 ?A_q26 ?a_q35 ?A_q35 ?a_q16 ?A_q16 ?a_q22 ?A_q22 ?a_q25 ?A_q25 ?a_q28 ?A_q28 ?a_q32 ?A_q32 ?a_q30 ?A_q30 ?a_q33 ?A_q33 ?a_q27 ?A_q27 ?a_q31 ?A_q31 ?a_q21 ?A_q21 ?a_q23 ?A_q23 ?a_q24 ?A_q24 ?a_q15 ?A_q15 ?a_q9 ?A_q9 ?a_q11 ?A_q11 ?a_q2 ?A_q2 ?a_q3 ?A_q3 ?a_q6 ?A_q6 ?a_q1 ?A_q1 ?a_q0 ?A_q0 ?a_q8 ?A_q8 ?a_q5 ?A_q5 ?a_q13 ?A_q13 ?a_q10 ?A_q10 ?a_q7 ?A_q7 ?a_q14 ?A_q14 ?a_q12 ?A_q12 ?a_q4 ?A_q4 ?a_q29 ?A_q29 ?e_MOST_DEEDS ?e_MOST_DEEP ?e_GREATEST_NUMBER ?e_PLAIN_KINDS ?ql_4 ?e_KINDS_FROM_NOUGHT ?ql_8 ?e_KINDS_WITH_NEED ?ql_11 ?e_CHANGES ?lk_CHANGES ?kl_CHANGES ?sm_CHANGES ?me_CHANGES_join_deeds ?me_CHANGES_part_deed ?me_CHANGES_leave_out ?me_CHANGES_put_in ?me_CHANGES_open_times ?me_CHANGES_close_deeds ?me_CHANGES_draw_once ?me_CHANGES_draw_twice ?e_DEEDS_TAKEN ?lk_DEEDS_TAKEN ?kl_DEEDS_TAKEN ?sm_DEEDS_TAKEN ?me_DEEDS_TAKEN_0 ?me_DEEDS_TAKEN_1 ?me_DEEDS_TAKEN_2 ?me_DEEDS_TAKEN_3 ?me_DEEDS_TAKEN_4 ?me_DEEDS_TAKEN_5 ?me_DEEDS_TAKEN_6 ?ac_BadNote ?cl_BadNote ?tc_BadNote ?ac_NoNumber ?cl_NoNumber ?tc_NoNumber ?ac_NoPicture ?cl_NoPicture ?tc_NoPicture ?ac_NoRoom ?cl_NoRoom ?tc_NoRoom ?ac_NoStep ?cl_NoStep ?tc_NoStep ?ac_NoWord ?cl_NoWord ?tc_NoWord ?ac_PenError ?cl_PenError ?tc_PenError ?q_NoRoom ?ek0_NoRoom ?ek1_NoRoom ?ek2_NoRoom ?ek4_NoRoom ?ek5_NoRoom ?ek6_NoRoom ?ek7_NoRoom ?q_NoStep ?ek0_NoStep ?ek1_NoStep ?ek2_NoStep ?ek4_NoStep ?ek5_NoStep ?ek6_NoStep ?ek7_NoStep ?q_NoWord ?ek0_NoWord ?ek1_NoWord ?ek2_NoWord ?ek4_NoWord ?ek5_NoWord ?ek6_NoWord ?ek7_NoWord ?sb_NoRoom_BadNote ?ne_NoRoom_BadNote ?sb_NoStep_BadNote ?ne_NoStep_BadNote ?sb_NoWord_BadNote ?ne_NoWord_BadNote ?sb_NoRoom_NoNumber ?ne_NoRoom_NoNumber ?sb_NoStep_NoNumber ?ne_NoStep_NoNumber ?sb_NoWord_NoNumber ?ne_NoWord_NoNumber ?sb_NoRoom_NoPicture ?ne_NoRoom_NoPicture ?sb_NoStep_NoPicture ?ne_NoStep_NoPicture ?sb_NoWord_NoPicture ?ne_NoWord_NoPicture ?sb_NoStep_NoRoom ?ne_NoStep_NoRoom ?sb_NoWord_NoRoom ?ne_NoWord_NoRoom ?sb_NoRoom_NoStep ?ne_NoRoom_NoStep ?sb_NoWord_NoStep ?ne_NoWord_NoStep ?sb_NoRoom_NoWord ?ne_NoRoom_NoWord ?sb_NoStep_NoWord ?ne_NoStep_NoWord ?sb_NoRoom_ValueError ?sb_NoStep_ValueError ?sb_NoWord_ValueError ?k3s ?k2s_PenError ?sb_NoRoom_PenError ?sb_NoStep_PenError ?sb_NoWord_PenError ?k2s_NoWord ?sb_NoWord_NoWord ?k2s_NoStep ?sb_NoStep_NoStep ?k2s_NoRoom ?sb_NoRoom_NoRoom ?zz_ValueError ?zz_abs ?zz_int ?zz_isinstance ?zz_len ?zz_list ?zz_max ?zz_range ?zz_tuple
  (case e_MOST_DEEDS | e_MOST_DEEP | e_GREATEST_NUMBER | e_PLAIN_KINDS | ql_4 | e_KINDS_FROM_NOUGHT | ql_8 | e_KINDS_WITH_NEED | ql_11 | e_CHANGES | lk_CHANGES | me_CHANGES_join_deeds | me_CHANGES_part_deed | me_CHANGES_leave_out | me_CHANGES_put_in | me_CHANGES_open_times | me_CHANGES_close_deeds | me_CHANGES_draw_once | me_CHANGES_draw_twice | e_DEEDS_TAKEN | lk_DEEDS_TAKEN | me_DEEDS_TAKEN_0 | me_DEEDS_TAKEN_1 | me_DEEDS_TAKEN_2 | me_DEEDS_TAKEN_3 | me_DEEDS_TAKEN_4 | me_DEEDS_TAKEN_5 | me_DEEDS_TAKEN_6 | ac_BadNote | cl_BadNote | tc_BadNote | ac_NoNumber | cl_NoNumber | tc_NoNumber | ac_NoPicture | cl_NoPicture | tc_NoPicture | ac_NoRoom | cl_NoRoom | tc_NoRoom | ac_NoStep | cl_NoStep | tc_NoStep | ac_NoWord | cl_NoWord | tc_NoWord | ac_PenError | cl_PenError | tc_PenError | ek0_NoRoom | ek1_NoRoom | ek2_NoRoom | ek4_NoRoom | ek5_NoRoom | ek6_NoRoom | ek7_NoRoom | ek0_NoStep | ek1_NoStep | ek2_NoStep | ek4_NoStep | ek5_NoStep | ek6_NoStep | ek7_NoStep | ek0_NoWord | ek1_NoWord | ek2_NoWord | ek4_NoWord | ek5_NoWord | ek6_NoWord | ek7_NoWord | sb_NoRoom_BadNote | sb_NoStep_BadNote | sb_NoWord_BadNote | sb_NoRoom_NoNumber | sb_NoStep_NoNumber | sb_NoWord_NoNumber | sb_NoRoom_NoPicture | sb_NoStep_NoPicture | sb_NoWord_NoPicture | sb_NoStep_NoRoom | sb_NoWord_NoRoom | sb_NoRoom_NoStep | sb_NoWord_NoStep | sb_NoRoom_NoWord | sb_NoStep_NoWord | sb_NoRoom_ValueError | sb_NoStep_ValueError | sb_NoWord_ValueError | k3s | k2s_PenError | sb_NoRoom_PenError | sb_NoStep_PenError | sb_NoWord_PenError | k2s_NoWord | sb_NoWord_NoWord | k2s_NoStep | sb_NoStep_NoStep | k2s_NoRoom | sb_NoRoom_NoRoom | zz_ValueError | zz_abs | zz_int | zz_isinstance | zz_len | zz_list | zz_max | zz_range | zz_tuple=>k_is)
  (case a_q18 | a_q19 | a_q20 | a_q17 | a_q34 | a_q26 | a_q35 | a_q16 | a_q22 | a_q25 | a_q28 | a_q32 | a_q30 | a_q33 | a_q27 | a_q31 | a_q21 | a_q23 | a_q24 | a_q15 | a_q9 | a_q11 | a_q2 | a_q3 | a_q6 | a_q1 | a_q0 | a_q8 | a_q5 | a_q13 | a_q10 | a_q7 | a_q14 | a_q12 | a_q4 | a_q29=>(show _=_; k_is))
  (case A_q18 | A_q19 | A_q20 | A_q17 | A_q34 | A_q26 | A_q35 | A_q16 | A_q22 | A_q25 | A_q28 | A_q32 | A_q30 | A_q33 | A_q27 | A_q31 | A_q21 | A_q23 | A_q24 | A_q15 | A_q9 | A_q11 | A_q2 | A_q3 | A_q6 | A_q1 | A_q0 | A_q8 | A_q5 | A_q13 | A_q10 | A_q7 | A_q14 | A_q12 | A_q4 | A_q29=>(refine' Pv.fnA_mk ?l ?c ?k; (case l=>k_is); (case c=>k_is); (case k=>k_is)))
  (case kl_CHANGES | kl_DEEDS_TAKEN=>k_keys)
  (case sm_CHANGES | sm_DEEDS_TAKEN | ne_NoRoom_BadNote | ne_NoStep_BadNote | ne_NoWord_BadNote | ne_NoRoom_NoNumber | ne_NoStep_NoNumber | ne_NoWord_NoNumber | ne_NoRoom_NoPicture | ne_NoStep_NoPicture | ne_NoWord_NoPicture | ne_NoStep_NoRoom | ne_NoWord_NoRoom | ne_NoRoom_NoStep | ne_NoWord_NoStep | ne_NoRoom_NoWord | ne_NoStep_NoWord=>rfl)
  (case q_NoRoom | q_NoStep | q_NoWord=>k_exc)
