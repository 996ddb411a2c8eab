import PyProof.Rows.All
import Wide.All
import OpenK.AllK
import Wide.FinOn
import Lean
import PyProof.EqAt
import PyProof.EqKinds
import PyProof.TupleCall
import PyProof.P3Statements
import KE.KIntText
import PyProof.LongRange
import KE.KIsAll
import PyProof.ExcAttrAll.ValueError
import PySem.Challenge.RW_penwright_k39_great_numbers
set_option Elab.async false
set_option linter.all false
set_option maxRecDepth 100000
set_option maxHeartbeats 4000000
namespace L2
open PySem PySem.Spec PyProof.Rows
noncomputable def zs0 (s : Stmt) : Arguments:=match s with
 | .FunctionDef _ a _ _ _ _ _ _ _ _=>a
 | _=>{ posonlyargs:=[],args:=[],vararg:=none,kwonlyargs:=[],kw_defaults:=[],kwarg:=none,defaults:=[] }
noncomputable def yd0 (s : Stmt) : List Stmt:=match s with
 | .FunctionDef _ _ b _ _ _ _ _ _ _=>b
 | _=>[]
noncomputable def wa0 (s : Stmt) : Scope:=match s with
 | .FunctionDef _ _ _ _ _ _ sc _ _ _=>sc
 | _=>{ kind:=.function,names:=[],isGenerator:=false,isCoroutine:=false }
end L2
namespace Pv
open PySem PySem.Spec PyProof.Rows L2
noncomputable def top (i : Nat) : Stmt:=PySem.Challenge.pw_penwright_k39_great_numbers.main.body.getD i (.Pass ⟨0,0,0,0⟩)
noncomputable def mth (i j : Nat) : Stmt:=match top i with
 | .ClassDef _ _ _ b _ _ _ _ _ _ _=>b.getD j (.Pass ⟨0,0,0,0⟩)
 | _=>.Pass ⟨0,0,0,0⟩
noncomputable abbrev we3 : Stmt:=top 16
noncomputable abbrev ze3 : Stmt:=top 17
noncomputable abbrev ye3 : Stmt:=top 18
noncomputable abbrev yf3 : Stmt:=top 19
noncomputable abbrev wc3 : Stmt:=top 20
noncomputable abbrev zb3 : Stmt:=top 21
noncomputable abbrev yb3 : Stmt:=top 22
noncomputable abbrev xb3 : Stmt:=top 23
noncomputable abbrev xf3 : Stmt:=top 26
noncomputable abbrev xd3 : Stmt:=top 27
noncomputable abbrev xg3 : Stmt:=top 30
noncomputable abbrev za3 : Stmt:=top 31
noncomputable abbrev xe3 : Stmt:=top 32
noncomputable abbrev wf3 : Stmt:=top 33
noncomputable abbrev wb3 : Stmt:=top 34
noncomputable abbrev zf3 : Stmt:=top 35
noncomputable abbrev yg3 : Stmt:=top 36
noncomputable abbrev yd3 : Stmt:=top 37
noncomputable abbrev xc3 : Stmt:=top 39
noncomputable abbrev zc3 : Stmt:=top 40
noncomputable abbrev yc3 : Stmt:=top 41
noncomputable abbrev zd3 : Stmt:=top 42
noncomputable abbrev wa3 : Stmt:=top 43
noncomputable abbrev wd3 : Stmt:=top 44
noncomputable abbrev zh3 : Stmt:=top 46
noncomputable abbrev yh3 : Stmt:=top 47
noncomputable abbrev zg3 : Stmt:=top 48
noncomputable abbrev s_q0 : Stmt:=top 49
noncomputable abbrev s_q1 : Stmt:=top 50
noncomputable abbrev s_q7 : Stmt:=top 51
noncomputable abbrev s_q8 : Stmt:=top 52
noncomputable abbrev s_q2 : Stmt:=top 53
noncomputable abbrev s_q3 : Stmt:=top 54
noncomputable abbrev wg3 : Stmt:=top 55
noncomputable abbrev s_q5 : Stmt:=top 56
noncomputable abbrev s_q4 : Stmt:=top 57
noncomputable abbrev s_q9 : Stmt:=top 58
noncomputable abbrev s_q6 : Stmt:=top 59
noncomputable abbrev xh3 : Stmt:=top 60
noncomputable abbrev yv1 : Stmt:=top 61
noncomputable abbrev xg0 : Stmt:=mth 38 0
noncomputable abbrev wf0 : Stmt:=mth 38 1
noncomputable abbrev yf0 : Stmt:=mth 38 2
noncomputable abbrev vb : Value:=.bool true
noncomputable abbrev vi : Value:=.int 181 0
noncomputable def en (P : Params) (x : Str) (t : Tok) (v : Value) : DictEntry:=⟨PyData.keyHash P x,.str x t,v⟩
noncomputable def fo (x y : Str) (st : Stmt) (m c : Value) : Obj:=⟨.type "function",none,.func (PySem.W.fnOf x y (zs0 st) (yd0 st) (wa0 st) .none .none .none m none c .none),#[]⟩
noncomputable def co (x : Str) (a : Tok) (y : Str) (b c : Tok) (ns : List Int) (vs : List Value) (d e : Int) (f : Tok) : Obj:=⟨.type "code",none,.fields (.str x a :: .str y b :: .str "/claim/cut.py" c :: (ns.map (λ n=>Value.int n 0) ++ (vs ++ [.int d 0,.int e 0,.str "/claim/cut.py" f]))).toArray,#[]⟩
noncomputable def tO (vs : List Value) : Obj:=⟨.type "tuple",none,.seq vs.toArray 0,#[]⟩
noncomputable def KK : PySem.Params -> PySem.W.Frag:=λ P=>(nat_lit 2,⟨.none,none,.dict #[] 0,#[]⟩) :: (nat_lit 3,⟨.type "dict",none,.dict #[en P "__name__" 165 (.str "law_penwright_k39_great_numbers" 620),en P "__doc__" 166 (.none),en P "__package__" 167 (.none),en P "__loader__" 168 (.builtin "__main__.__loader__#opaque"),en P "__spec__" 169 (.none),en P "__annotations__" 170 (.ref 6),en P "__builtins__" 171 (.ref 4),en P "__file__" 173 (.str "/claim/cut.py" 172),en P "__cached__" 174 (.none),en P "PenError" 206 (.ref 24),en P "NoWord" 222 (.ref 37),en P "NoPicture" 238 (.ref 49),en P "NoRoom" 254 (.ref 61),en P "NoStep" 270 (.ref 73),en P "NoNumber" 286 (.ref 85),en P "BadNote" 302 (.ref 97),en P "MOST_DEEDS" 306 (.int 30 305),en P "MOST_DEEP" 308 (.int 4 307),en P "GREATEST_NUMBER" 310 (.int 99999999999999999999 309),en P "PLAIN_KINDS" 314 (.ref 100),en P "KINDS_FROM_NOUGHT" 317 (.ref 101),en P "START" 321 (.ref 102),en P "AHEAD" 332 (.ref 107),en P "check_word" 339 (.ref 114),en P "checked_count" 349 (.ref 121),en P "checked_deed_count" 357 (.ref 128),en P "check_number" 365 (.ref 135),en P "led" 376 (.ref 142),en P "pen_behind" 385 (.ref 149),en P "pen_behind_deed" 392 (.ref 156),en P "pen_repeated" 402 (.ref 163),en P "WAYS" 407 (.ref 164),en P "check_stroke" 414 (.ref 171),en P "ends_of" 421 (.ref 178),en P "MOST_LOOKED_AT" 425 (.int 1000 424),en P "box_of" 432 (.ref 185),en P "word_box" 442 (.ref 192),en P "deed_box" 449 (.ref 199),en P "box_repeated" 460 (.ref 206),en P "outermost_doings" 468 (.ref 213),en P "box_round" 477 (.ref 220),en P "box_from" 488 (.ref 227),en P "drawn_often" 496 (.ref 234),en P "Look" 544 (.ref 265),en P "often_in_word" 556 (.ref 276),en P "often_in_deed" 565 (.ref 283),en P "often_in_times" 581 (.ref 290),en P "doings_to_ask" 596 (.ref 297),en P "span_of_doings" 610 (.ref 304),en P "doings_like" 619 (.ref 311),en P "_law_state" 630 (.ref 318),en P "_law_take" 640 (.ref 325),en P "_law_whole" 647 (.ref 332),en P "_law_deed" 656 (.ref 339),en P "_law_deeds" 662 (.ref 344),en P "_law_rolled_out" 672 (.ref 351),en P "_law_run" 688 (.ref 358),en P "_law_frame" 694 (.ref 363),en P "_law_is_row" 700 (.ref 368),en P "_law_which" 708 (.ref 375),en P "_law_moved" 714 (.ref 380),en P "_law_joined" 720 (.ref 385),en P "_law_span" 735 (.ref 392),en P "_law_often" 750 (.ref 399),en P "_law_told" 760 (.ref 406),en P "law" 766 (.ref 411)] 66,#[]⟩) :: (nat_lit 15,tO [.type "ValueError"]) :: (nat_lit 22,tO []) :: (nat_lit 23,⟨.type "dict",none,.dict #[en P "__module__" 196 (.str "penwright.errors" 187),en P "__firstlineno__" 200 (.int 2 199),en P "__static_attributes__" 201 (.ref 22),en P "__weakref__" 203 (.ref 25),en P "__doc__" 204 (.none)] 3,#[]⟩) :: (nat_lit 24,⟨.type "type",none,.cls ⟨"PenError",[.type "ValueError"],[.ref 24,.type "ValueError",.type "Exception",.type "BaseException",.type "object"],23, "PenError",true,[],[.ref 37,.ref 49,.ref 61,.ref 73,.ref 85,.ref 97],false,none,false⟩,#[some (.ref 15),none,some (.str "PenError" 189),some (.str "PenError" 197),some (.builtin "ValueError.__new__"),some (.bool true)]⟩) :: (nat_lit 25,⟨.type "getset_descriptor",none,.fields #[.str "__weakref__" 202,.ref 24,.builtin "ExceptionGroup.__weakref__",.none],#[]⟩) :: (nat_lit 28,tO [.ref 24]) :: (nat_lit 35,tO []) :: (nat_lit 36,⟨.type "dict",none,.dict #[en P "__module__" 214 (.str "penwright.errors" 187),en P "__firstlineno__" 218 (.int 4 217),en P "__static_attributes__" 219 (.ref 35),en P "__doc__" 220 (.none)] 2,#[]⟩) :: (nat_lit 37,⟨.type "type",none,.cls ⟨"NoWord",[.ref 24],[.ref 37,.ref 24,.type "ValueError",.type "Exception",.type "BaseException",.type "object"],36, "NoWord",true,[],[],false,none,false⟩,#[some (.ref 28),none,some (.str "NoWord" 207),some (.str "NoWord" 215),some (.builtin "ValueError.__new__"),some (.bool true)]⟩) :: (nat_lit 40,tO [.ref 24]) :: (nat_lit 47,tO []) :: (nat_lit 48,⟨.type "dict",none,.dict #[en P "__module__" 230 (.str "penwright.errors" 187),en P "__firstlineno__" 234 (.int 6 233),en P "__static_attributes__" 235 (.ref 47),en P "__doc__" 236 (.none)] 2,#[]⟩) :: (nat_lit 49,⟨.type "type",none,.cls ⟨"NoPicture",[.ref 24],[.ref 49,.ref 24,.type "ValueError",.type "Exception",.type "BaseException",.type "object"],48, "NoPicture",true,[],[],false,none,false⟩,#[some (.ref 40),none,some (.str "NoPicture" 223),some (.str "NoPicture" 231),some (.builtin "ValueError.__new__"),some (.bool true)]⟩) :: (nat_lit 52,tO [.ref 24]) :: (nat_lit 59,tO []) :: (nat_lit 60,⟨.type "dict",none,.dict #[en P "__module__" 246 (.str "penwright.errors" 187),en P "__firstlineno__" 250 (.int 8 249),en P "__static_attributes__" 251 (.ref 59),en P "__doc__" 252 (.none)] 2,#[]⟩) :: (nat_lit 61,⟨.type "type",none,.cls ⟨"NoRoom",[.ref 24],[.ref 61,.ref 24,.type "ValueError",.type "Exception",.type "BaseException",.type "object"],60, "NoRoom",true,[],[],false,none,false⟩,#[some (.ref 52),none,some (.str "NoRoom" 239),some (.str "NoRoom" 247),some (.builtin "ValueError.__new__"),some (.bool true)]⟩) :: (nat_lit 64,tO [.ref 24]) :: (nat_lit 71,tO []) :: (nat_lit 72,⟨.type "dict",none,.dict #[en P "__module__" 262 (.str "penwright.errors" 187),en P "__firstlineno__" 266 (.int 10 265),en P "__static_attributes__" 267 (.ref 71),en P "__doc__" 268 (.none)] 2,#[]⟩) :: (nat_lit 73,⟨.type "type",none,.cls ⟨"NoStep",[.ref 24],[.ref 73,.ref 24,.type "ValueError",.type "Exception",.type "BaseException",.type "object"],72, "NoStep",true,[],[],false,none,false⟩,#[some (.ref 64),none,some (.str "NoStep" 255),some (.str "NoStep" 263),some (.builtin "ValueError.__new__"),some (.bool true)]⟩) :: (nat_lit 76,tO [.ref 24]) :: (nat_lit 83,tO []) :: (nat_lit 84,⟨.type "dict",none,.dict #[en P "__module__" 278 (.str "penwright.errors" 187),en P "__firstlineno__" 282 (.int 12 281),en P "__static_attributes__" 283 (.ref 83),en P "__doc__" 284 (.none)] 2,#[]⟩) :: (nat_lit 85,⟨.type "type",none,.cls ⟨"NoNumber",[.ref 24],[.ref 85,.ref 24,.type "ValueError",.type "Exception",.type "BaseException",.type "object"],84, "NoNumber",true,[],[],false,none,false⟩,#[some (.ref 76),none,some (.str "NoNumber" 271),some (.str "NoNumber" 279),some (.builtin "ValueError.__new__"),some (.bool true)]⟩) :: (nat_lit 88,tO [.ref 24]) :: (nat_lit 95,tO []) :: (nat_lit 96,⟨.type "dict",none,.dict #[en P "__module__" 294 (.str "penwright.errors" 187),en P "__firstlineno__" 298 (.int 14 297),en P "__static_attributes__" 299 (.ref 95),en P "__doc__" 300 (.none)] 2,#[]⟩) :: (nat_lit 97,⟨.type "type",none,.cls ⟨"BadNote",[.ref 24],[.ref 97,.ref 24,.type "ValueError",.type "Exception",.type "BaseException",.type "object"],96, "BadNote",true,[],[],false,none,false⟩,#[some (.ref 88),none,some (.str "BadNote" 287),some (.str "BadNote" 295),some (.builtin "ValueError.__new__"),some (.bool true)]⟩) :: (nat_lit 100,tO [.str "go" 311,.str "jump" 312,.str "turn" 313]) :: (nat_lit 101,tO [.str "go" 315,.str "times" 316]) :: (nat_lit 102,tO [.int 0 318,.int 0 319,.int 0 320]) :: (nat_lit 103,tO [.int 1 322,.int 0 323]) :: (nat_lit 104,tO [.int 0 324,.int 1 325]) :: (nat_lit 105,tO [.int (-1) 327,.int 0 328]) :: (nat_lit 106,tO [.int 0 329,.int (-1) 331]) :: (nat_lit 107,tO [.ref 103,.ref 104,.ref 105,.ref 106]) :: (nat_lit 113,co "check_word" 333 "check_word" 334 335 [24,1,0,0,3] [.ref 108,vb,vi,.ref 109,.none,.ref 110,.ref 111,.ref 112] 337 24 338) :: (nat_lit 114,fo "check_word" "check_word" we3 (.str "penwright.words" 303) (.ref 113)) :: (nat_lit 120,co "checked_count" 340 "checked_count" 341 342 [26,2,0,0,3] [.ref 115,vb,vi,.ref 116,.none,.ref 117,.ref 118,.ref 119] 347 26 348) :: (nat_lit 121,fo "checked_count" "checked_count" ze3 (.str "penwright.words" 303) (.ref 120)) :: (nat_lit 127,co "checked_deed_count" 350 "checked_deed_count" 351 352 [37,2,0,0,3] [.ref 122,vb,vi,.ref 123,.none,.ref 124,.ref 125,.ref 126] 355 37 356) :: (nat_lit 128,fo "checked_deed_count" "checked_deed_count" ye3 (.str "penwright.words" 303) (.ref 127)) :: (nat_lit 134,co "check_number" 358 "check_number" 359 360 [47,2,0,0,3] [.ref 129,vb,vi,.ref 130,.none,.ref 131,.ref 132,.ref 133] 363 47 364) :: (nat_lit 135,fo "check_number" "check_number" yf3 (.str "penwright.words" 303) (.ref 134)) :: (nat_lit 141,co "led" 366 "led" 367 368 [54,2,0,0,3] [.ref 136,vb,vi,.ref 137,.none,.ref 138,.ref 139,.ref 140] 374 54 375) :: (nat_lit 142,fo "led" "led" wc3 (.str "penwright.words" 303) (.ref 141)) :: (nat_lit 148,co "pen_behind" 377 "pen_behind" 378 379 [59,1,0,0,3] [.ref 143,vb,vi,.ref 144,.none,.ref 145,.ref 146,.ref 147] 383 59 384) :: (nat_lit 149,fo "pen_behind" "pen_behind" zb3 (.str "penwright.words" 303) (.ref 148)) :: (nat_lit 155,co "pen_behind_deed" 386 "pen_behind_deed" 387 388 [64,1,0,0,3] [.ref 150,vb,vi,.ref 151,.none,.ref 152,.ref 153,.ref 154] 390 64 391) :: (nat_lit 156,fo "pen_behind_deed" "pen_behind_deed" yb3 (.str "penwright.words" 303) (.ref 155)) :: (nat_lit 162,co "pen_repeated" 393 "pen_repeated" 394 395 [70,2,0,0,3] [.ref 157,vb,vi,.ref 158,.none,.ref 159,.ref 160,.ref 161] 400 70 401) :: (nat_lit 163,fo "pen_repeated" "pen_repeated" xb3 (.str "penwright.words" 303) (.ref 162)) :: (nat_lit 164,tO [.int 0 405,.int 1 406]) :: (nat_lit 170,co "check_stroke" 408 "check_stroke" 409 410 [79,1,0,0,3] [.ref 165,vb,vi,.ref 166,.none,.ref 167,.ref 168,.ref 169] 412 79 413) :: (nat_lit 171,fo "check_stroke" "check_stroke" xf3 (.str "penwright.pictures" 403) (.ref 170)) :: (nat_lit 177,co "ends_of" 415 "ends_of" 416 417 [82,1,0,0,3] [.ref 172,vb,vi,.ref 173,.none,.ref 174,.ref 175,.ref 176] 419 82 420) :: (nat_lit 178,fo "ends_of" "ends_of" xd3 (.str "penwright.pictures" 403) (.ref 177)) :: (nat_lit 184,co "box_of" 426 "box_of" 427 428 [88,1,0,0,3] [.ref 179,vb,vi,.ref 180,.none,.ref 181,.ref 182,.ref 183] 430 88 431) :: (nat_lit 185,fo "box_of" "box_of" xg3 (.str "penwright.great" 422) (.ref 184)) :: (nat_lit 191,co "word_box" 433 "word_box" 434 435 [91,1,0,0,3] [.ref 186,vb,vi,.ref 187,.none,.ref 188,.ref 189,.ref 190] 440 91 441) :: (nat_lit 192,fo "word_box" "word_box" za3 (.str "penwright.great" 422) (.ref 191)) :: (nat_lit 198,co "deed_box" 443 "deed_box" 444 445 [98,1,0,0,3] [.ref 193,vb,vi,.ref 194,.none,.ref 195,.ref 196,.ref 197] 447 98 448) :: (nat_lit 199,fo "deed_box" "deed_box" xe3 (.str "penwright.great" 422) (.ref 198)) :: (nat_lit 205,co "box_repeated" 450 "box_repeated" 451 452 [106,3,0,0,3] [.ref 200,vb,vi,.ref 201,.none,.ref 202,.ref 203,.ref 204] 458 106 459) :: (nat_lit 206,fo "box_repeated" "box_repeated" wf3 (.str "penwright.great" 422) (.ref 205)) :: (nat_lit 212,co "outermost_doings" 461 "outermost_doings" 462 463 [111,2,0,0,3] [.ref 207,vb,vi,.ref 208,.none,.ref 209,.ref 210,.ref 211] 466 111 467) :: (nat_lit 213,fo "outermost_doings" "outermost_doings" wb3 (.str "penwright.great" 422) (.ref 212)) :: (nat_lit 219,co "box_round" 469 "box_round" 470 471 [115,2,0,0,3] [.ref 214,vb,vi,.ref 215,.none,.ref 216,.ref 217,.ref 218] 475 115 476) :: (nat_lit 220,fo "box_round" "box_round" zf3 (.str "penwright.great" 422) (.ref 219)) :: (nat_lit 226,co "box_from" 478 "box_from" 479 480 [122,2,0,0,3] [.ref 221,vb,vi,.ref 222,.none,.ref 223,.ref 224,.ref 225] 486 122 487) :: (nat_lit 227,fo "box_from" "box_from" yg3 (.str "penwright.great" 422) (.ref 226)) :: (nat_lit 233,co "drawn_often" 489 "drawn_often" 490 491 [129,2,0,0,3] [.ref 228,vb,vi,.ref 229,.none,.ref 230,.ref 231,.ref 232] 494 129 495) :: (nat_lit 234,fo "drawn_often" "drawn_often" yd3 (.str "penwright.great" 422) (.ref 233)) :: (nat_lit 247,co "__init__" 509 "Look.__init__" 510 511 [135,2,0,0,3] [.ref 242,vb,vi,.ref 243,.none,.ref 244,.ref 245,.ref 246] 515 135 516) :: (nat_lit 248,fo "__init__" "Look.__init__" xg0 (.str "penwright.great" 422) (.ref 247)) :: (nat_lit 254,co "is_within" 518 "Look.is_within" 519 520 [141,2,0,0,3] [.ref 249,vb,vi,.ref 250,.none,.ref 251,.ref 252,.ref 253] 524 141 525) :: (nat_lit 255,fo "is_within" "Look.is_within" wf0 (.str "penwright.great" 422) (.ref 254)) :: (nat_lit 261,co "count_doing" 527 "Look.count_doing" 528 529 [147,1,0,0,3] [.ref 256,vb,vi,.ref 257,.none,.ref 258,.ref 259,.ref 260] 531 147 532) :: (nat_lit 262,fo "count_doing" "Look.count_doing" yf0 (.str "penwright.great" 422) (.ref 261)) :: (nat_lit 263,tO [.str "greatest" 534,.str "least" 535,.str "left" 536]) :: (nat_lit 264,⟨.type "dict",none,.dict #[en P "__module__" 504 (.str "penwright.great" 422),en P "__firstlineno__" 508 (.int 133 507),en P "__init__" 517 (.ref 248),en P "is_within" 526 (.ref 255),en P "count_doing" 533 (.ref 262),en P "__static_attributes__" 537 (.ref 263),en P "__dict__" 539 (.ref 266),en P "__weakref__" 541 (.ref 267),en P "__doc__" 542 (.none)] 4,#[]⟩) :: (nat_lit 265,⟨.type "type",none,.cls ⟨"Look",[.type "object"],[.ref 265,.type "object"],264, "Look",true,[],[],false,none,false⟩,#[none,none,some (.str "Look" 497),some (.str "Look" 505),some (.builtin "object.__new__"),some (.bool true)]⟩) :: (nat_lit 266,⟨.type "getset_descriptor",none,.fields #[.str "__dict__" 538,.ref 265,.builtin "function.__dict__",.builtin "function.__dict__#set"],#[]⟩) :: (nat_lit 267,⟨.type "getset_descriptor",none,.fields #[.str "__weakref__" 540,.ref 265,.builtin "ExceptionGroup.__weakref__",.none],#[]⟩) :: (nat_lit 275,co "often_in_word" 545 "often_in_word" 546 547 [151,3,0,0,3] [.ref 270,vb,vi,.ref 271,.none,.ref 272,.ref 273,.ref 274] 554 151 555) :: (nat_lit 276,fo "often_in_word" "often_in_word" xc3 (.str "penwright.great" 422) (.ref 275)) :: (nat_lit 282,co "often_in_deed" 557 "often_in_deed" 558 559 [158,3,0,0,3] [.ref 277,vb,vi,.ref 278,.none,.ref 279,.ref 280,.ref 281] 563 158 564) :: (nat_lit 283,fo "often_in_deed" "often_in_deed" zc3 (.str "penwright.great" 422) (.ref 282)) :: (nat_lit 289,co "often_in_times" 566 "often_in_times" 567 568 [162,4,0,0,3] [.ref 284,vb,vi,.ref 285,.none,.ref 286,.ref 287,.ref 288] 579 162 580) :: (nat_lit 290,fo "often_in_times" "often_in_times" yc3 (.str "penwright.great" 422) (.ref 289)) :: (nat_lit 296,co "doings_to_ask" 582 "doings_to_ask" 583 584 [173,5,0,0,3] [.ref 291,vb,vi,.ref 292,.none,.ref 293,.ref 294,.ref 295] 594 173 595) :: (nat_lit 297,fo "doings_to_ask" "doings_to_ask" zd3 (.str "penwright.great" 422) (.ref 296)) :: (nat_lit 303,co "span_of_doings" 597 "span_of_doings" 598 599 [185,6,0,0,3] [.ref 298,vb,vi,.ref 299,.none,.ref 300,.ref 301,.ref 302] 608 185 609) :: (nat_lit 304,fo "span_of_doings" "span_of_doings" wa3 (.str "penwright.great" 422) (.ref 303)) :: (nat_lit 310,co "doings_like" 611 "doings_like" 612 613 [193,3,0,0,3] [.ref 305,vb,vi,.ref 306,.none,.ref 307,.ref 308,.ref 309] 617 193 618) :: (nat_lit 311,fo "doings_like" "doings_like" wd3 (.str "penwright.great" 422) (.ref 310)) :: (nat_lit 317,co "_law_state" 622 "_law_state" 623 624 [200,2,0,0,3] [.ref 312,vb,vi,.ref 313,.none,.ref 314,.ref 315,.ref 316] 628 200 629) :: (nat_lit 318,fo "_law_state" "_law_state" zh3 (.str "law_penwright_k39_great_numbers" 620) (.ref 317)) :: (nat_lit 324,co "_law_take" 631 "_law_take" 632 633 [207,2,0,0,3] [.ref 319,vb,vi,.ref 320,.none,.ref 321,.ref 322,.ref 323] 638 207 639) :: (nat_lit 325,fo "_law_take" "_law_take" yh3 (.str "law_penwright_k39_great_numbers" 620) (.ref 324)) :: (nat_lit 331,co "_law_whole" 641 "_law_whole" 642 643 [217,1,0,0,3] [.ref 326,vb,vi,.ref 327,.none,.ref 328,.ref 329,.ref 330] 645 217 646) :: (nat_lit 332,fo "_law_whole" "_law_whole" zg3 (.str "law_penwright_k39_great_numbers" 620) (.ref 331)) :: (nat_lit 338,co "_law_deed" 648 "_law_deed" 649 650 [219,2,0,0,3] [.ref 333,vb,vi,.ref 334,.none,.ref 335,.ref 336,.ref 337] 654 219 655) :: (nat_lit 339,fo "_law_deed" "_law_deed" s_q0 (.str "law_penwright_k39_great_numbers" 620) (.ref 338)) :: (nat_lit 343,co "_law_deeds" 657 "_law_deeds" 658 659 [228,3,0,0,3] [.ref 340,vb,vi,.ref 341,.none,.none,.none,.ref 342] 660 228 661) :: (nat_lit 344,fo "_law_deeds" "_law_deeds" s_q1 (.str "law_penwright_k39_great_numbers" 620) (.ref 343)) :: (nat_lit 350,co "_law_rolled_out" 663 "_law_rolled_out" 664 665 [230,1,0,0,3] [.ref 345,vb,vi,.ref 346,.none,.ref 347,.ref 348,.ref 349] 670 230 671) :: (nat_lit 351,fo "_law_rolled_out" "_law_rolled_out" s_q7 (.str "law_penwright_k39_great_numbers" 620) (.ref 350)) :: (nat_lit 357,co "_law_run" 673 "_law_run" 674 675 [239,2,0,0,3] [.ref 352,vb,vi,.ref 353,.none,.ref 354,.ref 355,.ref 356] 686 239 687) :: (nat_lit 358,fo "_law_run" "_law_run" s_q8 (.str "law_penwright_k39_great_numbers" 620) (.ref 357)) :: (nat_lit 362,co "_law_frame" 689 "_law_frame" 690 691 [255,1,0,0,3] [.ref 359,vb,vi,.ref 360,.none,.none,.none,.ref 361] 692 255 693) :: (nat_lit 363,fo "_law_frame" "_law_frame" s_q2 (.str "law_penwright_k39_great_numbers" 620) (.ref 362)) :: (nat_lit 367,co "_law_is_row" 695 "_law_is_row" 696 697 [261,2,0,0,3] [.ref 364,vb,vi,.ref 365,.none,.none,.none,.ref 366] 698 261 699) :: (nat_lit 368,fo "_law_is_row" "_law_is_row" s_q3 (.str "law_penwright_k39_great_numbers" 620) (.ref 367)) :: (nat_lit 374,co "_law_which" 701 "_law_which" 702 703 [265,1,0,0,3] [.ref 369,vb,vi,.ref 370,.none,.ref 371,.ref 372,.ref 373] 706 265 707) :: (nat_lit 375,fo "_law_which" "_law_which" wg3 (.str "law_penwright_k39_great_numbers" 620) (.ref 374)) :: (nat_lit 379,co "_law_moved" 709 "_law_moved" 710 711 [268,3,0,0,3] [.ref 376,vb,vi,.ref 377,.none,.none,.none,.ref 378] 712 268 713) :: (nat_lit 380,fo "_law_moved" "_law_moved" s_q5 (.str "law_penwright_k39_great_numbers" 620) (.ref 379)) :: (nat_lit 384,co "_law_joined" 715 "_law_joined" 716 717 [270,1,0,0,3] [.ref 381,vb,vi,.ref 382,.none,.none,.none,.ref 383] 718 270 719) :: (nat_lit 385,fo "_law_joined" "_law_joined" s_q4 (.str "law_penwright_k39_great_numbers" 620) (.ref 384)) :: (nat_lit 391,co "_law_span" 721 "_law_span" 722 723 [277,4,0,0,3] [.ref 386,vb,vi,.ref 387,.none,.ref 388,.ref 389,.ref 390] 733 277 734) :: (nat_lit 392,fo "_law_span" "_law_span" s_q9 (.str "law_penwright_k39_great_numbers" 620) (.ref 391)) :: (nat_lit 398,co "_law_often" 736 "_law_often" 737 738 [292,4,0,0,3] [.ref 393,vb,vi,.ref 394,.none,.ref 395,.ref 396,.ref 397] 748 292 749) :: (nat_lit 399,fo "_law_often" "_law_often" s_q6 (.str "law_penwright_k39_great_numbers" 620) (.ref 398)) :: (nat_lit 405,co "_law_told" 751 "_law_told" 752 753 [308,2,0,0,3] [.ref 400,vb,vi,.ref 401,.none,.ref 402,.ref 403,.ref 404] 758 308 759) :: (nat_lit 406,fo "_law_told" "_law_told" xh3 (.str "law_penwright_k39_great_numbers" 620) (.ref 405)) :: (nat_lit 410,co "law" 761 "law" 762 763 [315,1,0,0,3] [.ref 407,vb,vi,.ref 408,.none,.none,.none,.ref 409] 764 315 765) :: (nat_lit 411,fo "law" "law" yv1 (.str "law_penwright_k39_great_numbers" 620) (.ref 410)) :: []
noncomputable def KA : List Addr:=[2,3,15,22,23,24,25,28,35,36,37,40,47,48,49,52,59,60,61,64,71,72,73,76,83,84,85,88,95,96,97,100,101,102,103,104,105,106,107,113,114,120,121,127,128,134,135,141,142,148,149,155,156,162,163,164,170,171,177,178,184,185,191,192,198,199,205,206,212,213,219,220,226,227,233,234,247,248,254,255,261,262,263,264,265,266,267,275,276,282,283,289,290,296,297,303,304,310,311,317,318,324,325,331,332,338,339,343,344,350,351,357,358,362,363,367,368,374,375,379,380,384,385,391,392,398,399,405,406,410,411]
theorem ke : ∀ P,KA = (KK P).map (·.1):=λ _=>by kernel_rfl
noncomputable def vw : Program:={ PySem.Challenge.pw_penwright_k39_great_numbers with main:={ PySem.Challenge.pw_penwright_k39_great_numbers.main with body:=[top 1,top 2,top 3,top 4,top 5,top 6,top 7,top 9,top 10,top 11,top 12,top 13,top 14,top 15,top 16,top 17,top 18,top 19,top 20,top 21,top 22,top 23,top 25,top 26,top 27,top 29,top 30,top 31,top 32,top 33,top 34,top 35,top 36,top 37,top 38,top 39,top 40,top 41,top 42,top 43,top 44,top 46,top 47,top 48,top 49,top 50,top 51,top 52,top 53,top 54,top 55,top 56,top 57,top 58,top 59,top 60,top 61] } }
theorem h_said : PySem.Challenge.rw_penwright_k39_great_numbers.wellSaid = true:=by kernel_rfl
theorem h_left : PySem.W.LeftO (PySem.W.OpenLaw.row PySem.Challenge.rw_penwright_k39_great_numbers).prog vw [] (λ s=>PySem.W.xlAt vw [] s && PySem.W.recOk (PySem.W.RowW.records (PySem.W.OpenRow.toRowW (PySem.W.OpenLaw.row PySem.Challenge.rw_penwright_k39_great_numbers))) s) (PySem.W.Hook.obs (PySem.W.kHook KK KA ke)) (PySem.W.Hook.val (PySem.W.kHook KK KA ke)) 6452:=by
 intro w
 delta PySem.W.openEnds PySem.W.fencedOpening PySem.W.topFrom
 rw [PySem.W.Fast.te14082659384304107361,PySem.W.Fast.te10274390034422433532,PySem.W.Fast.te14289696077712309145,PySem.W.Fast.te1435165496053646825,PySem.W.Fast.te14364793385576792824,PySem.W.Fast.te4187177175401517315]
 kernel_rfl
end Pv
namespace L2
open PySem PySem.Spec PyProof.Rows
noncomputable abbrev Key:=Sum Int Str
noncomputable def wa8 : Key -> Value -> Bool
 | .inl k,v=>Value.isInt k v
 | .inr x,v=>Value.isStrOf x v
noncomputable def keyH (w : World) : Key -> Int
 | .inl k=>hashInt k
 | .inr x=>hashStr w x
theorem zi0 : ∀ {k : Key} {v : Value},wa8 k v = true -> (∃ i t,k = Sum.inl i /\ v = Value.int i t) \/ (∃ x t,k = Sum.inr x /\ v = Value.str x t)
 | .inl i,v,h=>by
  obtain ⟨t,e⟩:=Value.isInt_shape (k:=i) (v:=v) h
  exact .inl ⟨i,t,rfl,e⟩
 | .inr x,v,h=>by
  obtain ⟨t,e⟩:=Value.isStrOf_shape (x:=x) (v:=v) h
  exact .inr ⟨x,t,rfl,e⟩
theorem za8 (a b : Int) : decide ((Sum.inl a : Key) = Sum.inl b) = (a == b):=by
 by_cases e : a = b
 ·subst e; simp
 ·have h : ¬ (Sum.inl a : Key) = Sum.inl b:=λ q=>e (Sum.inl.inj q)
  rw [decide_eq_false h]
  exact (beq_eq_false_iff_ne.mpr e).symm
theorem wz7 (a b : Str) : decide ((Sum.inr a : Key) = Sum.inr b) = decide (a = b):=by
 by_cases e : a = b
 ·subst e; simp
 ·have h : ¬ (Sum.inr a : Key) = Sum.inr b:=λ q=>e (Sum.inr.inj q)
  rw [decide_eq_false h,decide_eq_false e]
theorem ya8 (a : Int) (b : Str) : decide ((Sum.inl a : Key) = Sum.inr b) = false:=decide_eq_false (λ q=>nomatch q)
theorem xa8 (a : Str) (b : Int) : decide ((Sum.inr a : Key) = Sum.inl b) = false:=decide_eq_false (λ q=>nomatch q)
noncomputable def xz3 (prog : Program) (w : World) : PySem.KeyKind prog w Key where
 is:=wa8
 hash:=keyH w
 inj:=λ v a b ha hb=>by
  rcases zi0 ha with ⟨i,t,rfl,rfl⟩ | ⟨x,t,rfl,rfl⟩
  ·rcases zi0 hb with ⟨j,u,rfl,e⟩ | ⟨y,u,rfl,e⟩
   ·injection e with e1 _; rw [e1]
   ·exact nomatch e
  ·rcases zi0 hb with ⟨j,u,rfl,e⟩ | ⟨y,u,rfl,e⟩
   ·exact nomatch e
   ·injection e with e1 _; rw [e1]
 byValue:=λ k v h=>by
  rcases zi0 h with ⟨i,t,rfl,rfl⟩ | ⟨x,t,rfl,rfl⟩ <;> rfl
 pyHash:=λ hv h=>by
  rcases zi0 hv with ⟨i,t,rfl,rfl⟩ | ⟨x,t,rfl,rfl⟩
  ·exact wpAny_pyHash_int h
  ·exact wpAny_pyHash_str h
 eqBool:=λ hu hv h=>by
  rcases zi0 hu with ⟨i,t,rfl,rfl⟩ | ⟨x,t,rfl,rfl⟩
  ·rcases zi0 hv with ⟨j,u,rfl,rfl⟩ | ⟨y,u,rfl,rfl⟩
   ·rw [za8] at h; exact wpAny_eqBool_int h
   ·rw [ya8] at h; exact SeqAt.EqAt.int_str i t y u _ _ _ _ h
  ·rcases zi0 hv with ⟨j,u,rfl,rfl⟩ | ⟨y,u,rfl,rfl⟩
   ·rw [xa8] at h; exact SeqAt.EqAt.str_int x t j u _ _ _ _ h
   ·rw [wz7] at h; exact wpAny_eqBool_str h
 «strs» := λ k x t v h=>by
  rcases zi0 h with ⟨i,u,rfl,e⟩ | ⟨y,u,rfl,e⟩
  ·exact nomatch e
  ·injection e with e1 _
   subst e1
   cases v <;> rfl
end L2
namespace L2
open PySem PySem.Spec PyProof.Rows
inductive V where
 | non | bl (b : Bool) | int (i : Int) | str (x : Str) | byt (b : Array UInt8) | flt (b : UInt64) | ref (a : Addr) | ty (n : String)
 deriving DecidableEq
noncomputable def RelV : V -> Value -> Prop
 | .non,u=>u = Value.none
 | .bl b,u=>u = Value.bool b
 | .int i,u=>∃ t,u = Value.int i t
 | .str x,u=>∃ t,u = Value.str x t
 | .byt b,u=>∃ t,u = Value.bytes b t
 | .flt b,u=>∃ t,u = Value.float b t
 | .ref a,u=>u = Value.ref a
 | .ty n,u=>u = Value.type n
noncomputable abbrev Vals : List V -> List Value -> Prop:=Paired RelV
theorem Vals.length {xs : List V} {us : List Value} (r : Vals xs us) : xs.length = us.length:=Paired.length r
theorem Vals.get : ∀ {xs : List V} {us : List Value} {i : Nat} {x : V},Vals xs us -> xs[i]? = some x -> ∃ u,us[i]? = some u /\ RelV x u
 | _,_,_,_,.nil,e=>by simp at e
 | _,_,0,_,.cons r _,e=>by simp at e; subst e; exact ⟨_,rfl,r⟩
 | _,_,i + 1,x,.cons _ t,e=>by
  obtain ⟨u,h1,h2⟩:=Vals.get (i:=i) (x:=x) t (by simpa using e)
  exact ⟨u,by simpa using h1,h2⟩
theorem Vals.set {x : V} {u : Value} (r : RelV x u) : ∀ {xs : List V} {us : List Value} (i : Nat),Vals xs us -> Vals (xs.set i x) (us.set i u)
 | _,_,_,.nil=>.nil
 | _,_,0,.cons _ t=>.cons r t
 | _,_,i + 1,.cons q t=>.cons q (Vals.set r i t)
theorem Vals.append : ∀ {xs ys : List V} {us ws : List Value},Vals xs us -> Vals ys ws -> Vals (xs ++ ys) (us ++ ws)
 | _,_,_,_,.nil,s=>s
 | _,_,_,_,.cons r t,s=>.cons r (Vals.append t s)
noncomputable def RelO : Option V -> Option Value -> Prop
 | some v,some u=>RelV v u
 | none,none=>True
 | _,_=>False
noncomputable def KV {κ : Type} : List (κ × V) -> List (κ × Value) -> Prop:=Paired λ (p : κ × V) (q : κ × Value)=>p.1 = q.1 /\ RelV p.2 q.2
noncomputable def kV : Key -> V
 | .inl i=>.int i
 | .inr x=>.str x
inductive HO where
 | lst (xs : List V)
 | tup (xs : List V)
 | dK (kvs : List (Key × V)) | dT (kvs : List (List Key × V))
 | set (S : Int -> Bool) (n : Nat)
 | ins (C dx : Addr) (fs : List (Str × V))
 | own (x : Addr)
 | xd (fs : List (Str × V))
 | met (f x : Addr)
 | rng (lo hi : Int)
 | frz (o : Obj) (u : HO)
 | tbl (ps : Array Value)
 | ext (φ : Heap -> Prop)
noncomputable abbrev Hp:=Addr -> Option HO
noncomputable def upd (H : Hp) (a : Addr) (o : HO) : Hp:=λ b=>if b = a then some o else H b
theorem yj0 {H : Hp} {a : Addr} {o : HO} : upd H a o a = some o:=by unfold upd; rw [if_pos rfl]
theorem zf0 {H : Hp} {a b : Addr} {o : HO} (h : b ≠ a) : upd H a o b = H b:=by unfold upd; rw [if_neg h]
theorem xv4 {H : Hp} {a b : Addr} {o u : HO} (h : H a = some o) (h' : H b = some u) (d : o ≠ u) : a ≠ b:=by
 intro e; subst e; rw [h] at h'; exact d (Option.some.inj h')
theorem yo0 {H : Hp} {a b : Addr} {o : HO} (h : H a = some o) (h' : H b = none) : a ≠ b:=by
 intro e; subst e; rw [h] at h'; cases h'
section
variable (P : Program) (w : World)
noncomputable def ObjOk (H : Hp) (h : Heap) (a : Addr) : HO -> Prop
 | .lst xs=>xs.length <= sizeLine /\ ∃ (its : List Value) (n : Nat),Vals xs its /\ h.get? a = some { cls:=.type "list",data:=.seq its.toArray n }
 | .tup xs=>xs.length <= sizeLine /\ ∃ its : List Value,Vals xs its /\ IsTup h a its.toArray
 | .dK kvs=>kvs.length <= sizeLine /\ (a == sysModules) = false /\ ∃ vs,KV kvs vs /\ h.DictOf (xz3 P w) a vs
 | .dT kvs=>kvs.length <= sizeLine /\ (a == sysModules) = false /\ ∃ xs : List (List Key × Addr × Value),
     Paired (λ (p : List Key × V) (q : List Key × Addr × Value)=>p.1 = q.1 /\ H q.2.1 = some (.tup (p.1.map kV)) /\ RelV p.2 q.2.2) kvs xs ∧
     ∃ o es ep,h.get? a = some o /\ o.ExactDict /\ o.data = .dict es ep /\ es.toList = xs.map (entryOfKey (tupleKind (xz3 P w))) /\ (xs.map (·.1)).Nodup
 | .set S n=>h.SetOf (intKind P w) a S n
 | .ins C dx fs=>H dx = some (.own a) /\ fs.length <= 1000 /\ dx ≠ a /\ h.get? a = some (PySem.W.instObj C dx) ∧
     ∃ mA,h.Ns1 dx mA /\ (∀ f,RelO (fs.lookup f) (mA f)) /\ PySem.Within mA (fs.map (·.1))
 | .own _=>∃ o,h.get? a = some o
 | .xd fs=>∃ mA,h.Ns1 a mA /\ ∀ f,RelO (fs.lookup f) (mA f)
 | .rng lo hi=>∃ t u v,h.get? a = some { cls:=.type "range",data:=.fields #[.int lo t,.int hi u,.int 1 v] }
 | .frz o u=>h.get? a = some o /\ ObjOk H h a u
 | .tbl ps=>h.get? a = some { cls:=.none,data:=.fields ps }
 | .met f x=>h.get? a = some (PySem.W.methodObj (.ref f) (.ref x))
 | .ext φ=>φ h /\ (∃ o,h.get? a = some o) /\ ∀ h1 h2 : Heap,φ h1 -> (∀ o,h1.get? a = some o -> h2.get? a = some o) -> φ h2
noncomputable def HOk (H : Hp) (h : Heap) : Prop:=∀ a o,H a = some o -> ObjOk P w H h a o
end
section
variable {P : Program} {w : World} {H H' : Hp} {h h' : Heap} {a : Addr} {o : HO}
theorem ObjOk.lt (x : ObjOk P w H h a o) : a < h.objs.size:=by
 cases o with
 | lst xs=>obtain ⟨_,_,_,_,e⟩:=x; exact Heap.lt_size e
 | tup xs=>obtain ⟨_,_,_,p⟩:=x; exact p.lt
 | dK kvs=>obtain ⟨_,_,_,_,o,_,_,e,_⟩:=x; exact Heap.lt_size e
 | dT kvs=>obtain ⟨_,_,_,_,o,_,_,e,_⟩:=x; exact Heap.lt_size e
 | set S n=>obtain ⟨o,_,_,_,e,_⟩:=x; exact Heap.lt_size e
 | ins C dx fs=>obtain ⟨_,_,_,e,_⟩:=x; exact Heap.lt_size e
 | own y=>obtain ⟨_,e⟩:=x; exact Heap.lt_size e
 | xd fs=>obtain ⟨_,⟨_,_,_,e,_⟩,_⟩:=x; exact Heap.lt_size e
 | rng lo hi=>obtain ⟨_,_,_,e⟩:=x; exact Heap.lt_size e
 | frz ob u=>obtain ⟨e,_⟩:=x; exact Heap.lt_size e
 | tbl ps=>exact Heap.lt_size (show h.get? a = some _ from x)
 | met f y=>exact Heap.lt_size (show h.get? a = some _ from x)
 | ext φ=>obtain ⟨_,⟨_,e⟩,_⟩:=x; exact Heap.lt_size e
theorem Paired.mapP {α β : Type} {F G : α -> β -> Prop} : ∀ {l₁ : List α} {l₂ : List β},Paired F l₁ l₂ -> (∀ a b,F a b -> G a b) -> Paired G l₁ l₂
 | _,_,.nil,_=>.nil
 | _,_,.cons r t,f=>.cons (f _ _ r) (Paired.mapP t f)
theorem ObjOk.stay (x : ObjOk P w H h a o) (k : ∀ b u,(b = a \/ H b = some (.own a)) -> h.get? b = some u -> h'.get? b = some u)
    (ho : ∀ b,H b = some (.own a) -> H' b = some (.own a)) (ht : ∀ b xs,H b = some (.tup xs) -> H' b = some (.tup xs)) : ObjOk P w H' h' a o:=by
 induction o with
 | lst xs=>obtain ⟨z,its,n,r,e⟩:=x; exact ⟨z,its,n,r,k _ _ (.inl rfl) e⟩
 | tup xs=>obtain ⟨z,its,r,ob,e,c⟩:=x; exact ⟨z,its,r,ob,k _ _ (.inl rfl) e,c⟩
 | dK kvs=>obtain ⟨z,y,vs,r,ob,es,ep,e,c⟩:=x; exact ⟨z,y,vs,r,ob,es,ep,k _ _ (.inl rfl) e,c⟩
 | dT kvs =>
  obtain ⟨z,y,xs,r,ob,es,ep,e,c⟩:=x
  exact ⟨z,y,xs,Paired.mapP r λ p q z=>⟨z.1,ht _ _ z.2.1,z.2.2⟩,ob,es,ep,k _ _ (.inl rfl) e,c⟩
 | set S n=>obtain ⟨ob,es,ep,t,e,c⟩:=x; exact ⟨ob,es,ep,t,k _ _ (.inl rfl) e,c⟩
 | ins C dx fs =>
  obtain ⟨d,z,ne,e,mA,⟨od,es,ep,e2,c⟩,r⟩:=x
  exact ⟨ho _ d,z,ne,k _ _ (.inl rfl) e,mA,⟨od,es,ep,k _ _ (.inr d) e2,c⟩,r⟩
 | own y=>obtain ⟨ob,e⟩:=x; exact ⟨ob,k _ _ (.inl rfl) e⟩
 | xd fs=>obtain ⟨mA,⟨od,es,ep,e,c⟩,r⟩:=x; exact ⟨mA,⟨od,es,ep,k _ _ (.inl rfl) e,c⟩,r⟩
 | rng lo hi=>obtain ⟨t,u,v,e⟩:=x; exact ⟨t,u,v,k _ _ (.inl rfl) e⟩
 | frz ob u ih=>obtain ⟨e,q⟩:=x; exact ⟨k _ _ (.inl rfl) e,ih q⟩
 | tbl ps =>
  have e : h.get? a = some { cls:=.none,data:=.fields ps }:=x
  show h'.get? a = some { cls:=.none,data:=.fields ps }
  exact k a _ (.inl rfl) e
 | met f y =>
  have e : h.get? a = some (PySem.W.methodObj (.ref f) (.ref y)):=x
  show h'.get? a = some (PySem.W.methodObj (.ref f) (.ref y))
  exact k a _ (.inl rfl) e
 | ext φ=>obtain ⟨p,⟨o,e⟩,st⟩:=x; exact ⟨st _ _ p λ o q=>k _ _ (.inl rfl) q,⟨o,k _ _ (.inl rfl) e⟩,st⟩
theorem HOk.lt (x : HOk P w H h) (e : H a = some o) : a < h.objs.size:=(x a o e).lt
theorem HOk.fresh (x : HOk P w H h) (e : h.objs.size <= a) : H a = none:=by
 cases q : H a with
 | none=>rfl
 | some u=>exact absurd (Nat.lt_of_lt_of_le (x.lt q) e) (Nat.lt_irrefl _)
theorem HOk.kept (x : HOk P w H h) (k : ∀ b u,h.get? b = some u -> h'.get? b = some u) : HOk P w H h':=λ a o e =>
 (x a o e).stay (λ b u _ q=>k b u q) (λ _ q=>q) λ _ _ q=>q
theorem HOk.laid (x : HOk P w H h) (k : ∀ b u,h.get? b = some u -> h'.get? b = some u) (hp : h.objs.size <= a) (new : ObjOk P w (upd H a o) h' a o) : HOk P w (upd H a o) h':=λ b u e=>by
 have hn:=x.fresh hp
 by_cases hb : b = a
 ·subst hb; rw [yj0] at e; cases e; exact new
 ·rw [zf0 hb] at e
  exact (x b u e).stay (λ c v _ q=>k c v q) (λ c q=>by rw [zf0 (yo0 q hn)]; exact q) λ c xs q=>by rw [zf0 (yo0 q hn)]; exact q
end
noncomputable def Rd (H : Hp) (a : Addr) (u : HO) : Prop:=H a = some u \/ ∃ o,H a = some (.frz o u)
theorem Rd.ok {P : Program} {w : World} {H : Hp} {h : Heap} {a : Addr} {u : HO} (r : Rd H a u) (x : HOk P w H h) : ObjOk P w H h a u:=by
 rcases r with r | ⟨o,r⟩
 ·exact x a u r
 ·obtain ⟨_,q⟩:=x a _ r
  exact q
noncomputable def Mut : Option HO -> Prop
 | some (.lst _)=>True
 | some (.dK _)=>True
 | some (.dT _)=>True
 | some (.set _ _)=>True
 | some (.ins _ _ _)=>True
 | some (.ext _)=>True
 | _=>False
section
variable {P : Program} {w : World} {H : Hp} {h h' : Heap} {x e : Addr} {o' : HO}
theorem HOk.write (ok : HOk P w H h) (mu : Mut (H x)) (he : e = x \/ H e = some (.own x)) (k : ∀ b u,b ≠ e -> h.get? b = some u -> h'.get? b = some u) (heo : ∃ u,h'.get? e = some u)
    (new : ObjOk P w (upd H x o') h' x o') : HOk P w (upd H x o') h':=λ b u q=>by
 have nown : ∀ c y,H c = some (.own y) -> c ≠ x:=λ c y r z=>by subst z; rw [r] at mu; exact mu
 have ntup : ∀ c xs,H c = some (.tup xs) -> c ≠ x:=λ c xs r z=>by subst z; rw [r] at mu; exact mu
 by_cases hb : b = x
 ·subst hb; rw [yj0] at q; cases q; exact new
 ·rw [zf0 hb] at q
  by_cases hbe : b = e
  ·have q' : H b = some (.own x):=by
     rcases he with z | z
     ·exact absurd (hbe.trans z) hb
     ·rw [hbe]; exact z
   rw [q] at q'; cases q'
   obtain ⟨v,hv⟩:=heo
   exact ⟨v,by rw [hbe]; exact hv⟩
  ·refine (ok b u q).stay (λ c v hc r=>k c v ?_ r) (λ c r=>by rw [zf0 (nown c b r)]; exact r) λ c xs r=>by rw [zf0 (ntup c xs r)]; exact r
   rcases hc with rfl | hc
   ·exact hbe
   ·rintro rfl
    rcases he with z | z
    ·exact nown c b hc z
    ·rw [hc] at z; cases z; exact hb rfl
end
structure Un (fs ex : List Addr) (H H' : Hp) (h h' : Heap) : Prop where
 keep : ∀ b o,h.get? b = some o -> H b = none -> b ∉ fs -> b ∉ ex -> h'.get? b = some o
 slot : ∀ b o,h.get? b = some o -> H b = none -> b ∈ fs -> b ∉ ex -> ∃ sl,h'.get? b = some { o with slots:=sl }
 free : ∀ b o,h.get? b = some o -> H b = none -> b ∉ ex -> H' b = none
 there : ∀ b o,h.get? b = some o -> b ∉ ex -> ∃ o',h'.get? b = some o'
 tups : ∀ b xs,H b = some (.tup xs) -> H' b = some (.tup xs)
 frzs : ∀ b o u,H b = some (.frz o u) -> H' b = some (.frz o u)
 tbls : ∀ b ps,H b = some (.tbl ps) -> ∃ more,H' b = some (.tbl (ps ++ more))
section
variable {fs fs' ex ex' : List Addr} {H H1 H2 : Hp} {h h1 h2 h' : Heap} {a x e : Addr} {o : HO}
theorem Un.any (u : Un fs ex H H1 h h1) {b : Addr} {ob : Obj} (q : h.get? b = some ob) (n : H b = none) (hx : b ∉ ex) : ∃ sl,h1.get? b = some { ob with slots:=sl }:=by
 by_cases hb : b ∈ fs
 ·exact u.slot b ob q n hb hx
 ·exact ⟨ob.slots,u.keep b ob q n hb hx⟩
theorem Un.kept (k : ∀ b u,h.get? b = some u -> h'.get? b = some u) : Un fs ex H H h h' :=
 ⟨λ b ob q _ _ _=>k b ob q,λ b ob q _ _ _=>⟨ob.slots,k b ob q⟩,λ _ _ _ n _=>n,λ b ob q _=>⟨ob,k b ob q⟩,λ _ _ q=>q,λ _ _ _ q=>q,λ _ ps q=>⟨#[],by rw [q]; simp⟩⟩
theorem Un.refl : Un fs ex H H h h:=Un.kept λ _ _ q=>q
theorem Un.laid (k : ∀ b u,h.get? b = some u -> h'.get? b = some u) (hp : h.objs.size <= a) (hn : H a = none) : Un fs ex H (upd H a o) h h' where
 keep:=λ b u q _ _ _=>k b u q
 slot:=λ b u q _ _ _=>⟨u.slots,k b u q⟩
 free:=λ b u q n _=>by rw [zf0 (Nat.ne_of_lt (Nat.lt_of_lt_of_le (Heap.lt_size q) hp))]; exact n
 there:=λ b u q _=>⟨u,k b u q⟩
 tups:=λ b xs q=>by rw [zf0 (yo0 q hn)]; exact q
 frzs:=λ b u xs q=>by rw [zf0 (yo0 q hn)]; exact q
 tbls:=λ b ps q=>⟨#[],by rw [zf0 (yo0 q hn),q]; simp⟩
theorem Un.write (mu : Mut (H x)) (he : e = x \/ H e = some (.own x)) (k : ∀ b u,b ≠ e -> h.get? b = some u -> h'.get? b = some u) (heo : ∃ u,h'.get? e = some u) : Un fs ex H (upd H x o) h h':=by
 have hx : ∀ b,H b = none -> b ≠ x:=λ b n z=>by subst z; rw [n] at mu; exact mu
 have hb : ∀ b,H b = none -> b ≠ e:=λ b n z=>by
  subst z
  rcases he with r | r
  ·exact hx b n r
  ·rw [n] at r; cases r
 have hm : ∀ b u,H b = some u -> ¬ Mut (some u) -> b ≠ x:=λ b u q nm z=>by subst z; rw [q] at mu; exact nm mu
 refine ⟨λ b u q n _ _=>k b u (hb b n) q,λ b u q n _ _=>⟨u.slots,k b u (hb b n) q⟩,λ b u q n _=>by rw [zf0 (hx b n)]; exact n,λ b u q _=>?_,
  λ b xs q=>by rw [zf0 (hm b _ q λ z=>z)]; exact q,λ b u xs q=>by rw [zf0 (hm b _ q λ z=>z)]; exact q,λ b ps q=>⟨#[],by rw [zf0 (hm b _ q λ z=>z),q]; simp⟩⟩
 by_cases hbe : b = e
 ·subst hbe; exact heo
 ·exact ⟨u,k b u hbe q⟩
end
noncomputable def trk (h : Heap) (H : Hp) : List Addr:=(List.range h.objs.size).filter λ a=>(H a).isSome
noncomputable def hidT (h : Heap) (H : Hp) : Heap:=PySem.W.hideAll h (trk h H)
theorem wb4 (h : Heap) (H : Hp) : (hidT h H).objs.size = h.objs.size:=PySem.W.hideAll_size _ _
theorem xz4 {h : Heap} {H : Hp} {b : Addr} {o : Obj} (e : h.get? b = some o) (n : H b = none) : (hidT h H).get? b = some o :=
 PySem.W.hideAll_get _ e λ hm=>by
  have q : (H b).isSome = true:=(List.mem_filter.mp hm).2
  rw [n] at q; simp at q
theorem xc6 {h : Heap} {H : Hp} {b : Addr} {o : Obj} (e : (hidT h H).get? b = some o) : h.get? b = some o /\ H b = none:=by
 have e' : h.get? b = some o:=PySem.W.of_hideAll (trk h H) e
 refine ⟨e',?_⟩
 cases q : H b with
 | none=>rfl
 | some x =>
  have hm : b ∈ trk h H:=List.mem_filter.mpr ⟨List.mem_range.mpr (Heap.lt_size e'),by simp [q]⟩
  have z : (hidT h H).get? b = none:=PySem.W.hideAll_none (trk h H) hm
  rw [z] at e; cases e
noncomputable def yj6 (g h : Heap) (L : Addr) : List (Addr × Obj):=(List.range h.objs.size).filterMap λ a=>if a = L \/ (g.get? a).isSome = true then none else (h.get? a).map λ o=>(a,o)
noncomputable def rest (g h : Heap) (L d : Addr) : List (Addr × Obj):=(yj6 g h L).filter λ p=>decide (p.1 ≠ d)
end L2
namespace L2
open PySem PySem.Spec PyProof.Rows
structure Mod (K : PySem.W.Frag) (mg : Str -> Option Value) (base : Heap) : Prop where
 kin : K.In base
 glob : base.Ns mainGlobals mg
 blt : ∃ mb,base.Ns builtinsNs mb /\ ∀ x : Str,x ≠ "__name__" -> mb x = bootBuiltins x
 nolimit : base.NoLimit
structure Cx where
 prog : Program
 w : World
 K : PySem.W.Frag
 mg : Str -> Option Value
 base : Heap
 A : Around
 N : List Str
 s₀ : Shared
 H₀ : Hp
 env : Env
 outer : List Env
 stack : List Env
 ex : List Addr
 fn : Str -> Bool
 calm : Bool
 pn : List (Addr × Obj)
 xe : Value -> Shared -> Prop
noncomputable def frs (l : List Env) : List Addr:=l.filterMap (·.frame)
noncomputable abbrev Cx.fs (X : Cx) : List Addr:=frs X.outer
noncomputable def Vis (sc : Scope) (x : Str) : Prop:=sc.names.lookup x = some .local \/ sc.names.lookup x = some .cell \/ sc.names.lookup x = some .free
noncomputable def Loc (sc : Scope) (x : Str) : Prop:=sc.names.lookup x = some .local \/ sc.names.lookup x = some .cell
noncomputable def Look (env : Env) (h : Heap) (m : Str -> Option Value) (x : Str) (u : Value) : Prop :=
 (env.kindOf x = some .local /\ m x = some u) \/ ((env.kindOf x = some .cell \/ env.kindOf x = some .free) /\ ∃ c,env.cells.lookup x = some c /\ h.IsCell c (some u))
structure Cx.Ok (X : Cx) : Prop where
 mod : Mod X.K X.mg X.base
 kind : X.env.scope.kind = .function
 glob : X.env.globals = mainGlobals
 blt : X.env.builtins = builtinsNs
 above : X.s₀.heap.objs.size <= X.env.locals
 inj : ∀ x y c,X.env.cells.lookup x = some c -> X.env.cells.lookup y = some c -> x = y
 has : ∀ x,(X.env.kindOf x = some .cell \/ X.env.kindOf x = some .free) -> ∃ c,X.env.cells.lookup x = some c
 cab : ∀ x c,X.fn x = true -> X.env.cells.lookup x = some c -> X.s₀.heap.objs.size <= c
 hd : X.calm = true -> X.A.handled = none
 frames : X.A.frames = some X.stack
 stk : X.stack = X.outer \/ (X.stack = X.env :: X.outer /\ X.env.frame = some X.env.locals)
 exf : ∀ b ∈ X.ex,b ≠ X.env.locals /\ ∀ x c,X.env.cells.lookup x = some c -> c ≠ b
 bs : ∀ b o,X.base.get? b = some o -> X.s₀.heap.get? b = some o /\ X.H₀ b = none
 bsz : X.base.objs.size <= X.s₀.heap.objs.size
 noex : ∀ b o,X.base.get? b = some o -> b ∉ X.ex
 exfs : ∀ b ∈ X.ex,b ∉ X.fs
 funs : X.s₀.heap.FunFrames X.base X.outer
 frf : ∀ b ∈ X.fs,X.H₀ b = none
structure Inv (X : Cx) (pins : List (Addr × Obj)) (σ : List (Option V)) (H : Hp) (s : Shared) : Prop where
 ok : X.Ok
 os : s.os = X.s₀.os
 bare : AllBare s.gens
 base : Un X.fs X.ex X.H₀ H X.s₀.heap s.heap
 loc : ∃ m,s.heap.Ns X.env.locals m /\ ∀ (i : Nat) (x : Str) (v : V),X.N[i]? = some x -> σ[i]? = some (some v) -> Vis X.env.scope x -> ∃ u,RelV v u /\ Look X.env s.heap m x u
 cell : ∀ x c,X.env.cells.lookup x = some c -> ∃ v,s.heap.IsCell c v
 free : H X.env.locals = none
 freeC : ∀ x c,X.env.cells.lookup x = some c -> H c = none
 pin : ∀ p ∈ X.pn ++ pins,s.heap.get? p.1 = some p.2 /\ H p.1 = none /\ p.1 ≠ X.env.locals /\ p.1 ∉ X.fs /\ ∀ v,p.2.data ≠ .cell v
 hok : HOk X.prog X.w H s.heap
 len : σ.length = X.N.length
section
variable {X : Cx} {pins : List (Addr × Obj)} {σ : List (Option V)} {H H' : Hp} {s : Shared} {h' : Heap}
theorem Cx.Ok.nofr (ok : X.Ok) {b : Addr} {o : Obj} (e : X.base.get? b = some o) : b ∉ X.fs:=λ hb=>by
 have:=(ok.funs.mem hb).1
 rw [e] at this; cases this
theorem Inv.bs (I : Inv X pins σ H s) : ∀ b o,X.base.get? b = some o -> s.heap.get? b = some o /\ H b = none:=λ b o e =>
 ⟨I.base.keep b o (I.ok.bs b o e).1 (I.ok.bs b o e).2 (I.ok.nofr e) (I.ok.noex b o e),I.base.free b o (I.ok.bs b o e).1 (I.ok.bs b o e).2 (I.ok.noex b o e)⟩
theorem Inv.bk (I : Inv X pins σ H s) : ∀ b o,X.base.get? b = some o -> s.heap.get? b = some o:=λ b o e=>(I.bs b o e).1
theorem Inv.mod (I : Inv X pins σ H s) : Mod X.K X.mg X.base:=I.ok.mod
theorem Inv.kIn (I : Inv X pins σ H s) : X.K.In s.heap:=I.ok.mod.kin.keeps I.bk
theorem Inv.lt (I : Inv X pins σ H s) : X.env.locals < s.heap.objs.size:=let ⟨_,hn,_⟩:=I.loc; hn.lt
theorem Inv.sz (I : Inv X pins σ H s) : X.s₀.heap.objs.size <= s.heap.objs.size:=Nat.le_trans I.ok.above (Nat.le_of_lt I.lt)
theorem Inv.nofs (I : Inv X pins σ H s) {a : Addr} (h : s.heap.objs.size <= a) : a ∉ X.fs:=λ hb=>by
 obtain ⟨_,o,ho,_⟩:=I.ok.funs.mem hb
 exact absurd (Nat.lt_of_lt_of_le (Heap.lt_size ho) (Nat.le_trans I.sz h)) (Nat.lt_irrefl _)
theorem Inv.cne (I : Inv X pins σ H s) : ∀ x c,X.env.cells.lookup x = some c -> c ≠ X.env.locals:=λ x c e z=>by
 obtain ⟨v,o,ho,hd⟩:=I.cell x c e
 obtain ⟨m,⟨o',es,ep,ho',hd',_⟩,_⟩:=I.loc
 rw [z,ho'] at ho; cases ho; rw [hd'] at hd; cases hd
theorem Inv.funs (I : Inv X pins σ H s) : s.heap.FunFrames X.base X.outer:=by
 have all : ∀ (l : List Env),(∀ b ∈ frs l,b ∈ X.fs) -> X.s₀.heap.FunFrames X.base l -> s.heap.FunFrames X.base l:=by
  intro l
  induction l with
  | nil=>intro _ _; trivial
  | cons env r ih =>
   intro hs hl
   obtain ⟨hk,⟨L,o,hf,hn,ho,hd⟩,hr⟩:=hl
   have hL : L ∈ X.fs:=hs L (by unfold frs; rw [List.filterMap_cons,hf]; exact List.mem_cons_self)
   obtain ⟨sl,e⟩:=I.base.slot L o ho (I.ok.frf L hL) hL λ z=>I.ok.exfs L z hL
   exact ⟨hk,⟨L,_,hf,hn,e,hd⟩,ih (λ b hb=>hs b (by unfold frs; rw [List.filterMap_cons,hf]; exact List.mem_cons_of_mem _ hb)) hr⟩
 exact all X.outer (λ _ hb=>hb) I.ok.funs
theorem Inv.stack (I : Inv X pins σ H s) : s.heap.FunFrames X.base X.stack:=by
 rcases I.ok.stk with e | ⟨e,hf⟩
 ·rw [e]; exact I.funs
 ·rw [e]
  obtain ⟨m,hn,_⟩:=I.loc
  refine .cons (by rw [I.ok.kind]; decide) hf hn ?_ I.funs
  exact Heap.get?_none_of_le (Nat.le_trans I.ok.bsz I.ok.above)
theorem Inv.stkSub (I : Inv X pins σ H s) : ∀ b ∈ frs X.stack,b ∈ X.env.locals :: X.fs:=λ b hb=>by
 rcases I.ok.stk with e | ⟨e,hf⟩
 ·rw [e] at hb; exact List.mem_cons_of_mem _ hb
 ·rw [e] at hb
  unfold frs at hb
  rw [List.filterMap_cons,hf] at hb
  exact hb
theorem Inv.stkFree (I : Inv X pins σ H s) : ∀ b ∈ frs X.stack,H b = none:=λ b hb=>by
 rcases List.mem_cons.mp (I.stkSub b hb) with e | hb
 ·rw [e]; exact I.free
 ·obtain ⟨_,o,ho,_⟩:=I.ok.funs.mem hb
  exact I.base.free b o ho (I.ok.frf b hb) λ z=>I.ok.exfs b z hb
theorem Inv.step {g' : Array GenState} {t' : Nat} {d' : Drawn} {ch : List Addr} (I : Inv X pins σ H s)
    (hch : ∀ b ∈ ch,(b ∈ X.ex \/ X.s₀.heap.objs.size <= b) /\ b ≠ X.env.locals /\ (∀ x c,X.env.cells.lookup x = some c -> c ≠ b) /\ ∀ p ∈ X.pn ++ pins,p.1 ≠ b)
    (keep : ∀ b o,b ≠ X.env.locals -> b ∉ X.fs -> b ∉ ch -> s.heap.get? b = some o -> H b = none -> h'.get? b = some o)
    (slot : ∀ b o,b ≠ X.env.locals -> b ∈ X.fs -> b ∉ ch -> s.heap.get? b = some o -> H b = none -> ∃ sl,h'.get? b = some { o with slots:=sl }) (free : ∀ b o,b ∉ ch -> s.heap.get? b = some o -> H b = none -> H' b = none)
    (there : ∀ b o,b ∉ ch -> s.heap.get? b = some o -> ∃ o',h'.get? b = some o')
    (tups : ∀ b xs,H b = some (.tup xs) -> H' b = some (.tup xs)) (frzs : ∀ b o u,H b = some (.frz o u) -> H' b = some (.frz o u)) (tbls : ∀ b ps,H b = some (.tbl ps) -> ∃ more,H' b = some (.tbl (ps ++ more)))
    (ns : ∀ m,s.heap.Ns X.env.locals m -> h'.Ns X.env.locals m) (hok : HOk X.prog X.w H' h') (hg : AllBare g') :
    Inv X pins σ H' { s with heap:=h',gens:=g',drawn:=d',toks:=t' }:=by
 have neL : ∀ b o,X.s₀.heap.get? b = some o -> b ≠ X.env.locals:=λ b o e=>Nat.ne_of_lt (Nat.lt_of_lt_of_le (Heap.lt_size e) I.ok.above)
 have neC : ∀ b o,X.s₀.heap.get? b = some o -> b ∉ X.ex -> b ∉ ch:=λ b o e hx hb=>by
  rcases (hch b hb).1 with z | z
  ·exact hx z
  ·exact absurd (Nat.lt_of_lt_of_le (Heap.lt_size e) z) (Nat.lt_irrefl _)
 have cellK : ∀ x c,X.env.cells.lookup x = some c -> ∀ v,s.heap.IsCell c v -> h'.IsCell c v:=λ x c e v ⟨o,ho,hd⟩=>by
  have nch : c ∉ ch:=λ z=>(hch c z).2.2.1 x c e rfl
  by_cases hc : c ∈ X.fs
  ·obtain ⟨sl,q⟩:=slot c o (I.cne x c e) hc nch ho (I.freeC x c e)
   exact ⟨_,q,hd⟩
  ·exact ⟨o,keep c o (I.cne x c e) hc nch ho (I.freeC x c e),hd⟩
 refine ⟨I.ok,I.os,hg,⟨λ b o e n hb hx=>?_,λ b o e n hb hx=>?_,λ b o e n hx=>?_,λ b o e hx=>?_,λ b xs e=>tups b xs (I.base.tups b xs e),λ b o xs e=>frzs b o xs (I.base.frzs b o xs e),λ b ps e=>?_⟩,?_,λ x c e=>?_,?_,λ x c e=>?_,λ p hp=>?_,hok,I.len⟩
 ·exact keep b o (neL b o e) hb (neC b o e hx) (I.base.keep b o e n hb hx) (I.base.free b o e n hx)
 ·obtain ⟨sl,e1⟩:=I.base.slot b o e n hb hx
  obtain ⟨sl',e2⟩:=slot b _ (neL b o e) hb (neC b o e hx) e1 (I.base.free b o e n hx)
  exact ⟨sl',e2⟩
 ·obtain ⟨o',e1⟩:=I.base.there b o e hx
  exact free b o' (neC b o e hx) e1 (I.base.free b o e n hx)
 ·obtain ⟨o',e1⟩:=I.base.there b o e hx
  exact there b o' (neC b o e hx) e1
 ·obtain ⟨m1,e1⟩:=I.base.tbls b ps e
  obtain ⟨m2,e2⟩:=tbls b _ e1
  exact ⟨m1 ++ m2,by rw [e2,Array.append_assoc]⟩
 ·obtain ⟨m,hn,hl⟩:=I.loc
  refine ⟨m,ns m hn,λ i x v e1 e2 e3=>?_⟩
  obtain ⟨u,r,l⟩:=hl i x v e1 e2 e3
  refine ⟨u,r,?_⟩
  rcases l with l | ⟨k,c,e,z⟩
  ·exact .inl l
  ·exact .inr ⟨k,c,e,cellK x c e _ z⟩
 ·obtain ⟨v,z⟩:=I.cell x c e
  exact ⟨v,cellK x c e v z⟩
 ·obtain ⟨m,⟨o,_,_,ho,_⟩,_⟩:=I.loc
  exact free _ o (λ z=>(hch _ z).2.1 rfl) ho I.free
 ·obtain ⟨v,o,ho,hd⟩:=I.cell x c e
  exact free c o (λ z=>(hch c z).2.2.1 x c e rfl) ho (I.freeC x c e)
 ·obtain ⟨e,n,ne,nf,d⟩:=I.pin p hp
  have nch : p.1 ∉ ch:=λ z=>(hch p.1 z).2.2.2 p hp rfl
  exact ⟨keep p.1 p.2 ne nf nch e n,free p.1 p.2 nch e n,ne,nf,d⟩
theorem Inv.un {t' : Nat} (I : Inv X pins σ H s) (u : Un X.fs [] H H' s.heap h') (hok : HOk X.prog X.w H' h') : Inv X pins σ H' { s with heap:=h',toks:=t' }:=by
 obtain ⟨m,⟨o,es,ep,ho,r⟩,_⟩:=id I.loc
 obtain ⟨sl,hL⟩:=u.any ho I.free (by simp)
 exact I.step (g':=s.gens) (d':=s.drawn) (ch:=[]) (λ _ z=>nomatch z) (λ b o _ hb _ e n=>u.keep b o e n hb (by simp)) (λ b o _ hb _ e n=>u.slot b o e n hb (by simp)) (λ b o _ e n=>u.free b o e n (by simp)) (λ b o _ e=>u.there b o e (by simp)) u.tups u.frzs u.tbls (λ m' hm=>by
  obtain ⟨o',es',ep',ho',r'⟩:=hm
  rw [ho] at ho'; cases ho'
  exact ⟨_,es',ep',hL,r'⟩) hok I.bare
theorem Inv.call {g' : Array GenState} {t' : Nat} {d' : Drawn} {ch : List Addr} (I : Inv X pins σ H s) (u : Un (frs X.stack) ch H H' s.heap h') (hok : HOk X.prog X.w H' h') (hg : AllBare g')
    (hch : ∀ b ∈ ch,(b ∈ X.ex \/ X.s₀.heap.objs.size <= b) /\ b ≠ X.env.locals /\ (∀ x c,X.env.cells.lookup x = some c -> c ≠ b) /\ ∀ p ∈ X.pn ++ pins,p.1 ≠ b) :
    Inv X pins σ H' { s with heap:=h',gens:=g',drawn:=d',toks:=t' }:=by
 obtain ⟨m,⟨o,es,ep,ho,r⟩,_⟩:=id I.loc
 obtain ⟨sl,hL⟩:=u.any ho I.free λ z=>(hch _ z).2.1 rfl
 exact I.step (ch:=ch) hch (λ b o hL hb hc e n=>u.keep b o e n (λ z=>(List.mem_cons.mp (I.stkSub b z)).elim hL hb) hc) (λ b o _ _ hc e n=>u.any e n hc) (λ b o hc e n=>u.free b o e n hc) (λ b o hc e=>u.there b o e hc) u.tups u.frzs u.tbls (λ m' hm=>by
  obtain ⟨o',es',ep',ho',r'⟩:=hm
  rw [ho] at ho'; cases ho'
  exact ⟨_,es',ep',hL,r'⟩) hok hg
theorem Inv.turned {t' : Nat} {it : Addr} (I : Inv X pins σ H s) (k : ∀ b o,b ≠ it -> s.heap.get? b = some o -> h'.get? b = some o) (hn : H it = none) (hL : it ≠ X.env.locals)
    (h1 : it ∈ X.ex \/ X.s₀.heap.objs.size <= it) (h2 : ∀ x c,X.env.cells.lookup x = some c -> c ≠ it) (h3 : ∀ p ∈ X.pn ++ pins,p.1 ≠ it) : Inv X pins σ H { s with heap:=h',toks:=t' }:=by
 have nit : ∀ b u,H b = some u -> b ≠ it:=λ b u e z=>by rw [z,hn] at e; cases e
 refine I.step (g':=s.gens) (d':=s.drawn) (ch:=[it]) (λ b hb=>?_) (λ b o _ _ hc e _=>k b o (λ z=>hc (by simp [z])) e) (λ b o _ _ hc e _=>⟨o.slots,k b o (λ z=>hc (by simp [z])) e⟩) (λ _ _ _ _ n=>n)
  (λ b o hc e=>⟨o,k b o (λ z=>hc (by simp [z])) e⟩) (λ _ _ e=>e) (λ _ _ _ e=>e) (λ b ps e=>⟨#[],by rw [e]; simp⟩) (λ m hm=>?_) (λ b u e=>?_) I.bare
 ·have e : b = it:=by simpa using hb
  subst e
  exact ⟨h1,hL,h2,h3⟩
 ·obtain ⟨o,es,ep,ho,r⟩:=hm
  exact ⟨o,es,ep,k _ o (Ne.symm hL) ho,r⟩
 ·refine (I.hok b u e).stay (λ c v hc q=>k c v ?_ q) (λ _ q=>q) λ _ _ q=>q
  rcases hc with z | z
  ·rw [z]; exact nit b u e
  ·exact nit c _ z
theorem Inv.tok (I : Inv X pins σ H s) (t : Nat) : Inv X pins σ H { s with toks:=t }:=I.un (h':=s.heap) (t':=t) Un.refl I.hok
theorem Inv.kept {t' : Nat} (I : Inv X pins σ H s) (k : ∀ b u,s.heap.get? b = some u -> h'.get? b = some u) : Inv X pins σ H { s with heap:=h',toks:=t' }:=I.un (Un.kept k) (I.hok.kept k)
theorem Inv.laid {a : Addr} {o : HO} {t' : Nat} (I : Inv X pins σ H s) (k : ∀ b u,s.heap.get? b = some u -> h'.get? b = some u) (hp : s.heap.objs.size <= a) (new : ObjOk X.prog X.w (upd H a o) h' a o) :
    Inv X pins σ (upd H a o) { s with heap:=h',toks:=t' }:=I.un (Un.laid k hp (I.hok.fresh hp)) (I.hok.laid k hp new)
theorem Inv.write {x e : Addr} {o : HO} {t' : Nat} (I : Inv X pins σ H s) (mu : Mut (H x)) (he : e = x \/ H e = some (.own x)) (k : ∀ b u,b ≠ e -> s.heap.get? b = some u -> h'.get? b = some u) (heo : ∃ u,h'.get? e = some u)
    (new : ObjOk X.prog X.w (upd H x o) h' x o) : Inv X pins σ (upd H x o) { s with heap:=h',toks:=t' }:=I.un (Un.write mu he k heo) (I.hok.write mu he k heo new)
theorem Inv.pins_of {pins' : List (Addr × Obj)} (I : Inv X pins σ H s) (h : ∀ p ∈ pins',s.heap.get? p.1 = some p.2 /\ H p.1 = none /\ p.1 ≠ X.env.locals /\ p.1 ∉ X.fs /\ ∀ v,p.2.data ≠ .cell v) : Inv X pins' σ H s :=
 ⟨I.ok,I.os,I.bare,I.base,I.loc,I.cell,I.free,I.freeC,λ p hp=>(List.mem_append.mp hp).elim (λ z=>I.pin p (List.mem_append_left _ z)) (h p),I.hok,I.len⟩
theorem xc2 {N : List Str} (hN : N.Nodup) {i j : Nat} {x : Str} (a : N[i]? = some x) (b : N[j]? = some x) : i = j:=by
 obtain ⟨h1,e1⟩:=List.getElem?_eq_some_iff.mp a
 obtain ⟨h2,e2⟩:=List.getElem?_eq_some_iff.mp b
 exact (List.getElem_inj hN).mp (e1.trans e2.symm)
theorem xh2 {M : Model} {A : Around} {E : Value -> Shared -> Prop} {i : Nat} {x : Str} {v : V} {u : Value} {Q : Unit -> Shared -> Prop} (I : Inv X pins σ H s) (hN : X.N.Nodup) (hi : X.N[i]? = some x) (hx : Loc X.env.scope x) (r : RelV v u)
    (h : ∀ s',Inv X pins (σ.set i (some v)) H s' -> (∃ a,Heap.SameBut a s.heap s'.heap /\ (a = X.env.locals \/ X.env.cells.lookup x = some a)) -> Q () s') (hf : X.fn x = true \/ X.env.scope.names.lookup x = some .local:=by first | exact .inl rfl | exact .inr rfl | assumption) : wpAny M A (storeName X.env x u) Q E s:=by
 obtain ⟨m,hn,hl⟩:=id I.loc
 have hcls : (X.env.scope.kind == .class || (X.env.scope.kind == .module && X.env.locals != X.env.globals)) = false:=by rw [I.ok.kind]; rfl
 have hiσ : i < σ.length:=by rw [I.len]; exact (List.getElem?_eq_some_iff.mp hi).1
 have cne:=I.cne
 have tracked : ∀ {a : Addr} {h' : Heap},(∃ o,s.heap.get? a = some o /\ H a = none) -> Heap.SameBut a s.heap h' -> HOk X.prog X.w H h':=λ {a h'} ha hs b ob e=>by
  obtain ⟨_,_,hfree⟩:=ha
  refine (I.hok b ob e).stay (λ c w' hc q=>(hs.2 c ?_).trans q) (λ _ q=>q) λ _ _ q=>q
  rintro rfl
  rcases hc with rfl | hc
  ·rw [hfree] at e; cases e
  ·rw [hfree] at hc; cases hc
 rcases hx with hk | hk
 ·refine wpAny_storeName_local hk hn (λ h' hn' hs=>?_) hcls
  obtain ⟨oL,_,_,hoL,_⟩:=id hn
  refine h _ ⟨I.ok,I.os,I.bare,⟨λ b o e n hb hx=>?_,λ b o e n hb hx=>?_,I.base.free,λ b o e hx=>?_,I.base.tups,I.base.frzs,I.base.tbls⟩,⟨_,hn',λ j y v' e1 e2 e3=>?_⟩,λ y c e=>?_,I.free,I.freeC,λ p hp=>?_,tracked ⟨oL,hoL,I.free⟩ hs,by simpa using I.len⟩ ⟨_,hs,.inl rfl⟩
  ·exact (hs.2 b (Nat.ne_of_lt (Nat.lt_of_lt_of_le (Heap.lt_size e) I.ok.above))).trans (I.base.keep b o e n hb hx)
  ·obtain ⟨sl,e1⟩:=I.base.slot b o e n hb hx
   exact ⟨sl,(hs.2 b (Nat.ne_of_lt (Nat.lt_of_lt_of_le (Heap.lt_size e) I.ok.above))).trans e1⟩
  ·obtain ⟨o',e1⟩:=I.base.there b o e hx
   exact ⟨o',(hs.2 b (Nat.ne_of_lt (Nat.lt_of_lt_of_le (Heap.lt_size e) I.ok.above))).trans e1⟩
  ·by_cases hj : j = i
   ·subst hj
    rw [hi] at e1; cases e1
    rw [List.getElem?_set_self hiσ] at e2
    cases e2
    exact ⟨u,r,.inl ⟨hk,by simp⟩⟩
   ·rw [List.getElem?_set_ne (Ne.symm hj)] at e2
    obtain ⟨u',r',q⟩:=hl j y v' e1 e2 e3
    refine ⟨u',r',?_⟩
    rcases q with ⟨k,e⟩ | ⟨k,c,e,z⟩
    ·refine .inl ⟨k,?_⟩
     have : y ≠ x:=λ e=>hj (xc2 hN e1 (e ▸ hi))
     simp [this,e]
    ·exact .inr ⟨k,c,e,z.sameBut hs (cne y c e)⟩
  ·obtain ⟨w',z⟩:=I.cell y c e
   exact ⟨w',z.sameBut hs (cne y c e)⟩
  ·obtain ⟨e,n,ne,nf,d⟩:=I.pin p hp
   exact ⟨(hs.2 p.1 ne).trans e,n,ne,nf,d⟩
 ·have hfn : X.fn x = true:=by
    rcases hf with z | z
    ·exact z
    ·rw [z] at hk; cases hk
  obtain ⟨c,hc⟩:=I.ok.has x (.inl hk)
  obtain ⟨w',z⟩:=I.cell x c hc
  refine wpAny_storeName_cell I.ok.kind hk hc z (λ h' hc' hs=>?_)
  obtain ⟨oc,hoc,hocd⟩:=id z
  refine h { s with heap:=h' } ⟨I.ok,I.os,I.bare,⟨λ b o e n hb hx=>?_,λ b o e n hb hx=>?_,I.base.free,λ b o e hx=>?_,I.base.tups,I.base.frzs,I.base.tbls⟩,⟨m,hn.sameBut hs (Ne.symm (cne x c hc)),λ j y v' e1 e2 e3=>?_⟩,λ y c' e=>?_,I.free,I.freeC,λ p hp=>?_,tracked ⟨oc,hoc,I.freeC x c hc⟩ hs,by simpa using I.len⟩ ⟨c,hs,.inr hc⟩
  ·exact (hs.2 b (Nat.ne_of_lt (Nat.lt_of_lt_of_le (Heap.lt_size e) (I.ok.cab x c hfn hc)))).trans (I.base.keep b o e n hb hx)
  ·obtain ⟨sl,e1⟩:=I.base.slot b o e n hb hx
   exact ⟨sl,(hs.2 b (Nat.ne_of_lt (Nat.lt_of_lt_of_le (Heap.lt_size e) (I.ok.cab x c hfn hc)))).trans e1⟩
  ·obtain ⟨o',e1⟩:=I.base.there b o e hx
   exact ⟨o',(hs.2 b (Nat.ne_of_lt (Nat.lt_of_lt_of_le (Heap.lt_size e) (I.ok.cab x c hfn hc)))).trans e1⟩
  ·by_cases hj : j = i
   ·subst hj
    rw [hi] at e1; cases e1
    rw [List.getElem?_set_self hiσ] at e2
    cases e2
    exact ⟨u,r,.inr ⟨.inl hk,c,hc,hc'⟩⟩
   ·rw [List.getElem?_set_ne (Ne.symm hj)] at e2
    obtain ⟨u',r',q⟩:=hl j y v' e1 e2 e3
    refine ⟨u',r',?_⟩
    rcases q with q | ⟨k,c',e,z'⟩
    ·exact .inl q
    ·refine .inr ⟨k,c',e,z'.sameBut hs ?_⟩
     rintro rfl
     exact hj (xc2 hN e1 (I.ok.inj _ _ _ e hc ▸ hi))
  ·by_cases hcc : c' = c
   ·subst hcc; exact ⟨_,hc'⟩
   ·obtain ⟨w2,z2⟩:=I.cell y c' e
    exact ⟨w2,z2.sameBut hs hcc⟩
  ·obtain ⟨e,n,ne,nf,d⟩:=I.pin p hp
   refine ⟨(hs.2 p.1 ?_).trans e,n,ne,nf,d⟩
   intro q
   rw [q,hoc] at e
   have q' : oc = p.2:=Option.some.inj e
   exact d w' (by rw [<- q']; exact hocd)
theorem wn1 {M : Model} {A : Around} {E : Value -> Shared -> Prop} {i : Nat} {x : Str} {v : V} {u : Value} {Q : Unit -> Shared -> Prop} (I : Inv X pins σ H s) (hN : X.N.Nodup) (hi : X.N[i]? = some x) (hx : Loc X.env.scope x) (r : RelV v u)
    (h : ∀ s',Inv X pins (σ.set i (some v)) H s' -> Q () s') (hf : X.fn x = true \/ X.env.scope.names.lookup x = some .local:=by first | exact .inl rfl | exact .inr rfl | assumption) : wpAny M A (storeName X.env x u) Q E s :=
 xh2 I hN hi hx r (λ s' I' _=>h s' I') hf
theorem Inv.call' {s' : Shared} {ch : List Addr} (I : Inv X pins σ H s) (ho : s'.os = s.os) (u : Un (frs X.stack) ch H H' s.heap s'.heap) (hok : HOk X.prog X.w H' s'.heap) (hg : AllBare s'.gens)
    (hch : ∀ b ∈ ch,(b ∈ X.ex \/ X.s₀.heap.objs.size <= b) /\ b ≠ X.env.locals /\ (∀ x c,X.env.cells.lookup x = some c -> c ≠ b) /\ ∀ p ∈ X.pn ++ pins,p.1 ≠ b) : Inv X pins σ H' s':=by
 obtain ⟨h',g',d',t',o'⟩:=s'
 have e : o' = s.os:=ho
 subst e
 exact I.call (g':=g') (t':=t') (d':=d') u hok hg hch
end
noncomputable abbrev XK:=Value -> Option Addr -> Hp -> Prop
noncomputable abbrev St:=List (Option V)
noncomputable abbrev VK:=V -> Hp -> Prop
noncomputable abbrev TE:=St -> Hp -> VK -> Prop
noncomputable abbrev TT:=St -> Hp -> (Bool -> Hp -> Prop) -> Prop
noncomputable abbrev TA:=St -> Hp -> (List V -> Hp -> Prop) -> Prop
structure Ends where
 nx : St -> Hp -> Prop
 rt : VK
 bk : St -> Hp -> Prop:=λ _ _=>False
 ct : St -> Hp -> Prop:=λ _ _=>False
noncomputable abbrev TS:=Ends -> St -> Hp -> Prop
noncomputable def EP (X : Cx) (pins : List (Addr × Obj)) (σ : St) (Q : VK) (u : Value) (s' : Shared) : Prop:=∃ v H',Inv X pins σ H' s' /\ RelV v u /\ Q v H'
noncomputable def TP (X : Cx) (pins : List (Addr × Obj)) (σ : St) (Q : Bool -> Hp -> Prop) (b : Bool) (s' : Shared) : Prop:=∃ H',Inv X pins σ H' s' /\ Q b H'
noncomputable def AP (X : Cx) (pins : List (Addr × Obj)) (σ : St) (Q : List V -> Hp -> Prop) (us : List Value) (s' : Shared) : Prop:=∃ vs H',Inv X pins σ H' s' /\ Vals vs us /\ Q vs H'
noncomputable def SP (X : Cx) (pins : List (Addr × Obj)) (D : Ends) (f : Flow) (s' : Shared) : Prop :=
 match f with
 | .next=>∃ σ' H',Inv X pins σ' H' s' /\ D.nx σ' H'
 | .brk=>∃ σ' H',Inv X pins σ' H' s' /\ D.bk σ' H'
 | .cont=>∃ σ' H',Inv X pins σ' H' s' /\ D.ct σ' H'
 | .ret u=>∃ v σ' H',Inv X pins σ' H' s' /\ RelV v u /\ D.rt v H'
noncomputable def PE (X : Cx) (e : Expr) (t : TE) : Prop :=
 ∀ (pins : List (Addr × Obj)) (s : Shared) (σ : St) (H : Hp) (Q : VK),Inv X pins σ H s -> t σ H Q -> wpAny (model X.prog X.w) X.A (eval e X.env) (EP X pins σ Q) X.xe s
noncomputable def PT (X : Cx) (e : Expr) (t : TT) : Prop :=
 ∀ (pins : List (Addr × Obj)) (s : Shared) (σ : St) (H : Hp) (Q : Bool -> Hp -> Prop),Inv X pins σ H s -> t σ H Q -> wpAny (model X.prog X.w) X.A (isTrue e X.env (eval e X.env)) (TP X pins σ Q) X.xe s
noncomputable def PW (X : Cx) (e : Expr) (t : TT) : Prop :=
 ∀ (whole : Sem Value) (pins : List (Addr × Obj)) (s : Shared) (σ : St) (H : Hp) (Q : Bool -> Hp -> Prop),Inv X pins σ H s -> t σ H Q -> wpAny (model X.prog X.w) X.A (isTrue e X.env whole) (TP X pins σ Q) X.xe s
theorem PW.pt {X : Cx} {e : Expr} {t : TT} (h : PW X e t) : PT X e t:=h _
noncomputable def PA (X : Cx) (es : List Expr) (t : TA) : Prop :=
 ∀ (pos : Pos) (pins : List (Addr × Obj)) (s : Shared) (σ : St) (H : Hp) (Q : List V -> Hp -> Prop),Inv X pins σ H s -> t σ H Q -> wpAny (model X.prog X.w) X.A (spliced (backTo pos (starEach es X.env))) (AP X pins σ Q) X.xe s
noncomputable def PS (X : Cx) (st : Stmt) (t : TS) : Prop :=
 ∀ (pins : List (Addr × Obj)) (s : Shared) (σ : St) (H : Hp) (D : Ends),Inv X pins σ H s -> t D σ H -> wpAny (model X.prog X.w) X.A (exec st X.env) (SP X pins D) X.xe s
noncomputable def PSs (X : Cx) (st : List Stmt) (t : TS) : Prop :=
 ∀ (pins : List (Addr × Obj)) (s : Shared) (σ : St) (H : Hp) (D : Ends),Inv X pins σ H s -> t D σ H -> wpAny (model X.prog X.w) X.A (execs st X.env) (SP X pins D) X.xe s
theorem thn {α : Type} {t : Sem α} {Q Q' : α -> Shared -> Prop} {M : Model} {A : Around} {E : Value -> Shared -> Prop} {s : Shared} (h : wpAny M A t Q E s) (hQ : ∀ a s,Q a s -> Q' a s) : wpAny M A t Q' E s:=wpAny_mono h hQ λ _ _ x=>x
end L2
namespace L2
open PySem PySem.Spec PyProof.Rows
section
variable {X : Cx}
noncomputable def tVar (i : Nat) : TE:=λ σ H Q=>∃ v,σ[i]? = some (some v) /\ Q v H
noncomputable def tC (v : V) : TE:=λ _ H Q=>Q v H
theorem zs7 {i : Nat} {x : Str} {pos : Pos} (hN : X.N[i]? = some x) (hv : Vis X.env.scope x) (hd : (x == ("__debug__" : Str)) = false:=by decide) (hcd : (x == ("__classdict__" : Str)) = false:=by decide) : PE X (.Name x pos) (tVar i):=by
 intro pins s σ H Q I h
 obtain ⟨v,e,h⟩:=h
 obtain ⟨m,hn,hl⟩:=I.loc
 obtain ⟨u,r,l⟩:=hl i x v hN e hv
 have fin : EP X pins σ Q u s:=⟨v,H,I,r,h⟩
 rcases l with ⟨hk,hm⟩ | ⟨hk,c,hc,hcell⟩
 ·exact wpAny_Name (wpAny_loadName_local I.ok.kind hk hn hm fin) hd
 ·rcases hk with hk | hk
  ·exact wpAny_Name (wpAny_loadName_cell I.ok.kind hk hc hcell fin) hd
  ·exact wpAny_Name (wpAny_loadName_free I.ok.kind hk hc hcell fin hcd) hd
theorem yu7 {i j pos} : PE X (.Constant (.int i) j pos) (tC (.int i)):=λ _ _ _ H _ I h=>wpAny_Constant_int ⟨.int i,H,I.tok _,⟨_,rfl⟩,h⟩
theorem xt8 {b j pos} : PE X (.Constant (.bool b) j pos) (tC (.bl b)):=λ _ _ _ H _ I h=>Constant_bool ⟨.bl b,H,I,rfl,h⟩
theorem wt7 {j pos} : PE X (.Constant .none j pos) (tC .non):=λ _ _ _ H _ I h=>Constant_none ⟨.non,H,I,rfl,h⟩
theorem xt7 {x j pos} : PE X (.Constant (.str x) j pos) (tC (.str x)):=λ _ _ _ H _ I h=>Calls.Constant_str ⟨.str x,H,I.tok _,⟨_,rfl⟩,h⟩
noncomputable def Gl (X : Cx) (x : Str) : Prop:=X.env.kindOf x = some .globalImplicit
theorem yz0 {E : Value -> Shared -> Prop} {pins : List (Addr × Obj)} {s : Shared} {σ : St} {H : Hp} {x : Str} {u : Value} {pos : Pos} {Q : Value -> Shared -> Prop} (I : Inv X pins σ H s) (hg : Gl X x) (hm : X.mg x = some u) (h : Q u s)
    (hd : (x == ("__debug__" : Str)) = false:=by decide) : wpAny (model X.prog X.w) X.A (eval (.Name x pos) X.env) Q E s :=
 Calls.Name_function_global I.ok.kind hg (Calls.loadGlobal_global (by rw [I.ok.glob]; exact I.mod.glob.keeps I.bk) hm h) hd
theorem zt1 {E : Value -> Shared -> Prop} {pins : List (Addr × Obj)} {s : Shared} {σ : St} {H : Hp} {x : Str} {u : Value} {pos : Pos} {Q : Value -> Shared -> Prop} (I : Inv X pins σ H s) (hg : Gl X x) (hm : X.mg x = none) (hv : bootBuiltins x = some u) (h : Q u s)
    (hn : x ≠ "__name__" := by decide) (hd : (x == ("__debug__" : Str)) = false:=by decide) : wpAny (model X.prog X.w) X.A (eval (.Name x pos) X.env) Q E s:=by
 obtain ⟨mb,h1,h2⟩:=I.mod.blt
 exact Calls.Name_function_global I.ok.kind hg (Calls.loadGlobal_builtin (by rw [I.ok.glob]; exact I.mod.glob.keeps I.bk) hm (by rw [I.ok.blt]; exact h1.keeps I.bk) ((h2 x hn).trans hv) h) hd
theorem wz5 {x : Str} {v : V} {u : Value} {pos : Pos} (hg : Gl X x) (hm : X.mg x = some u) (r : RelV v u) (hd : (x == ("__debug__" : Str)) = false:=by decide) : PE X (.Name x pos) (tC v) :=
 λ _ _ _ H _ I h=>yz0 I hg hm ⟨v,H,I,r,h⟩ hd
theorem wv3 {x : Str} {v : V} {u : Value} {pos : Pos} (hg : Gl X x) (hm : X.mg x = none) (hv : bootBuiltins x = some u) (r : RelV v u) (hn : x ≠ "__name__" := by decide) (hd : (x == ("__debug__" : Str)) = false:=by decide) : PE X (.Name x pos) (tC v) :=
 λ _ _ _ H _ I h=>zt1 I hg hm hv ⟨v,H,I,r,h⟩ hn hd
variable {a b : Expr} {ta tb : TE} {pos : Pos}
noncomputable def tB (t : TE) : TT:=λ σ H Q=>t σ H λ x H1=>∃ c,x = .bl c /\ Q c H1
theorem zp7 {e : Expr} {t : TE} (h : PE X e t) (he : ∀ whole,isTrue e X.env whole = (do let v <- whole; standAt e.pos; holding [v] (truthy v)):=by intro _; rfl) : PT X e (tB t):=by
 intro pins s σ H Q I hw
 refine isTrue_plain (thn (h pins s σ H _ I hw) λ v s1 ⟨x,H1,I1,r1,q1⟩=>?_) (he _)
 obtain ⟨d,rfl,q⟩:=q1
 cases r1
 exact wpAny_truthy_bool ⟨H1,I1,q⟩
variable {tA tB' : TT} {rest : List Expr}
noncomputable def tAnd (t u : TT) : TT:=λ σ H Q=>t σ H λ c H1=>if c = true then u σ H1 Q else Q false H1
noncomputable def tOr (t u : TT) : TT:=λ σ H Q=>t σ H λ c H1=>if c = true then Q true H1 else u σ H1 Q
noncomputable def tNot (t : TT) : TT:=λ σ H Q=>t σ H λ c H1=>Q (!c) H1
theorem yw5 (ha : PT X a tA) : PW X (.BoolOp .And [a] pos) tA:=by
 intro wh pins s σ H Q I h
 refine isTrue_and (thn (ha pins s σ H Q I h) λ c s1 e=>?_)
 cases c with
 | true=>exact isTrue_and_nil e
 | false=>exact e
theorem xp7 (ha : PT X a tA) : PW X (.BoolOp .Or [a] pos) tA:=by
 intro wh pins s σ H Q I h
 refine isTrue_or (thn (ha pins s σ H Q I h) λ c s1 e=>?_)
 cases c with
 | false=>exact isTrue_or_nil e
 | true=>exact e
theorem yp7 (ha : PT X a tA) (hb : PW X (.BoolOp .And (b :: rest) pos) tB') : PW X (.BoolOp .And (a :: b :: rest) pos) (tAnd tA tB'):=by
 intro wh pins s σ H Q I h
 refine isTrue_and (thn (ha pins s σ H _ I h) λ c s1 ⟨H1,I1,q1⟩=>?_)
 cases c with
 | true=>exact hb wh pins s1 σ H1 Q I1 q1
 | false=>exact ⟨H1,I1,q1⟩
theorem wq8 (ha : PT X a tA) (hb : PW X (.BoolOp .Or (b :: rest) pos) tB') : PW X (.BoolOp .Or (a :: b :: rest) pos) (tOr tA tB'):=by
 intro wh pins s σ H Q I h
 refine isTrue_or (thn (ha pins s σ H _ I h) λ c s1 ⟨H1,I1,q1⟩=>?_)
 cases c with
 | true=>exact ⟨H1,I1,q1⟩
 | false=>exact hb wh pins s1 σ H1 Q I1 q1
theorem wp7 (ha : PT X a tA) : PT X (.UnaryOp .Not a pos) (tNot tA):=by
 intro pins s σ H Q I h
 exact isTrue_not (ha pins s σ H (λ c H1=>Q (!c) H1) I h)
noncomputable def wh8 (ta tb : TE) : TE:=λ σ H Q=>ta σ H λ x H1=>∃ c,x = .bl c /\ if c = true then tb σ H1 Q else Q (.bl false) H1
noncomputable def yg8 (ta : TE) : TE:=λ σ H Q=>ta σ H λ x H1=>∃ c,x = .bl c /\ Q (.bl (!c)) H1
theorem yt7 {op} {t : TE} (h : PE X a t) : PE X (.BoolOp op [a] pos) t:=λ pins s σ H Q I hw=>BoolOp_one (h pins s σ H Q I hw)
theorem wu7 (ha : PE X a ta) (hb : PE X (.BoolOp .And (b :: rest) pos) tb) : PE X (.BoolOp .And (a :: b :: rest) pos) (wh8 ta tb):=by
 intro pins s σ H Q I h
 refine BoolOp_and (thn (ha pins s σ H _ I h) λ v s1 ⟨x,H1,I1,r1,q1⟩=>?_)
 obtain ⟨c,rfl,q1⟩:=q1
 cases r1
 refine wpAny_truthy_bool ?_
 cases c with
 | true=>exact hb pins s1 σ H1 Q I1 q1
 | false=>exact ⟨.bl false,H1,I1,rfl,q1⟩
theorem zt7 (ha : PE X a ta) : PE X (.UnaryOp .Not a pos) (yg8 ta):=by
 intro pins s σ H Q I h
 refine UnaryOp_ (thn (ha pins s σ H _ I h) λ v s1 ⟨x,H1,I1,r1,q1⟩=>?_)
 obtain ⟨c,rfl,q1⟩:=q1
 cases r1
 exact not_of (wpAny_truthy_bool ⟨.bl (!c),H1,I1,rfl,q1⟩)
noncomputable def tIf (t : TT) (ta tb : TE) : TE:=λ σ H Q=>t σ H λ c H1=>if c = true then ta σ H1 Q else tb σ H1 Q
theorem wt4 {c : Expr} (hc : PT X c tA) (ha : PE X a ta) (hb : PE X b tb) : PE X (.IfExp c a b pos) (tIf tA ta tb):=by
 intro pins s σ H Q I h
 refine wpAny_IfExp (thn (hc pins s σ H _ I h) λ d s1 ⟨H1,I1,q1⟩=>?_)
 cases d with
 | true=>exact ha pins s1 σ H1 Q I1 q1
 | false=>exact hb pins s1 σ H1 Q I1 q1
end
end L2
namespace L2
open PySem PySem.Spec PyProof.Rows
noncomputable def SqL (K : PySem.W.Frag) (H : Hp) (a : Addr) (xs : List V) : Prop :=
 Rd H a (.lst xs) ∨
  ∃ (o : Obj) (its : Array Value) (n : Nat),K.lookup a = some o /\ o.cls = .type "list" /\ o.dict = none /\ o.data = .seq its n /\ its.size <= sizeLine /\ Vals xs its.toList
noncomputable def SqT (K : PySem.W.Frag) (H : Hp) (a : Addr) (xs : List V) : Prop :=
 Rd H a (.tup xs) ∨
  ∃ (o : Obj) (its : Array Value) (n : Nat),K.lookup a = some o /\ o.cls = .type "tuple" /\ o.data = .seq its n /\ its.size <= sizeLine /\ Vals xs its.toList
noncomputable def absV : Value -> Option V
 | .none=>some .non
 | .bool b=>some (.bl b)
 | .int i _=>some (.int i)
 | .str x _=>some (.str x)
 | .bytes b _=>some (.byt b)
 | .float b _=>some (.flt b)
 | .ref a=>some (.ref a)
 | .type n=>some (.ty n)
 | _=>none
theorem RelV.abs {x : V} {u : Value} (r : RelV x u) : absV u = some x:=by
 cases x with
 | non=>cases r; rfl
 | bl _=>cases r; rfl
 | int _=>obtain ⟨t,rfl⟩:=r; rfl
 | str _=>obtain ⟨t,rfl⟩:=r; rfl
 | byt _=>obtain ⟨t,rfl⟩:=r; rfl
 | flt _=>obtain ⟨t,rfl⟩:=r; rfl
 | ref _=>cases r; rfl
 | ty _=>cases r; rfl
theorem RelV.inj {x y : V} {u : Value} (r : RelV x u) (q : RelV y u) : x = y:=Option.some.inj (r.abs.symm.trans q.abs)
theorem Vals.inj : ∀ {xs ys : List V} {us : List Value},Vals xs us -> Vals ys us -> xs = ys
 | _,_,_,.nil,.nil=>rfl
 | _,_,_,.cons r t,.cons r' t'=>by rw [r.inj r',Vals.inj t t']
section
variable {X : Cx} {pins : List (Addr × Obj)} {σ : St} {H : Hp} {s : Shared} {a : Addr} {xs ys : List V}
theorem SqL.of {K : PySem.W.Frag} (h : H a = some (.lst xs)) : SqL K H a xs:=.inl (.inl h)
theorem SqT.of {K : PySem.W.Frag} (h : H a = some (.tup xs)) : SqT K H a xs:=.inl (.inl h)
theorem Inv.list (I : Inv X pins σ H s) (h : SqL X.K H a xs) : ∃ its : List Value,Vals xs its /\ PlainL s.heap a its.toArray /\ xs.length <= sizeLine:=by
 rcases h with h | ⟨o,its,n,hk,hc,hd,hs,hz,r⟩
 ·obtain ⟨z,its,n,r,e⟩:=h.ok I.hok
  exact ⟨its,r,⟨_,n,e,rfl,rfl,rfl⟩,z⟩
 ·refine ⟨its.toList,r,⟨o,n,I.kIn a o hk,hc,hd,by simpa using hs⟩,?_⟩
  have e:=r.length
  simp only [Array.length_toList] at e
  omega
theorem Inv.tuple (I : Inv X pins σ H s) (h : SqT X.K H a xs) : ∃ its : List Value,Vals xs its /\ IsTup s.heap a its.toArray /\ xs.length <= sizeLine:=by
 rcases h with h | ⟨o,its,n,hk,hc,hs,hz,r⟩
 ·obtain ⟨z,its,r,p⟩:=h.ok I.hok
  exact ⟨its,r,p,z⟩
 ·refine ⟨its.toList,r,⟨o,I.kIn a o hk,hc,n,by simpa using hs⟩,?_⟩
  have e:=r.length
  simp only [Array.length_toList] at e
  omega
theorem Inv.list_inj (I : Inv X pins σ H s) (h : SqL X.K H a xs) (h' : SqL X.K H a ys) : xs = ys:=by
 obtain ⟨its,r,⟨o,n,e,_,_,d⟩,_⟩:=I.list h
 obtain ⟨its',r',⟨o',n',e',_,_,d'⟩,_⟩:=I.list h'
 rw [e] at e'; cases e'
 rw [d] at d'
 injection d' with d1 _
 have : its = its':=by simpa using congrArg Array.toList d1
 subst this
 exact r.inj r'
theorem Inv.tuple_inj (I : Inv X pins σ H s) (h : SqT X.K H a xs) (h' : SqT X.K H a ys) : xs = ys:=by
 obtain ⟨its,r,⟨o,e,_,n,d⟩,_⟩:=I.tuple h
 obtain ⟨its',r',⟨o',e',_,n',d'⟩,_⟩:=I.tuple h'
 rw [e] at e'; cases e'
 rw [d] at d'
 injection d' with d1 _
 have : its = its':=by simpa using congrArg Array.toList d1
 subst this
 exact r.inj r'
end
noncomputable abbrev Cx.wish (X : Cx) (E : Value -> Shared -> Prop) : Cx:={ X with xe:=E }
noncomputable abbrev Cx.nox (X : Cx) : Cx:=X.wish λ _ _=>False
theorem Cx.Ok.wish {X : Cx} (ok : X.Ok) (E : Value -> Shared -> Prop) : (X.wish E).Ok :=
 ⟨ok.mod,ok.kind,ok.glob,ok.blt,ok.above,ok.inj,ok.has,ok.cab,ok.hd,ok.frames,ok.stk,ok.exf,ok.bs,ok.bsz,ok.noex,ok.exfs,ok.funs,ok.frf⟩
theorem Cx.Ok.unwish {X : Cx} {E : Value -> Shared -> Prop} (ok : (X.wish E).Ok) : X.Ok :=
 ⟨ok.mod,ok.kind,ok.glob,ok.blt,ok.above,ok.inj,ok.has,ok.cab,ok.hd,ok.frames,ok.stk,ok.exf,ok.bs,ok.bsz,ok.noex,ok.exfs,ok.funs,ok.frf⟩
section
variable {X : Cx} {pins : List (Addr × Obj)} {σ : St} {H : Hp} {s : Shared} {E : Value -> Shared -> Prop}
theorem Inv.wish (I : Inv X pins σ H s) (E : Value -> Shared -> Prop) : Inv (X.wish E) pins σ H s:=⟨I.ok.wish E,I.os,I.bare,I.base,I.loc,I.cell,I.free,I.freeC,I.pin,I.hok,I.len⟩
theorem Inv.unwish (I : Inv (X.wish E) pins σ H s) : Inv X pins σ H s:=⟨I.ok.unwish,I.os,I.bare,I.base,I.loc,I.cell,I.free,I.freeC,I.pin,I.hok,I.len⟩
theorem SP.unwish {D : Ends} {f : Flow} {s' : Shared} (h : SP (X.wish E) pins D f s') : SP X pins D f s':=by
 cases f with
 | next=>obtain ⟨σ',H',I,q⟩:=h; exact ⟨σ',H',I.unwish,q⟩
 | brk=>obtain ⟨σ',H',I,q⟩:=h; exact ⟨σ',H',I.unwish,q⟩
 | cont=>obtain ⟨σ',H',I,q⟩:=h; exact ⟨σ',H',I.unwish,q⟩
 | ret u=>obtain ⟨v,σ',H',I,r,q⟩:=h; exact ⟨v,σ',H',I.unwish,r,q⟩
theorem PSs.nox {st : List Stmt} {t : TS} (h : PSs X.nox st t) : PSs X st t:=λ pins s σ H D I hw =>
 wpAny_mono (h pins s σ H D (I.wish _) hw) (λ _ _ q=>q.unwish) λ _ _ z=>False.elim z
end
section
variable {X : Cx} {st : Stmt} {rest : List Stmt} {t u : TS} {e : Expr} {te : TE} {pos : Pos}
noncomputable def zg8 : TS:=λ D σ H=>D.nx σ H
noncomputable def tSeq (t u : TS) : TS:=λ D σ H=>t { D with nx:=u D } σ H
theorem zx5 : PSs X [] zg8:=λ _ _ σ H _ I h=>wpAny_execs_nil ⟨σ,H,I,h⟩
theorem ys4 (h1 : PS X st t) (h2 : PSs X rest u) : PSs X (st :: rest) (tSeq t u):=by
 intro pins s σ H D I h
 refine wpAny_execs_cons (thn (h1 pins s σ H { D with nx:=u D } I h) λ f s1 q=>?_)
 cases f with
 | next =>
  obtain ⟨σ',H',I',q⟩:=q
  exact h2 pins s1 σ' H' D I' q
 | ret v=>exact q
 | brk=>exact q
 | cont=>exact q
theorem yx5 (h1 : PS X st t) : PSs X [st] t:=by
 intro pins s σ H D I h
 refine wpAny_execs_cons (thn (h1 pins s σ H D I h) λ f s1 q=>?_)
 cases f with
 | next=>exact wpAny_execs_nil q
 | ret v=>exact q
 | brk=>exact q
 | cont=>exact q
theorem Inv.quiet {pins : List (Addr × Obj)} {σ : St} {H : Hp} {s : Shared} (I : Inv X pins σ H s) : interactive X.env = false:=by simp [interactive,I.ok.kind]
noncomputable def yh8 (te : TE) : TS:=λ D σ H=>te σ H λ _ H1=>D.nx σ H1
theorem xy5 (he : PE X e te) (hs : swapsWith e none pos.line X.env = pure false:=by rfl) : PS X (.Expr e pos) (yh8 te):=by
 intro pins s σ H D I h
 exact wpAny_Expr_any (thn (he pins s σ H _ I h) λ v s1 ⟨x,H1,I1,r1,q1⟩=>⟨σ,H1,I1,q1⟩) I.quiet hs
noncomputable def tRet (te : TE) : TS:=λ D σ H=>te σ H D.rt
theorem yq7 (he : PE X e te) : PS X (.Return (some e) pos) (tRet te):=by
 intro pins s σ H D I h
 exact wpAny_Return_some (thn (he pins s σ H _ I h) λ v s1 ⟨x,H1,I1,r1,q1⟩=>⟨x,σ,H1,I1,r1,q1⟩)
noncomputable def tIfS (c : TT) (t u : TS) : TS:=λ D σ H=>c σ H λ b H1=>if b = true then t D σ H1 else u D σ H1
theorem xr8 {c : Expr} {a b : List Stmt} {tc : TT} (hc : PT X c tc) (ha : PSs X a t) (hb : PSs X b u) : PS X (.If c a b pos) (tIfS tc t u):=by
 intro pins s σ H D I h
 refine wpAny_If (thn (hc pins s σ H _ I h) λ d s1 ⟨H1,I1,q1⟩=>?_)
 cases d with
 | true=>exact ha pins s1 σ H1 D I1 q1
 | false=>exact hb pins s1 σ H1 D I1 q1
noncomputable def zs6 : TS:=λ _ _ _=>False
theorem xt4 : PS X st zs6:=λ _ _ _ _ _ _ h=>h.elim
end
noncomputable abbrev TG:=V -> St -> Hp -> (St -> Hp -> Prop) -> Prop
noncomputable abbrev TGs:=List V -> St -> Hp -> (St -> Hp -> Prop) -> Prop
noncomputable def PG (X : Cx) (target : Expr) (t : TG) : Prop :=
 ∀ (pins : List (Addr × Obj)) (s : Shared) (σ : St) (H : Hp) (v : V) (u : Value) (Q : St -> Hp -> Prop),Inv X pins σ H s -> RelV v u -> t v σ H Q ->
  wpAny (model X.prog X.w) X.A (assign target X.env u) (λ _ s'=>∃ σ' H',Inv X pins σ' H' s' /\ Q σ' H') X.xe s
noncomputable def PGs (X : Cx) (ts : List Expr) (t : TGs) : Prop :=
 ∀ (pins : List (Addr × Obj)) (s : Shared) (σ : St) (H : Hp) (vs : List V) (us : List Value) (Q : St -> Hp -> Prop),Inv X pins σ H s -> Vals vs us -> t vs σ H Q ->
  wpAny (model X.prog X.w) X.A (assignInOrder ((assignEach ts X.env).map (·.2)) us) (λ _ s'=>∃ σ' H',Inv X pins σ' H' s' /\ Q σ' H') X.xe s
noncomputable abbrev TSet:=V -> V -> V -> Hp -> (Hp -> Prop) -> Prop
noncomputable def PSet (X : Cx) (t : TSet) : Prop :=
 ∀ (pins : List (Addr × Obj)) (s : Shared) (σ : St) (H : Hp) (o i v : V) (ov iv u : Value) (Q : Hp -> Prop),Inv X pins σ H s -> RelV o ov -> RelV i iv -> RelV v u -> t o i v H Q ->
  wpAny (model X.prog X.w) X.A (setItem ov iv u) (λ _ s'=>∃ H',Inv X pins σ H' s' /\ Q H') X.xe s
section
variable {X : Cx} {pos : Pos}
noncomputable def yg6 (i : Nat) : TG:=λ v σ H Q=>Q (σ.set i (some v)) H
theorem wy5 {i : Nat} {x : Str} (hN : X.N.Nodup) (hi : X.N[i]? = some x) (hx : Loc X.env.scope x) (hf : X.fn x = true \/ X.env.scope.names.lookup x = some .local:=by first | exact .inl rfl | exact .inr rfl | assumption) : PG X (.Name x pos) (yg6 i):=by
 intro pins s σ H v u Q I r h
 exact wpAny_assign_Name (wn1 I hN hi hx r (λ s' I'=>⟨_,H,I',h⟩) hf)
noncomputable def gNil : TGs:=λ vs σ H Q=>vs = [] /\ Q σ H
noncomputable def xv8 (t : TG) (u : TGs) : TGs:=λ vs σ H Q=>∃ v r,vs = v :: r /\ t v σ H λ σ' H'=>u r σ' H' Q
theorem zy5 : PGs X [] gNil:=by
 intro pins s σ H vs us Q I r h
 obtain ⟨e,h⟩:=h
 subst e
 cases r
 exact assignInOrder_nil ⟨σ,H,I,h⟩
theorem yt4 {e : Expr} {es : List Expr} {t : TG} {u : TGs} (h1 : PG X e t) (h2 : PGs X es u)
    (hs : (assignEach (e :: es) X.env).map (·.2) = assign e X.env :: (assignEach es X.env).map (·.2):=by rfl) : PGs X (e :: es) (xv8 t u):=by
 intro pins s σ H vs us Q I r h
 obtain ⟨v,vr,e1,h⟩:=h
 subst e1
 cases r with
 | cons r rr =>
  rw [hs]
  refine assignInOrder_cons (thn (h1 pins s σ H _ _ _ I r h) λ _ s1 ⟨σ1,H1,I1,q1⟩=>?_)
  exact h2 pins s1 σ1 H1 _ _ Q I1 rr q1
noncomputable def gTup (K : PySem.W.Frag) (n : Nat) (t : TGs) : TG:=λ v σ H Q=>∃ a xs,v = .ref a /\ SqT K H a xs /\ xs.length = n /\ t xs σ H Q
theorem xs7 {es : List Expr} {k : Nat} {t : TGs} {n : Nat} (hc : X.calm = true) (h : PGs X es t)
    (hn : (assignEach es X.env).length = n:=by rfl) (hst : (assignEach es X.env).findIdx? (·.1) = none:=by rfl) : PG X (.Tuple es k pos) (gTup X.K n t):=by
 intro pins s σ H v u Q I r hw
 obtain ⟨a,xs,e1,hq,hl,hw⟩:=hw
 subst e1
 cases r
 obtain ⟨its,rv,ht,hz⟩:=I.tuple hq
 refine assign_Tuple_tuple (I.ok.hd hc) ht (by simp [hn,<- hl,rv.length]) hst λ h' hx=>?_
 have I1 : Inv X pins σ H { s with heap:=h' }:=I.kept (t':=s.toks) λ b o e=>hx b o (Nat.ne_of_lt (Heap.lt_size e)) e
 exact h pins _ σ H xs _ Q I1 (by simpa using rv) hw
noncomputable def gSub (to ti : TE) (t : TSet) : TG:=λ v σ H Q=>to σ H λ o H1=>ti σ H1 λ i H2=>t o i v H2 λ H3=>Q σ H3
theorem ys7 {o i : Expr} {to ti : TE} {t : TSet} (ho : PE X o to) (hi : PE X i ti) (hs : PSet X t)
    (ha : ∀ v,assign (.Subscript o i pos) X.env v = (do
     let ov <- holding [v] (eval o X.env)
     let iv <- holding [v,ov] (eval i X.env)
     standAt pos
     holding [v,ov,iv] (setItem ov iv v)
     release [v,ov,iv] []):=by intro _; rfl) : PG X (.Subscript o i pos) (gSub to ti t):=by
 intro pins s σ H v u Q I r h
 rw [ha]
 refine wpAny_bind (wpAny_holding (thn (ho pins s σ H _ I h) λ ov s1 ⟨x,H1,I1,r1,q1⟩=>?_))
 refine wpAny_bind (wpAny_holding (thn (hi pins s1 σ H1 _ I1 q1) λ iv s2 ⟨y,H2,I2,r2,q2⟩=>?_))
 refine wpAny_bind (wpAny_standAt (wpAny_bind (wpAny_holding (thn (hs pins s2 σ H2 x y v ov iv u _ I2 r1 r2 r q2) λ _ s3 ⟨H3,I3,q3⟩=>?_))))
 exact wpAny_release ⟨σ,H3,I3,q3⟩
noncomputable def tAsg (te : TE) (g : TG) : TS:=λ D σ H=>te σ H λ x H1=>g x σ H1 D.nx
theorem xr7 {tg e : Expr} {te : TE} {g : TG} (he : PE X e te) (hg : PG X tg g) (hs : swapsWithSole [tg] e pos.line X.env = pure false:=by rfl) (hw : swappedStores [tg] e X.env = pure none:=by rfl)
    (h1 : (assignEach [tg] X.env).map (·.2) = [assign tg X.env]:=by rfl) : PS X (.Assign [tg] e pos) (tAsg te g):=by
 intro pins s σ H D I h
 refine wpAny_Assign_stores (thn (he pins s σ H _ I h) λ v s1 ⟨x,H1,I1,r1,q1⟩=>?_) hs hw
 rw [h1]
 exact thn (hg pins s1 σ H1 x v _ I1 r1 q1) λ _ s2 q=>q
theorem xq7 {i : Nat} {x : Str} {e : Expr} {te : TE} {pos' : Pos} (hN : X.N.Nodup) (hi : X.N[i]? = some x) (hx : Loc X.env.scope x) (he : PE X e te) (hs : swapsWith e (some (.Name x pos')) pos.line X.env = pure false:=by rfl) (hf : X.fn x = true \/ X.env.scope.names.lookup x = some .local:=by first | exact .inl rfl | exact .inr rfl | assumption) :
    PS X (.Assign [.Name x pos'] e pos) (tAsg te (yg6 i)):=by
 intro pins s σ H D I h
 refine wpAny_Assign_Name (thn (he pins s σ H _ I h) λ v s1 ⟨y,H1,I1,r1,q1⟩=>?_) hs
 exact wn1 I1 hN hi hx r1 (λ s2 I2=>⟨_,H1,I2,q1⟩) hf
end
section
variable {X : Cx} {pos : Pos}
end
structure It where
 go : Nat -> Hp -> Prop
 yld : Nat -> Hp -> V -> Hp -> Prop
 stop : Nat -> Hp -> Prop
noncomputable def FpOk (X : Cx) (pins : List (Addr × Obj)) (H : Hp) (b : Addr) : Prop :=
 H b = none /\ b ≠ X.env.locals /\ b ∉ X.fs /\ (b ∈ X.ex \/ X.s₀.heap.objs.size <= b) /\ (∀ x c,X.env.cells.lookup x = some c -> c ≠ b) /\ ∀ p ∈ X.pn ++ pins,p.1 ≠ b
theorem Inv.fpOk {X : Cx} {pins : List (Addr × Obj)} {σ : St} {H H' : Hp} {s : Shared} {b : Addr} (I : Inv X pins σ H s) (hb : s.heap.objs.size <= b) (hn : H' b = none) : FpOk X pins H' b:=by
 refine ⟨hn,Nat.ne_of_gt (Nat.lt_of_lt_of_le I.lt hb),I.nofs hb,.inr (Nat.le_trans I.sz hb),λ x c e z=>?_,λ p hp z=>?_⟩
 ·obtain ⟨v,q⟩:=I.cell x c e
  exact absurd (Nat.lt_of_lt_of_le q.lt (by rw [z]; exact hb)) (Nat.lt_irrefl _)
 ·exact absurd (Nat.lt_of_lt_of_le (Heap.lt_size (I.pin p hp).1) (by rw [z]; exact hb)) (Nat.lt_irrefl _)
structure Turn (P : Program) (w : World) (K : PySem.W.Frag) (tg : Expr) (J : It) (fp : List Addr) (it : Addr) (tn : Nat -> Heap -> Prop) : Prop where
 mem : it ∈ fp
 obj : ∀ i h,tn i h -> ∀ b ∈ fp,∃ o,h.get? b = some o /\ ∀ v,o.data ≠ .cell v
 keep : ∀ i h h',tn i h -> (∀ b ∈ fp,∀ o,h.get? b = some o -> h'.get? b = some o) -> tn i h'
 item : ∀ (X : Cx),X.prog = P -> X.w = w -> X.K = K -> X.calm = true -> ∀ (i : Nat) (pins : List (Addr × Obj)) (s : Shared) (σ : St) (H : Hp) (E : Value -> Shared -> Prop),Inv X pins σ H s -> (∀ b ∈ fp,FpOk X pins H b) -> tn i s.heap -> J.go i H ->
  wpAny (model P w) X.A (pyNext (.ref it)) (λ r s1=>∃ u,r = some u ∧
   wpAny (model P w) X.A (letOwnedTupleGo tg (.ref it) u) (λ _ s2=>∃ x H',Inv X pins σ H' s2 /\ RelV x u /\ J.yld i H x H' /\ tn (i + 1) s2.heap /\ ∀ b ∈ fp,H' b = none) E s1) E s
 done : ∀ (X : Cx),X.prog = P -> X.w = w -> X.K = K -> X.calm = true -> ∀ (i : Nat) (pins : List (Addr × Obj)) (s : Shared) (σ : St) (H : Hp) (E : Value -> Shared -> Prop),Inv X pins σ H s -> (∀ b ∈ fp,FpOk X pins H b) -> tn i s.heap -> J.stop i H ->
  wpAny (model P w) X.A (pyNext (.ref it)) (λ r s1=>r = none /\ Inv X pins σ H s1) E s
 self : ∀ (A : Around) (i : Nat) (s : Shared) (Q : Value -> Shared -> Prop) (E : Value -> Shared -> Prop),tn i s.heap -> Q (.ref it) s -> wpAny (model P w) A (pyIter (.ref it)) Q E s
noncomputable abbrev TI:=St -> Hp -> (It -> Hp -> Prop) -> Prop
noncomputable def PIE (X : Cx) (pins : List (Addr × Obj)) (σ : St) (tg : Expr) (R : It -> Hp -> Prop) (itv : Value) (s2 : Shared) : Prop :=
 ∃ (it : Addr) (fp : List Addr) (tn : Nat -> Heap -> Prop) (J : It) (H' : Hp),itv = .ref it /\ Inv X pins σ H' s2 /\ Turn X.prog X.w X.K tg J fp it tn /\ tn 0 s2.heap /\ (∀ b ∈ fp,FpOk X pins H' b) /\ R J H'
noncomputable def PI (X : Cx) (tg iter : Expr) (wi : TI) : Prop :=
 ∀ (pins : List (Addr × Obj)) (s : Shared) (σ : St) (H : Hp) (R : It -> Hp -> Prop),Inv X pins σ H s -> wi σ H R ->
  wpAny (model X.prog X.w) X.A (eval iter X.env) (λ v s1=>wpAny (model X.prog X.w) X.A (pyIter v) (PIE X pins σ tg R) X.xe s1) X.xe s
theorem yc4 {M : Model} {A : Around} {E : Value -> Shared -> Prop} {s : Shared} {tg : Expr} {it : Addr} {u : Value} {o : Obj} {n : String} {vs : Array Value} {Q : Unit -> Shared -> Prop} (ho : s.heap.get? it = some o) (hc : o.cls = .type n) (hd : o.data = .fields vs)
    (hn : ["enumerate", "zip", "dict_itemiterator", "dict_reverseitemiterator", "odict_iterator", "itertools.zip_longest", "itertools.pairwise"].contains n = false) (hQ : Q () s) : wpAny M A (letOwnedTupleGo tg (.ref it) u) Q E s:=by
 unfold letOwnedTupleGo
 cases tg <;> first
  | exact wpAny_pure hQ
  | (cases u <;> first
      | exact wpAny_pure hQ
      | (refine wpAny_bind (wpAny_load ho ?_)
         rw [hc,hd]
         show wpAny M A (if (["enumerate", "zip", "dict_itemiterator", "dict_reverseitemiterator", "odict_iterator", "itertools.zip_longest", "itertools.pairwise"].contains n && vs[0]? == some (rawInt _)) = true then _ else _) Q E s
         rw [if_neg (by intro h; rw [hn,Bool.false_and] at h; cases h)]
         exact wpAny_pure hQ))
noncomputable def Itl (K : PySem.W.Frag) (a : Addr) : It :=
 ⟨λ i H=>∃ xs x,SqL K H a xs /\ xs[i]? = some x,λ i H x H'=>H' = H /\ ∀ xs,SqL K H a xs -> xs[i]? = some x,λ i H=>∃ xs,SqL K H a xs /\ xs.length <= i⟩
noncomputable def Itt (K : PySem.W.Frag) (a : Addr) : It :=
 ⟨λ i H=>∃ xs x,SqT K H a xs /\ xs[i]? = some x,λ i H x H'=>H' = H /\ ∀ xs,SqT K H a xs -> xs[i]? = some x,λ i H=>∃ xs,SqT K H a xs /\ xs.length <= i⟩
noncomputable def Itr (lo : Int) (n : Nat) : It:=⟨λ i _=>i < n,λ i H x H'=>H' = H /\ x = .int (lo + i),λ i _=>n <= i⟩
theorem yl3 {P : Program} {w : World} {K : PySem.W.Frag} {tg : Expr} (a it : Addr) : Turn P w K tg (Itl K a) [it] it (λ i h=>h.IsListIter it a i) where
 mem:=by simp
 obj:=λ i h st b hb=>by
  have e : b = it:=by simpa using hb
  subst e
  obtain ⟨o,e,c,d⟩:=st
  exact ⟨o,e,λ v z=>by rw [d] at z; cases z⟩
 keep:=λ i h h' st k=>st.at λ o e=>k it (by simp) o e
 item:=by
  intro X hP hw hK hc i pins s σ H E I hf st hg
  subst hP hw hK
  obtain ⟨xs,x,hq,hx⟩:=hg
  obtain ⟨its,rv,p,hz⟩:=I.list hq
  obtain ⟨u,hu,ru⟩:=rv.get hx
  obtain ⟨f0,f1,f2,f3,f4,f5⟩:=hf it (by simp)
  refine wpAny_pyNext_list_item st p.isList (x:=u) (by simpa using hu) λ h' st' sb=>?_
  have I1 : Inv X pins σ H { s with heap:=h' }:=I.turned (t':=s.toks) (λ b o hb e=>(sb.2 b hb).trans e) f0 f1 f3 f4 f5
  obtain ⟨o,e,c,d⟩:=id st'
  exact ⟨u,rfl,yc4 (s:={ s with heap:=h' }) e c d (by decide) ⟨x,H,I1,ru,⟨rfl,λ ys hy=>by rw [I.list_inj hy hq]; exact hx⟩,st',λ b hb=>(hf b hb).1⟩⟩
 done:=by
  intro X hP hw hK hc i pins s σ H E I hf st hg
  subst hP hw hK
  obtain ⟨xs,hq,hx⟩:=hg
  obtain ⟨its,rv,p,hz⟩:=I.list hq
  obtain ⟨f0,f1,f2,f3,f4,f5⟩:=hf it (by simp)
  have hl:=rv.length
  exact wpAny_pyNext_list_end (I.ok.hd hc) st p.isList (by simp; omega) λ h' eb=>⟨rfl,I.turned (t':=s.toks) (λ b o hb e=>eb b o hb e) f0 f1 f3 f4 f5⟩
 self:=λ _ _ _ _ _ st h=>wpAny_pyIter_listiter st h
theorem xa3 {P : Program} {w : World} {K : PySem.W.Frag} {tg : Expr} (a it : Addr) : Turn P w K tg (Itt K a) [it] it (λ i h=>h.IsTupleIter it a i) where
 mem:=by simp
 obj:=λ i h st b hb=>by
  have e : b = it:=by simpa using hb
  subst e
  obtain ⟨o,e,c,d⟩:=st
  exact ⟨o,e,λ v z=>by rw [d] at z; cases z⟩
 keep:=λ i h h' st k=>st.at λ o e=>k it (by simp) o e
 item:=by
  intro X hP hw hK hc i pins s σ H E I hf st hg
  subst hP hw hK
  obtain ⟨xs,x,hq,hx⟩:=hg
  obtain ⟨its,rv,p,hz⟩:=I.tuple hq
  obtain ⟨u,hu,ru⟩:=rv.get hx
  obtain ⟨f0,f1,f2,f3,f4,f5⟩:=hf it (by simp)
  refine wpAny_pyNext_tuple_item st (show s.heap.IsTuple a its.toArray from p) (x:=u) (by simpa using hu) λ h' st' sb=>?_
  have I1 : Inv X pins σ H { s with heap:=h' }:=I.turned (t':=s.toks) (λ b o hb e=>(sb.2 b hb).trans e) f0 f1 f3 f4 f5
  obtain ⟨o,e,c,d⟩:=id st'
  exact ⟨u,rfl,yc4 (s:={ s with heap:=h' }) e c d (by decide) ⟨x,H,I1,ru,⟨rfl,λ ys hy=>by rw [I.tuple_inj hy hq]; exact hx⟩,st',λ b hb=>(hf b hb).1⟩⟩
 done:=by
  intro X hP hw hK hc i pins s σ H E I hf st hg
  subst hP hw hK
  obtain ⟨xs,hq,hx⟩:=hg
  obtain ⟨its,rv,p,hz⟩:=I.tuple hq
  obtain ⟨f0,f1,f2,f3,f4,f5⟩:=hf it (by simp)
  have hl:=rv.length
  exact wpAny_pyNext_tuple_end (I.ok.hd hc) st (show s.heap.IsTuple a its.toArray from p) (by simp; omega) λ h' eb=>⟨rfl,I.turned (t':=s.toks) (λ b o hb e=>eb b o hb e) f0 f1 f3 f4 f5⟩
 self:=λ _ _ _ _ _ st h=>wpAny_pyIter_tupleiter st h
theorem yw1 {P : Program} {w : World} {K : PySem.W.Frag} {tg : Expr} (it : Addr) (lo : Int) (n : Nat) : Turn P w K tg (Itr lo n) [it] it (λ i h=>IsRangeIter h it (lo + (i : Nat) * 1) ((n : Int) - (i : Nat)) 1) where
 mem:=by simp
 obj:=λ i h st b hb=>by
  have e : b = it:=by simpa using hb
  subst e
  exact ⟨_,st,λ v z=>by
   have z' : Data.fields _ = Data.cell v:=z
   cases z'⟩
 keep:=λ i h h' st k=>k it (by simp) _ st
 item:=by
  intro X hP hw hK hc i pins s σ H E I hf st hg
  subst hP hw hK
  obtain ⟨f0,f1,f2,f3,f4,f5⟩:=hf it (by simp)
  have W:=Walks.range (prog:=X.prog) (w:=X.w) (I.ok.hd hc) it lo 1 n
  refine W.item i s _ _ hg st λ v h' tk hv st' kk=>?_
  obtain ⟨t,rfl⟩:=hv
  have I1 : Inv X pins σ H { s with heap:=h',toks:=tk }:=I.turned (λ b o hb e=>kk b o (by simpa using hb) e) f0 f1 f3 f4 f5
  refine ⟨_,rfl,yc4 (s:={ s with heap:=h',toks:=tk }) (n := "range_iterator") st' rfl rfl (by decide) ⟨.int (lo + i),H,I1,⟨t,?_⟩,⟨rfl,rfl⟩,st',λ b hb=>(hf b hb).1⟩⟩
  rw [Int.mul_one]
 done:=by
  intro X hP hw hK hc i pins s σ H E I hf st hg
  subst hP hw hK
  obtain ⟨f0,f1,f2,f3,f4,f5⟩:=hf it (by simp)
  exact wpAny_pyNext_range_end (I.ok.hd hc) st (by have : n <= i:=hg; omega) λ h' eb=>⟨rfl,I.turned (t':=s.toks) (λ b o hb e=>eb b o hb e) f0 f1 f3 f4 f5⟩
 self:=λ _ _ _ _ _ st h=>wpAny_pyIter_rangeiter st h
end L2
namespace L2
open PySem PySem.Spec PyProof.Rows
section
variable {X : Cx} {tg : Expr}
theorem yr4 {pins : List (Addr × Obj)} {σ : St} {H : Hp} {s : Shared} {R : It -> Hp -> Prop} {E : Value -> Shared -> Prop} {lo hi : Int} {t u v : Tok} {tk : Nat} (I : Inv X pins σ H s) (h1 : -(2 ^ 62) <= lo) (h2 : lo < 2 ^ 62) (h3 : -(2 ^ 62) <= hi) (h4 : hi < 2 ^ 62)
    (q : R (Itr lo (hi - lo).toNat) H) : wpAny (model X.prog X.w) X.A (pyIter (.ref s.heap.objs.size)) (PIE X pins σ tg R) E { s with heap:=s.heap.push { cls:=.type "range",data:=.fields #[.int lo t,.int hi u,.int 1 v] },toks:=tk }:=by
 refine wpAny_pyIter_range (IsRange.new ..) (small_one h1 h2 h3 h4) ?_
 have I1 : Inv X pins σ H { s with heap:=s.heap.push { cls:=.type "range",data:=.fields #[.int lo t,.int hi u,.int 1 v] },toks:=tk }:=I.kept λ b o e=>Heap.get?_push_of_some _ e
 refine ⟨(s.heap.push { cls:=.type "range",data:=.fields #[.int lo t,.int hi u,.int 1 v] }).objs.size,[(s.heap.push { cls:=.type "range",data:=.fields #[.int lo t,.int hi u,.int 1 v] }).objs.size],_,_,H,rfl,
  I1.kept (t':=tk) λ b o e=>Heap.get?_push_of_some _ e,yw1 _ lo (hi - lo).toNat,?_,λ b hb=>?_,q⟩
 ·have e1 : lo + ((0 : Nat) : Int) * 1 = lo:=by simp
  have e2 : (((hi - lo).toNat : Nat) : Int) - ((0 : Nat) : Int) = Builtin.Range.rangeSize lo hi 1:=by rw [rangeSize_one]; split <;> omega
  show IsRangeIter _ _ (lo + ((0 : Nat) : Int) * 1) ((((hi - lo).toNat : Nat) : Int) - ((0 : Nat) : Int)) 1
  rw [e1,e2]
  exact Heap.get?_push_size _ rfl
 ·have e : b = (s.heap.push { cls:=.type "range",data:=.fields #[.int lo t,.int hi u,.int 1 v] }).objs.size:=by simpa using hb
  subst e
  exact I1.fpOk (Nat.le_refl _) (I1.hok.fresh (Nat.le_refl _))
noncomputable def wu8 (ta : TA) : TI:=λ σ H R=>ta σ H λ vs H1=>∃ j : Int,vs = [.int j] /\ -(2 ^ 62) <= j /\ j < 2 ^ 62 /\ R (Itr 0 j.toNat) H1
theorem xv3 {a : Expr} {ta : TA} {p pos : Pos} (hg : Gl X "range") (hm : X.mg "range" = none) (ha : PA X [a] ta) (hs : starEach [a] X.env = [(false,eval a X.env)]:=by rfl) : PI X tg (.Call (.Name "range" p) [a] [] pos) (wu8 ta):=by
 intro pins s σ H R I h
 refine Call_ (zt1 I hg hm boot_range (PyProof.Rows.callWith_type1 (thn (ha pos pins s σ H _ I h) λ us s1 ⟨vs,H1,I1,r1,q1⟩=>?_) hs rfl))
 obtain ⟨j,e,q1,q2,q⟩:=q1
 subst e
 cases r1 with
 | cons r rr =>
  cases rr
  obtain ⟨t,rfl⟩:=r
  exact call_range_1 (yr4 I1 (by omega) (by omega) q1 q2 (by simpa using q))
noncomputable def tFor (wi : TI) (g : TG) (tb : TS) : TS:=λ D σ H=>wi σ H λ J H1=>∃ W : Nat -> Nat -> St -> Hp -> Prop,(∃ m,W 0 m σ H1) /\ ∀ i m σ H,W i m σ H ->
 (J.stop i H /\ D.nx σ H) \/ (J.go i H /\ ∃ N : St -> Hp -> Prop,(∀ σ' H',N σ' H' -> ∃ m',m' < m /\ W (i + 1) m' σ' H') /\ ∀ x H',J.yld i H x H' -> g x σ H' λ σ2 H2=>tb { D with nx:=N,ct:=N,bk:=D.nx } σ2 H2)
noncomputable def wx1 (fp : List Addr) (h : Heap) : List (Addr × Obj):=fp.filterMap λ b=>(h.get? b).map λ o=>(b,o)
theorem zr0 {fp : List Addr} {h : Heap} {b : Addr} {o : Obj} (hb : b ∈ fp) (e : h.get? b = some o) : (b,o) ∈ wx1 fp h:=List.mem_filterMap.mpr ⟨b,hb,by rw [e]; rfl⟩
theorem yy3 {fp : List Addr} {h : Heap} {p : Addr × Obj} (hp : p ∈ wx1 fp h) : p.1 ∈ fp /\ h.get? p.1 = some p.2:=by
 obtain ⟨b,hb,e⟩:=List.mem_filterMap.mp hp
 cases q : h.get? b with
 | none=>rw [q] at e; cases e
 | some o =>
  rw [q] at e
  have e' : (b,o) = p:=Option.some.inj e
  subst e'
  exact ⟨hb,q⟩
theorem Inv.pinned {pins : List (Addr × Obj)} {σ : St} {H : Hp} {s : Shared} {fp : List Addr} (I : Inv X pins σ H s) (hf : ∀ b ∈ fp,FpOk X pins H b) (ho : ∀ b ∈ fp,∃ o,s.heap.get? b = some o /\ ∀ v,o.data ≠ .cell v) : Inv X (pins ++ wx1 fp s.heap) σ H s :=
 I.pins_of λ p hp=>(List.mem_append.mp hp).elim (λ z=>I.pin p (List.mem_append_right _ z)) λ z=>by
  obtain ⟨hb,e⟩:=yy3 z
  obtain ⟨f0,f1,f2,_⟩:=hf p.1 hb
  obtain ⟨o,e',d⟩:=ho p.1 hb
  rw [e] at e'; cases e'
  exact ⟨e,f0,f1,f2,d⟩
theorem Inv.unpinned {pins pl : List (Addr × Obj)} {σ : St} {H : Hp} {s : Shared} (I : Inv X (pins ++ pl) σ H s) : Inv X pins σ H s:=I.pins_of λ p hp=>I.pin p (List.mem_append_right _ (List.mem_append_left _ hp))
theorem zq7 {iter : Expr} {body : List Stmt} {wi : TI} {g : TG} {tb : TS} {pos : Pos} (hp : PassesOwn (model X.prog X.w) X.A X.env X.xe) (hc : X.calm = true) (hi : PI X tg iter wi) (hg : PG X tg g) (hb : PSs X body tb)
    (hs : ∀ x,foldedSetIterable iter X.env x = pure x:=by intro _; rfl) : PS X (.For tg iter body [] pos) (tFor wi g tb):=by
 intro pins s σ H D I h
 refine wpAny_For (thn (hi pins s σ H _ I h) λ v s1 h1=>thn h1 λ itv s2 h2=>?_) hs
 obtain ⟨it,fp,tn,J,H2,e,I2,T,st2,f2,W,⟨m0,w0⟩,turn⟩:=h2
 subst e
 have stat : ∀ {H' : Hp},(∀ b ∈ fp,H' b = none) -> ∀ b ∈ fp,FpOk X pins H' b:=λ hn b hb=>⟨hn b hb,(f2 b hb).2⟩
 refine codeAny_forLoop_any (λ n s'=>∃ i σ' H',Inv X pins σ' H' s' /\ tn i s'.heap /\ (∀ b ∈ fp,H' b = none) /\ W i n σ' H') ?_ m0 ⟨0,σ,H2,I2,st2,λ b hb=>(f2 b hb).1,w0⟩
 rintro n s3 ⟨i,σ3,H3,I3,st3,fr3,w3⟩
 rcases turn i n σ3 H3 w3 with ⟨stop,qn⟩ | ⟨go,N,hN,step⟩
 ·refine wpAny_passesOwn hp (thn (T.done X rfl rfl rfl hc i pins s3 σ3 H3 X.xe I3 (stat fr3) st3 stop) λ r s4 ⟨hr,I4⟩=>?_)
  subst hr
  exact wpAny_execs_nil ⟨σ3,H3,I4,qn⟩
 ·refine wpAny_passesOwn hp (thn (T.item X rfl rfl rfl hc i pins s3 σ3 H3 X.xe I3 (stat fr3) st3 go) λ r s4 ⟨u,hr,h4⟩=>?_)
  subst hr
  refine wpAny_passesOwn hp (thn h4 λ _ s5 ⟨x,H5,I5,r5,y5,st5,fr5⟩=>?_)
  have I5':=I5.pinned (stat fr5) (T.obj _ _ st5)
  refine wpAny_passesOwn hp (thn (hg _ s5 σ3 H5 x u _ I5' r5 (step x H5 y5)) λ _ s6 ⟨σ6,H6,I6,q6⟩=>?_)
  refine wpAny_passesOwn hp (thn (hb _ s6 σ6 H6 _ I6 q6) λ f s7 q7=>?_)
  have again : ∀ {σ7 : St} {H7 : Hp},Inv X (pins ++ wx1 fp s5.heap) σ7 H7 s7 -> N σ7 H7 -> ∃ m,m < n /\ ∃ i σ' H',Inv X pins σ' H' s7 /\ tn i s7.heap /\ (∀ b ∈ fp,H' b = none) /\ W i m σ' H':=λ {σ7 H7} I7 n7=>by
   obtain ⟨m',hm,w7⟩:=hN σ7 H7 n7
   refine ⟨m',hm,i + 1,σ7,H7,I7.unpinned,T.keep _ _ _ st5 λ b hb o e=>(I7.pin (b,o) (List.mem_append_right _ (List.mem_append_right _ (zr0 hb e)))).1,λ b hb=>?_,w7⟩
   obtain ⟨o,e,d⟩:=T.obj _ _ st5 b hb
   exact (I7.pin (b,o) (List.mem_append_right _ (List.mem_append_right _ (zr0 hb e)))).2.1
  cases f with
  | next=>obtain ⟨σ7,H7,I7,n7⟩:=q7; exact again I7 n7
  | cont=>obtain ⟨σ7,H7,I7,n7⟩:=q7; exact again I7 n7
  | brk=>obtain ⟨σ7,H7,I7,q7⟩:=q7; exact ⟨σ7,H7,I7.unpinned,q7⟩
  | ret v=>obtain ⟨x7,σ7,H7,I7,r7,q7⟩:=q7; exact ⟨x7,σ7,H7,I7.unpinned,r7,q7⟩
end
end L2
namespace L2
open PySem PySem.Spec PyProof.Rows
noncomputable abbrev R2:=V -> V -> Hp -> VK -> Prop
noncomputable def OpR (X : Cx) (f : Value -> Value -> Sem Value) (r : R2) : Prop :=
 ∀ (pins : List (Addr × Obj)) (s : Shared) (σ : St) (H : Hp) (x y : V) (v u : Value) (Q : VK),Inv X pins σ H s -> RelV x v -> RelV y u -> r x y H Q ->
  wpAny (model X.prog X.w) X.A (f v u) (EP X pins σ Q) X.xe s
noncomputable def UnR (X : Cx) (f : Value -> Sem Value) (r : V -> Hp -> VK -> Prop) : Prop :=
 ∀ (pins : List (Addr × Obj)) (s : Shared) (σ : St) (H : Hp) (x : V) (v : Value) (Q : VK),Inv X pins σ H s -> RelV x v -> r x H Q ->
  wpAny (model X.prog X.w) X.A (f v) (EP X pins σ Q) X.xe s
noncomputable def CallR (X : Cx) (f : Value) (r : List V -> Hp -> VK -> Prop) : Prop :=
 ∀ (pins : List (Addr × Obj)) (s : Shared) (σ : St) (H : Hp) (xs : List V) (us : List Value) (Q : VK),Inv X pins σ H s -> Vals xs us -> r xs H Q ->
  wpAny (model X.prog X.w) X.A (call f us) (EP X pins σ Q) X.xe s
noncomputable def tOp (r : R2) (ta tb : TE) : TE:=λ σ H Q=>ta σ H λ x H1=>tb σ H1 λ y H2=>r x y H2 Q
noncomputable def tUn (r : V -> Hp -> VK -> Prop) (ta : TE) : TE:=λ σ H Q=>ta σ H λ x H1=>r x H1 Q
noncomputable def rI (C : Int -> Int -> Prop) (g : Int -> Int -> V) : R2:=λ x y H Q=>∃ i j,x = .int i /\ y = .int j /\ C i j /\ Q (g i j) H
noncomputable def rI0 (g : Int -> Int -> V) : R2:=λ x y H Q=>∃ i j,x = .int i /\ y = .int j /\ Q (g i j) H
noncomputable def rU (g : Int -> V) : V -> Hp -> VK -> Prop:=λ x H Q=>∃ i,x = .int i /\ Q (g i) H
section
variable {X : Cx} {a b c : Expr} {ta tb tc : TE} {pos : Pos}
theorem binT (ha : PE X a ta) (hb : PE X b tb) {pins : List (Addr × Obj)} {s : Shared} {σ : St} {H : Hp} {R : V -> V -> Hp -> Prop} (I : Inv X pins σ H s)
    (h : ta σ H λ x H1=>tb σ H1 λ y H2=>R x y H2) {Q : Value -> Shared -> Prop} {f : Value -> Value -> Sem Value}
    (hf : ∀ v u s2 x y H2,Inv X pins σ H2 s2 -> RelV x v -> RelV y u -> R x y H2 -> wpAny (model X.prog X.w) X.A (f v u) Q X.xe s2) :
    wpAny (model X.prog X.w) X.A (eval a X.env) (λ v s₁=>wpAny (model X.prog X.w) X.A (eval b X.env) (λ u s₂=>wpAny (model X.prog X.w) X.A (f v u) Q X.xe s₂) X.xe s₁) X.xe s:=by
 refine thn (ha pins s σ H _ I h) λ v s1 ⟨x,H1,I1,r1,q1⟩=>?_
 refine thn (hb pins s1 σ H1 _ I1 q1) λ u s2 ⟨y,H2,I2,r2,q2⟩=>?_
 exact hf v u s2 x y H2 I2 r1 r2 q2
theorem ys8 {op : Operator} {r : R2} (ho : OpR X (binaryOp op) r) (ha : PE X a ta) (hb : PE X b tb) : PE X (.BinOp a op b pos) (tOp r ta tb):=by
 intro pins s σ H Q I h
 exact wpAny_BinOp (binT ha hb I h λ v u s2 x y H2 I2 rx ry q=>ho pins s2 σ H2 x y v u Q I2 rx ry q)
theorem xs8 {op : UnaryOp} {r : V -> Hp -> VK -> Prop} (ho : UnR X (unaryOp op) r) (ha : PE X a ta) : PE X (.UnaryOp op a pos) (tUn r ta):=by
 intro pins s σ H Q I h
 exact UnaryOp_ (thn (ha pins s σ H _ I h) λ v s1 ⟨x,H1,I1,r1,q1⟩=>ho pins s1 σ H1 x v Q I1 r1 q1)
theorem opI {f : Value -> Value -> Sem Value} {C : Int -> Int -> Prop} {g : Int -> Int -> Int}
    (rule : ∀ (i j : Int) (t u : Tok) (s : Shared) (Q : Value -> Shared -> Prop) (E : Value -> Shared -> Prop),C i j -> Q (.int (g i j) s.toks) { s with toks:=s.toks + 1 } -> wpAny (model X.prog X.w) X.A (f (.int i t) (.int j u)) Q E s) :
    OpR X f (rI C λ i j=>.int (g i j)):=by
 intro pins s σ H x y v u Q I rx ry h
 obtain ⟨i,j,rfl,rfl,hc,q⟩:=h
 obtain ⟨t,rfl⟩:=rx
 obtain ⟨t',rfl⟩:=ry
 exact rule i j t t' s _ _ hc ⟨.int (g i j),H,I.tok _,⟨_,rfl⟩,q⟩
theorem opI0 {f : Value -> Value -> Sem Value} {g : Int -> Int -> Int}
    (rule : ∀ (i j : Int) (t u : Tok) (s : Shared) (Q : Value -> Shared -> Prop) (E : Value -> Shared -> Prop),Q (.int (g i j) s.toks) { s with toks:=s.toks + 1 } -> wpAny (model X.prog X.w) X.A (f (.int i t) (.int j u)) Q E s) :
    OpR X f (rI0 λ i j=>.int (g i j)):=by
 intro pins s σ H x y v u Q I rx ry h
 obtain ⟨i,j,rfl,rfl,q⟩:=h
 obtain ⟨t,rfl⟩:=rx
 obtain ⟨t',rfl⟩:=ry
 exact rule i j t t' s _ _ ⟨.int (g i j),H,I.tok _,⟨_,rfl⟩,q⟩
theorem opB0 {f : Value -> Value -> Sem Value} {g : Int -> Int -> Bool}
    (rule : ∀ (i j : Int) (t u : Tok) (s : Shared) (Q : Value -> Shared -> Prop) (E : Value -> Shared -> Prop),Q (.bool (g i j)) s -> wpAny (model X.prog X.w) X.A (f (.int i t) (.int j u)) Q E s) :
    OpR X f (rI0 λ i j=>.bl (g i j)):=by
 intro pins s σ H x y v u Q I rx ry h
 obtain ⟨i,j,rfl,rfl,q⟩:=h
 obtain ⟨t,rfl⟩:=rx
 obtain ⟨t',rfl⟩:=ry
 exact rule i j t t' s _ _ ⟨.bl (g i j),H,I,rfl,q⟩
noncomputable def xg8 (i j : Int) : Prop:=j ≠ 0 /\ j.natAbs < 1073741824
noncomputable def CPow (i j : Int) : Prop:=0 <= j /\ j <= 1000000 /\ i.natAbs < 2 ^ 64
noncomputable def CMul (i j : Int) : Prop:=(-(2 ^ 64) < i /\ i < 2 ^ 64) \/ (-(2 ^ 64) < j /\ j < 2 ^ 64)
theorem CMul.ok {i j : Int} (h : CMul i j) : IntMulOk i j:=by
 rcases h with ⟨h1,h2⟩ | ⟨h1,h2⟩
 ·exact .of_left (intBits_le_64 h1 h2)
 ·exact .of_right (intBits_le_64 h1 h2)
theorem op_add : OpR X (binaryOp .Add) (rI0 λ i j=>.int (i + j)):=opI0 λ _ _ _ _ _ _ _ q=>add_int q
theorem yv7 : OpR X (binaryOp .Sub) (rI0 λ i j=>.int (i - j)):=opI0 λ _ _ _ _ _ _ _ q=>sub_int q
theorem yu4 : OpR X (binaryOp .FloorDiv) (rI xg8 λ i j=>.int (i.fdiv j)):=opI λ _ _ _ _ _ _ _ hc q=>floordiv_int hc.1 q (.inl (PyProof.noPylong_small hc.2))
theorem yw7 : OpR X (binaryOp .Mod) (rI (λ _ j=>0 < j) λ i j=>.int (i % j)):=opI λ i j _ _ _ _ _ hc q=>by
 have h1 : (0 : Int) < j:=hc
 exact mod_int' (by omega) (by rw [Int.fmod_eq_emod_of_nonneg i (by omega)]; exact q)
theorem wv7 : OpR X (binaryOp .Pow) (rI CPow λ i j=>.int (i ^ j.toNat)):=opI λ _ _ _ _ _ _ _ hc q=>pow_int_small hc.1 hc.2.1 hc.2.2 q
theorem unI {f : Value -> Sem Value} {g : Int -> Int}
    (rule : ∀ (i : Int) (t : Tok) (s : Shared) (Q : Value -> Shared -> Prop) (E : Value -> Shared -> Prop),Q (.int (g i) s.toks) { s with toks:=s.toks + 1 } -> wpAny (model X.prog X.w) X.A (f (.int i t)) Q E s) :
    UnR X f (rU λ i=>.int (g i)):=by
 intro pins s σ H x v Q I rx h
 obtain ⟨i,rfl,q⟩:=h
 obtain ⟨t,rfl⟩:=rx
 exact rule i t s _ _ ⟨.int (g i),H,I.tok _,⟨_,rfl⟩,q⟩
theorem xo6 : UnR X (unaryOp .USub) (rU λ i=>.int (-i)):=unI λ _ _ _ _ _ q=>neg_int q
end
noncomputable def scal : V -> V -> Bool
 | .non,.non=>true | .non,.int _=>true | .int _,.non=>true | .non,.bl _=>true | .bl _,.non=>true | .non,.str _=>true | .str _,.non=>true
 | .int _,.int _=>true | .bl _,.bl _=>true | .str _,.str _=>true | .byt _,.byt _=>true
 | .int _,.str _=>true | .str _,.int _=>true | .bl _,.str _=>true | .str _,.bl _=>true
 | _,_=>false
noncomputable def rEq : R2:=λ x y H Q=>scal x y = true /\ Q (.bl (decide (x = y))) H
noncomputable def rNe : R2:=λ x y H Q=>scal x y = true /\ Q (.bl (!decide (x = y))) H
theorem zf4 {i j : Int} : decide (V.int i = V.int j) = (i == j):=by
 rw [Bool.eq_iff_iff]
 simp
theorem wk5 {i j : Bool} : decide (V.bl i = V.bl j) = (i == j):=by
 rw [Bool.eq_iff_iff]
 simp
theorem yf4 {i j : Str} : decide (V.str i = V.str j) = (i == j):=by
 rw [Bool.eq_iff_iff]
 simp
theorem wf4 {i j : Array UInt8} : decide (V.byt i = V.byt j) = (i.toList == j.toList):=by
 rw [Bool.eq_iff_iff]
 cases i
 cases j
 simp
section
variable {X : Cx} {a b c : Expr} {ta tb tc : TE} {pos : Pos}
theorem wh0 {pins : List (Addr × Obj)} {σ : St} {H : Hp} {s : Shared} {Q : VK} {k k' : Bool} (I : Inv X pins σ H s) (q : Q (.bl k) H) (e : k = k') : EP X pins σ Q (.bool k') s:=by
 subst e
 exact ⟨.bl k,H,I,rfl,q⟩
theorem op_eq : OpR X (compareOp .Eq) rEq:=by
 intro pins s σ H x y v u Q I rx ry h
 obtain ⟨hs,q⟩:=h
 cases x with
 | non =>
  cases rx
  cases y with
  | non=>cases ry; exact PySem.EqNone.eq_none_none (wh0 I q (by simp))
  | bl j=>cases ry; exact PySem.EqNone.eq_none_bool (wh0 I q (by simp))
  | int j=>obtain ⟨t',rfl⟩:=ry; exact PySem.EqNone.eq_none_int (wh0 I q (by simp))
  | str j=>obtain ⟨t',rfl⟩:=ry; exact PySem.EqNone.eq_none_str (wh0 I q (by simp))
  | _=>exact absurd (show false = true from hs) Bool.false_ne_true
 | bl i =>
  cases rx
  cases y with
  | non=>cases ry; exact PySem.EqNone.eq_bool_none (wh0 I q (by simp))
  | bl j=>cases ry; exact eq_bool (wh0 I q wk5)
  | str j=>obtain ⟨t',rfl⟩:=ry; exact PySem.EqMixed.eq_bool_str (wh0 I q (by simp))
  | _=>exact absurd (show false = true from hs) Bool.false_ne_true
 | int i =>
  obtain ⟨t,rfl⟩:=rx
  cases y with
  | non=>cases ry; exact PySem.EqNone.eq_int_none (wh0 I q (by simp))
  | int j=>obtain ⟨t',rfl⟩:=ry; exact eq_int (wh0 I q zf4)
  | str j=>obtain ⟨t',rfl⟩:=ry; exact PySem.EqMixed.eq_int_str (wh0 I q (by simp))
  | _=>exact absurd (show false = true from hs) Bool.false_ne_true
 | str i =>
  obtain ⟨t,rfl⟩:=rx
  cases y with
  | non=>cases ry; exact PySem.EqNone.eq_str_none (wh0 I q (by simp))
  | bl j=>cases ry; exact PySem.EqMixed.eq_str_bool (wh0 I q (by simp))
  | int j=>obtain ⟨t',rfl⟩:=ry; exact PySem.EqMixed.eq_str_int (wh0 I q (by simp))
  | str j=>obtain ⟨t',rfl⟩:=ry; exact eq_str (wh0 I q yf4)
  | _=>exact absurd (show false = true from hs) Bool.false_ne_true
 | byt i =>
  obtain ⟨t,rfl⟩:=rx
  cases y with
  | byt j=>obtain ⟨t',rfl⟩:=ry; exact PySem.W.eq_bytes (wh0 I q wf4)
  | _=>exact absurd (show false = true from hs) Bool.false_ne_true
 | _=>cases y <;> exact absurd (show false = true from hs) Bool.false_ne_true
theorem op_ne : OpR X (compareOp .NotEq) rNe:=by
 intro pins s σ H x y v u Q I rx ry h
 obtain ⟨hs,q⟩:=h
 cases x with
 | non =>
  cases rx
  cases y with
  | non=>cases ry; exact PySem.EqNone.ne_none_none (wh0 I q (by simp))
  | bl j=>cases ry; exact PySem.EqNone.ne_none_bool (wh0 I q (by simp))
  | int j=>obtain ⟨t',rfl⟩:=ry; exact PySem.EqNone.ne_none_int (wh0 I q (by simp))
  | str j=>obtain ⟨t',rfl⟩:=ry; exact PySem.EqNone.ne_none_str (wh0 I q (by simp))
  | _=>exact absurd (show false = true from hs) Bool.false_ne_true
 | bl i =>
  cases rx
  cases y with
  | non=>cases ry; exact PySem.EqNone.ne_bool_none (wh0 I q (by simp))
  | bl j=>cases ry; exact ne_bool (wh0 I q (congrArg not wk5))
  | str j=>obtain ⟨t',rfl⟩:=ry; exact PySem.EqMixed.ne_bool_str (wh0 I q (by simp))
  | _=>exact absurd (show false = true from hs) Bool.false_ne_true
 | int i =>
  obtain ⟨t,rfl⟩:=rx
  cases y with
  | non=>cases ry; exact PySem.EqNone.ne_int_none (wh0 I q (by simp))
  | int j=>obtain ⟨t',rfl⟩:=ry; exact ne_int (wh0 I q (congrArg not zf4))
  | str j=>obtain ⟨t',rfl⟩:=ry; exact PySem.EqMixed.ne_int_str (wh0 I q (by simp))
  | _=>exact absurd (show false = true from hs) Bool.false_ne_true
 | str i =>
  obtain ⟨t,rfl⟩:=rx
  cases y with
  | non=>cases ry; exact PySem.EqNone.ne_str_none (wh0 I q (by simp))
  | bl j=>cases ry; exact PySem.EqMixed.ne_str_bool (wh0 I q (by simp))
  | int j=>obtain ⟨t',rfl⟩:=ry; exact PySem.EqMixed.ne_str_int (wh0 I q (by simp))
  | str j=>obtain ⟨t',rfl⟩:=ry; exact ne_str (wh0 I q (congrArg not yf4))
  | _=>exact absurd (show false = true from hs) Bool.false_ne_true
 | byt i =>
  obtain ⟨t,rfl⟩:=rx
  cases y with
  | byt j=>obtain ⟨t',rfl⟩:=ry; exact PySem.W.ne_bytes (wh0 I q (congrArg not wf4))
  | _=>exact absurd (show false = true from hs) Bool.false_ne_true
 | _=>cases y <;> exact absurd (show false = true from hs) Bool.false_ne_true
theorem yt8 : OpR X (compareOp .Lt) (rI0 λ i j=>.bl (decide (i < j))):=opB0 λ _ _ _ _ _ _ _ q=>lt_int q
theorem zt8 : OpR X (compareOp .LtE) (rI0 λ i j=>.bl (decide (i <= j))):=opB0 λ _ _ _ _ _ _ _ q=>le_int q
theorem wt8 : OpR X (compareOp .Gt) (rI0 λ i j=>.bl (decide (j < i))):=opB0 λ _ _ _ _ _ _ _ q=>gt_int q
theorem xu8 : OpR X (compareOp .GtE) (rI0 λ i j=>.bl (decide (j <= i))):=opB0 λ _ _ _ _ _ _ _ q=>ge_int q
theorem yx3 : OpR X (compareOp .In) (λ x y H Q=>∃ i j,x = .str i /\ y = .str j /\ Q (.bl (!(Builtin.Str.occurrences j i 0 j.length 1).isEmpty)) H):=by
 intro pins s σ H x y v u Q I rx ry h
 obtain ⟨i,j,rfl,rfl,q⟩:=h
 obtain ⟨t,rfl⟩:=rx
 obtain ⟨t',rfl⟩:=ry
 exact in_str (wh0 I q rfl)
theorem zw7 : OpR X (compareOp .Is) (λ x y H Q=>y = .non /\ Q (.bl (decide (x = .non))) H):=by
 intro pins s σ H x y v u Q I rx ry h
 obtain ⟨rfl,q⟩:=h
 cases ry
 refine is_none_gen (wh0 I q ?_)
 cases x <;> first
  | (cases rx; rfl)
  | (obtain ⟨t,rfl⟩:=rx; rfl)
theorem yb6 : OpR X (compareOp .IsNot) (λ x y H Q=>y = .non /\ Q (.bl (!decide (x = .non))) H):=by
 intro pins s σ H x y v u Q I rx ry h
 obtain ⟨rfl,q⟩:=h
 cases ry
 refine isnot_none_gen (wh0 I q ?_)
 cases x <;> first
  | (cases rx; rfl)
  | (obtain ⟨t,rfl⟩:=rx; rfl)
theorem OpR.or {f : Value -> Value -> Sem Value} {r r' : R2} (h : OpR X f r) (h' : OpR X f r') : OpR X f (λ x y H Q=>r x y H Q \/ r' x y H Q):=by
 intro pins s σ H x y v u Q I rx ry q
 rcases q with q | q
 ·exact h pins s σ H x y v u Q I rx ry q
 ·exact h' pins s σ H x y v u Q I rx ry q
theorem yi5 (b : Expr) {op : CmpOp} (h : op ≠ .In:=by decide) (h2 : op ≠ .NotIn:=by decide) : behindInMarks op b = false:=by
 have e1 : (op == CmpOp.In) = false:=by cases op <;> first | rfl | exact absurd rfl h
 have e2 : (op == CmpOp.NotIn) = false:=by cases op <;> first | rfl | exact absurd rfl h2
 cases b <;> simp [behindInMarks,e1,e2]
theorem ya6 {op : CmpOp} {r : R2} (ho : OpR X (compareOp op) r) (ha : PE X a ta) (hb : PE X b tb) (hm : behindInMarks op b = false) : PE X (.Compare a [op] [b] pos) (tOp r ta tb):=by
 intro pins s σ H Q I h
 exact wpAny_Compare1 (binT ha hb I h λ v u s2 x y H2 I2 rx ry q=>ho pins s2 σ H2 x y v u Q I2 rx ry q) hm
noncomputable def wq5 (t : TE) : TT:=λ σ H Q=>t σ H λ x H'=>∃ k,x = .bl k /\ Q k H'
theorem xx5 {op : CmpOp} {r : R2} (ho : OpR X (compareOp op) r) (ha : PE X a ta) (hb : PE X b tb) (hm : behindInMarks op b = false) : PT X (.Compare a [op] [b] pos) (wq5 (tOp r ta tb)):=by
 intro pins s σ H Q I h
 refine wpAny_isTrue_Compare1 (thn (ha pins s σ H _ I h) λ v s1 ⟨x,H1,I1,r1,q1⟩=>thn (hb pins s1 σ H1 _ I1 q1) λ u s2 ⟨y,H2,I2,r2,q2⟩ =>
  thn (ho pins s2 σ H2 x y v u _ I2 r1 r2 q2) λ c s3 ⟨z,H3,I3,r3,k,e,q3⟩=>?_) hm
 subst e
 cases r3
 exact wpAny_truthy_bool ⟨H3,I3,q3⟩
noncomputable def xt6 (r r' : R2) (ta tb tc : TE) : TE:=λ σ H Q=>ta σ H λ x H1=>tb σ H1 λ y H2=>r x y H2 λ z H3=>∃ k,z = .bl k ∧
 (if k = true then tc σ H3 λ w' H4=>r' y w' H4 Q else Q (.bl false) H3)
theorem xs4 {op op' : CmpOp} {r r' : R2} (ho : OpR X (compareOp op) r) (ho' : OpR X (compareOp op') r') (ha : PE X a ta) (hb : PE X b tb) (hc : PE X c tc)
    (hm : lastMarks [op,op'] [b,c] = false:=by with_unfolding_all rfl) : PT X (.Compare a [op,op'] [b,c] pos) (wq5 (xt6 r r' ta tb tc)):=by
 intro pins s σ H Q I h
 refine isTrue_chain (thn (ha pins s σ H _ I h) λ v s1 ⟨x,H1,I1,r1,q1⟩=>test_link (thn (hb pins s1 σ H1 _ I1 q1) λ u s2 ⟨y,H2,I2,r2,q2⟩ =>
  thn (ho pins s2 σ H2 x y v u _ I2 r1 r2 q2) λ d s3 ⟨z,H3,I3,r3,k,e,q3⟩=>?_)) hm
 subst e
 cases r3
 refine wpAny_truthy_bool ?_
 cases k with
 | false =>
  obtain ⟨k',e',q'⟩:=q3
  cases e'
  exact ite_ff ⟨H3,I3,q'⟩
 | true =>
  refine ite_tt (test_last (thn (hc pins s3 σ H3 _ I3 q3) λ w' s4 ⟨z',H4,I4,r4,q4⟩=>thn (ho' pins s4 σ H4 y z' u w' _ I4 r2 r4 q4) λ d' s5 ⟨z2,H5,I5,r5,k2,e2,q5⟩=>?_))
  subst e2
  cases r5
  exact wpAny_truthy_bool ⟨H5,I5,q5⟩
theorem wi2 : (sizeLine : Nat) < 2 ^ 63:=by rw [sizeLine_eq]; decide
theorem yi3 : OpR X (binaryOp .Add) (λ x y H Q=>∃ i j,x = .str i /\ y = .str j /\ i.length + j.length <= sizeLine /\ Q (.str (i ++ j)) H):=by
 intro pins s σ H x y v u Q I rx ry h
 obtain ⟨i,j,rfl,rfl,hz,q⟩:=h
 obtain ⟨t,rfl⟩:=rx
 obtain ⟨t',rfl⟩:=ry
 exact add_str (λ t' tk=>⟨.str (i ++ j),H,I.tok _,⟨_,rfl⟩,q⟩) hz
theorem wu1 {x : V} {us : List Value} (r : Vals [x] us) : ∃ u,us = [u] /\ RelV x u:=by
 cases r with
 | cons r1 r2=>cases r2; exact ⟨_,rfl,r1⟩
theorem yn2 {x y : V} {us : List Value} (r : Vals [x,y] us) : ∃ u w',us = [u,w'] /\ RelV x u /\ RelV y w':=by
 cases r with
 | cons r1 r2 =>
  cases r2 with
  | cons r3 r4=>cases r4; exact ⟨_,_,rfl,r1,r3⟩
theorem yc5 : CallR X (.builtin "abs") (λ xs H Q=>∃ i,xs = [.int i] /\ Q (.int (if i < 0 then -i else i)) H):=by
 intro pins s σ H xs us Q I r h
 obtain ⟨i,rfl,q⟩:=h
 obtain ⟨u,rfl,t,rfl⟩:=wu1 r
 exact call_abs_int λ u tk=>⟨.int (if i < 0 then -i else i),H,I.tok _,⟨_,rfl⟩,q⟩
theorem zh4 (hc : X.calm = true) : CallR X (.builtin "max") (λ xs H Q=>∃ i j,xs = [.int i,.int j] /\ Q (.int (if j > i then j else i)) H):=by
 intro pins s σ H xs us Q I r h
 obtain ⟨i,j,rfl,q⟩:=h
 obtain ⟨u,w',rfl,⟨t,rfl⟩,⟨t',rfl⟩⟩:=yn2 r
 refine max_two_ints (I.ok.hd hc) λ h' tk k=>⟨_,H,I.kept k,?_,q⟩
 by_cases hj : j > i
 ·rw [if_pos hj,if_pos hj]; exact ⟨_,rfl⟩
 ·rw [if_neg hj,if_neg hj]; exact ⟨_,rfl⟩
theorem xh4 (hc : X.calm = true) : CallR X (.builtin "min") (λ xs H Q=>∃ i j,xs = [.int i,.int j] /\ Q (.int (if j < i then j else i)) H):=by
 intro pins s σ H xs us Q I r h
 obtain ⟨i,j,rfl,q⟩:=h
 obtain ⟨u,w',rfl,⟨t,rfl⟩,⟨t',rfl⟩⟩:=yn2 r
 refine min_two_ints (I.ok.hd hc) λ h' tk k=>⟨_,H,I.kept k,?_,q⟩
 by_cases hj : j < i
 ·rw [if_pos hj,if_pos hj]; exact ⟨_,rfl⟩
 ·rw [if_neg hj,if_neg hj]; exact ⟨_,rfl⟩
theorem call_int1 : CallR X (.type "int") (λ xs H Q=>(∃ i,xs = [.int i] /\ Q (.int i) H) \/ ∃ k,xs = [.bl k] /\ Q (.int (if k then 1 else 0)) H):=by
 intro pins s σ H xs us Q I r h
 rcases h with ⟨i,rfl,q⟩ | ⟨k,rfl,q⟩
 ·obtain ⟨u,rfl,t,rfl⟩:=wu1 r
  exact call_int_int ⟨.int i,H,I,⟨_,rfl⟩,q⟩
 ·obtain ⟨u,rfl,r1⟩:=wu1 r
  cases r1
  exact call_int_bool ⟨.int (if k then 1 else 0),H,I.tok _,⟨_,rfl⟩,q⟩
end
end L2
namespace L2
open PySem PySem.Spec PyProof.Rows
structure ObjM (h : Heap) (x dx C : Addr) (mA : Str -> Option Value) : Prop where
 obj : h.get? x = some (PySem.W.instObj C dx)
 ns : h.Ns1 dx mA
 ne : dx ≠ x
theorem xa4 {h : Heap} {dx : Addr} {mA : Str -> Option Value} (n : h.Ns1 dx mA) : ∃ od,h.get? dx = some od /\ ∀ name,PySem.W.lookIn name od = some (mA name):=by
 obtain ⟨o,es,ep,ho,hd,hk,_,hm⟩:=n
 refine ⟨o,ho,λ name=>?_⟩
 have e:=hm name
 unfold nsFind findBy at e
 rw [<- Array.find?_toList] at e
 unfold PySem.W.lookIn
 rw [hd]
 dsimp only
 split
 ·rename_i y q
  rw [q] at e
  exact congrArg some e
 ·rename_i q
  rw [q] at e
  have a : es.toList.any (·.refKey) = false:=by
   rw [List.any_eq_false]
   intro y hy
   obtain ⟨z,t,hkey⟩:=hk y (Array.mem_toList_iff.mp hy)
   simp [DictEntry.refKey,hkey]
  have a' : ¬ es.toList.any (·.refKey) = true:=by rw [a]; exact Bool.false_ne_true
  rw [if_neg a']
  exact congrArg some e
theorem ObjM.look {h : Heap} {x dx C : Addr} {mA : Str -> Option Value} (I : ObjM h x dx C mA) : ∃ od,PySem.W.InstAt h x (PySem.W.instObj C dx) C (some od) /\ ∀ name,PySem.W.lookIn name od = some (mA name) :=
 let ⟨od,ho,hl⟩:=xa4 I.ns
 ⟨od,⟨I.obj,rfl,rfl,ho⟩,hl⟩
section
variable {prog : Program} {w : World} {A : Around} {E : Value -> Shared -> Prop} {s : Shared} {K : PySem.W.Frag} {x dx C f : Addr} {mA : Str -> Option Value} {name : Str} {v : Value}
theorem xg6 {expr : Bool} {Q : Value -> Shared -> Prop} (X : K.In s.heap) (I : ObjM s.heap x dx C mA) (hg : PySem.W.plainGet K C name = true) (hh : PySem.W.hasDictIn K C = true)
    (ha : PySem.W.findIn K (.ref C) name = some none) (hv : mA name = some v) (hv' : PySem.W.handedIn v = true) (h : Q v { s with toks:=s.toks + 1 }) :
    wpAny (model prog w) A (getAttr (.ref x) name expr) Q E s:=by
 obtain ⟨od,J,hl⟩:=I.look
 exact PySem.W.get_value X J (PySem.W.plainGet_of hg).1 (PySem.W.findObj_own hh ha rfl (by rw [hl,hv])) hv' h
theorem zz4 {pl : Sem Bool} {Q : Value × List Value -> Shared -> Prop} (X : K.In s.heap) (I : ObjM s.heap x dx C mA) (hg : PySem.W.plainGet K C name = true)
    (hf : PySem.W.findIn K (.ref C) name = some (some (.ref f))) (ht : PySem.W.isFn K (.ref f) = true) (hv : mA name = none) (h : Q (.ref f,[.ref x]) s) :
    wpAny (model prog w) A (getMethod (.ref x) name pl) Q E s:=by
 obtain ⟨od,J,hl⟩:=I.look
 exact PySem.W.method_fn X J (PySem.W.plainGet_of hg).1 (PySem.W.plainGet_of hg).2 hf (beq_iff_eq.mp ht) (by show (PySem.W.lookIn name od).map (·.isSome) = some false; rw [hl,hv]; rfl) h
theorem zt5 {ns : List Str} {Q : Unit -> Shared -> Prop} (X : K.In s.heap) (I : ObjM s.heap x dx C mA)
    (hs : PySem.W.findIn K (.ref C) "__setattr__" = some (some (.builtin "object.__setattr__"))) (hp : PySem.W.plainOver K C = true) (ht : PySem.W.takerIn K C name = some none) (hh : PySem.W.hasDictIn K C = true)
    (hw : PySem.Within mA ns) (hsz : ns.length <= sizeLine)
    (h : ∀ h',ObjM h' x dx C (λ y=>if y = name then some v else mA y) -> Heap.SameBut dx s.heap h' -> Q () { s with heap:=h',toks:=s.toks + 2 }) :
    wpAny (model prog w) A (setAttr (.ref x) name v) Q E s:=by
 obtain ⟨od,J,hl⟩:=I.look
 refine PySem.W.set_plain X J hs (PySem.W.osa_open (s:={ s with toks:=s.toks + 1 }) (r:=none) X J hp ht λ b=>?_)
 obtain ⟨cd,hc,hd'⟩:=PySem.W.any_some hh
 have hx : s.heap.get? x = some ⟨.ref C,some dx,.plain,#[]⟩:=I.obj
 refine wpAny_bind (wpAny_pure (wpAny_bind (wpAny_bind (wpAny_loadPart hx (wpAny_bind (PySem.W.Looks.here (s:={ s with toks:=s.toks + 1 }) (PySem.W.looks_clsIn X hc) ?_))))))
 rw [hd']
 refine wpAny_pure (a:=some dx) (wpAny_bind (wpAny_pure (wpAny_bind ?_)))
 refine wpAny_nsSet1 (s:={ s with toks:=s.toks + 1 }) I.ns λ h' hn2 hs2=>?_
 obtain ⟨oD,esD,epD,hoD,hdD,hcD⟩:=hn2.count (PySem.Within.cons name v hw)
 refine wpAny_bind (wpAny_lookBehind hoD (by rw [hdD]; exact pastItsLine_dict (Nat.le_trans hcD (by rw [List.length_cons]; omega))) ?_)
 exact wpAny_pure (h _ ⟨(hs2.2 _ (Ne.symm I.ne)).trans I.obj,hn2,I.ne⟩ hs2)
theorem wv4 {R : Result -> Shared -> Prop} {vs : List Value} {kw : List (Str × Value)} (X : K.In s.heap) (hm : PySem.W.makesIn K C = true)
    (hi : PySem.W.findIn K (.ref C) "__init__" = some (some (.ref f))) (hf : PySem.W.typeIn K (.ref f) = some (.type "function"))
    (h : codeAny (model prog w) (A.under (.builtin "type.__call__" ⟨.ref C :: vs,kw⟩)) (.call (.ref f) ⟨.ref (s.heap.objs.size + 1) :: vs,kw⟩) (PySem.W.InitBack (s.heap.objs.size + 1) R)
     { s with heap:=(s.heap.push PySem.W.emptyDict).push (PySem.W.instObj C s.heap.objs.size) }) :
    codeAny (model prog w) A (.call (.ref C) ⟨vs,kw⟩) R s:=by
 obtain ⟨hh,g,d,t,os⟩:=s
 exact PySem.W.make_core (PySem.W.makes_of X hm) (PySem.W.looks_findIn X hi) (λ self=>PySem.W.bind_fn X self hf) (.inl rfl) h
end
noncomputable def putF (f : Str) (v : V) : List (Str × V) -> List (Str × V)
 | []=>[(f,v)]
 | (g,x) :: r=>if g = f then (g,v) :: r else (g,x) :: putF f v r
theorem xt1 (f g : Str) (v : V) : ∀ fs : List (Str × V),(putF f v fs).lookup g = if g = f then some v else fs.lookup g
 | []=>by
  show List.lookup g [(f,v)] = _
  by_cases h : g = f
  ·have hb : (g == f) = true:=beq_iff_eq.mpr h
   simp only [List.lookup,hb,if_pos h]
  ·have hb : (g == f) = false:=beq_eq_false_iff_ne.mpr h
   simp only [List.lookup,hb,if_neg h]
 | (k,x) :: r=>by
  have ih:=xt1 f g v r
  rw [show putF f v ((k,x) :: r) = (if k = f then (k,v) :: r else (k,x) :: putF f v r) from rfl]
  by_cases hk : k = f
  ·rw [if_pos hk]
   by_cases h : g = k
   ·have hb : (g == k) = true:=beq_iff_eq.mpr h
    simp only [List.lookup,hb,if_pos (h.trans hk)]
   ·have hb : (g == k) = false:=beq_eq_false_iff_ne.mpr h
    simp only [List.lookup,hb,if_neg (λ e : g = f=>h (e.trans hk.symm))]
  ·rw [if_neg hk]
   by_cases h : g = k
   ·have hb : (g == k) = true:=beq_iff_eq.mpr h
    simp only [List.lookup,hb,if_neg (λ e : g = f=>hk (h.symm.trans e))]
   ·have hb : (g == k) = false:=beq_eq_false_iff_ne.mpr h
    simp only [List.lookup,hb]
    exact ih
theorem wt1 (f : Str) (v : V) : ∀ fs : List (Str × V),f ∈ (putF f v fs).map (·.1) /\ ∀ g,g ∈ fs.map (·.1) -> g ∈ (putF f v fs).map (·.1)
 | []=>⟨by simp [putF],λ g h=>by simp at h⟩
 | (k,x) :: r=>by
  obtain ⟨i1,i2⟩:=wt1 f v r
  rw [show putF f v ((k,x) :: r) = (if k = f then (k,v) :: r else (k,x) :: putF f v r) from rfl]
  by_cases hk : k = f
  ·rw [if_pos hk]
   subst hk
   exact ⟨by simp,λ g h=>by simpa using h⟩
  ·rw [if_neg hk]
   refine ⟨?_,λ g h=>?_⟩
   ·rw [List.map_cons]
    exact List.mem_cons_of_mem _ i1
   ·rw [List.map_cons] at h ⊢
    rcases List.mem_cons.mp h with e | e
    ·exact List.mem_cons.mpr (.inl e)
    ·exact List.mem_cons_of_mem _ (i2 g e)
theorem yt1 (f : Str) (v : V) : ∀ fs : List (Str × V),(putF f v fs).length <= fs.length + 1
 | []=>by simp [putF]
 | (k,x) :: r=>by
  have ih:=yt1 f v r
  rw [show putF f v ((k,x) :: r) = (if k = f then (k,v) :: r else (k,x) :: putF f v r) from rfl]
  by_cases hk : k = f
  ·rw [if_pos hk,List.length_cons,List.length_cons]; omega
  ·rw [if_neg hk,List.length_cons,List.length_cons]; omega
theorem RelO.some_of {v : V} {o : Option Value} (r : RelO (some v) o) : ∃ u,o = some u /\ RelV v u:=by
 cases o with
 | none=>exact (show False from r).elim
 | some u=>exact ⟨u,rfl,r⟩
theorem RelO.none_of {o : Option Value} (r : RelO none o) : o = none:=by
 cases o with
 | none=>rfl
 | some u=>exact (show False from r).elim
theorem xc4 {v : V} {u : Value} (r : RelV v u) : PySem.W.handedIn u = true:=by
 cases v with
 | non=>cases (show u = Value.none from r); rfl
 | bl b=>cases (show u = Value.bool b from r); rfl
 | int i=>obtain ⟨t,e⟩:=(show ∃ t,u = Value.int i t from r); cases e; rfl
 | str x=>obtain ⟨t,e⟩:=(show ∃ t,u = Value.str x t from r); cases e; rfl
 | byt b=>obtain ⟨t,e⟩:=(show ∃ t,u = Value.bytes b t from r); cases e; rfl
 | flt b=>obtain ⟨t,e⟩:=(show ∃ t,u = Value.float b t from r); cases e; rfl
 | ref a=>cases (show u = Value.ref a from r); rfl
 | ty n=>cases (show u = Value.type n from r); rfl
section
variable {P : Program} {w : World} {H H' : Hp} {h h' : Heap} {a C dx : Addr} {fs fs' : List (Str × V)}
theorem yq2 (hok : HOk P w H h) (e : H a = some (.ins C dx fs)) : ∃ mA,ObjM h a dx C mA /\ (∀ f,RelO (fs.lookup f) (mA f)) /\ PySem.Within mA (fs.map (·.1)) /\ fs.length <= 1000 /\ H dx = some (.own a):=by
 obtain ⟨d,z,ne,ob,mA,n,r,q⟩:=(show ObjOk P w H h a (.ins C dx fs) from hok a _ e)
 exact ⟨mA,⟨ob,n,ne⟩,r,q,z,d⟩
end
structure Cls (K : PySem.W.Frag) (C : Addr) : Prop where
 pg : PySem.W.plainGet K C Str.empty = true
 hd : PySem.W.hasDictIn K C = true
 po : PySem.W.plainOver K C = true
 sa : PySem.W.findIn K (.ref C) "__setattr__" = some (some (.builtin "object.__setattr__"))
theorem Cls.get {K : PySem.W.Frag} {C : Addr} (c : Cls K C) (f : Str) : PySem.W.plainGet K C f = true:=c.pg
noncomputable def NoAttr (K : PySem.W.Frag) (C : Addr) (f : Str) : Prop:=PySem.W.findIn K (.ref C) f = some none
theorem NoAttr.taker {K : PySem.W.Frag} {C : Addr} {f : Str} (n : NoAttr K C f) : PySem.W.takerIn K C f = some none:=by
 unfold PySem.W.takerIn
 rw [show PySem.W.findIn K (.ref C) f = some none from n]
 rfl
structure Con (K : PySem.W.Frag) (C : Addr) (f : Str) (v : V) (u : Value) : Prop where
 at_ : PySem.W.findIn K (.ref C) f = some (some u)
 rel : RelV v u
 get : PySem.W.specialIn K u "__get__" = some none
 cp : PySem.W.copiedNames.contains f = false
structure Meth (K : PySem.W.Frag) (C : Addr) (m : Str) (f : Addr) : Prop where
 at_ : PySem.W.findIn K (.ref C) m = some (some (.ref f))
 fn : PySem.W.isFn K (.ref f) = true
 kp : PySem.W.keepIn K (.ref f) = true
section
variable {X : Cx} {pins : List (Addr × Obj)} {σ : St} {H : Hp} {s : Shared} {a C dx : Addr} {fs : List (Str × V)} {f : Str} {v : V} {A : Around} {E : Value -> Shared -> Prop}
theorem xk3 {b : Bool} {Q : Value -> Shared -> Prop} (I : Inv X pins σ H s) (e : H a = some (.ins C dx fs)) (c : Cls X.K C) (n : NoAttr X.K C f) (l : fs.lookup f = some v)
    (h : ∀ u s',Inv X pins σ H s' -> RelV v u -> Q u s') : wpAny (model X.prog X.w) A (getAttr (.ref a) f b) Q E s:=by
 obtain ⟨mA,O,r,_,_,_⟩:=yq2 I.hok e
 obtain ⟨u,hu,ru⟩:=RelO.some_of (v:=v) (o:=mA f) (by rw [<- l]; exact r f)
 exact xg6 I.kIn O (c.get f) c.hd n hu (xc4 ru) (h u _ (I.tok _) ru)
theorem zy1 {m : Str} {g : Addr} {pl : Sem Bool} {Q : Value × List Value -> Shared -> Prop} (I : Inv X pins σ H s) (e : H a = some (.ins C dx fs)) (c : Cls X.K C) (k : Meth X.K C m g) (l : fs.lookup m = none)
    (h : Q (.ref g,[.ref a]) s) : wpAny (model X.prog X.w) A (getMethod (.ref a) m pl) Q E s:=by
 obtain ⟨mA,O,r,_,_,_⟩:=yq2 I.hok e
 have hn : mA m = none:=RelO.none_of (by rw [<- l]; exact r m)
 exact zz4 I.kIn O (c.get m) k.at_ k.fn hn h
theorem ya3 {y : V} {u : Value} {Q : Unit -> Shared -> Prop} (I : Inv X pins σ H s) (e : H a = some (.ins C dx fs)) (c : Cls X.K C) (n : NoAttr X.K C f) (hl : fs.length < 1000) (ry : RelV y u)
    (h : ∀ s',Inv X pins σ (upd H a (.ins C dx (putF f y fs))) s' -> Q () s') : wpAny (model X.prog X.w) A (setAttr (.ref a) f u) Q E s:=by
 obtain ⟨mA,O,r,wi,_,ho⟩:=yq2 I.hok e
 have hz : (fs.map (·.1)).length <= sizeLine:=by rw [List.length_map,sizeLine_eq]; omega
 refine zt5 I.kIn O c.sa c.po n.taker c.hd wi hz λ h' O' sb=>h _ ?_
 have hd : ∃ o,h'.get? dx = some o:=let ⟨o,_,_,e',_⟩:=O'.ns; ⟨o,e'⟩
 refine I.write (x:=a) (e:=dx) (by rw [e]; exact True.intro) (.inr ho) (λ b q hb z=>(sb.2 b hb).trans z) hd ?_
 refine ⟨by rw [zf0 O.ne]; exact ho,?_,O.ne,O'.obj,_,O'.ns,λ g=>?_,λ g hg=>?_⟩
 ·have:=yt1 f y fs; omega
 ·show RelO ((putF f y fs).lookup g) (if g = f then some u else mA g)
  rw [xt1]
  by_cases q : g = f
  ·rw [if_pos q,if_pos q]; exact ry
  ·rw [if_neg q,if_neg q]; exact r g
 ·by_cases q : g = f
  ·rw [q]; exact (wt1 f y fs).1
  ·refine (wt1 f y fs).2 g (wi g λ z=>hg ?_)
   show (if g = f then some u else mA g) = none
   rw [if_neg q]; exact z
theorem Inv.made (I : Inv X pins σ H s) : Inv X pins σ (upd (upd H s.heap.objs.size (.own (s.heap.objs.size + 1))) (s.heap.objs.size + 1) (.ins C s.heap.objs.size []))
    { s with heap:=(s.heap.push PySem.W.emptyDict).push (PySem.W.instObj C s.heap.objs.size) }:=by
 have e1 : (s.heap.push PySem.W.emptyDict).get? s.heap.objs.size = some PySem.W.emptyDict:=Heap.get?_push_size s.heap rfl
 have e2 : ((s.heap.push PySem.W.emptyDict).push (PySem.W.instObj C s.heap.objs.size)).get? (s.heap.objs.size + 1) = some (PySem.W.instObj C s.heap.objs.size):=by
  have:=Heap.get?_push_size (s.heap.push PySem.W.emptyDict) (o:=PySem.W.instObj C s.heap.objs.size) rfl
  rwa [Heap.size_push] at this
 have e3 : (s.heap.push PySem.W.emptyDict).Ns s.heap.objs.size (λ _=>none):=⟨PySem.W.emptyDict,#[],_,e1,rfl,(λ e he=>absurd he (by simp)),λ _=>rfl⟩
 have I1:=I.laid (a:=s.heap.objs.size) (o:=.own (s.heap.objs.size + 1)) (h':=s.heap.push PySem.W.emptyDict) (t':=s.toks) (λ b u q=>Heap.get?_push_of_some _ q) (Nat.le_refl _) ⟨_,e1⟩
 refine I1.laid (a:=s.heap.objs.size + 1) (o:=.ins C s.heap.objs.size []) (t':=s.toks) (λ b u q=>Heap.get?_push_of_some _ q) (Nat.le_of_eq (Heap.size_push _ _)) ?_
 have ne : s.heap.objs.size ≠ s.heap.objs.size + 1:=Nat.ne_of_lt (Nat.lt_succ_self _)
 refine ⟨by rw [zf0 ne,yj0],Nat.zero_le _,ne,e2,λ _=>none,(Heap.Ns1.of_empty e3).at λ o q=>Heap.get?_push_of_some _ q,λ _=>True.intro,λ y hy=>absurd rfl hy⟩
theorem xj6 {prog : Program} {w : World} {env : Env} {e : Expr} {f : Str} {pos : Pos} {s : Shared} {Q : Value -> Shared -> Prop} (hb : attributeBase e f env (eval e env) = eval e env)
    (h : wpAny (model prog w) A (eval e env) (λ o s₁=>wpAny (model prog w) A (getAttr o f true) Q E s₁) E s) : wpAny (model prog w) A (eval (.Attribute e f pos) env) Q E s :=
 Attribute_any_ h (by rw [arm_eval_Attribute,hb])
end
noncomputable def tFld (K : PySem.W.Frag) (ta : TE) (f : Str) : TE:=λ σ H Q=>ta σ H λ x H1=>∃ a C dx fs v,x = .ref a /\ H1 a = some (.ins C dx fs) /\ Cls K C /\ NoAttr K C f /\ fs.lookup f = some v /\ Q v H1
noncomputable def sFld (K : PySem.W.Frag) (ta tv : TE) (f : Str) : TS:=λ D σ H=>tv σ H λ y H1=>ta σ H1 λ x H2=>∃ a C dx fs,x = .ref a /\ H2 a = some (.ins C dx fs) /\ Cls K C /\ NoAttr K C f /\ fs.length < 1000 ∧
 D.nx σ (upd H2 a (.ins C dx (putF f y fs)))
section
variable {X : Cx} {o e value : Expr} {f : Str} {pos pos' tpos : Pos} {ta tv : TE}
theorem zu7 (he : PE X e ta) (hb : attributeBase e f X.env (eval e X.env) = eval e X.env) : PE X (.Attribute e f pos) (tFld X.K ta f):=by
 intro pins s σ H Q I h
 refine xj6 hb (thn (he pins s σ H _ I h) λ u s1 ⟨x,H1,I1,rx,a,C,dx,fs,v,ex,ea,c,n,l,q⟩=>?_)
 subst ex
 obtain rfl : u = Value.ref a:=rx
 exact xk3 I1 ea c n l λ u' s2 I2 ru=>⟨v,H1,I2,ru,q⟩
theorem wq7 (ha : PE X o ta) (hv : PE X value tv) (hs : swapsWith value (some (.Attribute o f pos')) pos.line X.env = pure false) : PS X (.Assign [.Attribute o f pos'] value pos) (sFld X.K ta tv f):=by
 intro pins s σ H D I h
 refine plainObj_wpAny_Assign_Attribute (thn (hv pins s σ H _ I h) λ u s1 ⟨y,H1,I1,ry,q⟩=>thn (ha pins s1 σ H1 _ I1 q) λ ov s2 ⟨x,H2,I2,rx,a,C,dx,fs,ex,ea,c,n,l,q2⟩=>?_) hs
 subst ex
 obtain rfl : ov = Value.ref a:=rx
 exact ya3 I2 ea c n l ry λ s3 I3=>⟨σ,_,I3,q2⟩
end
section
variable {X : Cx} {pins : List (Addr × Obj)} {σ : St} {H : Hp} {s : Shared} {A : Around} {E : Value -> Shared -> Prop} {Q : Value -> Shared -> Prop} {c : Value} {b : Bool}
inductive TyOf (K : PySem.W.Frag) (H : Hp) : V -> Value -> Prop where
 | non : TyOf K H .non (.type "NoneType")
 | bl (x : Bool) : TyOf K H (.bl x) (.type "bool")
 | int (i : Int) : TyOf K H (.int i) (.type "int")
 | str (x : Str) : TyOf K H (.str x) (.type "str")
 | flt (x : UInt64) : TyOf K H (.flt x) (.type "float")
 | lst {a : Addr} {xs : List V} (e : H a = some (.lst xs)) : TyOf K H (.ref a) (.type "list")
 | frz {a : Addr} {o : Obj} {xs : List V} (e : H a = some (.frz o (.lst xs))) : TyOf K H (.ref a) (.type "list")
 | tup {a : Addr} {xs : List V} (e : H a = some (.tup xs)) : TyOf K H (.ref a) (.type "tuple")
 | dK {a : Addr} {kvs : List (Key × V)} (e : H a = some (.dK kvs)) : TyOf K H (.ref a) (.type "dict")
 | dT {a : Addr} {kvs : List (List Key × V)} (e : H a = some (.dT kvs)) : TyOf K H (.ref a) (.type "dict")
 | ins {a C dx : Addr} {fs : List (Str × V)} (e : H a = some (.ins C dx fs)) (cl : Cls K C) (ha : PySem.W.findIn K (.ref C) "__class__" = some (some (.builtin "object.__class__")))
     (hn : PySem.W.specialIn K (.builtin "object.__class__") "__get__" = some (some (.builtin "getset_descriptor.__get__"))) (htk : PySem.W.takesIn K (.builtin "object.__class__") = some true)
     (hm : PySem.W.mroIn K C (.type "object") = some true) : TyOf K H (.ref a) (.ref C)
end
end L2
namespace L2
open PySem PySem.Spec PyProof.Rows
structure Room (k : Nat) (A : Around) : Prop where
 hd : A.handled = none
 dp : A.depth + 3 * k + 5 < recursionLimit
 un : A.units + 16 * k + 200 < cLine
theorem Room.mono {j k : Nat} {A : Around} (r : Room k A) (h : j <= k) : Room j A:=⟨r.hd,by have:=r.dp; omega,by have:=r.un; omega⟩
theorem Room.deeper {k : Nat} {A : Around} (r : Room (k + 1) A) (env : Env) : Room k (A.deeper env) :=
 ⟨r.hd,by have:=r.dp; show A.depth + 1 + 3 * k + 5 < _; omega,by have:=r.un; show A.units + 3 + 16 * k + 200 < _; omega⟩
theorem yj3 {A : Around} {C : Addr} {us : List Value} {kw : List (Str × Value)} : (A.under (.builtin "type.__call__" ⟨.ref C :: us,kw⟩)).depth = A.depth + 1:=by
 first | rfl | simp [Around.under,Code.weight,Code.isCreation,Code.isGuard,Code.isCaller,Code.frames,Code.isFrame,guardIds]
theorem xj3 {A : Around} {C : Addr} {us : List Value} {kw : List (Str × Value)} : (A.under (.builtin "type.__call__" ⟨.ref C :: us,kw⟩)).units = A.units + 1:=by
 first | rfl | simp [Around.under,Code.cUnits,Code.frames,Code.isFrame]
theorem Room.make {k : Nat} {A : Around} (r : Room (k + 1) A) (C : Addr) (us : List Value) (kw : List (Str × Value)) : Room k (A.under (.builtin "type.__call__" ⟨.ref C :: us,kw⟩)) :=
 ⟨r.hd,by have:=r.dp; rw [yj3]; omega,by have:=r.un; rw [xj3]; omega⟩
theorem Room.depth {k : Nat} {A : Around} (r : Room k A) : A.depth < recursionLimit:=by have:=r.dp; omega
noncomputable def tNil : TA:=λ _ H Q=>Q [] H
noncomputable def zh8 (ta : TE) (tr : TA) : TA:=λ σ H Q=>ta σ H λ x H1=>tr σ H1 λ xs H2=>Q (x :: xs) H2
section
variable {X : Cx} {e : Expr} {es : List Expr} {te : TE} {t : TA} {pos : Pos}
theorem xi5 : PA X [] tNil:=λ _ _ _ _ H Q I h=>Calls.spliced_nil ⟨[],H,I,.nil,h⟩
theorem wo2 (ha : PE X e te) (hr : PA X es t) (hs : starEach (e :: es) X.env = (false,eval e X.env) :: starEach es X.env:=by rfl) : PA X (e :: es) (zh8 te t):=by
 intro pos pins s σ H Q I h
 rw [hs]
 show wpAny _ _ (spliced ((false,eval e X.env) :: backTo pos (starEach es X.env))) _ _ s
 refine Calls.spliced_cons (thn (ha pins s σ H _ I h) λ u s1 ⟨x,H1,I1,r1,q1⟩=>?_)
 exact thn (hr pos pins s1 σ H1 _ I1 q1) λ us s2 ⟨xs,H2,I2,r2,q2⟩=>⟨x :: xs,H2,I2,.cons r1 r2,q2⟩
noncomputable def tTup (t : TA) : TE:=λ σ H Q=>t σ H λ xs H1=>xs.length <= sizeLine /\ ∀ p,H1 p = none -> Q (.ref p) (upd H1 p (.tup xs))
noncomputable def tLst (t : TA) : TE:=λ σ H Q=>t σ H λ xs H1=>xs.length <= sizeLine /\ ∀ p,H1 p = none -> Q (.ref p) (upd H1 p (.lst xs))
theorem ws7 {x1} (h : PA X es t) : PE X (.Tuple es x1 pos) (tTup t):=by
 intro pins s σ H Q I hq
 refine wpAny_Tuple_spliced (thn (h pos pins s σ H _ I hq) λ us s1 ⟨xs,H1,I1,r,z,q⟩=>⟨by rw [<- r.length]; exact z,?_⟩)
 have hf : H1 s1.heap.objs.size = none:=I1.hok.fresh (Nat.le_refl _)
 refine ⟨.ref s1.heap.objs.size,upd H1 s1.heap.objs.size (.tup xs),I1.laid (t':=s1.toks) (λ b u e=>Heap.get?_push_of_some _ e) (Nat.le_refl _) ?_,rfl,q _ hf⟩
 exact ⟨z,us,r,⟨_,Heap.get?_push_size _ rfl,rfl,_,rfl⟩⟩
theorem xu7 (h : PA X es t) : PE X (.List es pos) (tLst t):=by
 intro pins s σ H Q I hq
 refine wpAny_List_spliced (thn (h pos pins s σ H _ I hq) λ us s1 ⟨xs,H1,I1,r,z,q⟩=>⟨by rw [<- r.length]; exact z,?_⟩)
 have hf : H1 s1.heap.objs.size = none:=I1.hok.fresh (Nat.le_refl _)
 refine ⟨.ref s1.heap.objs.size,upd H1 s1.heap.objs.size (.lst xs),I1.laid (t':=s1.toks) (λ b u e=>Heap.get?_push_of_some _ e) (Nat.le_refl _) ?_,rfl,q _ hf⟩
 exact ⟨z,us,0,r,Heap.get?_push_size _ rfl⟩
end
noncomputable abbrev Sp:=List V -> Hp -> VK -> XK -> Prop
noncomputable abbrev CXT:=List Env -> Hp -> Shared -> XK -> Value -> Shared -> Prop
structure Env0 (P : Program) (w : World) (K : PySem.W.Frag) (mg : Str -> Option Value) (base : Heap) (A : Around) (outer : List Env) (s : Shared) (H : Hp) : Prop where
 frames : A.frames = some outer
 mod : Mod K mg base
 bs : ∀ b o,base.get? b = some o -> s.heap.get? b = some o /\ H b = none
 bsz : base.objs.size <= s.heap.objs.size
 funs : s.heap.FunFrames base outer
 frf : ∀ b ∈ frs outer,H b = none
 hok : HOk P w H s.heap
 bare : AllBare s.gens
noncomputable def CE (outer : List Env) (P : Program) (w : World) (H : Hp) (s : Shared) (Q : VK) (u : Value) (s' : Shared) : Prop :=
 ∃ v H',s'.os = s.os /\ AllBare s'.gens /\ Un (frs outer) [] H H' s.heap s'.heap /\ HOk P w H' s'.heap /\ RelV v u /\ Q v H'
noncomputable def CR (CX : CXT) (outer : List Env) (P : Program) (w : World) (H : Hp) (s : Shared) (Q : VK) (E : XK) (r : Result) (s' : Shared) : Prop :=
 match r with
 | .ok (.ret u)=>CE outer P w H s Q u s'
 | .ok _=>False
 | .error e=>CX outer H s E e s'
structure FnOk (P : Program) (w : World) (K : PySem.W.Frag) (mg : Str -> Option Value) (base : Heap) (CX : CXT) (k : Nat) (f : Addr) (fd : FuncData) (ps : List Str) (sp : Sp) : Prop where
 len : ∀ vs H Q E,sp vs H Q E -> vs.length = ps.length
 run : ∀ (A : Around) (outer : List Env) (s : Shared) (H : Hp) (args : Args) (us : List Value) (vs : List V) (Q : VK) (E : XK),Room k A -> Env0 P w K mg base A outer s H -> BindsTo s fd args (ps.zip us) -> Vals vs us -> sp vs H Q E ->
  codeAny (model P w) A (.call (.ref f) args) (CR CX outer P w H s Q E) s
theorem FnOk.mono {P : Program} {w : World} {K : PySem.W.Frag} {mg : Str -> Option Value} {base : Heap} {CX : CXT} {j k : Nat} {f : Addr} {fd : FuncData} {ps : List Str} {sp : Sp} (F : FnOk P w K mg base CX j f fd ps sp) (h : j <= k) :
    FnOk P w K mg base CX k f fd ps sp:=⟨F.len,λ A outer s H args us vs Q E hr=>F.run A outer s H args us vs Q E (hr.mono h)⟩
theorem Env0.make {P : Program} {w : World} {K : PySem.W.Frag} {mg : Str -> Option Value} {base : Heap} {A : Around} {outer : List Env} {s : Shared} {H : Hp} (e : Env0 P w K mg base A outer s H) (C : Addr) (us : List Value) (kw : List (Str × Value)) :
    Env0 P w K mg base (A.under (.builtin "type.__call__" ⟨.ref C :: us,kw⟩)) outer s H:=⟨by first | exact e.frames | (simpa [Around.under,Code.envs,Code.isFrame,pushEnvs] using e.frames),e.mod,e.bs,e.bsz,e.funs,e.frf,e.hok,e.bare⟩
section
variable {X : Cx} {pins : List (Addr × Obj)} {σ : St} {H : Hp} {s s' : Shared}
theorem Inv.env0 (I : Inv X pins σ H s) : Env0 X.prog X.w X.K X.mg X.base X.A X.stack s H :=
 ⟨I.ok.frames,I.ok.mod,I.bs,Nat.le_trans I.ok.bsz I.sz,I.stack,I.stkFree,I.hok,I.bare⟩
theorem Inv.after {Q : VK} {u : Value} (I : Inv X pins σ H s) (h : CE X.stack X.prog X.w H s Q u s') : EP X pins σ Q u s':=by
 obtain ⟨v,H',os,bare,un,hok,r,q⟩:=h
 obtain ⟨hh,g,d,t,os'⟩:=s'
 obtain rfl : os' = s.os:=os
 exact ⟨v,H',I.call (h':=hh) (g':=g) (d':=d) (t':=t) (ch:=[]) un hok bare (λ b z=>absurd z (by simp)),r,q⟩
end
noncomputable def yt6 (sp : Sp) (dvs : List V) (E : XK) (t : TA) : TE:=λ σ H Q=>t σ H λ vs H1=>sp (vs ++ dvs) H1 Q E
noncomputable def ws6 (C : Addr) (m : Str) (sp : Sp) (dvs : List V) (E : XK) (ta : TE) (t : TA) : TE:=λ σ H Q=>ta σ H λ x H1=>∃ a dx fs,x = .ref a /\ H1 a = some (.ins C dx fs) /\ fs.lookup m = none ∧
 t σ H1 λ vs H2=>sp (x :: (vs ++ dvs)) H2 Q E
noncomputable def wg8 (C : Addr) (sp : Sp) (dvs : List V) (E : XK) (t : TA) : TE:=λ σ H Q=>t σ H λ vs H1=>∀ x dx,H1 x = none -> H1 dx = none -> dx ≠ x ->
 sp (.ref x :: (vs ++ dvs)) (upd (upd H1 dx (.own x)) x (.ins C dx [])) (λ v H2=>v = .non /\ Q (.ref x) H2) E
noncomputable def Binds (K : PySem.W.Frag) (fd : FuncData) (ps : List Str) (ds : List Value) : Prop :=
 ∀ (s : Shared) (us : List Value),K.In s.heap -> (us ++ ds).length = ps.length -> BindsTo s fd ⟨us,[]⟩ (ps.zip (us ++ ds))
theorem Binds.all {K : PySem.W.Frag} {fd : FuncData} {ps : List Str} (h : ∀ us : List Value,us.length = ps.length -> bindArgs fd ⟨us,[]⟩ = pure (ps.zip us)) : Binds K fd ps []:=λ s us _ hl=>by
 rw [List.append_nil] at hl ⊢
 exact .of_eq (h us hl)
noncomputable def ym1 (CX : CXT) (X : Cx) (E : XK) : Prop:=∀ (pins : List (Addr × Obj)) (σ : St) (H : Hp) (s : Shared) (e : Value) (s' : Shared),Inv X pins σ H s -> CX X.stack H s E e s' -> X.xe e s'
section
variable {X : Cx} {CX : CXT} {k : Nat} {f C : Addr} {fd : FuncData} {ps : List Str} {sp : Sp} {dvs : List V} {ds : List Value} {E : XK} {x m : Str} {p pos apos : Pos} {e o : Expr} {es : List Expr} {ta : TE} {t : TA}
theorem wq3 {pins : List (Addr × Obj)} {σ : St} {H : Hp} {s : Shared} {Q : VK} {us : List Value} {vs : List V} (F : FnOk X.prog X.w X.K X.mg X.base CX k f fd ps sp) (hr : Room k X.A) (hb : Binds X.K fd ps ds) (hd : Vals dvs ds) (hx : ym1 CX X E)
    (I : Inv X pins σ H s) (r : Vals vs us) (h : sp (vs ++ dvs) H Q E) : wpAny (model X.prog X.w) X.A (call (.ref f) us) (EP X pins σ Q) X.xe s:=by
 have r2 : Vals (vs ++ dvs) (us ++ ds):=r.append hd
 have hl : (us ++ ds).length = ps.length:=by rw [<- r2.length]; exact F.len _ _ _ _ h
 refine wpAny_call (codeAny_mono (F.run X.A X.stack s H ⟨us,[]⟩ (us ++ ds) (vs ++ dvs) Q E hr I.env0 (hb s us I.kIn hl) r2 h) λ r s' hq=>?_)
 cases r with
 | error e=>exact hx pins σ H s e s' I hq
 | ok fl =>
  cases fl with
  | ret u=>exact I.after hq
  | next=>exact False.elim hq
  | brk=>exact False.elim hq
  | cont=>exact False.elim hq
theorem zv3 (F : FnOk X.prog X.w X.K X.mg X.base CX k f fd ps sp) (hr : Room k X.A) (hg : Gl X x) (hm : X.mg x = some (.ref f)) (hk : PySem.W.keepIn X.K (.ref f) = true) (hb : Binds X.K fd ps ds) (hd : Vals dvs ds) (hx : ym1 CX X E)
    (ha : PA X (e :: es) t) (hdb : (x == ("__debug__" : Str)) = false:=by decide) (he : starEach (e :: es) X.env = (false,eval e X.env) :: starEach es X.env:=by rfl) (hpl : (backTo pos (starEach es X.env)).any (·.1) = false:=by rfl) :
    PE X (.Call (.Name x p) (e :: es) [] pos) (yt6 sp dvs E t):=by
 intro pins s σ H Q I h
 refine wpAny_Call_Name_kw (yz0 I hg hm ?_ hdb)
 refine PySem.W.callWith_K (h₀:=X.base) I.ok.mod.kin hk (thn (ha pos pins s σ H _ I h) λ us s1 ⟨vs,H1,I1,r,q⟩=>⟨I1.kIn,?_⟩) he hpl
 exact wq3 F hr hb hd hx I1 r q
theorem xz5 {pl : Sem Bool} (he : PE X o ta) (c : Cls X.K C) (hm : Meth X.K C m f) (F : FnOk X.prog X.w X.K X.mg X.base CX k f fd ps sp) (hr : Room k X.A) (hb : Binds X.K fd ps ds) (hd : Vals dvs ds) (hx : ym1 CX X E) (ha : PA X (e :: es) t)
    (hst : starEach (e :: es) X.env = (false,eval e X.env) :: starEach es X.env:=by rfl) (hpl : (backTo pos (starEach es X.env)).any (·.1) = false:=by rfl)
    (ht : eval (.Call (.Attribute o m apos) (e :: es) [] pos) X.env = (do
     let ov <- eval o X.env
     standAt apos.atName
     let (f,first) <- holding [ov] (getMethod ov m pl)
     callWith pos f first (backTo pos (starEach (e :: es) X.env)) (backToKw pos (keywordEach [] X.env))):=by rfl) :
    PE X (.Call (.Attribute o m apos) (e :: es) [] pos) (ws6 C m sp dvs E ta t):=by
 intro pins s σ H Q I h
 refine PySem.W.methodCall_KW (pl:=pl) (thn (he pins s σ H _ I h) λ u s1 ⟨x,H1,I1,rx,a,dx,fs,ex,ea,l,q⟩=>?_) ht
 subst ex
 obtain rfl : u = Value.ref a:=rx
 refine zy1 I1 ea c hm l ?_
 refine PySem.W.callWith_K (first:=[.ref a]) (h₀:=X.base) I.ok.mod.kin hm.kp (thn (ha pos pins s1 σ H1 _ I1 q) λ us s2 ⟨vs,H2,I2,r,q2⟩=>⟨I2.kIn,?_⟩) hst hpl
 exact wq3 (us:=.ref a :: us) (vs:=.ref a :: vs) F hr hb hd hx I2 (.cons rfl r) q2
theorem zt4 {pl : Sem Bool} (he : PE X o ta) (c : Cls X.K C) (hm : Meth X.K C m f) (F : FnOk X.prog X.w X.K X.mg X.base CX k f fd ps sp) (hr : Room k X.A) (hb : Binds X.K fd ps ds) (hd : Vals dvs ds) (hx : ym1 CX X E)
    (ht : eval (.Call (.Attribute o m apos) [] [] pos) X.env = (do
     let ov <- eval o X.env
     standAt apos.atName
     let (f,first) <- holding [ov] (getMethod ov m pl)
     callWith pos f first (backTo pos (starEach [] X.env)) (backToKw pos (keywordEach [] X.env))):=by rfl) :
    PE X (.Call (.Attribute o m apos) [] [] pos) (ws6 C m sp dvs E ta tNil):=by
 intro pins s σ H Q I h
 refine PySem.W.methodCall_KW (pl:=pl) (thn (he pins s σ H _ I h) λ u s1 ⟨x,H1,I1,rx,a,dx,fs,ex,ea,l,q⟩=>?_) ht
 subst ex
 obtain rfl : u = Value.ref a:=rx
 refine zy1 I1 ea c hm l ?_
 exact PySem.W.callWith_K0 (first:=[.ref a]) I1.kIn hm.kp (wq3 (us:=[.ref a]) (vs:=[.ref a]) F hr hb hd hx I1 (.cons rfl .nil) q)
structure Mk (K : PySem.W.Frag) (C f : Addr) : Prop where
 makes : PySem.W.makesIn K C = true
 init : PySem.W.findIn K (.ref C) "__init__" = some (some (.ref f))
 fn : PySem.W.isFn K (.ref f) = true
 kp : PySem.W.keepIn K (.ref C) = true
theorem wp4 {pins : List (Addr × Obj)} {σ : St} {H : Hp} {s : Shared} {Q : VK} {us : List Value} {vs : List V} (M : Mk X.K C f) (F : FnOk X.prog X.w X.K X.mg X.base CX k f fd ps sp) (hr : Room (k + 1) X.A) (hb : Binds X.K fd ps ds) (hd : Vals dvs ds)
    (hx : ym1 CX X E) (I : Inv X pins σ H s) (r : Vals vs us)
    (h : ∀ x dx,H x = none -> H dx = none -> dx ≠ x -> sp (.ref x :: (vs ++ dvs)) (upd (upd H dx (.own x)) x (.ins C dx [])) (λ v H2=>v = .non /\ Q (.ref x) H2) E) :
    wpAny (model X.prog X.w) X.A (call (.ref C) us) (EP X pins σ Q) X.xe s:=by
 have hq:=h (s.heap.objs.size + 1) s.heap.objs.size (I.hok.fresh (Nat.le_succ _)) (I.hok.fresh (Nat.le_refl _)) (Nat.ne_of_lt (Nat.lt_succ_self _))
 have I2:=Inv.made (C:=C) I
 have r2 : Vals (V.ref (s.heap.objs.size + 1) :: (vs ++ dvs)) (Value.ref (s.heap.objs.size + 1) :: (us ++ ds)):=.cons rfl (r.append hd)
 have hl : (Value.ref (s.heap.objs.size + 1) :: us ++ ds).length = ps.length:=by
  have e:=r2.length
  rw [F.len _ _ _ _ hq] at e
  exact e.symm
 refine wpAny_call (wv4 (f:=f) I.kIn M.makes M.init (beq_iff_eq.mp M.fn) (codeAny_mono (F.run _ X.stack _ _ ⟨Value.ref (s.heap.objs.size + 1) :: us,[]⟩ (Value.ref (s.heap.objs.size + 1) :: (us ++ ds)) _ _ E (hr.make C us [])
  (I2.env0.make C us []) (hb _ (Value.ref (s.heap.objs.size + 1) :: us) I2.kIn hl) r2 hq) λ r s' hq'=>?_))
 cases r with
 | error e=>exact hx pins σ _ _ e s' I2 hq'
 | ok fl =>
  cases fl with
  | ret u =>
   obtain ⟨v,H',I3,rv,ev,q3⟩:=I2.after hq'
   subst ev
   exact ⟨rv,⟨V.ref (s.heap.objs.size + 1),H',I3,rfl,q3⟩⟩
  | next=>exact False.elim hq'
  | brk=>exact False.elim hq'
  | cont=>exact False.elim hq'
theorem yz5 (M : Mk X.K C f) (F : FnOk X.prog X.w X.K X.mg X.base CX k f fd ps sp) (hr : Room (k + 1) X.A) (hg : Gl X x) (hm : X.mg x = some (.ref C)) (hb : Binds X.K fd ps ds) (hd : Vals dvs ds) (hx : ym1 CX X E)
    (ha : PA X (e :: es) t) (hdb : (x == ("__debug__" : Str)) = false:=by decide) (he : starEach (e :: es) X.env = (false,eval e X.env) :: starEach es X.env:=by rfl) (hpl : (backTo pos (starEach es X.env)).any (·.1) = false:=by rfl) :
    PE X (.Call (.Name x p) (e :: es) [] pos) (wg8 C sp dvs E t):=by
 intro pins s σ H Q I h
 refine wpAny_Call_Name_kw (yz0 I hg hm ?_ hdb)
 refine PySem.W.callWith_K (h₀:=X.base) I.ok.mod.kin M.kp (thn (ha pos pins s σ H _ I h) λ us s1 ⟨vs,H1,I1,r,q⟩=>⟨I1.kIn,?_⟩) he hpl
 exact wp4 M F hr hb hd hx I1 r q
end
section
variable {X : Cx} {CX : CXT} {k : Nat} {f C : Addr} {fd : FuncData} {ps ks : List Str} {sp : Sp} {E : XK} {x m : Str} {p pos apos kpos : Pos} {e o : Expr} {es : List Expr} {kws : List Keyword} {te ta : TE} {t tk : TA} {nm : Option Str}
structure KBinds (K : PySem.W.Frag) (fd : FuncData) (ps ks : List Str) (g : List Value -> List Value -> List Value) (gV : List V -> List V -> List V) : Prop where
 to : ∀ (s : Shared) (us ws : List Value),K.In s.heap -> (g us ws).length = ps.length -> BindsTo s fd ⟨us,ks.zip ws⟩ (ps.zip (g us ws))
 rel : ∀ {vs : List V} {us : List Value} {zs : List V} {ws : List Value},Vals vs us -> Vals zs ws -> Vals (gV vs zs) (g us ws)
variable {g : List Value -> List Value -> List Value} {gV : List V -> List V -> List V}
end
structure FnScope (N P : List Str) (sc : Scope) : Prop where
 kind : sc.kind = .function
 co : sc.isCoroutine = false
 gen : sc.isGenerator = false
 nd : N.Nodup
 pre : N.take P.length = P
 par : ∀ x ∈ P,sc.names.lookup x = some .local \/ sc.names.lookup x = some .cell
 nofree : ∀ y ∈ sc.names,y.2 ≠ .free
theorem wl2 {kindOf : Str -> Option NameKind} {x : Str} : ∀ {binds : List (Str × Value)} {m : Str -> Option Value},(∀ v,(x,v) ∉ binds) -> bindL kindOf binds m x = m x
 | [],_,_=>rfl
 | (n,v) :: r,m,h=>by
  unfold bindL
  rw [wl2 λ w hw=>h w (List.mem_cons_of_mem _ hw)]
  split
  ·have : x ≠ n:=by rintro rfl; exact h v List.mem_cons_self
   simp [this]
  ·rfl
theorem ym2 {kindOf : Str -> Option NameKind} {x : Str} : ∀ {binds : List (Str × Value)} {m : Str -> Option Value},(∀ v,(x,v) ∉ binds) -> bindC kindOf binds m x = m x
 | [],_,_=>rfl
 | (n,v) :: r,m,h=>by
  unfold bindC
  rw [ym2 λ w hw=>h w (List.mem_cons_of_mem _ hw)]
  split
  ·rfl
  ·have : x ≠ n:=by rintro rfl; exact h v List.mem_cons_self
   simp [this]
theorem xm2 {kindOf : Str -> Option NameKind} {x : Str} {v : Value} : ∀ {P : List Str} {vs : List Value} {i : Nat} {m : Str -> Option Value},P.Nodup -> P[i]? = some x -> vs[i]? = some v -> kindOf x = some .local ->
    bindL kindOf (P.zip vs) m x = some v
 | [],_,_,_,_,h,_,_=>by simp at h
 | _ :: _,[],_,_,_,_,h,_=>by simp at h
 | p :: P,w :: vs,0,m,nd,h1,h2,hk=>by
  simp at h1 h2; subst h1; subst h2
  show bindL kindOf ((p,w) :: P.zip vs) m p = _
  unfold bindL
  rw [wl2 λ v hv=>(List.nodup_cons.mp nd).1 (List.of_mem_zip hv).1,if_pos hk]
  simp
 | p :: P,w :: vs,i + 1,m,nd,h1,h2,hk=>by
  show bindL kindOf ((p,w) :: P.zip vs) m x = _
  unfold bindL
  exact xm2 (i:=i) (List.nodup_cons.mp nd).2 (by simpa using h1) (by simpa using h2) hk
theorem zm2 {kindOf : Str -> Option NameKind} {x : Str} {v : Value} : ∀ {P : List Str} {vs : List Value} {i : Nat} {m : Str -> Option Value},P.Nodup -> P[i]? = some x -> vs[i]? = some v -> kindOf x ≠ some .local ->
    bindC kindOf (P.zip vs) m x = some v
 | [],_,_,_,_,h,_,_=>by simp at h
 | _ :: _,[],_,_,_,_,h,_=>by simp at h
 | p :: P,w :: vs,0,m,nd,h1,h2,hk=>by
  simp at h1 h2; subst h1; subst h2
  show bindC kindOf ((p,w) :: P.zip vs) m p = _
  unfold bindC
  rw [ym2 λ v hv=>(List.nodup_cons.mp nd).1 (List.of_mem_zip hv).1,if_neg hk]
  simp
 | p :: P,w :: vs,i + 1,m,nd,h1,h2,hk=>by
  show bindC kindOf ((p,w) :: P.zip vs) m x = _
  unfold bindC
  exact zm2 (i:=i) (List.nodup_cons.mp nd).2 (by simpa using h1) (by simpa using h2) hk
noncomputable def start (N : List Str) (vs : List V) : St:=vs.map some ++ List.replicate (N.length - vs.length) none
noncomputable def cxOf (CX : CXT) (P : Program) (w : World) (K : PySem.W.Frag) (mg : Str -> Option Value) (base : Heap) (N : List Str) (qual : Str) (scope : Scope) (f : Addr) (cd : Value) (A : Around) (outer : List Env) (s : Shared) (H : Hp) (E : XK) : Cx where
 prog:=P
 w:=w
 K:=K
 mg:=mg
 base:=base
 A:=A.deeper (envOfC qual scope s.heap.objs.size f cd)
 N:=N
 s₀:=s
 H₀:=H
 env:=envOfC qual scope s.heap.objs.size f cd
 outer:=outer
 stack:=envOfC qual scope s.heap.objs.size f cd :: outer
 ex:=[]
 calm:=true
 fn:=λ _=>true
 pn:=[]
 xe:=λ e s'=>wpAny (model P w) (A.deeper (envOfC qual scope s.heap.objs.size f cd)) (leaving (envOfC qual scope s.heap.objs.size f cd) e) (λ _ s''=>CX outer H s E e s'') (λ e' s''=>CX outer H s E e' s'') s'
theorem xp1 {sc : Scope} {n : Nat} {x : Str} (h : sc.names.lookup x = some .cell) : ∃ c,(cellsFrom n sc.names []).lookup x = some c:=by
 have q:=PySem.W.cellsFrom_some sc.names n [] (.inl h)
 exact Option.isSome_iff_exists.mp q
theorem yj2 {CX : CXT} {P : Program} {w : World} {K : PySem.W.Frag} {mg : Str -> Option Value} {base : Heap} {N ps : List Str} {qual : Str} {scope : Scope} {f : Addr} {cd : Value} {A : Around} {outer : List Env} {s s1 : Shared} {H : Hp} {E : XK} {us : List Value} {vs : List V}
    (S : FnScope N ps scope) (hd : A.handled = none) (e0 : Env0 P w K mg base A outer s H) (hl : vs.length = ps.length) (r : Vals vs us)
    (x : InCallC s s.heap.objs.size (bindL (envOfC qual scope s.heap.objs.size f cd).kindOf (ps.zip us) λ _=>none) (cellsFrom (s.heap.objs.size + 1) scope.names []) (bindC (envOfC qual scope s.heap.objs.size f cd).kindOf (ps.zip us) λ _=>none) s1) :
    Inv (cxOf CX P w K mg base N qual scope f cd A outer s H E) [] (start N vs) H s1:=by
 have hpl : ps.length <= N.length:=by have:=congrArg List.length S.pre; rw [List.length_take] at this; omega
 obtain ⟨h1,tk,rfl,hk⟩:=x.done
 have noA : ∀ b : Addr,b ∉ (cxOf CX P w K mg base N qual scope f cd A outer s H E).ex:=λ b z=>absurd (show b ∈ ([] : List Addr) from z) (by simp)
 refine ⟨⟨e0.mod,S.kind,rfl,rfl,Nat.le_refl _,λ y z c h1 h2=>?_,λ y hy=>?_,λ y c _ h=>?_,λ _=>hd,Around.frames_deeper e0.frames,.inr ⟨rfl,rfl⟩,λ b z=>absurd z (noA b),e0.bs,e0.bsz,λ b _ _=>noA b,λ b z=>absurd z (noA b),e0.funs,e0.frf⟩,
  rfl,e0.bare,Un.kept hk,⟨_,x.toInCall.ns,λ i y v h1 h2 h3=>?_⟩,λ y c h=>⟨_,x.cell y c h⟩,e0.hok.fresh (Nat.le_refl _),λ y c h=>?_,λ p hp=>absurd (show p ∈ ([] : List (Addr × Obj)) from hp) (by simp),e0.hok.kept hk,?_⟩
 ·exact name_of_addr x.apart (PySem.mem_of_lookup h1) (PySem.mem_of_lookup h2)
 ·have hy : scope.names.lookup y = some .cell \/ scope.names.lookup y = some .free:=hy
  rcases hy with hy | hy
  ·exact xp1 hy
  ·exact absurd rfl (S.nofree _ (PySem.mem_of_lookup hy))
 ·exact Nat.le_of_lt (x.above y c (PySem.mem_of_lookup h))
 ·have hi : i < vs.length:=by
    unfold start at h2
    by_cases hi : i < vs.length
    ·exact hi
    ·rw [List.getElem?_append_right (by simpa using hi)] at h2
     rw [List.getElem?_replicate] at h2
     split at h2 <;> cases h2
  have ha : vs[i]? = some v:=by
   unfold start at h2
   rw [List.getElem?_append_left (by simpa using hi),List.getElem?_map] at h2
   cases e : vs[i]? with
   | none=>rw [e] at h2; cases h2
   | some a=>rw [e] at h2; cases h2; rfl
  obtain ⟨u,hu,rv⟩:=r.get ha
  have hp : ps[i]? = some y:=by
   rw [<- S.pre,List.getElem?_take_of_lt (by omega)]; exact h1
  have ndP : ps.Nodup:=by rw [<- S.pre]; exact S.nd.sublist (List.take_sublist _ _)
  refine ⟨u,rv,?_⟩
  rcases S.par y (List.mem_of_getElem? hp) with k | k
  ·exact .inl ⟨k,xm2 ndP hp hu k⟩
  ·obtain ⟨c,e⟩:=xp1 (n:=s.heap.objs.size + 1) k
   refine .inr ⟨.inl k,c,e,?_⟩
   have q:=x.cell y c e
   rw [zm2 ndP hp hu (by show scope.names.lookup y ≠ _; rw [k]; decide)] at q
   exact q
 ·exact e0.hok.fresh (Nat.le_of_lt (x.above y c (PySem.mem_of_lookup h)))
 ·unfold start
  show _ = N.length
  rw [List.length_append,List.length_map,List.length_replicate]
  omega
theorem wg6 {CX : CXT} {P : Program} {w : World} {K : PySem.W.Frag} {mg : Str -> Option Value} {base : Heap} {k : Nat} {f : Addr} {name qual : Str} {params : Arguments} {body : List Stmt} {scope : Scope} {dV kV doc pm cdv ct oc : Value} {an od : Option Addr}
    {osl : Array (Option Value)} {N ps : List Str} {sp : Sp} (lk : K.lookup f = some ⟨oc,od,.func (PySem.W.fnOf name qual params body scope dV kV doc pm an cdv ct),osl⟩) (hcd : PySem.W.codeIn K cdv qual = true) (S : FnScope N ps scope)
    (len : ∀ vs H Q E,sp vs H Q E -> vs.length = ps.length)
    (hbody : ∀ (A : Around) (outer : List Env) (s : Shared) (H : Hp) (vs : List V) (Q : VK) (E : XK),Room k (A.deeper (envOfC qual scope s.heap.objs.size f cdv)) -> sp vs H Q E ->
     ∃ t,PSs (cxOf CX P w K mg base N qual scope f cdv A outer s H E) body t /\ t { nx:=λ _ H'=>Q .non H',rt:=Q } (start N vs) H) :
    FnOk P w K mg base CX (k + 1) f (PySem.W.fnOf name qual params body scope dV kV doc pm an cdv ct) ps sp:=by
 refine ⟨len,λ A outer s H args us vs Q E hr e0 hb r hsp=>?_⟩
 have hl:=len _ _ _ _ hsp
 have KX : K.In s.heap:=e0.mod.kin.keeps λ b o e=>(e0.bs b o e).1
 have lim : s.heap.NoLimit:=e0.mod.nolimit.keeps λ b o e=>(e0.bs b o e).1
 have hkind : ∀ y ∈ ps.zip us,scope.names.lookup y.1 = some .local \/ (scope.names.lookup y.1 = some .cell /\ ((cellsFrom (s.heap.objs.size + 1) scope.names []).lookup y.1).isSome = true):=λ ⟨n,v⟩ hy=>by
  rcases S.par n (List.of_mem_zip hy).1 with q | q
  ·exact .inl q
  ·exact .inr ⟨q,PySem.W.cellsFrom_some _ _ _ (.inl q)⟩
 refine codeAny_call_function hr.depth (KX _ _ lk) rfl S.co S.gen rfl (PySem.W.codeRec_of KX hcd) (hb _ _ _ _ ?_)
 refine wpAny_newFunctionEnv_cells S.kind hkind λ env he s1 x=>?_
 subst he
 refine ⟨lim.keeps x.toInCall.keep,codeAny_func ?_⟩
 obtain ⟨t,ht,hq⟩:=hbody A outer s H vs Q E (hr.deeper _) hsp
 have I : Inv (cxOf CX P w K mg base N qual scope f cdv A outer s H E) [] (start N vs) H s1:=yj2 S hr.hd e0 hl r x
 refine wpAny_mono (ht [] s1 (start N vs) H _ I hq) (λ fl s' hs=>?_) λ e s' hs=>hs
 have fin : ∀ {σ' : St} {H' : Hp} {v : V} {u : Value},Inv (cxOf CX P w K mg base N qual scope f cdv A outer s H E) [] σ' H' s' -> RelV v u -> Q v H' -> CE outer P w H s Q u s' :=
  λ {σ' H' v u} J rv q=>⟨v,H',J.os,J.bare,J.base,J.hok,rv,q⟩
 cases fl with
 | ret u =>
  obtain ⟨v,σ',H',J,rv,q⟩:=hs
  exact fin J rv q
 | next =>
  obtain ⟨σ',H',J,q⟩:=hs
  exact fin (v:=V.non) (u:=Value.none) J rfl q
 | brk =>
  obtain ⟨_,_,_,q⟩:=hs
  exact False.elim q
 | cont =>
  obtain ⟨_,_,_,q⟩:=hs
  exact False.elim q
end L2
namespace L2
open PySem PySem.Spec PyProof.Rows
section
variable {X : Cx} {x : Str} {p pos : Pos} {e : Expr} {es : List Expr} {t : TA} {id T : String} {r : List V -> Hp -> VK -> Prop}
noncomputable def tCB (r : List V -> Hp -> VK -> Prop) (t : TA) : TE:=λ σ H Q=>t σ H λ vs H1=>r vs H1 Q
theorem xw2 (hc : CallR X (.builtin id) r) (hg : Gl X x) (hm : X.mg x = none) (hv : bootBuiltins x = some (.builtin id)) (ha : PA X (e :: es) t) (hn : x ≠ "__name__" := by decide) (hdb : (x == ("__debug__" : Str)) = false:=by decide)
    (he : starEach (e :: es) X.env = (false,eval e X.env) :: starEach es X.env:=by rfl) (hpl : (backTo pos (starEach es X.env)).any (·.1) = false:=by rfl) : PE X (.Call (.Name x p) (e :: es) [] pos) (tCB r t):=by
 intro pins s σ H Q I h
 refine wpAny_Call_Name_kw (zt1 I hg hm hv ?_ hn hdb)
 exact PyProof.Rows.callWith_builtin1 (thn (ha pos pins s σ H _ I h) λ us s1 ⟨vs,H1,I1,r1,q1⟩=>hc pins s1 σ H1 vs us Q I1 r1 q1) he hpl
theorem yv3 (hc : CallR X (.type T) r) (hg : Gl X x) (hm : X.mg x = none) (hv : bootBuiltins x = some (.type T)) (ha : PA X (e :: es) t) (hn : x ≠ "__name__" := by decide) (hdb : (x == ("__debug__" : Str)) = false:=by decide)
    (he : starEach (e :: es) X.env = (false,eval e X.env) :: starEach es X.env:=by rfl) (hpl : (backTo pos (starEach es X.env)).any (·.1) = false:=by rfl) : PE X (.Call (.Name x p) (e :: es) [] pos) (tCB r t):=by
 intro pins s σ H Q I h
 refine wpAny_Call_Name_kw (zt1 I hg hm hv ?_ hn hdb)
 exact PyProof.Rows.callWith_type1 (thn (ha pos pins s σ H _ I h) λ us s1 ⟨vs,H1,I1,r1,q1⟩=>hc pins s1 σ H1 vs us Q I1 r1 q1) he hpl
end
end L2
namespace HT
open PySem PyProof.Rows
section
open PySem.SeqAt
open PySem.AutoSeq1 (wpAny_loadPart')
open PySem.MeetsSeq PySem.MeetsSeq2 PySem.MeetsSeq3
end
section
variable {prog : Program} {w : World} {A : Around} {E : Value -> Shared -> Prop} {s : Shared}
theorem cat_tup {t b : Addr} {vs ws : List Value} {Q : Value -> Shared -> Prop} (ht : IsTup s.heap t vs.toArray) (hb : IsTup s.heap b ws.toArray) (hv : vs ≠ [])
    (h1 : ws = [] -> Q (.ref t) s) (h2 : ws ≠ [] -> Q (.ref s.heap.objs.size) { s with heap:=s.heap.push { cls:=.type "tuple",data:=.seq (vs ++ ws).toArray } })
    (hsz : vs.length + ws.length <= sizeLine) : wpAny (model prog w) A (binaryOp .Add (.ref t) (.ref b)) Q E s:=by
 obtain ⟨⟨cls,dd,data,sl⟩,ho,hc,n,hd⟩:=id ht
 obtain ⟨⟨cls2,dd2,data2,sl2⟩,ho2,hc2,n2,hd2⟩:=id hb
 simp only at hc hd hc2 hd2
 subst hc hd hc2 hd2
 have e : vs.toArray ++ ws.toArray = (vs ++ ws).toArray:=by simp
 by_cases hw : ws = []
 ·exact concat_meets ⟨_,ho,rfl⟩ ⟨_,ho2,rfl⟩ noFill_tuple_add seq_tuple_add PySem.F.slot_tuple_add PySem.F.entry_tuple_add (PySem.F.args_tuple_add_2 _ _)
    (tuple_addW1 t b vs.toArray ws.toArray n n2 dd dd2 sl sl2 (by simpa using hv) (by simp [hw])) ⟨ho,ho2,h1 hw⟩
 ·refine concat_meets ⟨_,ho,rfl⟩ ⟨_,ho2,rfl⟩ noFill_tuple_add seq_tuple_add PySem.F.slot_tuple_add PySem.F.entry_tuple_add (PySem.F.args_tuple_add_2 _ _)
    (tuple_addW2 t b vs.toArray ws.toArray n n2 dd dd2 sl sl2 (by simpa using hv) (by simpa using hw) (by rw [List.size_toArray,List.size_toArray]; exact hsz)) ⟨ho,ho2,?_⟩
  rw [e]
  exact h2 hw
end
end HT
namespace L2
open PySem PySem.Spec PyProof.Rows
noncomputable abbrev TO:=St -> Hp -> (Option Int -> Hp -> Prop) -> Prop
theorem yy1 {ns : List Int} : ∀ {us : List Value},Vals (ns.map V.int) us -> IntsAre us ns:=by
 induction ns with
 | nil=>intro us r; rw [List.map_nil] at r; cases r; exact .nil
 | cons n ns ih =>
  intro us r
  rw [List.map_cons] at r
  cases r with
  | cons r1 r2 =>
   obtain ⟨t,e⟩:=r1
   subst e
   exact .cons n t (ih r2)
section
variable {X : Cx} {e : Expr} {te : TE} {lo hi : Option Expr} {tl th : TO} {pos p2 : Pos}
noncomputable def yp8 (K : PySem.W.Frag) : R2:=λ x y H Q=>∃ a b xs ys,x = .ref a /\ y = .ref b /\ SqT K H a xs /\ SqT K H b ys /\ xs ≠ [] /\ xs.length + ys.length <= sizeLine ∧
 (ys = [] -> Q (.ref a) H) /\ (ys ≠ [] -> ∀ p,H p = none -> Q (.ref p) (upd H p (.tup (xs ++ ys))))
theorem Vals.nil_iff {xs : List V} {us : List Value} (r : Vals xs us) : us = [] ↔ xs = []:=by
 cases r with
 | nil=>simp
 | cons _ _=>simp
theorem zb6 : OpR X (binaryOp .Add) (yp8 X.K):=by
 intro pins s σ H x y v u Q I rx ry h
 obtain ⟨a,b,xs,ys,rfl,rfl,ha,hb,hx,hz,q1,q2⟩:=h
 cases rx
 cases ry
 obtain ⟨its,r1,p1,_⟩:=I.tuple ha
 obtain ⟨its2,r2,p2,_⟩:=I.tuple hb
 refine HT.cat_tup p1 p2 (λ z=>hx (r1.nil_iff.mp z)) (λ z=>⟨.ref a,H,I,rfl,q1 (r2.nil_iff.mp z)⟩) (λ z=>?_) (by rw [<- r1.length,<- r2.length]; exact hz)
 refine ⟨.ref s.heap.objs.size,_,I.laid (t':=s.toks) (o:=.tup (xs ++ ys)) (λ b ob q=>Heap.get?_push_of_some _ q) (Nat.le_refl _) ?_,rfl,q2 (λ w=>z (r2.nil_iff.mpr w)) _ (I.hok.fresh (Nat.le_refl _))⟩
 exact ⟨by rw [List.length_append]; exact hz,_,r1.append r2,IsTup.new _ _⟩
end
end L2
namespace L2
open PySem PySem.Spec PyProof.Rows
noncomputable def ixN (n : Nat) (i : Int) : Option Nat:=if 0 <= i then (if i < n then some i.toNat else none) else if -(n : Int) <= i then some (i + n).toNat else none
noncomputable def atI {α : Type} (xs : List α) (i : Int) : Option α:=(ixN xs.length i).bind λ j=>xs[j]?
theorem yb4 {n : Nat} {i : Int} {j : Nat} (h : ixN n i = some j) : seqIndex? i n = some j /\ j < n /\ -(n : Int) <= i /\ i < n:=by
 unfold ixN at h
 by_cases h0 : 0 <= i
 ·rw [if_pos h0] at h
  by_cases h1 : i < n
  ·rw [if_pos h1] at h
   have e : i.toNat = j:=Option.some.inj h
   exact ⟨by rw [seqIndex_of h0 h1,e],by omega,by omega,h1⟩
  ·rw [if_neg h1] at h; cases h
 ·rw [if_neg h0] at h
  by_cases h1 : -(n : Int) <= i
  ·rw [if_pos h1] at h
   have e : (i + n).toNat = j:=Option.some.inj h
   exact ⟨by rw [seqIndex_neg (by omega) h1,e],by omega,h1,by omega⟩
  ·rw [if_neg h1] at h; cases h
theorem yk4 {α : Type} {xs : List α} {i : Int} {v : α} (h : atI xs i = some v) : ∃ j,seqIndex? i xs.length = some j /\ xs[j]? = some v /\ j < xs.length /\ -(xs.length : Int) <= i /\ i < xs.length:=by
 unfold atI at h
 cases e : ixN xs.length i with
 | none=>rw [e] at h; cases h
 | some j =>
  rw [e] at h
  obtain ⟨h1,h2,h3,h4⟩:=yb4 e
  exact ⟨j,h1,h,h2,h3,h4⟩
noncomputable def xl4 (b : Expr) : Prop:=∀ o i,subscripted b false o i = operate [o,i] (getItem o i)
noncomputable def IxR (X : Cx) (r : R2) : Prop :=
 ∀ (value slice : Expr) (pins : List (Addr × Obj)) (s : Shared) (σ : St) (H : Hp) (x y : V) (v u : Value) (Q : VK),Inv X pins σ H s -> RelV x v -> RelV y u -> r x y H Q ->
  subscripted slice false v u = operate [v,u] (getItem v u) -> wpAny (model X.prog X.w) X.A (subscriptTail value slice v u) (EP X pins σ Q) X.xe s
noncomputable def MtR (X : Cx) (id : String) (r : V -> List V -> Hp -> VK -> Prop) : Prop :=
 ∀ (pins : List (Addr × Obj)) (s : Shared) (σ : St) (H : Hp) (x : V) (xs : List V) (v : Value) (us : List Value) (Q : VK),Inv X pins σ H s -> RelV x v -> Vals xs us -> r x xs H Q ->
  wpAny (model X.prog X.w) X.A (call (.builtin id) (v :: us)) (EP X pins σ Q) X.xe s
section
variable {X : Cx} {a b : Expr} {ta tb : TE} {pos : Pos}
theorem IxR.or {r r' : R2} (h : IxR X r) (h' : IxR X r') : IxR X (λ x y H Q=>r x y H Q \/ r' x y H Q):=by
 intro value slice pins s σ H x y v u Q I rx ry q hs
 rcases q with q | q
 ·exact h value slice pins s σ H x y v u Q I rx ry q hs
 ·exact h' value slice pins s σ H x y v u Q I rx ry q hs
theorem zs8 {r : R2} (hr : IxR X r) (ha : PE X a ta) (hb : PE X b tb) (hs : xl4 b) : PE X (.Subscript a b pos) (tOp r ta tb):=by
 intro pins s σ H Q I h
 exact Subscript_ (binT ha hb I h λ v u s2 x y H2 I2 rx ry q=>hr a b pins s2 σ H2 x y v u Q I2 rx ry q (hs _ _))
noncomputable def rIxL (K : PySem.W.Frag) : R2:=λ x y H Q=>∃ p xs i v,x = .ref p /\ y = .int i /\ SqL K H p xs /\ atI xs i = some v /\ Q v H
noncomputable def rIxT (K : PySem.W.Frag) : R2:=λ x y H Q=>∃ p xs i v,x = .ref p /\ y = .int i /\ SqT K H p xs /\ atI xs i = some v /\ Q v H
theorem ix_list : IxR X (rIxL X.K):=by
 intro value slice pins s σ H x y v u Q I rx ry h hs
 obtain ⟨p,xs,i,z,rfl,rfl,hq,he,q⟩:=h
 cases rx
 obtain ⟨t,rfl⟩:=ry
 obtain ⟨its,r,pl,hz⟩:=I.list hq
 obtain ⟨j,h1,h2,h3,h4,h5⟩:=yk4 he
 obtain ⟨w,ew,rw'⟩:=r.get h2
 have hl:=r.length
 have hn:=wi2
 have fin : EP X pins σ Q w s:=⟨z,H,I,rw',q⟩
 by_cases h0 : 0 <= i
 ·have hj : i.toNat = j:=by
    rw [seqIndex_of h0 h5] at h1
    exact Option.some.inj h1
  exact item_listR pl.isList h0 (by omega) (by rw [hj]; simpa using ew) fin hs
 ·have hj : (i + (its.toArray.size : Int)).toNat = j:=by
    rw [seqIndex_neg (by omega) h4] at h1
    rw [List.size_toArray,<- hl]
    exact Option.some.inj h1
  exact subscriptTail_builtinR (x:=w) pl.isList.typeIs slot_list_getitem.lookup
   (wpAny_getItem_list_neg (Q:=λ r s'=>r = w /\ EP X pins σ Q r s') pl.isList (by omega) (by rw [List.size_toArray] <;> omega) (by omega) (by rw [hj]; simpa using ew) ⟨rfl,fin⟩) hs
theorem wa4 : IxR X (rIxT X.K):=by
 intro value slice pins s σ H x y v u Q I rx ry h hs
 obtain ⟨p,xs,i,z,rfl,rfl,hq,he,q⟩:=h
 cases rx
 obtain ⟨t,rfl⟩:=ry
 obtain ⟨its,r,pl,hz⟩:=I.tuple hq
 obtain ⟨j,h1,h2,h3,h4,h5⟩:=yk4 he
 obtain ⟨w,ew,rw'⟩:=r.get h2
 have hl:=r.length
 have hn:=wi2
 have fin : EP X pins σ Q w s:=⟨z,H,I,rw',q⟩
 exact subscriptTail_builtinR (x:=w) pl.typeIs slot_tuple_getitem.lookup
  (getItem_tuple (j:=j) (Q:=λ r s'=>r = w /\ EP X pins σ Q r s') pl (by omega) (by omega) (by rw [List.size_toArray,<- hl]; exact h1) (by simpa using ew) ⟨rfl,fin⟩) hs
theorem wi3 (its : List Value) (n j : Nat) (u : Value) : Obj.mapSeq (·.setIfInBounds j u) { cls:=.type "list",data:=.seq its.toArray n } = { cls:=.type "list",data:=.seq (its.set j u).toArray n }:=by
 simp [Obj.mapSeq]
theorem Inv.lst {pins : List (Addr × Obj)} {σ : St} {H : Hp} {s : Shared} {p : Addr} {xs : List V} (I : Inv X pins σ H s) (h : H p = some (.lst xs)) :
    ∃ (its : List Value) (n : Nat),Vals xs its /\ s.heap.get? p = some { cls:=.type "list",data:=.seq its.toArray n } /\ xs.length <= sizeLine:=by
 obtain ⟨z,its,n,r,e⟩:=I.hok p _ h
 exact ⟨its,n,r,e,z⟩
theorem Inv.lstUpd {pins : List (Addr × Obj)} {σ : St} {H : Hp} {s : Shared} {p : Addr} {xs ys : List V} {its its' : List Value} {n n' : Nat} {f : Obj -> Obj} (I : Inv X pins σ H s) (h : H p = some (.lst xs))
    (ho : s.heap.get? p = some { cls:=.type "list",data:=.seq its.toArray n }) (hf : f { cls:=.type "list",data:=.seq its.toArray n } = { cls:=.type "list",data:=.seq its'.toArray n' }) (r : Vals ys its') (hz : ys.length <= sizeLine) (t : Nat) :
    Inv X pins σ (upd H p (.lst ys)) { s with heap:=s.heap.update p f,toks:=t }:=by
 have e : (s.heap.update p f).get? p = some { cls:=.type "list",data:=.seq its'.toArray n' }:=by
  rw [Heap.get?_update_self f ho (by rw [hf] <;> rfl),hf]
 refine I.write (x:=p) (e:=p) (by rw [h]; trivial) (.inl rfl) (λ b u hb q=>(Heap.get?_update_other _ _ (Ne.symm hb)).trans q) ⟨_,e⟩ ?_
 exact ⟨hz,its',n',r,e⟩
noncomputable def wo8 : V -> V -> V -> Hp -> (Hp -> Prop) -> Prop:=λ o i v H Q=>∃ p xs k j,o = .ref p /\ i = .int k /\ H p = some (.lst xs) /\ ixN xs.length k = some j /\ Q (upd H p (.lst (xs.set j v)))
theorem zp4 : PSet X wo8:=by
 intro pins s σ H o i v ov iv u Q I ro ri rv h
 obtain ⟨p,xs,k,j,rfl,rfl,hp,hj,q⟩:=h
 cases ro
 obtain ⟨t,rfl⟩:=ri
 obtain ⟨its,n,r,ho,hz⟩:=I.lst hp
 obtain ⟨h1,h2,h3,h4⟩:=yb4 hj
 have hl:=r.length
 have hn:=wi2
 have I' : Inv X pins σ (upd H p (.lst (xs.set j v))) { s with heap:=s.heap.update p (Obj.mapSeq (·.setIfInBounds j u)) } :=
  I.lstUpd hp ho (wi3 its n j u) (r.set rv j) (by rw [List.length_set]; exact hz) s.toks
 by_cases h0 : 0 <= k
 ·have hk : k.toNat = j:=by
    rw [seqIndex_of h0 h4] at h1
    exact Option.some.inj h1
  exact PySem.W.ki_setAt ho h0 (by omega) (by rw [List.size_toArray,<- hl]; exact h4) (by rw [hk]; exact ⟨_,I',q⟩)
 ·have hk : (k + (its.toArray.size : Int)).toNat = j:=by
    rw [seqIndex_neg (by omega) h3] at h1
    rw [List.size_toArray,<- hl]
    exact Option.some.inj h1
  exact PySem.W.ki_setBack ho (by omega) (by rw [List.size_toArray,<- hl]; exact h3) (by omega) (by rw [hk]; exact ⟨_,I',q⟩)
noncomputable def xe2 : V -> Bool
 | .non=>true
 | .bl _=>true
 | .int _=>true
 | .str _=>true
 | _=>false
noncomputable def eqV : V -> V -> Bool
 | .non,.non=>true
 | .bl a,.bl b=>a == b
 | .bl a,.int b=>(if a then 1 else 0) == b
 | .int a,.bl b=>a == (if b then 1 else 0)
 | .int a,.int b=>a == b
 | .str a,.str b=>a == b
 | _,_=>false
theorem xe8 {A : Around} {s : Shared} {y x : V} {u v : Value} (ry : RelV y u) (rx : RelV x v) (fy : xe2 y = true) (fx : xe2 x = true) : SeqAt.EqAt A s u v (eqV y x):=by
 cases y with
 | non =>
  cases ry
  cases x with
  | non=>cases rx; exact SeqAt.EqAt.same _
  | bl b=>cases rx; exact SeqAt.EqAt.none_bool b
  | int b=>obtain ⟨t,rfl⟩:=rx; exact SeqAt.EqAt.none_int b t
  | str b=>obtain ⟨t,rfl⟩:=rx; exact SeqAt.EqAt.none_str b t
  | _=>exact absurd (show false = true from fx) Bool.false_ne_true
 | bl a =>
  cases ry
  cases x with
  | non=>cases rx; exact SeqAt.EqAt.bool_none a
  | bl b=>cases rx; exact SeqAt.EqAt.bool_bool a b
  | int b=>obtain ⟨t,rfl⟩:=rx; exact SeqAt.EqAt.bool_int a b t
  | str b=>obtain ⟨t,rfl⟩:=rx; exact SeqAt.EqAt.bool_str a b t
  | _=>exact absurd (show false = true from fx) Bool.false_ne_true
 | int a =>
  obtain ⟨t',rfl⟩:=ry
  cases x with
  | non=>cases rx; exact SeqAt.EqAt.int_none a t'
  | bl b=>cases rx; exact SeqAt.EqAt.int_bool a t' b
  | int b=>obtain ⟨t,rfl⟩:=rx; exact SeqAt.EqAt.int_int a t' b t
  | str b=>obtain ⟨t,rfl⟩:=rx; exact SeqAt.EqAt.int_str a t' b t
  | _=>exact absurd (show false = true from fx) Bool.false_ne_true
 | str a =>
  obtain ⟨t',rfl⟩:=ry
  cases x with
  | non=>cases rx; exact SeqAt.EqAt.str_none a t'
  | bl b=>cases rx; exact SeqAt.EqAt.str_bool a t' b
  | int b=>obtain ⟨t,rfl⟩:=rx; exact SeqAt.EqAt.str_int a t' b t
  | str b=>obtain ⟨t,rfl⟩:=rx; exact SeqAt.EqAt.str_str a t' b t
  | _=>exact absurd (show false = true from fx) Bool.false_ne_true
 | _=>exact absurd (show false = true from fy) Bool.false_ne_true
noncomputable def eqU (x : V) (u : Value) : Bool:=match u with
 | .none=>eqV .non x
 | .bool b=>eqV (.bl b) x
 | .int i _=>eqV (.int i) x
 | .str z _=>eqV (.str z) x
 | _=>false
theorem zk5 {x y : V} {u : Value} (r : RelV y u) (f : xe2 y = true) : eqU x u = eqV y x:=by
 cases y with
 | non=>cases r; rfl
 | bl b=>cases r; rfl
 | int i=>obtain ⟨t,rfl⟩:=r; rfl
 | str z=>obtain ⟨t,rfl⟩:=r; rfl
 | _=>exact absurd (show false = true from f) Bool.false_ne_true
theorem zu1 {x : V} : ∀ {xs : List V} {us : List Value},Vals xs us -> xs.all xe2 = true -> us.any (eqU x) = xs.any λ y=>eqV y x
 | _,_,.nil,_=>rfl
 | y :: xs,u :: us,.cons r t,f=>by
  rw [List.all_cons,Bool.and_eq_true] at f
  rw [List.any_cons,List.any_cons,zk5 r f.1,zu1 t f.2]
theorem zi1 {A : Around} {s : Shared} {x : V} {v : Value} (rx : RelV x v) (fx : xe2 x = true) : ∀ {xs : List V} {us : List Value},Vals xs us -> xs.all xe2 = true -> ∀ u ∈ us,SeqAt.EqAt A s u v (eqU x u)
 | _,_,.nil,_=>λ u hu=>by cases hu
 | y :: xs,u :: us,.cons r t,f=>λ u' hu=>by
  rw [List.all_cons,Bool.and_eq_true] at f
  rcases List.mem_cons.mp hu with rfl | hu
  ·rw [zk5 r f.1]; exact xe8 r rx f.1 fx
  ·exact zi1 rx fx t f.2 u' hu
noncomputable def inV (x : V) (xs : List V) : Bool:=xs.any λ y=>eqV y x
noncomputable def rIn (K : PySem.W.Frag) (neg : Bool) : R2:=λ x y H Q=>∃ p xs,y = .ref p /\ (SqL K H p xs \/ SqT K H p xs) /\ xe2 x = true /\ xs.all xe2 = true /\ Q (.bl (if neg then !inV x xs else inV x xs)) H
theorem op_in_seq : OpR X (compareOp .In) (rIn X.K false):=by
 intro pins s σ H x y v u Q I rx ry h
 obtain ⟨p,xs,rfl,hq,fx,fs,q⟩:=h
 cases ry
 rcases hq with hq | hq
 ·obtain ⟨its,r,pl,hz⟩:=I.list hq
  refine SeqAt.in_listAt (eqU x) pl.isList (λ w hw=>zi1 rx fx r fs w (by simpa using hw)) ⟨.bl _,H,I,rfl,?_⟩
  rw [show its.toArray.any (eqU x) = its.any (eqU x) by simp,zu1 r fs]
  exact q
 ·obtain ⟨its,r,pl,hz⟩:=I.tuple hq
  refine SeqAt.in_tupleAt (eqU x) pl (λ w hw=>zi1 rx fx r fs w (by simpa using hw)) ⟨.bl _,H,I,rfl,?_⟩
  rw [show its.toArray.any (eqU x) = its.any (eqU x) by simp,zu1 r fs]
  exact q
theorem op_notIn_seq : OpR X (compareOp .NotIn) (rIn X.K true):=by
 intro pins s σ H x y v u Q I rx ry h
 obtain ⟨p,xs,rfl,hq,fx,fs,q⟩:=h
 cases ry
 rcases hq with hq | hq
 ·obtain ⟨its,r,pl,hz⟩:=I.list hq
  refine SeqAt.notIn_listAt (eqU x) pl.isList (λ w hw=>zi1 rx fx r fs w (by simpa using hw)) ⟨.bl _,H,I,rfl,?_⟩
  rw [show its.toArray.any (eqU x) = its.any (eqU x) by simp,zu1 r fs]
  exact q
 ·obtain ⟨its,r,pl,hz⟩:=I.tuple hq
  refine SeqAt.notIn_tupleAt (eqU x) pl (λ w hw=>zi1 rx fx r fs w (by simpa using hw)) ⟨.bl _,H,I,rfl,?_⟩
  rw [show its.toArray.any (eqU x) = its.any (eqU x) by simp,zu1 r fs]
  exact q
theorem yi2 : OpR X (compareOp .NotIn) (λ x y H Q=>∃ i j,x = .str i /\ y = .str j /\ Q (.bl (!(!(Builtin.Str.occurrences j i 0 j.length 1).isEmpty))) H):=by
 intro pins s σ H x y v u Q I rx ry h
 obtain ⟨i,j,rfl,rfl,q⟩:=h
 obtain ⟨t,rfl⟩:=rx
 obtain ⟨t',rfl⟩:=ry
 exact notIn_str ⟨.bl _,H,I,rfl,q⟩
theorem call_len_seq : CallR X (.builtin "len") (λ xs H Q=>∃ p ys,xs = [.ref p] /\ (SqL X.K H p ys \/ SqT X.K H p ys) /\ Q (.int ys.length) H):=by
 intro pins s σ H xs us Q I r h
 obtain ⟨p,ys,rfl,hq,q⟩:=h
 obtain ⟨u,rfl,rx⟩:=wu1 r
 cases rx
 have hn:=wi2
 rcases hq with hq | hq
 ·obtain ⟨its,r',pl,hz⟩:=I.list hq
  have hlen:=r'.length
  exact Calls.call_len_list pl.isList (by simp only [List.size_toArray] <;> omega) ⟨.int ys.length,H,I.tok _,⟨s.toks + 1,by rw [List.size_toArray,hlen]⟩,q⟩
 ·obtain ⟨its,r',pl,hz⟩:=I.tuple hq
  have hlen:=r'.length
  exact len_tuple pl (by simp only [List.size_toArray] <;> omega) ⟨.int ys.length,H,I.tok _,⟨s.toks + 1,by rw [List.size_toArray,hlen]⟩,q⟩
theorem yl2 : CallR X (.builtin "len") (λ xs H Q=>∃ z,xs = [.str z] /\ z.length <= sizeLine /\ Q (.int z.length) H):=by
 intro pins s σ H xs us Q I r h
 obtain ⟨z,rfl,hz,q⟩:=h
 obtain ⟨u,rfl,t,rfl⟩:=wu1 r
 have hn:=wi2
 exact len_str (by omega) ⟨.int z.length,H,I.tok _,⟨_,rfl⟩,q⟩
theorem CallR.or {f : Value} {r r' : List V -> Hp -> VK -> Prop} (h : CallR X f r) (h' : CallR X f r') : CallR X f (λ xs H Q=>r xs H Q \/ r' xs H Q):=by
 intro pins s σ H xs us Q I rs q
 rcases q with q | q
 ·exact h pins s σ H xs us Q I rs q
 ·exact h' pins s σ H xs us Q I rs q
theorem we2 : CallR X (.type "tuple") (λ xs H Q=>∃ p ys,xs = [.ref p] /\ ((SqL X.K H p ys /\ ∀ l,H l = none -> Q (.ref l) (upd H l (.tup ys))) \/ (SqT X.K H p ys /\ Q (.ref p) H))):=by
 intro pins s σ H xs us Q I r h
 obtain ⟨p,ys,rfl,h⟩:=h
 obtain ⟨u,rfl,rx⟩:=wu1 r
 cases rx
 rcases h with ⟨hq,q⟩ | ⟨hq,q⟩
 ·obtain ⟨its,r',pl,hz⟩:=I.list hq
  have hlen:=r'.length
  refine call_tuple_list pl.isList (λ h' kp=>?_) (by simp only [List.size_toArray] <;> omega)
  have I1 : Inv X pins σ H { s with heap:=h' }:=I.kept (t':=s.toks) kp
  have I2 : Inv X pins σ (upd H h'.objs.size (.tup ys)) { s with heap:=h'.push { cls:=.type "tuple",data:=.seq its.toArray } } :=
   I1.laid (t':=s.toks) (λ b o e=>Heap.get?_push_of_some _ e) (Nat.le_refl _) (show ObjOk X.prog X.w _ _ _ (.tup ys) from ⟨hz,its,r',IsTup.new _ _⟩)
  exact ⟨.ref h'.objs.size,_,I2,rfl,q _ (I1.hok.fresh (Nat.le_refl _))⟩
 ·obtain ⟨its,r',pl,hz⟩:=I.tuple hq
  exact call_tuple_same pl ⟨.ref p,H,I,rfl,q⟩
noncomputable def tyV (K : PySem.W.Frag) (T : String) (x : V) (H : Hp) : Prop:=match x with
 | .str _=>T = "str"
 | .int _=>T = "int"
 | .ref p=>(T = "list" /\ ∃ xs,SqL K H p xs) \/ (T = "tuple" /\ ∃ o,K.lookup p = some o /\ o.cls = .type "tuple" /\ o.dict = none) ∨
     (T = "dict" /\ ((∃ kvs,H p = some (.dK kvs)) \/ ∃ kvs,H p = some (.dT kvs))) \/ (T = "set" /\ ∃ S n,H p = some (.set S n))
 | _=>False
theorem yo6 {pins : List (Addr × Obj)} {σ : St} {H : Hp} {s : Shared} {T : String} {x : V} {v : Value} (I : Inv X pins σ H s) (r : RelV x v) (ty : tyV X.K T x H) :
    s.TypeIs v T /\ ∀ a,v = .ref a -> ∃ ob,s.heap.get? a = some ob /\ ob.dict = none:=by
 cases x with
 | str z =>
  obtain ⟨t,rfl⟩:=r
  cases (show T = "str" from ty)
  exact ⟨typeIs_str s z t,λ _ e=>nomatch e⟩
 | int i =>
  obtain ⟨t,rfl⟩:=r
  cases (show T = "int" from ty)
  exact ⟨typeIs_int s i t,λ _ e=>nomatch e⟩
 | ref p =>
  cases r
  rcases ty with ⟨rfl,xs,hq⟩ | ⟨rfl,o,hk,hc,hd⟩ | ⟨rfl,hk⟩ | ⟨rfl,S,n,hk⟩
  ·obtain ⟨its,_,pl,_⟩:=I.list hq
   refine ⟨pl.isList.typeIs,λ a e=>?_⟩
   cases e
   obtain ⟨o,n,e,c,hd,_⟩:=pl
   exact ⟨o,e,hd⟩
  ·refine ⟨⟨o,I.kIn p o hk,hc⟩,λ a e=>?_⟩
   cases e
   exact ⟨o,I.kIn _ o hk,hd⟩
  ·have z : ∃ o,s.heap.get? p = some o /\ o.ExactDict:=by
     rcases hk with ⟨kvs,hk⟩ | ⟨kvs,hk⟩
     ·obtain ⟨_,_,_,_,o,_,_,e,ex,_⟩:=I.hok p _ hk
      exact ⟨o,e,ex⟩
     ·obtain ⟨_,_,_,_,o,_,_,e,ex,_⟩:=I.hok p _ hk
      exact ⟨o,e,ex⟩
   obtain ⟨o,e,ex⟩:=z
   refine ⟨⟨o,e,ex.1⟩,λ a e2=>?_⟩
   cases e2
   exact ⟨o,e,ex.2.1⟩
  ·obtain ⟨o,_,_,_,e,ex,_⟩:=I.hok p _ hk
   refine ⟨⟨o,e,ex.1⟩,λ a e2=>?_⟩
   cases e2
   exact ⟨o,e,ex.2.1⟩
 | _=>exact False.elim ty
noncomputable def tBM (K : PySem.W.Frag) (T : String) (r : V -> List V -> Hp -> VK -> Prop) (to : TE) (t : TA) : TE:=λ σ H Q=>to σ H λ x H1=>tyV K T x H1 /\ t σ H1 λ xs H2=>r x xs H2 Q
variable {o e : Expr} {es : List Expr} {to : TE} {t : TA} {name : Str} {apos cpos : Pos} {T id : String} {r : V -> List V -> Hp -> VK -> Prop}
theorem ws8 (pa : PlainAttrs T) (slot : Slot T name id) (hty : typeOf (.builtin id) = pure (.type "method_descriptor")) (hm : MtR X id r) (ho : PE X o to) (ha : PA X (e :: es) t)
    (hbase : attributeBase o name X.env (eval o X.env) = eval o X.env:=by rfl)
    (hfew : ((backTo cpos (starEach (e :: es) X.env)).all (λ x=>!x.1) && (backToKw cpos (keywordEach [] X.env)).all (λ x=>x.1.isSome)
     && decide ((e :: es).length + ([] : List Keyword).length + (if ([] : List Keyword).isEmpty then 0 else 1) < 30)) = true:=by rfl)
    (hline : (apos.endLine == cpos.line) = true:=by rfl) (hs : starEach (e :: es) X.env = (false,eval e X.env) :: starEach es X.env:=by rfl) (hplain : (backTo cpos (starEach es X.env)).any (·.1) = false:=by rfl) :
    PE X (.Call (.Attribute o name apos) (e :: es) [] cpos) (tBM X.K T r to t):=by
 intro pins s σ H Q I h
 refine wpAny_Call_method_late hbase hfew hline rfl (thn (ho pins s σ H _ I h) λ v s1 ⟨x,H1,I1,r1,ty,q1⟩=>?_)
 obtain ⟨h1,h2⟩:=yo6 I1 r1 ty
 refine ⟨T,id,pa,slot,hty,h1,h2,?_⟩
 have hA:=ha cpos pins s1 σ H1 _ I1 q1
 rw [hs] at hA ⊢
 refine Calls.callWith_builtin (by show (false || (backTo cpos (starEach es X.env)).any (·.1)) = false; rw [hplain] <;> rfl) (Calls.evalArgs_plain ?_)
 exact thn hA λ us s2 ⟨vs,H2,I2,r2,q2⟩=>hm pins s2 σ H2 x vs v us Q I2 r1 r2 q2
end
end L2
namespace L2
open PySem PySem.Spec PyProof.Rows
noncomputable def MtM (X : Cx) (id : String) (r : V -> List V -> Hp -> VK -> Prop) : Prop :=
 ∀ (pins : List (Addr × Obj)) (s : Shared) (σ : St) (H : Hp) (x : V) (xs : List V) (v : Value) (us : List Value) (Q : VK),Inv X pins σ H s -> RelV x v -> Vals xs us -> r x xs H Q ->
  wpAny (model X.prog X.w) X.A (call (.builtin id) (v :: us)) (EP X pins σ Q) X.xe s
theorem Vals.one : ∀ {x : V} {us : List Value},Vals [x] us -> ∃ u,us = [u] /\ RelV x u
 | _,_,.cons r .nil=>⟨_,rfl,r⟩
theorem Vals.rep {xs : List V} {us : List Value} (h : Vals xs us) : ∀ k : Nat,Vals (List.replicate k xs).flatten (List.replicate k us).flatten
 | 0=>.nil
 | k + 1=>by
  rw [List.replicate_succ,List.replicate_succ,List.flatten_cons,List.flatten_cons]
  exact Vals.append h (Vals.rep h k)
theorem yu1 (its : List Value) : ∀ (k : Nat) (acc : List Value),
    List.foldl (λ x1 x2=>x1 ++ x2) acc.toArray (List.replicate k its.toArray) = (acc ++ (List.replicate k its).flatten).toArray
 | 0,acc=>by simp
 | k + 1,acc=>by
  have e : acc.toArray ++ its.toArray = (acc ++ its).toArray:=by simp
  have e2 : (acc ++ its) ++ (List.replicate k its).flatten = acc ++ (List.replicate (k + 1) its).flatten:=by
   rw [List.replicate_succ,List.flatten_cons,List.append_assoc]
  rw [<- e2,<- yu1 its k (acc ++ its),<- e,List.replicate_succ,List.foldl_cons]
section
variable {X : Cx} {pins : List (Addr × Obj)} {σ : St} {H : Hp} {s : Shared} {l b : Addr} {xs ys zs : List V}
theorem Inv.lset {its its' : List Value} {n : Nat} {f : Array Value -> Array Value} {t' : Nat} (I : Inv X pins σ H s) (hH : H l = some (.lst xs))
    (e : s.heap.get? l = some { cls:=.type "list",data:=.seq its.toArray n }) (hf : f its.toArray = its'.toArray) (hv : Vals ys its') (hz : ys.length <= sizeLine) :
    Inv X pins σ (upd H l (.lst ys)) { s with heap:=s.heap.update l (Obj.mapSeq f),toks:=t' }:=by
 have q:=PySem.IsL.update e f
 rw [hf] at q
 refine I.write (x:=l) (e:=l) (by rw [hH]; exact trivial) (.inl rfl) (λ b' u hb hu=>(Heap.get?_update_other s.heap (Obj.mapSeq f) (Ne.symm hb)).trans hu) ⟨_,q⟩ ?_
 exact ⟨hz,its',_,hv,q⟩
theorem Inv.lnew {its : List Value} {t' : Nat} (I : Inv X pins σ H s) (hv : Vals ys its) (hz : ys.length <= sizeLine) :
    Inv X pins σ (upd H s.heap.objs.size (.lst ys)) { s with heap:=s.heap.push { cls:=.type "list",data:=.seq its.toArray },toks:=t' } :=
 I.laid (λ _ _ q=>Heap.get?_push_of_some _ q) (Nat.le_refl _) ⟨hz,its,0,hv,Heap.get?_push_size _ rfl⟩
theorem Inv.fresh (I : Inv X pins σ H s) : H s.heap.objs.size = none:=I.hok.fresh (Nat.le_refl _)
theorem Inv.lstM (I : Inv X pins σ H s) (hH : H l = some (.lst xs)) : xs.length <= sizeLine /\ ∃ (its : List Value) (n : Nat),Vals xs its /\ xs.length = its.length /\ s.heap.get? l = some { cls:=.type "list",data:=.seq its.toArray n }:=by
 obtain ⟨z,its,n,r,e⟩:=I.hok l _ hH
 exact ⟨z,its,n,r,r.length,e⟩
theorem zw2 {n : Nat} (h : n <= sizeLine) : Builtin.List.listTooLong n = false:=by
 unfold Builtin.List.listTooLong
 exact decide_eq_false (by omega)
end
section
variable {X : Cx}
noncomputable def yv5 : V -> List V -> Hp -> VK -> Prop:=λ x vs H Q=>∃ l xs y,x = .ref l /\ vs = [y] /\ H l = some (.lst xs) /\ xs.length < sizeLine /\ Q .non (upd H l (.lst (xs ++ [y])))
theorem ws1 : MtM X "list.append" yv5:=by
 intro pins s σ H x vs v us Q I rx rv h
 obtain ⟨l,xs,y,rfl,rfl,hH,hz,q⟩:=h
 cases rx
 obtain ⟨u,rfl,ru⟩:=rv.one
 obtain ⟨z,its,n,r,hl,e⟩:=I.lstM hH
 refine call_meets F.slot_list_append ⟨_,e,rfl⟩ F.entry_list_append (F.args_list_append_2 _ _) (PySem.list_append l its.toArray n u (by rw [List.size_toArray]; omega)) ⟨e,?_⟩
 refine ⟨.non,_,I.lset (its':=its ++ [u]) hH e (by simp) (r.append (.cons ru .nil)) ?_,rfl,q⟩
 rw [List.length_append,List.length_singleton]
 omega
noncomputable def xv5 : V -> List V -> Hp -> VK -> Prop:=λ x vs H Q=>∃ l b xs zs,x = .ref l /\ vs = [.ref b] /\ H l = some (.lst xs) /\ H b = some (.lst zs) /\ xs.length + zs.length <= sizeLine /\ Q .non (upd H l (.lst (xs ++ zs)))
theorem wy3 : MtM X "list.extend" xv5:=by
 intro pins s σ H x vs v us Q I rx rv h
 obtain ⟨l,b,xs,zs,rfl,rfl,hH,hB,hz,q⟩:=h
 cases rx
 obtain ⟨u,rfl,ru⟩:=rv.one
 cases ru
 obtain ⟨z,its,n,r,hl,e⟩:=I.lstM hH
 obtain ⟨z2,its2,n2,r2,hl2,e2⟩:=I.lstM hB
 have hsz : its.toArray.size + its2.toArray.size <= sizeLine:=by rw [List.size_toArray,List.size_toArray]; omega
 have hlong : ¬ (!its.toArray.isEmpty && Builtin.List.listTooLong (its.toArray.size + its2.toArray.size)) = true:=by
  rw [zw2 hsz,Bool.and_false]
  exact Bool.false_ne_true
 refine call_meets F.slot_list_extend ⟨_,e,rfl⟩ F.entry_list_extend (F.args_list_extend_2 _ _)
  (AutoSeq1.list_extend_list_list_0 l its.toArray n b its2.toArray n2 hlong (by rw [List.size_toArray]; omega) (by omega)) ⟨e,e2,?_⟩
 refine ⟨.non,_,I.lset (its':=its ++ its2) hH e (by simp) (r.append r2) ?_,rfl,q⟩
 rw [List.length_append]
 omega
noncomputable def rCat : R2:=λ x y H Q=>∃ l b xs zs,x = .ref l /\ y = .ref b /\ H l = some (.lst xs) /\ H b = some (.lst zs) /\ xs.length + zs.length <= sizeLine /\ ∀ p,H p = none -> Q (.ref p) (upd H p (.lst (xs ++ zs)))
theorem op_cat : OpR X (binaryOp .Add) rCat:=by
 intro pins s σ H x y v u Q I rx ry h
 obtain ⟨l,b,xs,zs,rfl,rfl,hH,hB,hz,q⟩:=h
 cases rx
 cases ry
 obtain ⟨z,its,n,r,hl,e⟩:=I.lstM hH
 obtain ⟨z2,its2,n2,r2,hl2,e2⟩:=I.lstM hB
 refine PySem.P.add_list e e2 ?_ (by rw [List.size_toArray,List.size_toArray]; omega)
 have ea : its.toArray ++ its2.toArray = (its ++ its2).toArray:=by simp
 rw [ea]
 exact ⟨.ref _,_,I.lnew (t':=s.toks) (r.append r2) (by rw [List.length_append]; omega),rfl,q _ I.fresh⟩
noncomputable def rRep : R2:=λ x y H Q=>∃ l k xs,x = .ref l /\ y = .int k /\ H l = some (.lst xs) /\ -(2 ^ 63) <= k /\ k < 2 ^ 63 /\ xs.length * k.toNat <= sizeLine ∧
 ∀ p,H p = none -> Q (.ref p) (upd H p (.lst (List.replicate k.toNat xs).flatten))
theorem yp2 {α : Type} (xs : List α) (k : Nat) : (List.replicate k xs).flatten.length = k * xs.length:=by
 induction k with
 | zero=>simp
 | succ k ih=>rw [List.replicate_succ,List.flatten_cons,List.length_append,ih,Nat.succ_mul,Nat.add_comm]
theorem zv7 : OpR X (binaryOp .Mult) rRep:=by
 intro pins s σ H x y v u Q I rx ry h
 obtain ⟨l,k,xs,rfl,rfl,hH,h1,h2,hz,q⟩:=h
 cases rx
 obtain ⟨t,rfl⟩:=ry
 obtain ⟨z,its,n,r,hl,e⟩:=I.lstM hH
 have hlen : its.toArray.size * k.toNat <= sizeLine:=by rw [List.size_toArray,<- hl]; exact hz
 have hcap : ¬ its.toArray.size * k.toNat > (2 ^ 63 - 1) / 8:=by
  have : (sizeLine : Nat) <= (2 ^ 63 - 1) / 8:=by decide
  omega
 have hfit : ¬ (!Builtin.List.listFitsIndex k) = true:=by
  rw [fitsIndex_both h1 h2]
  exact Bool.false_ne_true
 have hlong : ¬ Builtin.List.listTooLong (its.toArray.size * k.toNat) = true:=by
  rw [zw2 hlen]
  exact Bool.false_ne_true
 have hnew : List.foldl (λ x1 x2=>x1 ++ x2) #[] (List.replicate (if its.toArray.isEmpty = true then 0 else k.toNat) its.toArray) = (List.replicate k.toNat its).flatten.toArray:=by
  have f0 : ∀ m : Nat,List.foldl (λ x1 x2=>x1 ++ x2) #[] (List.replicate m its.toArray) = (List.replicate m its).flatten.toArray:=λ m=>by
   have:=yu1 its m []
   rw [List.nil_append] at this
   exact this
  rw [f0]
  cases its with
  | nil=>simp
  | cons a r'=>rw [if_neg (by simp)]
 refine wpAny_binaryOp_repeat_ref (T := "list") (U := "int") (by decide) ⟨_,e,rfl⟩ (λ s'=>typeIs_int s' k t) noFill_list_mul F.fills_int_mul F.slot_int_rmul repeat_list F.slot_int_index.lookup
  (call_meets F.slot_int_rmul (typeIs_int s k t) F.entry_int_rmul (F.args_int_rmul_2 _ _) (int___rmul___int_list k t l its.toArray n)
   ⟨e,rfl,⟨_,e,rfl⟩,call_meets F.slot_list_mul ⟨_,e,rfl⟩ F.entry_list_mul (F.args_list_mul_2 _ _) (AutoListH.list___mul___list_int_3 l its.toArray n k t hfit hcap hlong) ⟨e,?_⟩⟩)
 rw [hnew]
 exact ⟨.ref _,_,I.lnew (t':=s.toks) (r.rep k.toNat) (by rw [yp2,Nat.mul_comm]; exact hz),rfl,q _ I.fresh⟩
end
section
variable {prog : Program} {w : World} {A : Around} {E : Value -> Shared -> Prop} {s : Shared}
end
section
variable {X : Cx}
end
end L2
namespace Att
open PySem PySem.W PySem.Calls PyProof.Rows
theorem xu1 {P : Params} {h : Heap} : ∀ (ns : List Int) (vs : List Value),WellAll P h vs (ns.map WData.int) -> IntsAre vs ns:=by
 intro ns
 induction ns with
 | nil =>
  intro vs w
  rw [List.map_nil] at w
  cases w
  exact .nil
 | cons n ns ih =>
  intro vs w
  rw [List.map_cons] at w
  cases w with
  | cons a b =>
   cases a
   exact .cons _ _ (ih _ b)
theorem zq3 {l : OpenLaw} {n : Nat} (hn : l.most = some n) {P : Params} {h : Heap} {args : List WData} {vals : List Value}
    (hpre : l.row.toRowW.claim.pre args = true) (hwl : WellAll P h vals args) :
    ∃ a vs ns,vals = [Value.ref a] /\ args = [WData.list (ns.map WData.int)] /\ h.get? a = some { cls:=.type "list",data:=.seq vs.toArray } /\ IntsAre vs ns /\ ns.length <= n:=by
 have hsh : WShape.hasAll [] args [.list .int] = true:=(pre_splitW hpre).1
 have hc : l.pre.holds [] { args:=args } = true:=(pre_splitW hpre).2
 obtain ⟨d,r,rfl,h1,h2⟩:=hasAllW_cons hsh
 obtain rfl:=hasAllW_nil h2
 obtain ⟨xs,rfl,h3⟩:=hasW_list h1
 obtain ⟨ns,rfl⟩:=items_int h3
 have hlen : ns.length <= n:=by
  unfold OpenLaw.pre at hc
  have h4 : (WTm.not (.lt (.lit (.int (n : Int))) (.len (.arg 0)))).holds [] { args:=[.list (ns.map .int)] } = true:=by
   have h4:=(holds_andW hc).1
   rw [hn] at h4
   exact h4
  have h5:=condW_of h4 (w_not (w_lt w_lit (w_len_list (w_arg rfl))))
  rw [List.length_map] at h5
  refine Nat.le_of_not_lt λ q=>?_
  have q' : (n : Int) < ((ns.length : Nat) : Int):=by omega
  first
   | (rw [decide_eq_true q'] at h5; exact absurd h5 (by decide))
   | (simp at h5; omega)
 cases hwl with
 | cons w1 w2 =>
  cases w2
  cases w1 with
  | list ho hall=>exact ⟨_,_,ns,rfl,rfl,ho,xu1 ns _ hall,hlen⟩
theorem wt3 (l : OpenLaw) (args : List WData) : l.row.toRowW.claim.post args (.bool true) args = true :=
 postW_of (r:=l.row.toRowW) (X:=(true == true))
  (show WShape.has [] (.bool true) .bool = true by first | rfl | decide | simp [WShape.has,WShape.arms,WShape.armsAll])
  (show (WTm.eq .res (.lit (.bool true))).value [] { args:=args,res:=some (.bool true),after:=args } = some (.bool (true == true)) from w_eq_bool (w_res rfl) w_lit) rfl
theorem attach_call {l : OpenLaw} {n : Nat} {q : Program} {loose : List Str} {XP : (Str -> Option Value) -> Heap -> Prop} {YP : World -> Heap -> Prop} {d : DefRec}
    (hn : l.most = some n) (hdf : d.params.defaults = [])
    (call : ∀ (w : World) (s₀ s₁ : Shared) (mg mb : Str -> Option Value) (fa : Addr) (o : Obj) (pm cd doc : Value) (a : Addr) (vs : List Value) (ns : List Int),
     Ground q loose [] XP w s₀ mg mb s₁.heap -> YP w s₁.heap ->
     s₁.heap.get? fa = some o -> o.data = .func (docDef d.name d.params d.body d.scope pm cd doc) -> s₁.heap.CodeRec cd d.name -> mg d.name = some (.ref fa) ->
     s₁.heap.get? a = some { cls:=.type "list",data:=.seq vs.toArray } -> IntsAre vs ns -> ns.length <= n -> s₁.gens = #[] ->
     codeAny (model l.prog w) callerA (.call (.ref fa) ⟨[.ref a],[]⟩) (λ r s'=>r = .ok (.ret (.bool true)) /\ OldK s₁.heap s'.heap /\ s'.os = s₁.os /\ AllBare s'.gens) s₁) :
    WalkO q loose XP YP l.row.toRowW d [] (λ f vs=>PySem.call f vs):=by
 intro w s₀ s₁ mg mb G Y fa o pm cd doc dV kV ho hd hcd hD hmg hg args vals as hpre hlay hrd hwl hlo
 obtain rfl : dV = .none:=Dflts.none hD hdf
 obtain rfl : kV = .none:=Dflts.noKw hD
 obtain ⟨a,vs,ns,rfl,rfl,hobj,hints,hlen⟩:=zq3 hn hpre hwl
 refine enter_call (codeAny_mono (call w s₀ s₁ mg mb fa o pm cd doc a vs ns G Y ho (fd_plain hd) hcd hmg hobj hints hlen hg) λ r s' hq=>?_)
 obtain ⟨rfl,h2,h3,h4⟩:=hq
 exact ⟨.inl ⟨.bool true,.bool true,[],rfl,λ _=>rfl,.bool true,wt3 l _,λ _=>⟨List.Pairwise.nil,λ _ hm=>(nomatch hm)⟩⟩,h2,h3,h4⟩
section
variable {prog : Program} {w : World} {A : Around} {E : Value -> Shared -> Prop} {s : Shared} {K : Frag}
noncomputable def ledger (h : Heap) (L d : Addr) : List (Addr × Obj):=(List.range h.objs.size).filterMap λ a=>if a = L \/ a = d then none else (h.get? a).map λ o=>(a,o)
end
end Att
namespace L2
open PySem PySem.Spec PyProof.Rows
theorem wf2 : ∀ {vs : List Value} {ns : List Int},IntsAre vs ns -> Vals (ns.map V.int) vs
 | _,_,.nil=>.nil
 | _,_,.cons n t h=>.cons ⟨t,rfl⟩ (wf2 h)
noncomputable def Only (H : Hp) : Prop:=∀ b,H b = none \/ ∃ o xs,H b = some (.frz o (.lst xs))
theorem zw4 {P : Program} {w : World} {K : PySem.W.Frag} {mg mb : Str -> Option Value} {CX : CXT} {k : Nat} {fa a : Addr} {fd : FuncData} {x : Str} {sp : Sp} {s₁ : Shared} {vs : List Value} {ns : List Int}
    (KX : K.In s₁.heap) (hns : s₁.heap.Ns mainGlobals mg) (hb : s₁.heap.Ns builtinsNs mb) (hbb : ∀ x : Str,x ≠ "__name__" -> mb x = bootBuiltins x) (hlim : s₁.heap.NoLimit) (hg : s₁.gens = #[])
    (ha : s₁.heap.get? a = some { cls:=.type "list",data:=.seq vs.toArray }) (hi : IntsAre vs ns) (hl : ns.length <= sizeLine) (hr : Room k callerA)
    (F : ∀ base : Heap,K.In base -> base.Ns mainGlobals mg -> FnOk P w K mg base CX k fa fd [x] sp) (hbind : ∀ (s : Shared) (u : Value),BindsTo s fd ⟨[u],[]⟩ [(x,u)])
    (hsp : ∀ H : Hp,Only H -> SqL K H a (ns.map V.int) -> sp [.ref a] H (λ v _=>v = .bl true) λ _ _ _=>False)
    (hCX : ∀ H e s',CX [] H s₁ (λ _ _ _=>False) e s' -> False) :
    codeAny (model P w) callerA (.call (.ref fa) ⟨[.ref a],[]⟩) (λ r s'=>r = .ok (.ret (.bool true)) /\ OldK s₁.heap s'.heap /\ s'.os = s₁.os /\ AllBare s'.gens) s₁:=by
 have rv:=wf2 hi
 have lenV:=hi.length
 have core : ∀ H : Hp,Only H -> SqL K H a (ns.map V.int) -> HOk P w H s₁.heap -> (∀ b,H b ≠ none -> b = a) -> (H a ≠ none -> K.lookup a = none) ->
     codeAny (model P w) callerA (.call (.ref fa) ⟨[.ref a],[]⟩) (λ r s'=>r = .ok (.ret (.bool true)) /\ OldK s₁.heap s'.heap /\ s'.os = s₁.os /\ AllBare s'.gens) s₁:=by
  intro H hO hS hok hA hK
  have base_of : ∀ {b : Addr} {o : Obj},s₁.heap.get? b = some o -> H b = none -> (hidT s₁.heap H).get? b = some o:=λ e n=>xz4 e n
  have noA : ∀ {b : Addr} {o : Obj} {es : Array DictEntry} {ep : Nat},s₁.heap.get? b = some o -> o.data = .dict es ep -> H b = none:=λ {b o es ep} e d=>by
   cases q : H b with
   | none=>rfl
   | some u =>
    have e' : b = a:=hA b (by rw [q]; simp)
    subst e'
    rw [ha] at e; cases e
    have d' : Data.seq vs.toArray _ = Data.dict es ep:=d
    cases d'
  have nsK : ∀ {b : Addr} {m : Str -> Option Value},s₁.heap.Ns b m -> (hidT s₁.heap H).Ns b m:=λ {b m} ⟨o,es,ep,e,d,r⟩=>⟨o,es,ep,base_of e (noA e d),d,r⟩
  have hKb : K.In (hidT s₁.heap H):=λ b o e=>base_of (KX b o e) (by
   cases q : H b with
   | none=>rfl
   | some u =>
    have e' : b = a:=hA b (by rw [q]; simp)
    subst e'
    rw [hK (by rw [q]; simp)] at e; cases e)
  have hM : Mod K mg (hidT s₁.heap H):=⟨hKb,nsK hns,⟨mb,nsK hb,hbb⟩,let ⟨mc,h1,h2⟩:=hlim; ⟨mc,nsK h1,h2⟩⟩
  have e0 : Env0 P w K mg (hidT s₁.heap H) callerA [] s₁ H:=⟨rfl,hM,λ b o e=>xc6 e,Nat.le_of_eq (wb4 _ _),trivial,λ b hb=>absurd (show b ∈ ([] : List Addr) from hb) (by simp),hok,.of_eq hg⟩
  refine codeAny_mono ((F _ hKb (nsK hns)).run callerA [] s₁ H ⟨[.ref a],[]⟩ [.ref a] [.ref a] _ _ hr e0 (hbind s₁ (.ref a)) (.cons rfl .nil) (hsp H hO hS)) λ r s' h=>?_
  cases r with
  | error e=>exact (hCX H e s' h).elim
  | ok fl =>
   cases fl with
   | next=>exact False.elim h
   | brk=>exact False.elim h
   | cont=>exact False.elim h
   | ret u =>
    obtain ⟨v,H',os,bare,un,hok',r',q⟩:=h
    have q' : v = .bl true:=q
    subst q'
    obtain rfl : u = Value.bool true:=r'
    refine ⟨rfl,OldK.of_keep λ b o e=>?_,os,bare⟩
    cases q : H b with
    | none=>exact un.keep b o e q (by intro z; exact absurd (show b ∈ ([] : List Addr) from z) (by simp)) (by simp)
    | some u =>
     rcases hO b with z | ⟨ob,xs,z⟩
     ·rw [q] at z; cases z
     ·have z2:=un.frzs b ob _ z
      obtain ⟨e1,_⟩:=hok b _ z
      obtain ⟨e2,_⟩:=hok' b _ z2
      rw [e] at e1; cases e1
      exact e2
 cases hk : K.lookup a with
 | some o =>
  have e:=KX a o hk
  rw [ha] at e
  cases e
  refine core (λ _=>none) (λ _=>.inl rfl) (.inr ⟨_,vs.toArray,_,hk,rfl,rfl,rfl,by rw [List.size_toArray,lenV]; exact hl,by simpa using rv⟩) (λ b u z=>by have z' : (none : Option HO) = some u:=z; cases z') (λ b z=>absurd rfl z) λ z=>absurd rfl z
 | none =>
  refine core (λ b=>if b = a then some (.frz { cls:=.type "list",data:=.seq vs.toArray } (.lst (ns.map V.int))) else none) (λ b=>?_) (.inl (.inr ⟨{ cls:=.type "list",data:=.seq vs.toArray },if_pos rfl⟩)) (λ b u z=>?_) (λ b z=>?_) λ _=>hk
  ·by_cases hb : b = a
   ·exact .inr ⟨_,_,if_pos hb⟩
   ·exact .inl (if_neg hb)
  ·by_cases hb : b = a
   ·have z':=(if_pos hb).symm.trans z
    cases z'
    subst hb
    exact ⟨ha,by rw [List.length_map]; exact hl,vs,_,rv,ha⟩
   ·have z':=(if_neg hb).symm.trans z
    cases z'
  ·by_cases hb : b = a
   ·exact hb
   ·exact absurd (if_neg hb) z
end L2
namespace L2
open PySem PySem.Spec PyProof.Rows
noncomputable abbrev KOf {K : PySem.W.Frag} {h : Heap} (_ : K.In h) : PySem.W.Frag:=K
theorem walk_of {l : PySem.W.OpenLaw} {n k : Nat} {q : Program} {loose : List Str} {XP : (Str -> Option Value) -> Heap -> Prop} {YP : World -> Heap -> Prop} {d : DefRec} {K : Params -> PySem.W.Frag} {CX : World -> CXT} {sp : World -> Sp} {x : Str}
    (hn : l.most = some n) (hn2 : n <= sizeLine) (hdf : d.params.defaults = []) (hr : Room k callerA)
    (hY : ∀ (w : World) (h : Heap),YP w h -> (K w.params).In h)
    (F : ∀ (w : World) (mg : Str -> Option Value) (fa : Addr) (h : Heap),(K w.params).In h -> h.Ns mainGlobals mg -> mg d.name = some (.ref fa) ->
     ∃ fd : FuncData,(∀ (s : Shared) (u : Value),BindsTo s fd ⟨[u],[]⟩ [(x,u)]) ∧
      ∀ base : Heap,(K w.params).In base -> base.Ns mainGlobals mg -> FnOk l.prog w (K w.params) mg base (CX w) k fa fd [x] (sp w))
    (hsp : ∀ (w : World) (H : Hp) (a : Addr) (ns : List Int),ns.length <= n -> Only H -> SqL (K w.params) H a (ns.map V.int) -> sp w [.ref a] H (λ v _=>v = .bl true) λ _ _ _=>False)
    (hCX : ∀ (w : World) (H : Hp) (s : Shared) (e : Value) (s' : Shared),CX w [] H s (λ _ _ _=>False) e s' -> False) :
    PySem.W.WalkO q loose XP YP l.row.toRowW d [] (λ f vs=>PySem.call f vs):=by
 refine Att.attach_call hn hdf λ w s₀ s₁ mg mb fa o pm cd doc a vs ns G Y ho hd hcd hmg hobj hints hlen hg=>?_
 have KX:=hY w _ Y
 obtain ⟨fd,hb,hF⟩:=F w mg fa _ KX G.T.g hmg
 exact zw4 KX G.T.g G.T.b G.T.builtins G.T.nolimit hg hobj hints (Nat.le_trans hlen hn2) hr hF hb (λ H hO hS=>hsp w H a ns hlen hO hS) λ H e s'=>hCX w H s₁ e s'
end L2
namespace L2
open PySem PySem.Spec PyProof.Rows
noncomputable abbrev CX0 : CXT:=λ _ _ _ _ _ _=>False
noncomputable abbrev E0 : XK:=λ _ _ _=>False
theorem xb6 {X : Cx} : ym1 CX0 X E0:=λ _ _ _ _ _ _ _ h=>h.elim
structure Fun (K : PySem.W.Frag) (x qual : Str) (st : Stmt) (f : Addr) (fd : FuncData) : Prop where
 ex : ∃ (oc : Value) (od : Option Addr) (kV doc pm : Value) (an : Option Addr) (cdv ct : Value) (osl : Array (Option Value)),
  fd = PySem.W.fnOf x qual (zs0 st) (yd0 st) (wa0 st) .none kV doc pm an cdv ct /\ K.lookup f = some ⟨oc,od,.func fd,osl⟩ /\ PySem.W.codeIn K cdv qual = true
 kp : PySem.W.keepIn K (.ref f) = true
section
variable {P : Program} {w : World} {K : PySem.W.Frag} {mg : Str -> Option Value} {base : Heap}
theorem Fun.ok {x qual : Str} {st : Stmt} {f : Addr} {fd : FuncData} {N ps : List Str} {k : Nat} {sp : Sp} (F : Fun K x qual st f fd) (S : FnScope N ps (wa0 st)) (len : ∀ vs H Q E,sp vs H Q E -> vs.length = ps.length)
    (hbody : ∀ (cdv : Value) (A : Around) (outer : List Env) (s : Shared) (H : Hp) (vs : List V) (Q : VK) (E : XK),Room k (A.deeper (envOfC qual (wa0 st) s.heap.objs.size f cdv)) -> sp vs H Q E ->
     ∃ t,PSs (cxOf CX0 P w K mg base N qual (wa0 st) f cdv A outer s H E).nox (yd0 st) t /\ t { nx:=λ _ H'=>Q .non H',rt:=Q } (start N vs) H) : FnOk P w K mg base CX0 (k + 1) f fd ps sp:=by
 obtain ⟨oc,od,kV,doc,pm,an,cdv,ct,osl,rfl,lk,hcd⟩:=F.ex
 refine wg6 lk hcd S len λ A outer s H vs Q E hr hsp=>?_
 obtain ⟨t,h,q⟩:=hbody cdv A outer s H vs Q E hr hsp
 exact ⟨t,h.nox,q⟩
theorem Fun.binds {x qual : Str} {st : Stmt} {f : Addr} {fd : FuncData} {ps : List Str} (F : Fun K x qual st f fd)
    (h : ∀ (kV doc pm : Value) (an : Option Addr) (cdv ct : Value) (us : List Value),us.length = ps.length -> bindArgs (PySem.W.fnOf x qual (zs0 st) (yd0 st) (wa0 st) .none kV doc pm an cdv ct) ⟨us,[]⟩ = pure (ps.zip us)) : Binds K fd ps []:=by
 obtain ⟨oc,od,kV,doc,pm,an,cdv,ct,osl,rfl,lk,hcd⟩:=F.ex
 exact .all (h kV doc pm an cdv ct)
theorem yk2 {x qual : Str} {st : Stmt} {f : Addr} {oc : Value} {od an : Option Addr} {osl : Array (Option Value)} {kV doc pm cdv ct : Value} (l : K.lookup f = some ⟨oc,od,.func (PySem.W.fnOf x qual (zs0 st) (yd0 st) (wa0 st) .none kV doc pm an cdv ct),osl⟩)
    (c : PySem.W.codeIn K cdv qual = true) (k : PySem.W.keepIn K (.ref f) = true) : Fun K x qual st f (PySem.W.fnOf x qual (zs0 st) (yd0 st) (wa0 st) .none kV doc pm an cdv ct):=⟨⟨oc,od,kV,doc,pm,an,cdv,ct,osl,rfl,l,c⟩,k⟩
end
section
variable {X : Cx}
end
end L2
namespace L2
open PySem PySem.Spec PyProof.Rows
section
variable {κ : Type} [DecidableEq κ]
end
section
variable {P : Program} {w : World} {H : Hp} {h : Heap} {a : Addr}
end
section
variable {X : Cx} {pins : List (Addr × Obj)} {σ : St} {H : Hp} {s : Shared} {a : Addr} {y v : V} {u r : Value} {o : Option V} {A : Around} {E : Value -> Shared -> Prop}
end
section
variable {X : Cx} {pins : List (Addr × Obj)} {σ : St} {H : Hp} {s : Shared} {a : Addr} {kvs : List (Key × V)} {k : Key} {u : Value} {A : Around} {E : Value -> Shared -> Prop}
end
section
variable {X : Cx} {o i e value : Expr} {pos pos' tpos : Pos} {td ty tv : TE}
end
section
variable {X : Cx} {pos : Pos}
end
structure M1 (X : Cx) (o : Expr) (m : Str) (apos : Pos) (e : Expr) (cpos : Pos) : Prop where
 base : attributeBase o m X.env (eval o X.env) = eval o X.env
 few : ((backTo cpos (starEach [e] X.env)).all (λ x=>!x.1) && (backToKw cpos (keywordEach [] X.env)).all (λ x=>x.1.isSome)
  && decide (([e] : List Expr).length + ([] : List Keyword).length + (if ([] : List Keyword).isEmpty then 0 else 1) < 30)) = true
 line : (apos.endLine == cpos.line) = true
 trees : backTo cpos (starEach [e] X.env) = [(false,eval e X.env)]
structure M2 (X : Cx) (o : Expr) (m : Str) (apos : Pos) (e f : Expr) (cpos : Pos) : Prop where
 base : attributeBase o m X.env (eval o X.env) = eval o X.env
 few : ((backTo cpos (starEach [e,f] X.env)).all (λ x=>!x.1) && (backToKw cpos (keywordEach [] X.env)).all (λ x=>x.1.isSome)
  && decide (([e,f] : List Expr).length + ([] : List Keyword).length + (if ([] : List Keyword).isEmpty then 0 else 1) < 30)) = true
 line : (apos.endLine == cpos.line) = true
 trees : backTo cpos (starEach [e,f] X.env) = [(false,eval e X.env),(false,eval f X.env)]
section
variable {X : Cx} {pins : List (Addr × Obj)} {σ : St} {H : Hp} {s : Shared} {a : Addr} {y d : V} {u r : Value} {o : Option V} {A : Around} {E : Value -> Shared -> Prop}
end
section
variable {X : Cx} {o e f : Expr} {apos cpos : Pos} {td ty tx : TE}
end
section
variable {X : Cx} {pins : List (Addr × Obj)} {σ : St} {H : Hp} {s : Shared} {a : Addr} {kvs : List (Key × V)} {A : Around} {E : Value -> Shared -> Prop}
end
section
variable {X : Cx} {pins : List (Addr × Obj)} {σ : St} {H : Hp} {s : Shared} {a : Addr} {y : V} {u : Value} {A : Around} {E : Value -> Shared -> Prop}
end
end L2
namespace Pv
open PySem
inductive D where
 | non | bl (b : Bool) | int (i : Int) | str (x : Str) | tup (l : List D) | fls (l : List D) | ref (a : Addr) | ty (n : String) | exc (c : Str)
inductive MO where
 | lst (xs : List D)
 | ins (c : Str) (fs : List (Str × D))
 | dct (kvs : List ((Int × Int × Int) × D))
noncomputable abbrev Mu:=Addr -> Option MO
noncomputable def updM (μ : Mu) (a : Addr) (o : MO) : Mu:=λ b=>if b = a then some o else μ b
theorem wb0 {μ : Mu} {a : Addr} {o : MO} : updM μ a o a = some o:=by unfold updM; rw [if_pos rfl]
theorem ye0 {μ : Mu} {a b : Addr} {o : MO} (h : b ≠ a) : updM μ a o b = μ b:=by unfold updM; rw [if_neg h]
theorem wr0 {μ : Mu} {a : Addr} {o u : MO} : updM (updM μ a o) a u = updM μ a u:=by
 funext b; unfold updM; by_cases h : b = a <;> simp [h]
noncomputable def Ext (μ μ' : Mu) : Prop:=∀ a o,μ a = some o -> μ' a = some o
theorem Ext.refl (μ : Mu) : Ext μ μ:=λ _ _ h=>h
theorem Ext.trans {a b c : Mu} (h : Ext a b) (k : Ext b c) : Ext a c:=λ x o q=>k x o (h x o q)
theorem Ext.new {μ : Mu} {p : Addr} {o : MO} (h : μ p = none) : Ext μ (updM μ p o):=λ a u q=>by
 rw [ye0]; exact q
 intro e; subst e; rw [h] at q; cases q
noncomputable def ExtB (p : Addr) (μ μ' : Mu) : Prop:=∀ a o,a ≠ p -> μ a = some o -> μ' a = some o
theorem ExtB.refl (p : Addr) (μ : Mu) : ExtB p μ μ:=λ _ _ _ h=>h
theorem ExtB.trans {p : Addr} {a b c : Mu} (h : ExtB p a b) (k : ExtB p b c) : ExtB p a c:=λ x o n q=>k x o n (h x o n q)
theorem Ext.b {μ μ' : Mu} (p : Addr) (e : Ext μ μ') : ExtB p μ μ':=λ a o _ q=>e a o q
theorem ExtB.upd {μ : Mu} {p : Addr} {o : MO} : ExtB p μ (updM μ p o):=λ a u n q=>by rw [ye0 n]; exact q
theorem yg0 {μ : Mu} {p q : Addr} {o : MO} (h : μ p = some o) (k : μ q = none) : p ≠ q:=by
 intro e; subst e; rw [h] at k; cases k
noncomputable abbrev St3:=List (Option D)
noncomputable def getI : St3 -> Nat -> Option D
 | [],_=>none
 | o :: _,0=>o
 | _ :: r,i + 1=>getI r i
theorem zq2 : ∀ (ρ : St3) (i : Nat),getI ρ i = (ρ[i]?).getD none
 | [],i=>by simp [getI]
 | o :: _,0=>by simp [getI]
 | _ :: r,i + 1=>by simp [getI,zq2 r i]
noncomputable abbrev VK3:=D -> Mu -> Prop
noncomputable abbrev TE3:=St3 -> Mu -> VK3 -> Prop
noncomputable abbrev TT3:=St3 -> Mu -> (Bool -> Mu -> Prop) -> Prop
noncomputable abbrev TA3:=St3 -> Mu -> (List D -> Mu -> Prop) -> Prop
structure Ends3 where
 nx : St3 -> Mu -> Prop
 rt : VK3
 bk : St3 -> Mu -> Prop:=λ _ _=>False
 ct : St3 -> Mu -> Prop:=λ _ _=>False
noncomputable abbrev TS3:=Ends3 -> St3 -> Mu -> Prop
noncomputable abbrev R3:=D -> D -> Mu -> VK3 -> Prop
noncomputable abbrev Sp3:=List D -> Mu -> VK3 -> Prop
noncomputable abbrev C3:=List D -> Mu -> VK3 -> Prop
noncomputable abbrev TG3:=D -> St3 -> Mu -> (St3 -> Mu -> Prop) -> Prop
noncomputable abbrev TGs3:=List D -> St3 -> Mu -> (St3 -> Mu -> Prop) -> Prop
noncomputable abbrev TI3:=St3 -> Mu -> (List D -> (Mu -> Prop) -> Mu -> Prop) -> Prop
noncomputable def v3 (i : Nat) : TE3:=λ ρ μ Q=>match getI ρ i with
 | some d=>Q d μ
 | none=>False
noncomputable def c3 (d : D) : TE3:=λ _ μ Q=>Q d μ
noncomputable def o3 (r : R3) (ta tb : TE3) : TE3:=λ ρ μ Q=>ta ρ μ λ x μ1=>tb ρ μ1 λ y μ2=>r x y μ2 Q
noncomputable def un3 (r : D -> Mu -> VK3 -> Prop) (ta : TE3) : TE3:=λ ρ μ Q=>ta ρ μ λ x μ1=>r x μ1 Q
noncomputable def b3 (t : TE3) : TT3:=λ ρ μ Q=>t ρ μ λ d μ1=>match d with
 | .bl c=>Q c μ1
 | _=>False
noncomputable def and3 (t u : TT3) : TT3:=λ ρ μ Q=>t ρ μ λ c μ1=>if c = true then u ρ μ1 Q else Q false μ1
noncomputable def or3 (t u : TT3) : TT3:=λ ρ μ Q=>t ρ μ λ c μ1=>if c = true then Q true μ1 else u ρ μ1 Q
noncomputable def not3 (t : TT3) : TT3:=λ ρ μ Q=>t ρ μ λ c μ1=>Q (!c) μ1
noncomputable def andV3 (t u : TE3) : TE3:=λ ρ μ Q=>t ρ μ λ d μ1=>match d with
 | .bl c=>if c = true then u ρ μ1 Q else Q (.bl false) μ1
 | _=>False
noncomputable def orV3 (t u : TE3) : TE3:=λ ρ μ Q=>t ρ μ λ d μ1=>match d with
 | .bl c=>if c = true then Q (.bl true) μ1 else u ρ μ1 Q
 | _=>False
noncomputable def notV3 (t : TE3) : TE3:=λ ρ μ Q=>t ρ μ λ d μ1=>match d with
 | .bl c=>Q (.bl (!c)) μ1
 | _=>False
noncomputable def if3 (c : TT3) (t u : TE3) : TE3:=λ ρ μ Q=>c ρ μ λ b μ1=>if b = true then t ρ μ1 Q else u ρ μ1 Q
noncomputable def nil3 : TA3:=λ _ μ Q=>Q [] μ
noncomputable def cons3 (t : TE3) (u : TA3) : TA3:=λ ρ μ Q=>t ρ μ λ d μ1=>u ρ μ1 λ ds μ2=>Q (d :: ds) μ2
noncomputable def tup3 (t : TA3) : TE3:=λ ρ μ Q=>t ρ μ λ ds μ1=>ds.length <= sizeLine /\ Q (.tup ds) μ1
noncomputable def lst3 (t : TA3) : TE3:=λ ρ μ Q=>t ρ μ λ ds μ1=>ds.length <= sizeLine /\ ∀ p,μ1 p = none -> Q (.ref p) (updM μ1 p (.lst ds))
noncomputable def call3 (sp : Sp3) (t : TA3) : TE3:=λ ρ μ Q=>t ρ μ λ ds μ1=>sp ds μ1 Q
noncomputable def mt3 (r : D -> List D -> Mu -> VK3 -> Prop) (to : TE3) (t : TA3) : TE3:=λ ρ μ Q=>to ρ μ λ x μ1=>match x with
 | .ref p=>match μ1 p with
  | some (.lst _)=>t ρ μ1 λ ds μ2=>r (.ref p) ds μ2 Q
  | _=>False
 | _=>False
noncomputable abbrev TO3:=St3 -> Mu -> (Option Int -> Mu -> Prop) -> Prop
noncomputable def np3 : TO3:=λ _ μ Q=>Q none μ
noncomputable def pt3 (t : TE3) : TO3:=λ ρ μ Q=>t ρ μ λ d μ1=>match d with
 | .int i=>Q (some i) μ1
 | _=>False
noncomputable def sl3 (r : D -> Option Int -> Option Int -> Mu -> VK3 -> Prop) (te : TE3) (tl th : TO3) : TE3:=λ ρ μ Q=>te ρ μ λ x μ1=>tl ρ μ1 λ l μ2=>th ρ μ2 λ u μ3=>r x l u μ3 Q
noncomputable def sIx3 (n d : Nat) : Option Int -> Nat
 | none=>d
 | some v=>if v < 0 then (v + (n : Int)).toNat else min v.toNat n
noncomputable def cut3 {α : Type} (xs : List α) (lo hi : Option Int) : List α:=(xs.drop (sIx3 xs.length 0 lo)).take (sIx3 xs.length xs.length hi - sIx3 xs.length 0 lo)
noncomputable def slR : D -> Option Int -> Option Int -> Mu -> VK3 -> Prop:=λ x lo hi μ Q=>match x with
 | .tup l=>Q (.tup (cut3 l lo hi)) μ
 | .str z=>z.length <= sizeLine /\ Q (.str ⟨(cut3 z.cps.toList lo hi).toArray⟩) μ
 | .ref p=>match μ p with
  | some (.lst l)=>∀ r,μ r = none -> Q (.ref r) (updM μ r (.lst (cut3 l lo hi)))
  | _=>False
 | .fls l=>∀ r,μ r = none -> Q (.ref r) (updM μ r (.lst (cut3 l lo hi)))
 | _=>False
noncomputable def next3 : TS3:=λ D ρ μ=>D.nx ρ μ
noncomputable def never3 : TS3:=λ _ _ _=>False
noncomputable def brk3 : TS3:=λ D ρ μ=>D.bk ρ μ
noncomputable def cnt3 : TS3:=λ D ρ μ=>D.ct ρ μ
noncomputable def seq3 (t u : TS3) : TS3:=λ D ρ μ=>t { D with nx:=u D } ρ μ
noncomputable def drop3 (t : TE3) : TS3:=λ D ρ μ=>t ρ μ λ _ μ1=>D.nx ρ μ1
noncomputable def ret3 (t : TE3) : TS3:=λ D ρ μ=>t ρ μ D.rt
noncomputable def retN3 : TS3:=λ D _ μ=>D.rt .non μ
noncomputable def ifs3 (c : TT3) (t u : TS3) : TS3:=λ D ρ μ=>c ρ μ λ b μ1=>if b = true then t D ρ μ1 else u D ρ μ1
noncomputable def gn3 (i : Nat) : TG3:=λ d ρ μ Q=>Q (ρ.set i (some d)) μ
noncomputable def gnil3 : TGs3:=λ ds ρ μ Q=>match ds with
 | []=>Q ρ μ
 | _=>False
noncomputable def gcons3 (t : TG3) (u : TGs3) : TGs3:=λ ds ρ μ Q=>match ds with
 | d :: r=>t d ρ μ λ ρ1 μ1=>u r ρ1 μ1 Q
 | []=>False
noncomputable def gtup3 (n : Nat) (t : TGs3) : TG3:=λ d ρ μ Q=>match d with
 | .tup l=>l.length = n /\ t l ρ μ Q
 | _=>False
noncomputable def set3 (i : Nat) (t : TE3) : TS3:=λ D ρ μ=>t ρ μ λ d μ1=>D.nx (ρ.set i (some d)) μ1
noncomputable def asg3 (t : TE3) (g : TG3) : TS3:=λ D ρ μ=>t ρ μ λ d μ1=>g d ρ μ1 D.nx
noncomputable def par3 (i j : Nat) (t : TA3) : TS3:=λ D ρ μ=>t ρ μ λ ds μ1=>match ds with
 | [v,w]=>D.nx ((ρ.set i (some v)).set j (some w)) μ1
 | _=>False
noncomputable def ixN (n : Nat) (i : Int) : Option Nat:=if 0 <= i then (if i < n then some i.toNat else none) else if -(n : Int) <= i then some (i + n).toNat else none
noncomputable def atI {α : Type} (xs : List α) (i : Int) : Option α:=(ixN xs.length i).bind λ j=>xs[j]?
noncomputable def sub3 (to ti : TE3) : TG3:=λ d ρ μ Q=>to ρ μ λ o μ1=>ti ρ μ1 λ i μ2=>match o,i with
 | .ref p,.int k=>match μ2 p with
  | some (.lst xs)=>match ixN xs.length k with
   | some j=>Q ρ (updM μ2 p (.lst (xs.set j d)))
   | none=>False
  | _=>False
 | _,_=>False
noncomputable def wz4 (S : Mu -> Prop) (g : TG3) (tb : TS3) (D' : Ends3) : List D -> St3 -> Mu -> Prop
 | [],ρ,μ=>S μ /\ D'.nx ρ μ
 | x :: r,ρ,μ=>S μ /\ ∃ N : St3 -> Mu -> Prop,(∀ ρ' μ',N ρ' μ' -> wz4 S g tb D' r ρ' μ') /\ g x ρ μ λ ρ1 μ1=>tb { D' with nx:=N,ct:=N,bk:=D'.nx } ρ1 μ1
noncomputable def for3 (ti : TI3) (g : TG3) (tb : TS3) : TS3:=λ D' ρ μ=>ti ρ μ λ l S μ1=>wz4 S g tb D' l ρ μ1
theorem xp0 {S : Mu -> Prop} {g : TG3} {tb : TS3} {D' : Ends3} (W : List D -> St3 -> Mu -> Prop) {l : List D} {ρ : St3} {μ : Mu} (h0 : W l ρ μ) (hS : ∀ l ρ μ,W l ρ μ -> S μ) (hn : ∀ ρ μ,W [] ρ μ -> D'.nx ρ μ)
    (hs : ∀ x r ρ μ,W (x :: r) ρ μ -> g x ρ μ λ ρ1 μ1=>tb { D' with nx:=W r,ct:=W r,bk:=D'.nx } ρ1 μ1) : wz4 S g tb D' l ρ μ:=by
 induction l generalizing ρ μ with
 | nil=>exact ⟨hS _ _ _ h0,hn _ _ h0⟩
 | cons x r ih=>exact ⟨hS _ _ _ h0,W r,λ ρ' μ' q=>ih q,hs x r ρ μ h0⟩
noncomputable def is3 (t : TE3) : TI3:=λ ρ μ R=>t ρ μ λ d μ1=>match d with
 | .tup l=>R l (λ _=>True) μ1
 | .fls l=>R l (λ _=>True) μ1
 | .str z=>R (z.cps.toList.map λ c=>D.str ⟨#[c]⟩) (λ _=>True) μ1
 | .ref p=>match μ1 p with
  | some (.lst l)=>R l (λ μ=>μ p = some (.lst l)) μ1
  | _=>False
 | _=>False
noncomputable def rngD (lo : Int) (n : Nat) : List D:=(List.range n).map λ i=>.int (lo + (i : Nat))
noncomputable def ir3 (t : TA3) : TI3:=λ ρ μ R=>t ρ μ λ ds μ1=>match ds with
 | [.int j]=>(-(2 ^ 62) <= j /\ j < 2 ^ 62) /\ R (rngD 0 j.toNat) (λ _=>True) μ1
 | _=>False
noncomputable def ir23 (t : TA3) : TI3:=λ ρ μ R=>t ρ μ λ ds μ1=>match ds with
 | [.int i,.int j]=>(-(2 ^ 62) <= i /\ i < 2 ^ 62 /\ -(2 ^ 62) <= j /\ j < 2 ^ 62) /\ R (rngD i (j - i).toNat) (λ _=>True) μ1
 | _=>False
noncomputable def wk3 (S : Mu -> Prop) (p : Addr) (g : TG3) (tc : TT3) (te : TE3) (Q : VK3) (l : List D) (ρ0 : St3) (μ0 : Mu) : Prop :=
 ∃ W : List D -> List D -> St3 -> Mu -> Prop,W l [] ρ0 μ0 /\ (∀ l ys ρ μ,W l ys ρ μ -> S μ /\ μ p = some (.lst ys)) /\ (∀ ys ρ μ,W [] ys ρ μ -> Q (.ref p) μ) ∧
  ∀ x r ys ρ μ,W (x :: r) ys ρ μ -> ys.length < sizeLine /\ g x ρ μ λ ρ1 μ1=>tc ρ1 μ1 λ b μ2 =>
   if b = true then te ρ1 μ2 λ d μ3=>μ3 p = some (.lst ys) /\ W r (ys ++ [d]) ρ1 (updM μ3 p (.lst (ys ++ [d]))) else W r ys ρ1 μ2
noncomputable def comp3 (js : List (Option Nat)) (ti : TI3) (g : TG3) (tc : TT3) (te : TE3) : TE3:=λ ρ μ Q=>ti ρ μ λ l S μ1=>∀ p,μ1 p = none -> wk3 S p g tc te Q l (js.map λ j=>j.bind (getI ρ)) (updM μ1 p (.lst []))
noncomputable def tt3 : TT3:=λ _ μ Q=>Q true μ
theorem ya1 {S : Mu -> Prop} {p : Addr} {te : TE3} {Q : VK3} {l : List D} {o : Option D} {rest : St3} {μ : Mu} (f : D -> D) (hp : μ p = none) (hl : l.length <= sizeLine) (hS : ∀ μ',Ext μ μ' -> S μ')
    (hx : ∀ x ∈ l,∀ μ' R,Ext μ μ' -> (∀ μ2,Ext μ' μ2 -> R (f x) μ2) -> te (some x :: rest) μ' R) (hQ : ∀ μ',Ext μ μ' -> μ' p = some (.lst (l.map f)) -> Q (.ref p) μ') :
    wk3 S p (gn3 0) tt3 te Q l (o :: rest) (updM μ p (.lst [])):=by
 refine ⟨λ r ys ρ μ'=>Ext μ μ' /\ μ' p = some (.lst ys) /\ (∃ o',ρ = o' :: rest) /\ ∃ a,a ++ r = l /\ ys = a.map f,?_,?_,?_,?_⟩
 ·exact ⟨Ext.new hp,wb0,⟨o,rfl⟩,[],rfl,rfl⟩
 ·rintro r ys ρ μ' ⟨h1,h2,_⟩
  exact ⟨hS _ h1,h2⟩
 ·rintro ys ρ μ' ⟨h1,h2,_,a,e,rfl⟩
  rw [List.append_nil] at e
  subst e
  exact hQ _ h1 h2
 ·rintro x r ys ρ μ' ⟨h1,h2,⟨o',rfl⟩,a,e,rfl⟩
  refine ⟨by rw [List.length_map]; rw [<- e,List.length_append,List.length_cons] at hl; omega,?_⟩
  show te (some x :: rest) μ' _
  refine hx x (by rw [<- e]; simp) μ' _ h1 λ μ2 h3=>⟨h3 _ _ h2,λ b u hb=>?_,wb0,⟨_,rfl⟩,a ++ [x],by simp [<- e],by simp⟩
  rw [ye0 (yg0 hb hp)]
  exact h3 _ _ (h1 _ _ hb)
noncomputable def CPow (i j : Int) : Prop:=0 <= j /\ j <= 1000000 /\ i.natAbs < 2 ^ 64
noncomputable def Big : Nat:=2 ^ 1000
noncomputable def CMul (i j : Int) : Prop:=((-(2 ^ 64) < i /\ i < 2 ^ 64) \/ (-(2 ^ 64) < j /\ j < 2 ^ 64)) \/ (i.natAbs < Big /\ j.natAbs < Big)
noncomputable def int2 (C : Int -> Int -> Prop) (g : Int -> Int -> D) : R3:=λ x y μ Q=>match x,y with
 | .int i,.int j=>C i j /\ Q (g i j) μ
 | _,_=>False
noncomputable def int20 (g : Int -> Int -> D) : R3:=λ x y μ Q=>match x,y with
 | .int i,.int j=>Q (g i j) μ
 | _,_=>False
noncomputable def subR : R3:=int20 λ i j=>.int (i - j)
noncomputable def mulR : R3:=λ x y μ Q=>match x,y with
 | .int i,.int j=>CMul i j /\ Q (.int (i * j)) μ
 | .tup l,.int k=>((-(2 ^ 62) <= k /\ k < 2 ^ 62) /\ l.length * k.toNat <= 1000000) /\ Q (.tup (List.replicate k.toNat l).flatten) μ
 | .ref p,.int k=>match μ p with
  | some (.lst l)=>((-(2 ^ 62) <= k /\ k < 2 ^ 62) /\ l.length * k.toNat <= 1000000) /\ ∀ r,μ r = none -> Q (.ref r) (updM μ r (.lst (List.replicate k.toNat l).flatten))
  | _=>False
 | _,_=>False
noncomputable def modR : R3:=int2 (λ _ j=>0 < j) λ i j=>.int (i % j)
noncomputable def fdivR : R3:=int2 (λ _ j=>0 < j /\ j < 2 ^ 120) λ i j=>.int (i / j)
noncomputable def powR : R3:=int2 CPow λ i j=>.int (i ^ j.toNat)
noncomputable def ltR : R3:=int20 λ i j=>.bl (decide (i < j))
noncomputable def leR : R3:=int20 λ i j=>.bl (decide (i <= j))
noncomputable def gtR : R3:=int20 λ i j=>.bl (decide (j < i))
noncomputable def geR : R3:=int20 λ i j=>.bl (decide (j <= i))
noncomputable def negR : D -> Mu -> VK3 -> Prop:=λ x μ Q=>match x with
 | .int i=>Q (.int (-i)) μ
 | _=>False
noncomputable def addR : R3:=λ x y μ Q=>match x,y with
 | .int i,.int j=>Q (.int (i + j)) μ
 | .str i,.str j=>i.length + j.length <= sizeLine /\ Q (.str (i ++ j)) μ
 | .ref p,.ref q=>match μ p,μ q with
  | some (.lst xs),some (.lst ys)=>xs.length + ys.length <= sizeLine /\ ∀ r,μ r = none -> Q (.ref r) (updM μ r (.lst (xs ++ ys)))
  | _,_=>False
 | .tup l,.tup m=>l.length + m.length <= sizeLine /\ Q (.tup (l ++ m)) μ
 | _,_=>False
noncomputable def eqS : D -> D -> Option Bool
 | .int i,.int j=>some (decide (i = j))
 | .bl i,.bl j=>some (decide (i = j))
 | .str i,.str j=>some (decide (i = j))
 | .non,.non=>some true
 | .non,.int _=>some false
 | .int _,.non=>some false
 | .non,.str _=>some false
 | .str _,.non=>some false
 | .int _,.str _=>some false
 | .str _,.int _=>some false
 | _,_=>none
mutual
noncomputable def dat : D -> Option PyData
 | .non=>some .none
 | .bl b=>some (.bool b)
 | .int i=>some (.int i)
 | .str x=>if PyData.strOk x = true then some (.str x) else none
 | .tup l=>match dats l with
  | some ps=>some (.tuple ps)
  | none=>none
 | _=>none
noncomputable def dats : List D -> Option (List PyData)
 | []=>some []
 | d :: r=>match dat d with
  | some p=>match dats r with
   | some ps=>some (p :: ps)
   | none=>none
  | none=>none
end
noncomputable def datM (μ : Mu) : D -> Option PyData
 | .ref p=>match μ p with
  | some (.lst l)=>match dats l with
   | some ps=>some (.list ps)
   | none=>none
  | _=>none
 | d=>dat d
noncomputable def eqR : R3:=λ x y μ Q=>match eqS x y with
 | some c=>Q (.bl c) μ
 | none=>match datM μ x,datM μ y with
  | some p,some q=>(p.depth <= 64 /\ q.depth <= 64) /\ Q (.bl (PyData.eqv p q)) μ
  | _,_=>False
noncomputable def neR : R3:=λ x y μ Q=>match eqS x y with
 | some c=>Q (.bl (!c)) μ
 | none=>match datM μ x,datM μ y with
  | some p,some q=>(p.depth <= 64 /\ q.depth <= 64) /\ Q (.bl (!PyData.eqv p q)) μ
  | _,_=>False
theorem eqR_ii (i j : Int) (μ : Mu) (Q : VK3) : eqR (.int i) (.int j) μ Q = Q (.bl (decide (i = j))) μ:=rfl
theorem eqR_ss (i j : Str) (μ : Mu) (Q : VK3) : eqR (.str i) (.str j) μ Q = Q (.bl (decide (i = j))) μ:=rfl
theorem eqR_bb (i j : Bool) (μ : Mu) (Q : VK3) : eqR (.bl i) (.bl j) μ Q = Q (.bl (decide (i = j))) μ:=rfl
theorem eqR_is (i : Int) (j : Str) (μ : Mu) (Q : VK3) : eqR (.int i) (.str j) μ Q = Q (.bl false) μ:=rfl
theorem neR_ii (i j : Int) (μ : Mu) (Q : VK3) : neR (.int i) (.int j) μ Q = Q (.bl (!decide (i = j))) μ:=rfl
theorem neR_ss (i j : Str) (μ : Mu) (Q : VK3) : neR (.str i) (.str j) μ Q = Q (.bl (!decide (i = j))) μ:=rfl
theorem neR_bb (i j : Bool) (μ : Mu) (Q : VK3) : neR (.bl i) (.bl j) μ Q = Q (.bl (!decide (i = j))) μ:=rfl
theorem zl1 {x y : D} {μ : Mu} {Q : VK3} {p q : PyData} (e : eqS x y = none) (h1 : datM μ x = some p) (h2 : datM μ y = some q) (d1 : p.depth <= 64) (d2 : q.depth <= 64) : eqR x y μ Q = Q (.bl (PyData.eqv p q)) μ:=by
 unfold eqR; rw [e]; simp only [h1,h2,d1,d2,true_and,and_self]
theorem zy3 {x y : D} {μ : Mu} {Q : VK3} {p q : PyData} (e : eqS x y = none) (h1 : datM μ x = some p) (h2 : datM μ y = some q) (d1 : p.depth <= 64) (d2 : q.depth <= 64) : neR x y μ Q = Q (.bl (!PyData.eqv p q)) μ:=by
 unfold neR; rw [e]; simp only [h1,h2,d1,d2,true_and,and_self]
noncomputable def strs? : List D -> Option (List Str)
 | []=>some []
 | .str x :: r=>match strs? r with
  | some l=>some (x :: l)
  | none=>none
 | _ :: _=>none
noncomputable def inD (neg : Bool) : R3:=λ x y μ Q=>match datM μ x,datM μ y with
 | some d,some (.list xs)=>(d.depth <= 64 /\ (PyData.list xs).depth <= 64) /\ Q (.bl (if neg then !(xs.any λ e=>PyData.eqv e d) else xs.any λ e=>PyData.eqv e d)) μ
 | some d,some (.tuple xs)=>(d.depth <= 64 /\ (PyData.tuple xs).depth <= 64) /\ Q (.bl (if neg then !(xs.any λ e=>PyData.eqv e d) else xs.any λ e=>PyData.eqv e d)) μ
 | _,_=>False
noncomputable def inR (neg : Bool) : R3:=λ x y μ Q=>match x,y with
 | .str z,.tup l=>match strs? l with
  | some zs=>Q (.bl (if neg then !zs.contains z else zs.contains z)) μ
  | none=>inD neg (.str z) (.tup l) μ Q
 | .str z,.str y=>Q (.bl (if neg then !(!(Builtin.Str.occurrences y z 0 y.length 1).isEmpty) else !(Builtin.Str.occurrences y z 0 y.length 1).isEmpty)) μ
 | x,y=>inD neg x y μ Q
noncomputable def ixR : R3:=λ x y μ Q=>match x,y with
 | .tup l,.int i=>match atI l i with
  | some d=>Q d μ
  | none=>False
 | .fls l,.int i=>match atI l i with
  | some d=>Q d μ
  | none=>False
 | .ref p,.int i=>match μ p with
  | some (.lst l)=>match atI l i with
   | some d=>Q d μ
   | none=>False
  | _=>False
 | _,_=>False
noncomputable def lenR : C3:=λ ds μ Q=>match ds with
 | [.tup l]=>Q (.int l.length) μ
 | [.fls l]=>Q (.int l.length) μ
 | [.str z]=>z.length <= sizeLine /\ Q (.int z.length) μ
 | [.ref p]=>match μ p with
  | some (.lst l)=>Q (.int l.length) μ
  | _=>False
 | _=>False
noncomputable def absR : C3:=λ ds μ Q=>match ds with
 | [.int i]=>Q (.int (if i < 0 then -i else i)) μ
 | _=>False
noncomputable def intR : C3:=λ ds μ Q=>match ds with
 | [.int i]=>Q (.int i) μ
 | [.bl b]=>Q (.int (if b then 1 else 0)) μ
 | [.str z]=>match PySem.intText? z with
  | some n=>z.length <= 640 /\ Q (.int n) μ
  | none=>False
 | _=>False
noncomputable def strR : C3:=λ ds μ Q=>match ds with
 | [.int i]=>i.natAbs.log2 < 1920 /\ Q (.str (toString i)) μ
 | _=>False
noncomputable def smt3 (r : Str -> List D -> Mu -> VK3 -> Prop) (to : TE3) (t : TA3) : TE3:=λ ρ μ Q=>to ρ μ λ x μ1=>match x with
 | .str z=>t ρ μ1 λ ds μ2=>r z ds μ2 Q
 | _=>False
noncomputable def joinR : Str -> List D -> Mu -> VK3 -> Prop:=λ z ds μ Q=>match ds with
 | [.ref p]=>match μ p with
  | some (.lst l)=>match strs? l with
   | some ys=>(z.length <= 16 /\ (ys.map (·.length)).sum + ys.length <= 1048576) /\ Q (.str (Str.join z ys)) μ
   | none=>False
  | _=>False
 | _=>False
noncomputable def splitR : Str -> List D -> Mu -> VK3 -> Prop:=λ z ds μ Q=>match ds with
 | [.str y]=>((y.length == 0) = false /\ z.length <= 1000000) /\ ∀ r,μ r = none -> Q (.ref r) (updM μ r (.lst ((Txt.split z y).map D.str)))
 | _=>False
noncomputable def startsR : Str -> List D -> Mu -> VK3 -> Prop:=λ z ds μ Q=>match ds with
 | [.str y]=>Q (.bl (Txt.startswith z y)) μ
 | _=>False
noncomputable def pop3 (to : TE3) : TE3:=λ ρ μ Q=>to ρ μ λ x μ1=>match x with
 | .ref p=>match μ1 p with
  | some (.lst l)=>match l.reverse with
   | d :: r=>Q d (updM μ1 p (.lst r.reverse))
   | []=>False
  | _=>False
 | _=>False
noncomputable def lrev3 (to : TE3) : TE3:=λ ρ μ Q=>cons3 to nil3 ρ μ λ ds μ1=>match ds with
 | [.ref p]=>match μ1 p with
  | some (.lst l)=>∀ r,μ1 r = none -> Q (.ref r) (updM μ1 r (.lst l.reverse))
  | _=>False
 | _=>False
noncomputable def tupR : C3:=λ ds μ Q=>match ds with
 | [.tup l]=>Q (.tup l) μ
 | [.ref p]=>match μ p with
  | some (.lst l)=>Q (.tup l) μ
  | _=>False
 | _=>False
noncomputable def ints? : List D -> Option (List Int)
 | []=>some []
 | .int x :: r=>match ints? r with
  | some l=>some (x :: l)
  | none=>none
 | _ :: _=>none
noncomputable def sumR : C3:=λ ds μ Q=>match ds with
 | [.ref p]=>match μ p with
  | some (.lst l)=>match ints? l with
   | some ns=>Q (.int ns.sum) μ
   | none=>False
  | _=>False
 | _=>False
noncomputable def bls? : List D -> Option (List Bool)
 | []=>some []
 | .bl x :: r=>match bls? r with
  | some l=>some (x :: l)
  | none=>none
 | _ :: _=>none
noncomputable def ltP (a b c d : Int) : Bool:=if a = c then decide (b < d) else decide (a < c)
noncomputable def minR : C3:=λ ds μ Q=>match ds with
 | [.tup [.int a,.int b],.tup [.int c,.int d]]=>Q (if ltP c d a b then .tup [.int c,.int d] else .tup [.int a,.int b]) μ
 | _=>False
noncomputable def allR : C3:=λ ds μ Q=>match ds with
 | [.ref p]=>match μ p with
  | some (.lst l)=>match bls? l with
   | some bs=>Q (.bl (bs.all id)) μ
   | none=>False
  | _=>False
 | _=>False
noncomputable def tyN (μ : Mu) : D -> Option String
 | .int _=>some "int"
 | .bl _=>some "bool"
 | .str _=>some "str"
 | .tup _=>some "tuple"
 | .non=>some "NoneType"
 | .ref p=>match μ p with
  | some (.lst _)=>some "list"
  | _=>none
 | _=>none
noncomputable def isIn (t T : String) : Option Bool :=
 if t = T then some true
 else if t = "bool" /\ T = "int" then some true
 else if (t = "int" \/ t = "str" \/ t = "tuple" \/ t = "bool" \/ t = "NoneType" \/ t = "list") /\ (T = "int" \/ T = "str" \/ T = "tuple" \/ T = "bool" \/ T = "list") then some false
 else none
noncomputable def isiR : C3:=λ ds μ Q=>match ds with
 | [d,.ty T]=>match tyN μ d with
  | some t=>match isIn t T with
   | some b=>Q (.bl b) μ
   | none=>False
  | none=>False
 | _=>False
noncomputable def appR : D -> List D -> Mu -> VK3 -> Prop:=λ x ds μ Q=>match x,ds with
 | .ref p,[d]=>match μ p with
  | some (.lst l)=>l.length < sizeLine /\ Q .non (updM μ p (.lst (l ++ [d])))
  | _=>False
 | _,_=>False
noncomputable def extR : D -> List D -> Mu -> VK3 -> Prop:=λ x ds μ Q=>match x,ds with
 | .ref p,[.ref q]=>match μ p,μ q with
  | some (.lst l),some (.lst m)=>l.length + m.length <= sizeLine /\ Q .non (updM μ p (.lst (l ++ m)))
  | _,_=>False
 | _,_=>False
theorem atI0 {α : Type} {a : α} {r : List α} : atI (a :: r) 0 = some a:=by
 unfold atI ixN; rw [if_pos (by decide),if_pos (by simp only [List.length_cons]; omega)]; rfl
theorem atI1 {α : Type} {a b : α} {r : List α} : atI (a :: b :: r) 1 = some b:=by
 unfold atI ixN; rw [if_pos (by decide),if_pos (by simp only [List.length_cons]; omega)]; rfl
theorem atI2 {α : Type} {a b c : α} {r : List α} : atI (a :: b :: c :: r) 2 = some c:=by
 unfold atI ixN; rw [if_pos (by decide),if_pos (by simp only [List.length_cons]; omega)]; rfl
theorem ixN0 {n : Nat} : ixN (n + 1) 0 = some 0:=by
 unfold ixN; rw [if_pos (by decide),if_pos (by omega)]; rfl
theorem ixN1 {n : Nat} : ixN (n + 1 + 1) 1 = some 1:=by
 unfold ixN; rw [if_pos (by decide),if_pos (by omega)]; rfl
theorem ixN2 {n : Nat} : ixN (n + 1 + 1 + 1) 2 = some 2:=by
 unfold ixN; rw [if_pos (by decide),if_pos (by omega)]; rfl
theorem yz2 {α : Type} {l : List α} {i : Int} (h0 : 0 <= i) (h1 : i < l.length) : ∃ d,d ∈ l /\ atI l i = some d:=by
 have hn : i.toNat < l.length:=by omega
 refine ⟨l[i.toNat],List.getElem_mem hn,?_⟩
 unfold atI ixN
 rw [if_pos h0,if_pos h1]
 exact List.getElem?_eq_getElem hn
noncomputable def start3 (N : List Str) (ds : List D) : St3:=ds.map some ++ List.replicate (N.length - ds.length) none
end Pv
namespace Pv
open PySem L2
noncomputable abbrev Fg:=PySem.W.Frag
structure Kp (H H' : Hp) : Prop where
 tup : ∀ b xs,H b = some (.tup xs) -> H' b = some (.tup xs)
 frz : ∀ b o u,H b = some (.frz o u) -> H' b = some (.frz o u)
theorem Kp.refl (H : Hp) : Kp H H:=⟨λ _ _ h=>h,λ _ _ _ h=>h⟩
theorem Kp.trans {a b c : Hp} (h : Kp a b) (k : Kp b c) : Kp a c:=⟨λ x xs q=>k.tup x xs (h.tup x xs q),λ x o u q=>k.frz x o u (h.frz x o u q)⟩
theorem Kp.new {H : Hp} {p : Addr} {o : HO} (h : H p = none) : Kp H (upd H p o) :=
 ⟨λ b xs q=>by rw [zf0 (yo0 q h)]; exact q,λ b o u q=>by rw [zf0 (yo0 q h)]; exact q⟩
theorem Kp.wr {H : Hp} {p : Addr} {o : HO} {xs : List V} (h : H p = some (.lst xs)) : Kp H (upd H p o) :=
 ⟨λ b ys q=>by rw [zf0 (xv4 q h (by intro z; cases z))]; exact q,λ b o u q=>by rw [zf0 (xv4 q h (by intro z; cases z))]; exact q⟩
noncomputable def SqF (K : Fg) (H : Hp) (a : Addr) (xs : List V) : Prop :=
 (∃ o,H a = some (.frz o (.lst xs))) \/ ∃ (o : Obj) (its : Array Value) (n : Nat),K.lookup a = some o /\ o.cls = .type "list" /\ o.dict = none /\ o.data = .seq its n /\ its.size <= sizeLine /\ Vals xs its.toList
theorem SqF.l {K : Fg} {H : Hp} {a : Addr} {xs : List V} (h : SqF K H a xs) : SqL K H a xs:=by
 rcases h with ⟨o,h⟩ | h
 ·exact .inl (.inr ⟨o,h⟩)
 ·exact .inr h
theorem SqF.mono {K : Fg} {H H' : Hp} {a : Addr} {xs : List V} (k : Kp H H') (h : SqF K H a xs) : SqF K H' a xs:=by
 rcases h with ⟨o,h⟩ | h
 ·exact .inl ⟨o,k.frz _ _ _ h⟩
 ·exact .inr h
theorem SqT.mono {K : Fg} {H H' : Hp} {a : Addr} {xs : List V} (k : Kp H H') (h : SqT K H a xs) : SqT K H' a xs:=by
 rcases h with h | h
 ·rcases h with h | ⟨o,h⟩
  ·exact .inl (.inl (k.tup _ _ h))
  ·exact .inl (.inr ⟨o,k.frz _ _ _ h⟩)
 ·exact .inr h
mutual
inductive RelD (K : Fg) (H : Hp) : D -> V -> Prop where
 | non : RelD K H .non .non
 | bl (b : Bool) : RelD K H (.bl b) (.bl b)
 | int (i : Int) : RelD K H (.int i) (.int i)
 | str (x : Str) : RelD K H (.str x) (.str x)
 | ref (a : Addr) : RelD K H (.ref a) (.ref a)
 | ty (n : String) : RelD K H (.ty n) (.ty n)
 | tup {a : Addr} {l : List D} {vs : List V} : SqT K H a vs -> RelDs K H l vs -> RelD K H (.tup l) (.ref a)
 | fls {a : Addr} {l : List D} {vs : List V} : SqF K H a vs -> RelDs K H l vs -> RelD K H (.fls l) (.ref a)
 | exc {a C : Addr} {c : Str} {ob : Obj} {u : HO} : H a = some (.frz ob u) -> ob.cls = .ref C -> PySem.W.nsIn K mainGlobals c = some (some (.ref C)) -> RelD K H (.exc c) (.ref a)
inductive RelDs (K : Fg) (H : Hp) : List D -> List V -> Prop where
 | nil : RelDs K H [] []
 | cons {d : D} {v : V} {l : List D} {vs : List V} : RelD K H d v -> RelDs K H l vs -> RelDs K H (d :: l) (v :: vs)
end
mutual
theorem RelD.mono {K : Fg} {H H' : Hp} (k : Kp H H') : ∀ {d : D} {v : V},RelD K H d v -> RelD K H' d v
 | _,_,.non=>.non
 | _,_,.bl b=>.bl b
 | _,_,.int b=>.int b
 | _,_,.str b=>.str b
 | _,_,.ref b=>.ref b
 | _,_,.ty b=>.ty b
 | _,_,.tup h r=>.tup (SqT.mono k h) (RelDs.mono k r)
 | _,_,.fls h r=>.fls (SqF.mono k h) (RelDs.mono k r)
 | _,_,.exc h r1 r2=>.exc (k.frz _ _ _ h) r1 r2
theorem RelDs.mono {K : Fg} {H H' : Hp} (k : Kp H H') : ∀ {d : List D} {v : List V},RelDs K H d v -> RelDs K H' d v
 | _,_,.nil=>.nil
 | _,_,.cons h r=>.cons (RelD.mono k h) (RelDs.mono k r)
end
theorem RelDs.length {K : Fg} {H : Hp} : ∀ {l : List D} {vs : List V},RelDs K H l vs -> l.length = vs.length
 | _,_,.nil=>rfl
 | _,_,.cons _ r=>congrArg (· + 1) r.length
theorem RelDs.get {K : Fg} {H : Hp} : ∀ {l : List D} {vs : List V} {i : Nat} {d : D},RelDs K H l vs -> l[i]? = some d -> ∃ v,vs[i]? = some v /\ RelD K H d v
 | _,_,_,_,.nil,e=>by simp at e
 | _,_,0,_,.cons h _,e=>by simp at e; subst e; exact ⟨_,rfl,h⟩
 | _,_,i + 1,d,.cons _ r,e=>by
  obtain ⟨v,h1,h2⟩:=RelDs.get (i:=i) (d:=d) r (by simpa using e)
  exact ⟨v,by simpa using h1,h2⟩
theorem RelDs.append {K : Fg} {H : Hp} : ∀ {l m : List D} {vs us : List V},RelDs K H l vs -> RelDs K H m us -> RelDs K H (l ++ m) (vs ++ us)
 | _,_,_,_,.nil,q=>q
 | _,_,_,_,.cons h r,q=>.cons h (RelDs.append r q)
theorem RelDs.set {K : Fg} {H : Hp} {d : D} {v : V} (hd : RelD K H d v) : ∀ {l : List D} {vs : List V} (i : Nat),RelDs K H l vs -> RelDs K H (l.set i d) (vs.set i v)
 | _,_,_,.nil=>.nil
 | _,_,0,.cons _ r=>.cons hd r
 | _,_,i + 1,.cons h r=>.cons h (RelDs.set hd i r)
theorem RelDs.rep {K : Fg} {H : Hp} {l : List D} {vs : List V} (r : RelDs K H l vs) : ∀ k : Nat,RelDs K H (List.replicate k l).flatten (List.replicate k vs).flatten
 | 0=>.nil
 | k + 1=>by rw [List.replicate_succ,List.replicate_succ,List.flatten_cons,List.flatten_cons]; exact r.append (RelDs.rep r k)
inductive RelFs (K : Fg) (H : Hp) : List (Str × D) -> List (Str × V) -> Prop where
 | nil : RelFs K H [] []
 | cons {f : Str} {d : D} {v : V} {l : List (Str × D)} {vs : List (Str × V)} : RelD K H d v -> RelFs K H l vs -> RelFs K H ((f,d) :: l) ((f,v) :: vs)
theorem RelFs.mono {K : Fg} {H H' : Hp} (k : Kp H H') {l : List (Str × D)} {vs : List (Str × V)} (r : RelFs K H l vs) : RelFs K H' l vs:=by
 induction r with
 | nil=>exact .nil
 | cons h _ ih=>exact .cons (h.mono k) ih
noncomputable def kT (t : Int × Int × Int) : List Key:=[.inl t.1,.inl t.2.1,.inl t.2.2]
inductive RelKs (K : Fg) (H : Hp) : List ((Int × Int × Int) × D) -> List (List Key × V) -> Prop where
 | nil : RelKs K H [] []
 | cons {t : Int × Int × Int} {d : D} {v : V} {l : List ((Int × Int × Int) × D)} {vs : List (List Key × V)} : RelD K H d v -> RelKs K H l vs -> RelKs K H ((t,d) :: l) ((kT t,v) :: vs)
theorem RelKs.mono {K : Fg} {H H' : Hp} (k : Kp H H') {l : List ((Int × Int × Int) × D)} {vs : List (List Key × V)} (r : RelKs K H l vs) : RelKs K H' l vs:=by
 induction r with
 | nil=>exact .nil
 | cons h _ ih=>exact .cons (h.mono k) ih
structure RelM (K : Fg) (μ : Mu) (H : Hp) : Prop where
 lst : ∀ p xs,μ p = some (.lst xs) -> ∃ vs,H p = some (.lst vs) /\ RelDs K H xs vs
 ins : ∀ p c fs,μ p = some (.ins c fs) -> ∃ C dx vs,PySem.W.nsIn K mainGlobals c = some (some (.ref C)) /\ H p = some (.ins C dx vs) /\ H dx = some (.own p) /\ RelFs K H fs vs
 dct : ∀ p kvs,μ p = some (.dct kvs) -> ∃ vs,H p = some (.dT vs) /\ RelKs K H kvs vs
instance {K : Fg} {μ : Mu} {H : Hp} : CoeFun (RelM K μ H) (λ _=>∀ p xs,μ p = some (.lst xs) -> ∃ vs,H p = some (.lst vs) /\ RelDs K H xs vs):=⟨RelM.lst⟩
theorem RelM.free {K : Fg} {μ : Mu} {H : Hp} (m : RelM K μ H) {p : Addr} (h : H p = none) : μ p = none:=by
 cases e : μ p with
 | none=>rfl
 | some o =>
  cases o with
  | lst xs =>
   obtain ⟨vs,q,_⟩:=m.lst p xs e
   rw [h] at q; cases q
  | ins c fs =>
   obtain ⟨C,dx,vs,_,q,_⟩:=m.ins p c fs e
   rw [h] at q; cases q
  | dct kvs =>
   obtain ⟨vs,q,_⟩:=m.dct p kvs e
   rw [h] at q; cases q
theorem RelM.newT {K : Fg} {μ : Mu} {H : Hp} {p : Addr} {o : HO} (h : H p = none) (m : RelM K μ H) : RelM K μ (upd H p o):=by
 have ne : ∀ {q : Addr} {u : HO},H q = some u -> q ≠ p:=λ {q u} e z=>by subst z; rw [h] at e; cases e
 refine ⟨λ q xs e=>?_,λ q c fs e=>?_,λ q kvs e=>?_⟩
 ·obtain ⟨vs,q1,r⟩:=m.lst q xs e
  exact ⟨vs,by rw [zf0 (ne q1)]; exact q1,r.mono (Kp.new h)⟩
 ·obtain ⟨C,dx,vs,n,q1,q2,r⟩:=m.ins q c fs e
  exact ⟨C,dx,vs,n,by rw [zf0 (ne q1)]; exact q1,by rw [zf0 (ne q2)]; exact q2,r.mono (Kp.new h)⟩
 ·obtain ⟨vs,q1,r⟩:=m.dct q kvs e
  exact ⟨vs,by rw [zf0 (ne q1)]; exact q1,r.mono (Kp.new h)⟩
theorem RelM.newL {K : Fg} {μ : Mu} {H : Hp} {p : Addr} {xs : List D} {vs : List V} (h : H p = none) (r : RelDs K H xs vs) (m : RelM K μ H) : RelM K (updM μ p (.lst xs)) (upd H p (.lst vs)):=by
 have m':=m.newT (o:=.lst vs) h
 refine ⟨λ q ys e=>?_,λ q c fs e=>?_,λ q kvs e=>?_⟩
 ·by_cases z : q = p
  ·subst z
   rw [wb0] at e; cases e
   exact ⟨vs,yj0,r.mono (Kp.new h)⟩
  ·rw [ye0 z] at e
   exact m'.lst q ys e
 ·by_cases z : q = p
  ·subst z
   rw [wb0] at e; cases e
  ·rw [ye0 z] at e
   exact m'.ins q c fs e
 ·by_cases z : q = p
  ·subst z
   rw [wb0] at e; cases e
  ·rw [ye0 z] at e
   exact m'.dct q kvs e
theorem RelM.wr {K : Fg} {μ : Mu} {H : Hp} {p : Addr} {xs : List D} {vs ws : List V} (h : H p = some (.lst ws)) (r : RelDs K H xs vs) (m : RelM K μ H) : RelM K (updM μ p (.lst xs)) (upd H p (.lst vs)):=by
 refine ⟨λ q ys e=>?_,λ q c fs e=>?_,λ q kvs e=>?_⟩
 ·by_cases z : q = p
  ·subst z
   rw [wb0] at e; cases e
   exact ⟨vs,yj0,r.mono (Kp.wr h)⟩
  ·rw [ye0 z] at e
   rw [zf0 z]
   obtain ⟨us,q1,r1⟩:=m.lst q ys e
   exact ⟨us,q1,r1.mono (Kp.wr h)⟩
 ·by_cases z : q = p
  ·subst z
   rw [wb0] at e; cases e
  ·rw [ye0 z] at e
   obtain ⟨C,dx,us,n,q1,q2,r1⟩:=m.ins q c fs e
   refine ⟨C,dx,us,n,by rw [zf0 z]; exact q1,?_,r1.mono (Kp.wr h)⟩
   rw [zf0]
   ·exact q2
   ·intro y; subst y; rw [h] at q2; cases q2
 ·by_cases z : q = p
  ·subst z
   rw [wb0] at e; cases e
  ·rw [ye0 z] at e
   rw [zf0 z]
   obtain ⟨us,q1,r1⟩:=m.dct q kvs e
   exact ⟨us,q1,r1.mono (Kp.wr h)⟩
structure RSt (K : Fg) (H : Hp) (ρ : St3) (σ : St) : Prop where
 len : ρ.length = σ.length
 at' : ∀ i d,getI ρ i = some d -> ∃ v,σ[i]? = some (some v) /\ RelD K H d v
theorem RSt.mono {K : Fg} {H H' : Hp} {ρ : St3} {σ : St} (k : Kp H H') (s : RSt K H ρ σ) : RSt K H' ρ σ:=⟨s.len,λ i d e=>let ⟨v,h,r⟩:=s.at' i d e; ⟨v,h,r.mono k⟩⟩
theorem wd2 : ∀ (ρ : St3) (i j : Nat) (d : Option D),getI (ρ.set i d) j = if i = j /\ i < ρ.length then d else getI ρ j
 | [],i,j,d=>by simp [getI]
 | o :: r,0,0,d=>by simp [getI]
 | o :: r,0,j + 1,d=>by simp [getI]
 | o :: r,i + 1,0,d=>by simp [getI]
 | o :: r,i + 1,j + 1,d=>by simp only [List.set_cons_succ,getI,wd2 r i j d,List.length_cons]; simp
theorem RSt.set {K : Fg} {H : Hp} {ρ : St3} {σ : St} {d : D} {v : V} (i : Nat) (r : RelD K H d v) (s : RSt K H ρ σ) : RSt K H (ρ.set i (some d)) (σ.set i (some v)):=by
 refine ⟨by simp [s.len],λ j e h=>?_⟩
 rw [wd2] at h
 split at h
 ·next c =>
  obtain ⟨rfl,c2⟩:=c
  cases h
  exact ⟨v,by rw [List.getElem?_set_self (by rw [<- s.len]; exact c2)],r⟩
 ·next c =>
  obtain ⟨u,q,r'⟩:=s.at' j e h
  have hj : j < σ.length:=(List.getElem?_eq_some_iff.mp q).1
  by_cases z : i = j
  ·subst z; exact absurd ⟨rfl,by rw [s.len]; exact hj⟩ c
  ·exact ⟨u,by rw [List.getElem?_set_ne z]; exact q,r'⟩
theorem RSt.start {K : Fg} {H : Hp} {ds : List D} {vs : List V} (N : List Str) (r : RelDs K H ds vs) : RSt K H (start3 N ds) (L2.start N vs):=by
 have hl:=r.length
 refine ⟨by simp [start3,L2.start,hl],λ i d e=>?_⟩
 rw [zq2] at e
 unfold start3 at e
 unfold L2.start
 by_cases c : i < ds.length
 ·rw [List.getElem?_append_left (by simpa using c),List.getElem?_map] at e
  cases q : ds[i]? with
  | none=>rw [q] at e; cases e
  | some d' =>
   rw [q] at e
   have e' : d' = d:=by simpa using e
   subst e'
   obtain ⟨v,h1,h2⟩:=r.get q
   exact ⟨v,by rw [List.getElem?_append_left (by rw [List.length_map]; omega),List.getElem?_map,h1]; rfl,h2⟩
 ·rw [List.getElem?_append_right (by simpa using c),List.getElem?_replicate] at e
  split at e <;> simp at e
noncomputable abbrev Ks (K : Fg) (H : Hp) (Q3 : VK3) (Q : VK) : Prop:=∀ d μ' v H',Q3 d μ' -> Kp H H' -> RelD K H' d v -> RelM K μ' H' -> Q v H'
theorem Ks.after {K : Fg} {H H1 : Hp} {Q3 : VK3} {Q : VK} (k : Ks K H Q3 Q) (e : Kp H H1) : Ks K H1 Q3 Q:=λ d μ v H' q e'=>k d μ v H' q (e.trans e')
noncomputable def RdE (K : Fg) (tv : TE) (t : TE3) : Prop:=∀ σ H Q ρ μ Q3,RSt K H ρ σ -> RelM K μ H -> t ρ μ Q3 -> Ks K H Q3 Q -> tv σ H Q
noncomputable def RE (X : Cx) (e : Expr) (t : TE3) : Prop:=∃ tv,PE X e tv /\ RdE X.K tv t
noncomputable def RdT (K : Fg) (tv : TT) (t : TT3) : Prop:=∀ σ H Q ρ μ Q3,RSt K H ρ σ -> RelM K μ H -> t ρ μ Q3 -> (∀ b μ' H',Q3 b μ' -> Kp H H' -> RelM K μ' H' -> Q b H') -> tv σ H Q
noncomputable def RT (X : Cx) (e : Expr) (t : TT3) : Prop:=∃ tv,PT X e tv /\ RdT X.K tv t
noncomputable def RW (X : Cx) (e : Expr) (t : TT3) : Prop:=∃ tv,PW X e tv /\ RdT X.K tv t
noncomputable def RdA (K : Fg) (tv : TA) (t : TA3) : Prop:=∀ σ H Q ρ μ Q3,RSt K H ρ σ -> RelM K μ H -> t ρ μ Q3 -> (∀ ds μ' vs H',Q3 ds μ' -> Kp H H' -> RelDs K H' ds vs -> RelM K μ' H' -> Q vs H') -> tv σ H Q
noncomputable def RA (X : Cx) (es : List Expr) (t : TA3) : Prop:=∃ tv,PA X es tv /\ RdA X.K tv t
structure KsD (K : Fg) (H : Hp) (D3 : Ends3) (D : Ends) : Prop where
 nx : ∀ ρ μ σ H',D3.nx ρ μ -> Kp H H' -> RSt K H' ρ σ -> RelM K μ H' -> D.nx σ H'
 bk : ∀ ρ μ σ H',D3.bk ρ μ -> Kp H H' -> RSt K H' ρ σ -> RelM K μ H' -> D.bk σ H'
 ct : ∀ ρ μ σ H',D3.ct ρ μ -> Kp H H' -> RSt K H' ρ σ -> RelM K μ H' -> D.ct σ H'
 rt : Ks K H D3.rt D.rt
theorem KsD.after {K : Fg} {H H1 : Hp} {D3 : Ends3} {D : Ends} (k : KsD K H D3 D) (e : Kp H H1) : KsD K H1 D3 D :=
 ⟨λ ρ μ σ H' q e'=>k.nx ρ μ σ H' q (e.trans e'),λ ρ μ σ H' q e'=>k.bk ρ μ σ H' q (e.trans e'),λ ρ μ σ H' q e'=>k.ct ρ μ σ H' q (e.trans e'),k.rt.after e⟩
noncomputable def RdS (K : Fg) (tv : TS) (t : TS3) : Prop:=∀ σ H D ρ μ D3,RSt K H ρ σ -> RelM K μ H -> t D3 ρ μ -> KsD K H D3 D -> tv D σ H
noncomputable def RS (X : Cx) (st : Stmt) (t : TS3) : Prop:=∃ tv,PS X st tv /\ RdS X.K tv t
noncomputable def RSs (X : Cx) (st : List Stmt) (t : TS3) : Prop:=∃ tv,PSs X st tv /\ RdS X.K tv t
noncomputable def RdG (K : Fg) (tv : TG) (t : TG3) : Prop:=∀ v d σ H Q ρ μ Q3,RSt K H ρ σ -> RelM K μ H -> RelD K H d v -> t d ρ μ Q3 -> (∀ ρ' μ' σ' H',Q3 ρ' μ' -> Kp H H' -> RSt K H' ρ' σ' -> RelM K μ' H' -> Q σ' H') -> tv v σ H Q
noncomputable def RG (X : Cx) (e : Expr) (t : TG3) : Prop:=∃ tv,PG X e tv /\ RdG X.K tv t
noncomputable def RdGs (K : Fg) (tv : TGs) (t : TGs3) : Prop:=∀ vs ds σ H Q ρ μ Q3,RSt K H ρ σ -> RelM K μ H -> RelDs K H ds vs -> t ds ρ μ Q3 -> (∀ ρ' μ' σ' H',Q3 ρ' μ' -> Kp H H' -> RSt K H' ρ' σ' -> RelM K μ' H' -> Q σ' H') -> tv vs σ H Q
noncomputable def RGs (X : Cx) (es : List Expr) (t : TGs3) : Prop:=∃ tv,PGs X es tv /\ RdGs X.K tv t
noncomputable def RdO (K : Fg) (r : R2) (r3 : R3) : Prop:=∀ x y v u H Q μ Q3,RelM K μ H -> RelD K H x v -> RelD K H y u -> r3 x y μ Q3 -> Ks K H Q3 Q -> r v u H Q
noncomputable def RO (X : Cx) (f : Value -> Value -> Sem Value) (r3 : R3) : Prop:=∃ r,OpR X f r /\ RdO X.K r r3
noncomputable def RdU (K : Fg) (r : V -> Hp -> VK -> Prop) (r3 : D -> Mu -> VK3 -> Prop) : Prop:=∀ x v H Q μ Q3,RelM K μ H -> RelD K H x v -> r3 x μ Q3 -> Ks K H Q3 Q -> r v H Q
noncomputable def RU (X : Cx) (f : Value -> Sem Value) (r3 : D -> Mu -> VK3 -> Prop) : Prop:=∃ r,UnR X f r /\ RdU X.K r r3
noncomputable def RdC (K : Fg) (r : List V -> Hp -> VK -> Prop) (r3 : C3) : Prop:=∀ xs vs H Q μ Q3,RelM K μ H -> RelDs K H xs vs -> r3 xs μ Q3 -> Ks K H Q3 Q -> r vs H Q
noncomputable def RC (X : Cx) (f : Value) (r3 : C3) : Prop:=∃ r,CallR X f r /\ RdC X.K r r3
noncomputable def RX (X : Cx) (r3 : R3) : Prop:=∃ r,IxR X r /\ RdO X.K r r3
end Pv
namespace Pv
open PySem L2
section
variable {X : Cx} {a b c e : Expr} {ta tb tc te : TE3} {pos : Pos}
theorem ya0 (i : Nat) {x : Str} (hN : X.N[i]? = some x:=by rfl) (hv : Vis X.env.scope x:=by first | exact Or.inl rfl | exact Or.inr (Or.inl rfl) | exact Or.inr (Or.inr rfl)) (hd : (x == ("__debug__" : Str)) = false:=by decide)
    (hcd : (x == ("__classdict__" : Str)) = false:=by decide) : RE X (.Name x pos) (v3 i):=by
 refine ⟨_,zs7 hN hv hd hcd,λ σ H Q ρ μ Q3 s m h k=>?_⟩
 unfold v3 at h
 cases q : getI ρ i with
 | none=>rw [q] at h; exact h.elim
 | some d =>
  rw [q] at h
  obtain ⟨v,e,r⟩:=s.at' i d q
  exact ⟨v,e,k d μ v H h (Kp.refl H) r m⟩
theorem RdE.cst {K : Fg} {d : D} {v : V} (r : ∀ H,RelD K H d v) : RdE K (tC v) (c3 d):=λ σ H Q ρ μ Q3 s m h k=>k d μ v H h (Kp.refl H) (r H) m
theorem za0 {i : Int} {j} : RE X (.Constant (.int i) j pos) (c3 (.int i)):=⟨_,yu7,RdE.cst λ _=>.int i⟩
theorem yb2 {i : Bool} {j} : RE X (.Constant (.bool i) j pos) (c3 (.bl i)):=⟨_,xt8,RdE.cst λ _=>.bl i⟩
theorem xo0 {j} : RE X (.Constant .none j pos) (c3 .non):=⟨_,wt7,RdE.cst λ _=>.non⟩
theorem yq0 {x : Str} {j} : RE X (.Constant (.str x) j pos) (c3 (.str x)):=⟨_,xt7,RdE.cst λ _=>.str x⟩
noncomputable def Gd (K : Fg) (mg : Str -> Option Value) (x : Str) (d : D) : Prop:=∃ u v,mg x = some u /\ RelV v u /\ ∀ H,RelD K H d v
theorem re_g {x : Str} {d : D} (g : Gd X.K X.mg x d) (hg : Gl X x:=by rfl) (hd : (x == ("__debug__" : Str)) = false:=by decide) : RE X (.Name x pos) (c3 d):=by
 obtain ⟨u,v,hm,r,rd⟩:=g
 exact ⟨_,wz5 hg hm r hd,RdE.cst rd⟩
theorem wh3 {x : Str} {T : String} (hm : X.mg x = none) (hv : bootBuiltins x = some (.type T)) (hg : Gl X x:=by rfl) (hn : x ≠ "__name__" := by decide) (hd : (x == ("__debug__" : Str)) = false:=by decide) : RE X (.Name x pos) (c3 (.ty T)) :=
 ⟨_,wv3 hg hm hv (show RelV (.ty T) (.type T) from rfl) hn hd,RdE.cst λ _=>.ty T⟩
theorem zc0 {op : Operator} {r3 : R3} (ho : RO X (binaryOp op) r3) (ha : RE X a ta) (hb : RE X b tb) : RE X (.BinOp a op b pos) (o3 r3 ta tb):=by
 obtain ⟨r,po,ro⟩:=ho
 obtain ⟨va,pa,ra⟩:=ha
 obtain ⟨vb,pb,rb⟩:=hb
 exact ⟨_,ys8 po pa pb,λ σ H Q ρ μ Q3 s m h k=>ra σ H _ ρ μ _ s m h λ x μ1 v H1 h1 k1 r1 m1=>rb σ H1 _ ρ μ1 _ (s.mono k1) m1 h1 λ y μ2 u H2 h2 k2 r2 m2 =>
  ro x y v u H2 Q μ2 Q3 m2 (r1.mono k2) r2 h2 (k.after (k1.trans k2))⟩
theorem zv1 {op : UnaryOp} {r3 : D -> Mu -> VK3 -> Prop} (ho : RU X (unaryOp op) r3) (ha : RE X a ta) : RE X (.UnaryOp op a pos) (un3 r3 ta):=by
 obtain ⟨r,po,ro⟩:=ho
 obtain ⟨va,pa,ra⟩:=ha
 exact ⟨_,xs8 po pa,λ σ H Q ρ μ Q3 s m h k=>ra σ H _ ρ μ _ s m h λ x μ1 v H1 h1 k1 r1 m1=>ro x v H1 Q μ1 Q3 m1 r1 h1 (k.after k1)⟩
theorem RdE.op {K : Fg} {r : R2} {r3 : R3} {va vb : TE} (ra : RdE K va ta) (rb : RdE K vb tb) (ro : RdO K r r3) : RdE K (tOp r va vb) (o3 r3 ta tb):=λ σ H Q ρ μ Q3 s m h k =>
 ra σ H _ ρ μ _ s m h λ x μ1 v H1 h1 k1 r1 m1=>rb σ H1 _ ρ μ1 _ (s.mono k1) m1 h1 λ y μ2 u H2 h2 k2 r2 m2=>ro x y v u H2 Q μ2 Q3 m2 (r1.mono k2) r2 h2 (k.after (k1.trans k2))
theorem RdT.test {K : Fg} {va : TE} (ra : RdE K va ta) : RdT K (wq5 va) (b3 ta):=λ σ H Q ρ μ Q3 s m h k=>by
 refine ra σ H _ ρ μ _ s m h λ d μ1 v H1 h1 k1 r1 m1=>?_
 cases r1 with
 | bl c=>exact ⟨c,rfl,k c μ1 H1 h1 k1 m1⟩
 | _=>exact False.elim h1
theorem zb1 {op : CmpOp} {r3 : R3} (ho : RO X (compareOp op) r3) (ha : RE X a ta) (hb : RE X b tb) (hm : behindInMarks op b = false:=by first | exact yi5 _ | with_unfolding_all rfl) : RE X (.Compare a [op] [b] pos) (o3 r3 ta tb):=by
 obtain ⟨r,po,ro⟩:=ho
 obtain ⟨va,pa,ra⟩:=ha
 obtain ⟨vb,pb,rb⟩:=hb
 exact ⟨_,ya6 po pa pb hm,ra.op rb ro⟩
theorem ze0 {op : CmpOp} {r3 : R3} (ho : RO X (compareOp op) r3) (ha : RE X a ta) (hb : RE X b tb) (hm : behindInMarks op b = false:=by first | exact yi5 _ | with_unfolding_all rfl) : RT X (.Compare a [op] [b] pos) (b3 (o3 r3 ta tb)):=by
 obtain ⟨r,po,ro⟩:=ho
 obtain ⟨va,pa,ra⟩:=ha
 obtain ⟨vb,pb,rb⟩:=hb
 exact ⟨_,xx5 po pa pb hm,RdT.test (ra.op rb ro)⟩
theorem xx1 (ha : RE X a ta) (he : ∀ whole,isTrue a X.env whole = (do let v <- whole; standAt a.pos; holding [v] (truthy v)):=by intro _; rfl) : RT X a (b3 ta):=by
 obtain ⟨va,pa,ra⟩:=ha
 exact ⟨_,zp7 pa he,RdT.test ra⟩
variable {tA tB' : TT3} {rest : List Expr}
theorem RW.pt (h : RW X a tA) : RT X a tA:=let ⟨t,p,r⟩:=h; ⟨t,p.pt,r⟩
theorem zm1 (h : RW X a tA) : RT X a tA:=h.pt
theorem zu0 (h : RT X a tA) : RW X (.BoolOp .And [a] pos) tA:=let ⟨t,p,r⟩:=h; ⟨t,yw5 p,r⟩
theorem zh5 (h : RT X a tA) : RW X (.BoolOp .Or [a] pos) tA:=let ⟨t,p,r⟩:=h; ⟨t,xp7 p,r⟩
theorem yy0 (ha : RT X a tA) (hb : RW X (.BoolOp .And (b :: rest) pos) tB') : RW X (.BoolOp .And (a :: b :: rest) pos) (and3 tA tB'):=by
 obtain ⟨va,pa,ra⟩:=ha
 obtain ⟨vb,pb,rb⟩:=hb
 refine ⟨_,yp7 pa pb,λ σ H Q ρ μ Q3 s m h k=>ra σ H _ ρ μ _ s m h λ c μ1 H1 h1 k1 m1=>?_⟩
 cases c with
 | true=>exact rb σ H1 Q ρ μ1 Q3 (s.mono k1) m1 h1 λ b μ' H' q e=>k b μ' H' q (k1.trans e)
 | false=>exact k _ _ _ h1 k1 m1
theorem zx6 (ha : RT X a tA) (hb : RW X (.BoolOp .Or (b :: rest) pos) tB') : RW X (.BoolOp .Or (a :: b :: rest) pos) (or3 tA tB'):=by
 obtain ⟨va,pa,ra⟩:=ha
 obtain ⟨vb,pb,rb⟩:=hb
 refine ⟨_,wq8 pa pb,λ σ H Q ρ μ Q3 s m h k=>ra σ H _ ρ μ _ s m h λ c μ1 H1 h1 k1 m1=>?_⟩
 cases c with
 | true=>exact k _ _ _ h1 k1 m1
 | false=>exact rb σ H1 Q ρ μ1 Q3 (s.mono k1) m1 h1 λ b μ' H' q e=>k b μ' H' q (k1.trans e)
theorem yh2 (ha : RT X a tA) : RT X (.UnaryOp .Not a pos) (not3 tA):=by
 obtain ⟨va,pa,ra⟩:=ha
 exact ⟨_,wp7 pa,λ σ H Q ρ μ Q3 s m h k=>ra σ H _ ρ μ _ s m h λ c μ1 H1 h1 k1 m1=>k _ _ _ h1 k1 m1⟩
theorem zx1 {op} (h : RE X a ta) : RE X (.BoolOp op [a] pos) ta:=let ⟨t,p,r⟩:=h; ⟨t,yt7 p,r⟩
theorem xm1 (ha : RE X a ta) (hb : RE X (.BoolOp .And (b :: rest) pos) tb) : RE X (.BoolOp .And (a :: b :: rest) pos) (andV3 ta tb):=by
 obtain ⟨va,pa,ra⟩:=ha
 obtain ⟨vb,pb,rb⟩:=hb
 refine ⟨_,wu7 pa pb,λ σ H Q ρ μ Q3 s m h k=>ra σ H _ ρ μ _ s m h λ d μ1 v H1 h1 k1 r1 m1=>?_⟩
 cases r1 with
 | bl c =>
  refine ⟨c,rfl,?_⟩
  cases c with
  | true=>exact rb σ H1 Q ρ μ1 Q3 (s.mono k1) m1 h1 (k.after k1)
  | false=>exact k _ _ _ _ h1 k1 (.bl _) m1
 | _=>exact False.elim h1
theorem zf7 (ha : RE X a ta) : RE X (.UnaryOp .Not a pos) (notV3 ta):=by
 obtain ⟨va,pa,ra⟩:=ha
 refine ⟨_,zt7 pa,λ σ H Q ρ μ Q3 s m h k=>ra σ H _ ρ μ _ s m h λ d μ1 v H1 h1 k1 r1 m1=>?_⟩
 cases r1 with
 | bl c=>exact ⟨c,rfl,k _ _ _ _ h1 k1 (.bl _) m1⟩
 | _=>exact False.elim h1
theorem wf7 (hc : RT X c tA) (ha : RE X a ta) (hb : RE X b tb) : RE X (.IfExp c a b pos) (if3 tA ta tb):=by
 obtain ⟨vc,pc,rc⟩:=hc
 obtain ⟨va,pa,ra⟩:=ha
 obtain ⟨vb,pb,rb⟩:=hb
 refine ⟨_,wt4 pc pa pb,λ σ H Q ρ μ Q3 s m h k=>rc σ H _ ρ μ _ s m h λ c μ1 H1 h1 k1 m1=>?_⟩
 cases c with
 | true=>exact ra σ H1 Q ρ μ1 Q3 (s.mono k1) m1 h1 (k.after k1)
 | false=>exact rb σ H1 Q ρ μ1 Q3 (s.mono k1) m1 h1 (k.after k1)
variable {es : List Expr} {t : TA3}
theorem yb0 : RA X [] nil3:=⟨_,xi5,λ σ H Q ρ μ Q3 s m h k=>k [] μ [] H h (Kp.refl H) .nil m⟩
theorem xa0 (ha : RE X e te) (hr : RA X es t) (hs : starEach (e :: es) X.env = (false,eval e X.env) :: starEach es X.env:=by rfl) : RA X (e :: es) (cons3 te t):=by
 obtain ⟨va,pa,ra⟩:=ha
 obtain ⟨vb,pb,rb⟩:=hr
 exact ⟨_,wo2 pa pb hs,λ σ H Q ρ μ Q3 s m h k=>ra σ H _ ρ μ _ s m h λ d μ1 v H1 h1 k1 r1 m1=>rb σ H1 _ ρ μ1 _ (s.mono k1) m1 h1 λ ds μ2 vs H2 h2 k2 r2 m2 =>
  k _ _ _ _ h2 (k1.trans k2) (.cons (r1.mono k2) r2) m2⟩
theorem xf0 {x1} (h : RA X es t) : RE X (.Tuple es x1 pos) (tup3 t):=by
 obtain ⟨va,pa,ra⟩:=h
 refine ⟨_,ws7 pa,λ σ H Q ρ μ Q3 s m h k=>ra σ H _ ρ μ _ s m h λ ds μ1 vs H1 h1 k1 r1 m1=>⟨by rw [<- r1.length]; exact h1.1,λ p hp=>?_⟩⟩
 exact k _ _ _ _ h1.2 (k1.trans (Kp.new hp)) (.tup (SqT.of yj0) (r1.mono (Kp.new hp))) (m1.newT hp)
theorem yp0 (h : RA X es t) : RE X (.List es pos) (lst3 t):=by
 obtain ⟨va,pa,ra⟩:=h
 refine ⟨_,xu7 pa,λ σ H Q ρ μ Q3 s m h k=>ra σ H _ ρ μ _ s m h λ ds μ1 vs H1 h1 k1 r1 m1=>⟨by rw [<- r1.length]; exact h1.1,λ p hp=>?_⟩⟩
 exact k _ _ _ _ (h1.2 p (m1.free hp)) (k1.trans (Kp.new hp)) (.ref p) (m1.newL hp r1)
variable {st : Stmt} {sts : List Stmt} {t3 u3 : TS3}
theorem wd0 : RSs X [] next3:=⟨_,zx5,λ σ H D ρ μ D3 s m h k=>k.nx ρ μ σ H h (Kp.refl H) s m⟩
theorem zb0 (h : RS X st t3) : RSs X [st] t3:=let ⟨t,p,r⟩:=h; ⟨t,yx5 p,r⟩
theorem xb0 (h1 : RS X st t3) (h2 : RSs X sts u3) : RSs X (st :: sts) (seq3 t3 u3):=by
 obtain ⟨va,pa,ra⟩:=h1
 obtain ⟨vb,pb,rb⟩:=h2
 refine ⟨_,ys4 pa pb,λ σ H D ρ μ D3 s m h k=>ra σ H _ ρ μ _ s m h ⟨λ ρ1 μ1 σ1 H1 h1 k1 s1 m1=>rb σ1 H1 D ρ1 μ1 D3 s1 m1 h1 (k.after k1),k.bk,k.ct,k.rt⟩⟩
theorem xr0 : RS X st never3:=⟨_,xt4,λ σ H D ρ μ D3 s m h k=>h⟩
theorem wu0 (he : RE X e te) (hs : swapsWith e none pos.line X.env = pure false:=by rfl) : RS X (.Expr e pos) (drop3 te):=by
 obtain ⟨va,pa,ra⟩:=he
 exact ⟨_,xy5 pa hs,λ σ H D ρ μ D3 s m h k=>ra σ H _ ρ μ _ s m h λ d μ1 v H1 h1 k1 r1 m1=>k.nx ρ μ1 σ H1 h1 k1 (s.mono k1) m1⟩
theorem zd0 (he : RE X e te) : RS X (.Return (some e) pos) (ret3 te):=by
 obtain ⟨va,pa,ra⟩:=he
 exact ⟨_,yq7 pa,λ σ H D ρ μ D3 s m h k=>ra σ H _ ρ μ _ s m h k.rt⟩
theorem wg0 {as bs : List Stmt} (hc : RT X c tA) (ha : RSs X as t3) (hb : RSs X bs u3) : RS X (.If c as bs pos) (ifs3 tA t3 u3):=by
 obtain ⟨vc,pc,rc⟩:=hc
 obtain ⟨va,pa,ra⟩:=ha
 obtain ⟨vb,pb,rb⟩:=hb
 refine ⟨_,xr8 pc pa pb,λ σ H D ρ μ D3 s m h k=>rc σ H _ ρ μ _ s m h λ c μ1 H1 h1 k1 m1=>?_⟩
 cases c with
 | true=>exact ra σ H1 D ρ μ1 D3 (s.mono k1) m1 h1 (k.after k1)
 | false=>exact rb σ H1 D ρ μ1 D3 (s.mono k1) m1 h1 (k.after k1)
theorem we0 {i : Nat} {x : Str} (hN : X.N.Nodup) (hi : X.N[i]? = some x:=by rfl) (hx : Loc X.env.scope x:=by first | exact Or.inl rfl | exact Or.inr rfl) (hf : X.fn x = true \/ X.env.scope.names.lookup x = some .local:=by first | exact .inl rfl | exact .inr rfl) :
    RG X (.Name x pos) (gn3 i):=⟨_,wy5 hN hi hx hf,λ v d σ H Q ρ μ Q3 s m r h k=>k _ _ _ _ h (Kp.refl H) (s.set i r) m⟩
theorem zy0 : RGs X [] gnil3:=⟨_,zy5,λ vs ds σ H Q ρ μ Q3 s m r h k=>by
 cases r with
 | nil=>exact ⟨rfl,k _ _ _ _ h (Kp.refl H) s m⟩
 | cons _ _=>exact False.elim h⟩
theorem xh0 {g : TG3} {gs : TGs3} (h1 : RG X e g) (h2 : RGs X es gs) (hs : (assignEach (e :: es) X.env).map (·.2) = assign e X.env :: (assignEach es X.env).map (·.2):=by rfl) : RGs X (e :: es) (gcons3 g gs):=by
 obtain ⟨va,pa,ra⟩:=h1
 obtain ⟨vb,pb,rb⟩:=h2
 refine ⟨_,yt4 pa pb hs,λ vs ds σ H Q ρ μ Q3 s m r h k=>?_⟩
 cases r with
 | nil=>exact False.elim h
 | cons r1 r2=>exact ⟨_,_,rfl,ra _ _ σ H _ ρ μ _ s m r1 h λ ρ1 μ1 σ1 H1 h1 k1 s1 m1=>rb _ _ σ1 H1 Q ρ1 μ1 Q3 s1 m1 (r2.mono k1) h1 λ ρ' μ' σ' H' q e=>k ρ' μ' σ' H' q (k1.trans e)⟩
theorem wl1 {kk : Nat} {gs : TGs3} {n : Nat} (hc : X.calm = true) (h : RGs X es gs) (hn : (assignEach es X.env).length = n:=by rfl) (hst : (assignEach es X.env).findIdx? (·.1) = none:=by rfl) : RG X (.Tuple es kk pos) (gtup3 n gs):=by
 obtain ⟨va,pa,ra⟩:=h
 refine ⟨_,xs7 hc pa hn hst,λ v d σ H Q ρ μ Q3 s m r h k=>?_⟩
 cases r with
 | tup hq rs =>
  obtain ⟨hl,h⟩:=h
  exact ⟨_,_,rfl,hq,by rw [<- rs.length]; exact hl,ra _ _ σ H Q ρ μ Q3 s m rs h k⟩
 | _=>exact False.elim h
theorem wc0 {i : Nat} {x : Str} {pos' : Pos} (hN : X.N.Nodup) (he : RE X e te) (hi : X.N[i]? = some x:=by rfl) (hx : Loc X.env.scope x:=by first | exact Or.inl rfl | exact Or.inr rfl) (hs : swapsWith e (some (.Name x pos')) pos.line X.env = pure false:=by rfl)
    (hf : X.fn x = true \/ X.env.scope.names.lookup x = some .local:=by first | exact .inl rfl | exact .inr rfl) : RS X (.Assign [.Name x pos'] e pos) (set3 i te):=by
 obtain ⟨va,pa,ra⟩:=he
 exact ⟨_,xq7 hN hi hx pa hs hf,λ σ H D ρ μ D3 s m h k=>ra σ H _ ρ μ _ s m h λ d μ1 v H1 h1 k1 r1 m1=>k.nx _ _ _ _ h1 k1 ((s.mono k1).set i r1) m1⟩
theorem yx1 {tg : Expr} {g : TG3} (he : RE X e te) (hg : RG X tg g) (hs : swapsWithSole [tg] e pos.line X.env = pure false:=by rfl) (hw : swappedStores [tg] e X.env = pure none:=by rfl)
    (h1 : (assignEach [tg] X.env).map (·.2) = [assign tg X.env]:=by rfl) : RS X (.Assign [tg] e pos) (asg3 te g):=by
 obtain ⟨va,pa,ra⟩:=he
 obtain ⟨vg,pg,rg⟩:=hg
 exact ⟨_,xr7 pa pg hs hw h1,λ σ H D ρ μ D3 s m h k=>ra σ H _ ρ μ _ s m h λ d μ1 v H1 h1 k1 r1 m1=>rg v d σ H1 _ ρ μ1 _ (s.mono k1) m1 r1 h1 λ ρ' μ' σ' H' q e=>k.nx ρ' μ' σ' H' q (k1.trans e)⟩
theorem wb8 (n : Nat) (i : Int) : L2.ixN n i = ixN n i:=rfl
theorem yr3 {o i : Expr} {to ti : TE3} (ho : RE X o to) (hi : RE X i ti)
    (ha : ∀ v,assign (.Subscript o i pos) X.env v = (do
     let ov <- holding [v] (eval o X.env)
     let iv <- holding [v,ov] (eval i X.env)
     standAt pos
     holding [v,ov,iv] (setItem ov iv v)
     release [v,ov,iv] []):=by intro _; rfl) : RG X (.Subscript o i pos) (sub3 to ti):=by
 obtain ⟨va,pa,ra⟩:=ho
 obtain ⟨vb,pb,rb⟩:=hi
 refine ⟨_,ys7 pa pb zp4 ha,λ v d σ H Q ρ μ Q3 s m r h k=>ra σ H _ ρ μ _ s m h λ o' μ1 ov H1 h1 k1 r1 m1=>rb σ H1 _ ρ μ1 _ (s.mono k1) m1 h1 λ i' μ2 iv H2 h2 k2 r2 m2=>?_⟩
 cases r1 with
 | ref p =>
  cases r2 with
  | int kk =>
   dsimp only at h2
   cases e : μ2 p with
   | none=>rw [e] at h2; exact h2.elim
   | some oo =>
    cases oo with
    | ins _ _=>rw [e] at h2; exact h2.elim
    | dct _=>rw [e] at h2; exact h2.elim
    | lst xs =>
     rw [e] at h2
     dsimp only at h2
     cases e2 : ixN xs.length kk with
     | none=>rw [e2] at h2; exact h2.elim
     | some j =>
      rw [e2] at h2
      obtain ⟨vs,hv,rv⟩:=m2 p xs e
      have kk':=k1.trans k2
      refine ⟨p,vs,kk,j,rfl,rfl,hv,by rw [<- rv.length]; exact e2,k _ _ _ _ h2 (kk'.trans (Kp.wr hv)) (s.mono (kk'.trans (Kp.wr hv))) (m2.wr hv (rv.set (r.mono kk') j))⟩
  | _=>exact False.elim h2
 | _=>cases r2 <;> exact False.elim h2
end
end Pv
namespace Pv
open PySem PySem.Spec PyProof.Rows L2
noncomputable def ItOk (K : Fg) (J : It) (l : List D) (S : Mu -> Prop) (H0 : Hp) : Prop:=∀ i H μ,Kp H0 H -> RelM K μ H -> S μ ->
 (∀ d,l[i]? = some d -> J.go i H /\ ∀ x H2,J.yld i H x H2 -> Kp H H2 /\ RelM K μ H2 /\ RelD K H2 d x) /\ (l.length <= i -> J.stop i H)
noncomputable def RdI (K : Fg) (wi : TI) (ti : TI3) : Prop:=∀ σ H R ρ μ R3,RSt K H ρ σ -> RelM K μ H -> ti ρ μ R3 -> (∀ l S μ' J H',R3 l S μ' -> Kp H H' -> RelM K μ' H' -> ItOk K J l S H' -> R J H') -> wi σ H R
noncomputable def RI (X : Cx) (tg iter : Expr) (ti : TI3) : Prop:=∃ wi,PI X tg iter wi /\ RdI X.K wi ti
section
variable {X : Cx} {tg iter a b c e : Expr} {ta tb te : TE3} {pos : Pos}
noncomputable def Its (z : Str) : It:=⟨λ i _=>i < z.cps.size,λ i H x H'=>H' = H /\ ∃ c,z.cps[i]? = some c /\ x = .str ⟨#[c]⟩,λ i _=>z.cps.size <= i⟩
theorem xs2 {P : Program} {w : World} {K : Fg} {tg : Expr} (T : String) (x : Str) (t : Tok) (it : Addr)
    (hT : ["enumerate", "zip", "dict_itemiterator", "dict_reverseitemiterator", "odict_iterator", "itertools.zip_longest", "itertools.pairwise"].contains T = false)
    (W : ∀ A : Around,A.handled = none -> Walks P w A it [it] [it] x.cps.size (SignAt x) (λ i h=>h.IsStrIter it T x t i))
    (sf : ∀ (A : Around) (i : Nat) (s : Shared) (Q : Value -> Shared -> Prop) (E : Value -> Shared -> Prop),s.heap.IsStrIter it T x t i -> Q (.ref it) s -> wpAny (model P w) A (pyIter (.ref it)) Q E s) :
    Turn P w K tg (Its x) [it] it (λ i h=>h.IsStrIter it T x t i /\ i <= x.cps.size) where
 mem:=by simp
 obj:=λ i h st b hb=>by
  have e : b = it:=by simpa using hb
  subst e
  obtain ⟨⟨o,e,c,d⟩,_⟩:=st
  exact ⟨o,e,λ v z=>by rw [d] at z; cases z⟩
 keep:=λ i h h' st k=>by
  obtain ⟨⟨o,e,c,d⟩,l⟩:=st
  exact ⟨⟨o,k it (by simp) o e,c,d⟩,l⟩
 item:=by
  intro X hP hw hK hc i pins s σ H E I hf st hg
  subst hP hw hK
  obtain ⟨f0,f1,f2,f3,f4,f5⟩:=hf it (by simp)
  refine (W X.A (I.ok.hd hc)).item i s _ E hg st.1 λ v h' tk hP hst' hk=>?_
  obtain ⟨c,u,ec,rfl⟩:=hP
  have I1 : Inv X pins σ H { s with heap:=h',toks:=tk }:=I.turned (t':=tk) (λ b o hb e=>hk b o (by simpa using hb) e) f0 f1 f3 f4 f5
  obtain ⟨o,e,c1,d⟩:=id hst'
  exact ⟨_,rfl,yc4 (s:={ s with heap:=h',toks:=tk }) e c1 d hT ⟨.str ⟨#[c]⟩,H,I1,⟨u,rfl⟩,⟨rfl,c,ec,rfl⟩,⟨hst',hg⟩,λ b hb=>(hf b hb).1⟩⟩
 done:=by
  intro X hP hw hK hc i pins s σ H E I hf st hg
  subst hP hw hK
  have hg' : x.cps.size <= i:=hg
  obtain ⟨f0,f1,f2,f3,f4,f5⟩:=hf it (by simp)
  have e1 : i = x.cps.size:=Nat.le_antisymm st.2 hg'
  subst e1
  exact (W X.A (I.ok.hd hc)).done s _ E st.1 λ h' tk hk=>⟨rfl,I.turned (t':=tk) (λ b o hb e=>hk b o (by simpa using hb) e) f0 f1 f3 f4 f5⟩
 self:=λ A i s Q E st h=>sf A i s Q E st.1 h
noncomputable def iSeq (K : Fg) (tl : TE) : TI:=λ σ H R=>tl σ H λ x H1=>(∃ z,x = .str z /\ R (Its z) H1) \/ ∃ a,x = .ref a /\ (((∃ xs,SqL K H1 a xs) /\ R (Itl K a) H1) \/ ((∃ xs,SqT K H1 a xs) /\ R (Itt K a) H1))
theorem wr7 {l : Expr} {tl : TE} (hl : PE X l tl) : PI X tg l (iSeq X.K tl):=by
 intro pins s σ H R I h
 refine thn (hl pins s σ H _ I h) λ v s1 ⟨x,H1,I1,r1,q1⟩=>?_
 have fp : ∀ b ∈ [s1.heap.objs.size],FpOk X pins H1 b:=λ b hb=>by
  have e : b = s1.heap.objs.size:=by simpa using hb
  subst e
  exact I1.fpOk (Nat.le_refl _) (I1.hok.fresh (Nat.le_refl _))
 rcases q1 with ⟨z,e,q⟩ | ⟨a,e,q⟩
 ·subst e
  obtain ⟨t,rfl⟩:=r1
  cases ha : z.cps.all (· < 128)
  ·refine wpAny_pyIter_wide ha ?_
   exact ⟨s1.heap.objs.size,[s1.heap.objs.size],_,_,H1,rfl,I1.kept (t':=s1.toks) λ b o e=>Heap.get?_push_of_some _ e,xs2 "str_iterator" z t _ (by decide) (λ A hA=>Walks.strWide hA _ z t) (λ _ _ _ _ _ st h=>wpAny_pyIter_striter_wide st h),⟨⟨_,Heap.get?_push_size _ rfl,rfl,rfl⟩,Nat.zero_le _⟩,fp,q⟩
  ·refine wpAny_pyIter_ascii ha ?_
   exact ⟨s1.heap.objs.size,[s1.heap.objs.size],_,_,H1,rfl,I1.kept (t':=s1.toks) λ b o e=>Heap.get?_push_of_some _ e,xs2 "str_ascii_iterator" z t _ (by decide) (λ A hA=>Walks.strAscii hA _ z t) (λ _ _ _ _ _ st h=>wpAny_pyIter_striter_ascii st h),⟨⟨_,Heap.get?_push_size _ rfl,rfl,rfl⟩,Nat.zero_le _⟩,fp,q⟩
 subst e
 cases r1
 rcases q with ⟨⟨xs,hq⟩,q⟩ | ⟨⟨xs,hq⟩,q⟩
 ·obtain ⟨its,rv,p,hz⟩:=I1.list hq
  refine wpAny_pyIter_list p.isList ?_
  exact ⟨s1.heap.objs.size,[s1.heap.objs.size],_,_,H1,rfl,I1.kept (t':=s1.toks) λ b o e=>Heap.get?_push_of_some _ e,yl3 a _,⟨_,Heap.get?_push_size _ rfl,rfl,rfl⟩,fp,q⟩
 ·obtain ⟨its,rv,p,hz⟩:=I1.tuple hq
  refine wpAny_pyIter_tuple (show s1.heap.IsTuple a its.toArray from p) ?_
  exact ⟨s1.heap.objs.size,[s1.heap.objs.size],_,_,H1,rfl,I1.kept (t':=s1.toks) λ b o e=>Heap.get?_push_of_some _ e,xa3 a _,⟨_,Heap.get?_push_size _ rfl,rfl,rfl⟩,fp,q⟩
theorem yx4 {K : Fg} {H0 : Hp} {a : Addr} {l : List D} {vs : List V} (h : SqT K H0 a vs) (r : RelDs K H0 l vs) : ItOk K (Itt K a) l (λ _=>True) H0:=λ i H μ k m _=>by
 refine ⟨λ d e=>?_,λ hl=>⟨vs,SqT.mono k h,by rw [<- r.length]; exact hl⟩⟩
 obtain ⟨v,e1,r1⟩:=r.get e
 refine ⟨⟨vs,v,SqT.mono k h,e1⟩,λ x H2 y=>?_⟩
 obtain ⟨rfl,y⟩:=y
 have e2:=y vs (SqT.mono k h)
 rw [e1] at e2; cases e2
 exact ⟨Kp.refl _,m,r1.mono k⟩
theorem xy4 {K : Fg} {H0 : Hp} {a : Addr} {l : List D} {vs : List V} (h : SqF K H0 a vs) (r : RelDs K H0 l vs) : ItOk K (Itl K a) l (λ _=>True) H0:=λ i H μ k m _=>by
 refine ⟨λ d e=>?_,λ hl=>⟨vs,(SqF.mono k h).l,by rw [<- r.length]; exact hl⟩⟩
 obtain ⟨v,e1,r1⟩:=r.get e
 refine ⟨⟨vs,v,(SqF.mono k h).l,e1⟩,λ x H2 y=>?_⟩
 obtain ⟨rfl,y⟩:=y
 have e2:=y vs (SqF.mono k h).l
 rw [e1] at e2; cases e2
 exact ⟨Kp.refl _,m,r1.mono k⟩
theorem wx4 {K : Fg} {H0 : Hp} {a : Addr} {l : List D} : ItOk K (Itl K a) l (λ μ=>μ a = some (.lst l)) H0:=λ i H μ k m s=>by
 obtain ⟨vs,h,r⟩:=m a l s
 refine ⟨λ d e=>?_,λ hl=>⟨vs,SqL.of h,by rw [<- r.length]; exact hl⟩⟩
 obtain ⟨v,e1,r1⟩:=r.get e
 refine ⟨⟨vs,v,SqL.of h,e1⟩,λ x H2 y=>?_⟩
 obtain ⟨rfl,y⟩:=y
 have e2:=y vs (SqL.of h)
 rw [e1] at e2; cases e2
 exact ⟨Kp.refl _,m,r1⟩
theorem zx4 {K : Fg} {H0 : Hp} (z : Str) : ItOk K (Its z) (z.cps.toList.map λ c=>D.str ⟨#[c]⟩) (λ _=>True) H0:=λ i H μ k m _=>by
 refine ⟨λ d e=>?_,λ hl=>by show z.cps.size <= i; simpa using hl⟩
 rw [List.getElem?_map,Array.getElem?_toList] at e
 cases ec : z.cps[i]? with
 | none=>rw [ec] at e; cases e
 | some c =>
  rw [ec] at e
  cases e
  refine ⟨?_,λ x H2 y=>?_⟩
  ·show i < z.cps.size
   rcases Nat.lt_or_ge i z.cps.size with h | h
   ·exact h
   ·rw [Array.getElem?_eq_none h] at ec; cases ec
  ·obtain ⟨rfl,c',ec',rfl⟩:=y
   rw [ec] at ec'; cases ec'
   exact ⟨Kp.refl _,m,.str _⟩
theorem wn0 (ha : RE X a ta) : RI X tg a (is3 ta):=by
 obtain ⟨va,pa,ra⟩:=ha
 refine ⟨_,wr7 pa,λ σ H R ρ μ R3 s m h k=>ra σ H _ ρ μ _ s m h λ d μ1 v H1 h1 k1 r1 m1=>?_⟩
 cases r1 with
 | str z=>exact .inl ⟨z,rfl,k _ _ _ _ _ h1 k1 m1 (zx4 z)⟩
 | tup hq rs=>exact .inr ⟨_,rfl,.inr ⟨⟨_,hq⟩,k _ _ _ _ _ h1 k1 m1 (yx4 hq rs)⟩⟩
 | fls hq rs=>exact .inr ⟨_,rfl,.inl ⟨⟨_,hq.l⟩,k _ _ _ _ _ h1 k1 m1 (xy4 hq rs)⟩⟩
 | ref p =>
  dsimp only at h1
  cases e : μ1 p with
  | none=>rw [e] at h1; exact h1.elim
  | some oo =>
   cases oo with
   | ins _ _=>rw [e] at h1; exact h1.elim
   | dct _=>rw [e] at h1; exact h1.elim
   | lst xs =>
    rw [e] at h1
    obtain ⟨vs,hv,rv⟩:=m1 p xs e
    exact .inr ⟨_,rfl,.inl ⟨⟨_,SqL.of hv⟩,k _ _ _ _ _ h1 k1 m1 wx4⟩⟩
 | _=>exact False.elim h1
theorem wq4 (lo : Int) (n i : Nat) : (rngD lo n)[i]? = if i < n then some (.int (lo + i)) else none:=by
 unfold rngD
 rw [List.getElem?_map]
 by_cases h : i < n
 ·rw [List.getElem?_range h,if_pos h]; rfl
 ·rw [List.getElem?_eq_none (by simpa using h),if_neg h]; rfl
theorem zq4 (lo : Int) (n : Nat) : (rngD lo n).length = n:=by simp [rngD]
theorem xx2 {K : Fg} {H0 : Hp} (lo : Int) (n : Nat) : ItOk K (Itr lo n) (rngD lo n) (λ _=>True) H0:=λ i H μ k m _=>by
 refine ⟨λ d e=>?_,λ hl=>by rw [zq4] at hl; exact hl⟩
 rw [wq4] at e
 split at e
 ·next h =>
  cases e
  refine ⟨h,λ x H2 y=>?_⟩
  obtain ⟨rfl,rfl⟩:=y
  exact ⟨Kp.refl _,m,.int _⟩
 ·cases e
theorem yv0 {p : Pos} (hm : X.mg "range" = none) (ha : RE X a ta) (hg : Gl X "range" := by rfl) (hs : starEach [a] X.env = [(false,eval a X.env)]:=by rfl) : RI X tg (.Call (.Name "range" p) [a] [] pos) (ir3 (cons3 ta nil3)):=by
 obtain ⟨va,pa,ra⟩:=xa0 ha yb0 hs
 refine ⟨_,xv3 hg hm pa hs,λ σ H R ρ μ R3 s m h k=>ra σ H _ ρ μ _ s m h λ ds μ1 vs H1 h1 k1 r1 m1=>?_⟩
 cases r1 with
 | nil=>exact False.elim h1
 | cons r1 r2 =>
  cases r2 with
  | cons _ _=>cases r1 <;> exact False.elim h1
  | nil =>
   cases r1 with
   | int j=>exact ⟨j,rfl,h1.1.1,h1.1.2,k _ _ _ _ _ h1.2 k1 m1 (xx2 _ _)⟩
   | _=>exact False.elim h1
theorem xv0 {body : List Stmt} {ti : TI3} {g : TG3} {tb : TS3} (hp : PassesOwn (model X.prog X.w) X.A X.env X.xe) (hc : X.calm = true) (hi : RI X tg iter ti) (hg : RG X tg g) (hb : RSs X body tb)
    (hs : ∀ x,foldedSetIterable iter X.env x = pure x:=by intro _; rfl) : RS X (.For tg iter body [] pos) (for3 ti g tb):=by
 obtain ⟨wi,pi,ri⟩:=hi
 obtain ⟨vg,pg,rg⟩:=hg
 obtain ⟨vb,pb,rb⟩:=hb
 refine ⟨_,zq7 hp hc pi pg pb hs,λ σ H D ρ μ D3 s m h k=>ri σ H _ ρ μ _ s m h λ l S μ1 J H1 h1 k1 m1 ok=>?_⟩
 refine ⟨λ i n σ2 H2=>n = l.length - i /\ i <= l.length /\ ∃ ρ2 μ2,RSt X.K H2 ρ2 σ2 /\ RelM X.K μ2 H2 /\ Kp H1 H2 /\ wz4 S g tb D3 (l.drop i) ρ2 μ2,⟨l.length,rfl,Nat.zero_le _,ρ,μ1,s.mono k1,m1,Kp.refl _,h1⟩,?_⟩
 rintro i n σ2 H2 ⟨rfl,hi,ρ2,μ2,s2,m2,k2,h2⟩
 by_cases hlt : i < l.length
 ·rw [List.drop_eq_getElem_cons hlt] at h2
  obtain ⟨hS,N,hN,h2⟩:=h2
  obtain ⟨ok1,_⟩:=ok i H2 μ2 k2 m2 hS
  obtain ⟨go,yl⟩:=ok1 l[i] (List.getElem?_eq_getElem hlt)
  refine .inr ⟨go,λ σ3 H3=>∃ ρ3 μ3,N ρ3 μ3 /\ RSt X.K H3 ρ3 σ3 /\ RelM X.K μ3 H3 /\ Kp H1 H3,λ σ3 H3 ⟨ρ3,μ3,hn,s3,m3,k3⟩=>⟨l.length - (i + 1),by omega,rfl,hlt,ρ3,μ3,s3,m3,k3,hN _ _ hn⟩,λ x H3 y=>?_⟩
  obtain ⟨k3,m3,r3⟩:=yl x H3 y
  refine rg x l[i] σ2 H3 _ ρ2 μ2 _ (s2.mono k3) m3 r3 h2 λ ρ4 μ4 σ4 H4 h4 k4 s4 m4=>?_
  have k14 : Kp H1 H4:=k2.trans (k3.trans k4)
  exact rb σ4 H4 _ ρ4 μ4 _ s4 m4 h4 ⟨λ ρ5 μ5 σ5 H5 h5 k5 s5 m5=>⟨ρ5,μ5,h5,s5,m5,k14.trans k5⟩,λ ρ5 μ5 σ5 H5 h5 k5 s5 m5=>k.nx _ _ _ _ h5 (k1.trans (k14.trans k5)) s5 m5,
   λ ρ5 μ5 σ5 H5 h5 k5 s5 m5=>⟨ρ5,μ5,h5,s5,m5,k14.trans k5⟩,λ d μ5 v H5 h5 k5 r5 m5=>k.rt _ _ _ _ h5 (k1.trans (k14.trans k5)) r5 m5⟩
 ·have e : i = l.length:=by omega
  subst e
  rw [List.drop_length] at h2
  obtain ⟨hS,h2⟩:=h2
  exact .inl ⟨(ok _ H2 μ2 k2 m2 hS).2 (Nat.le_refl _),k.nx _ _ _ _ h2 (k1.trans k2) s2 m2⟩
noncomputable def lift (K : Fg) (sp : Sp3) : Sp:=λ vs H Q _=>∃ ds μ Q3,RelDs K H ds vs /\ RelM K μ H /\ sp ds μ Q3 /\ Ks K H Q3 Q
noncomputable def Cal (P : Program) (w : World) (K : Fg) (mg : Str -> Option Value) (base : Heap) (k : Nat) (x : Str) (ps : List Str) (sp : Sp3) : Prop :=
 ∃ f fd,FnOk P w K mg base CX0 k f fd ps (lift K sp) /\ mg x = some (.ref f) /\ PySem.W.keepIn K (.ref f) = true /\ Binds K fd ps []
theorem Cal.mono {P : Program} {w : World} {K : Fg} {mg : Str -> Option Value} {base : Heap} {j k : Nat} {x : Str} {ps : List Str} {sp : Sp3} (c : Cal P w K mg base j x ps sp) (h : j <= k) : Cal P w K mg base k x ps sp:=by
 obtain ⟨f,fd,F,r⟩:=c
 exact ⟨f,fd,F.mono h,r⟩
variable {es : List Expr} {t : TA3} {x : Str} {p : Pos}
theorem yc0 {k : Nat} {ps : List Str} {sp : Sp3} (c : Cal X.prog X.w X.K X.mg X.base k x ps sp) (hr : Room k X.A) (ha : RA X (e :: es) t) (hg : Gl X x:=by rfl) (hdb : (x == ("__debug__" : Str)) = false:=by decide)
    (he : starEach (e :: es) X.env = (false,eval e X.env) :: starEach es X.env:=by rfl) (hpl : (backTo pos (starEach es X.env)).any (·.1) = false:=by rfl) : RE X (.Call (.Name x p) (e :: es) [] pos) (call3 sp t):=by
 obtain ⟨f,fd,F,hm,hk,hb⟩:=c
 obtain ⟨va,pa,ra⟩:=ha
 refine ⟨_,zv3 F hr hg hm hk hb .nil xb6 pa hdb he hpl,λ σ H Q ρ μ Q3 s m h k=>ra σ H _ ρ μ _ s m h λ ds μ1 vs H1 h1 k1 r1 m1=>?_⟩
 rw [List.append_nil]
 exact ⟨ds,μ1,Q3,r1,m1,h1,k.after k1⟩
theorem xe0 {r : C3} {id : String} (hc : RC X (.builtin id) r) (hm : X.mg x = none) (hv : bootBuiltins x = some (.builtin id)) (ha : RA X (e :: es) t) (hg : Gl X x:=by rfl) (hn : x ≠ "__name__" := by decide) (hdb : (x == ("__debug__" : Str)) = false:=by decide)
    (he : starEach (e :: es) X.env = (false,eval e X.env) :: starEach es X.env:=by rfl) (hpl : (backTo pos (starEach es X.env)).any (·.1) = false:=by rfl) : RE X (.Call (.Name x p) (e :: es) [] pos) (call3 r t):=by
 obtain ⟨r',pc,rc⟩:=hc
 obtain ⟨va,pa,ra⟩:=ha
 exact ⟨_,xw2 pc hg hm hv pa hn hdb he hpl,λ σ H Q ρ μ Q3 s m h k=>ra σ H _ ρ μ _ s m h λ ds μ1 vs H1 h1 k1 r1 m1=>rc ds vs H1 Q μ1 Q3 m1 r1 h1 (k.after k1)⟩
theorem wh2 {r : C3} {T : String} (hc : RC X (.type T) r) (hm : X.mg x = none) (hv : bootBuiltins x = some (.type T)) (ha : RA X (e :: es) t) (hg : Gl X x:=by rfl) (hn : x ≠ "__name__" := by decide) (hdb : (x == ("__debug__" : Str)) = false:=by decide)
    (he : starEach (e :: es) X.env = (false,eval e X.env) :: starEach es X.env:=by rfl) (hpl : (backTo pos (starEach es X.env)).any (·.1) = false:=by rfl) : RE X (.Call (.Name x p) (e :: es) [] pos) (call3 r t):=by
 obtain ⟨r',pc,rc⟩:=hc
 obtain ⟨va,pa,ra⟩:=ha
 exact ⟨_,yv3 pc hg hm hv pa hn hdb he hpl,λ σ H Q ρ μ Q3 s m h k=>ra σ H _ ρ μ _ s m h λ ds μ1 vs H1 h1 k1 r1 m1=>rc ds vs H1 Q μ1 Q3 m1 r1 h1 (k.after k1)⟩
theorem xc0 {r3 : R3} (hx : RX X r3) (ha : RE X a ta) (hb : RE X b tb) (hs : xl4 b:=by intro _ _; rfl) : RE X (.Subscript a b pos) (o3 r3 ta tb):=by
 obtain ⟨r,po,ro⟩:=hx
 obtain ⟨va,pa,ra⟩:=ha
 obtain ⟨vb,pb,rb⟩:=hb
 exact ⟨_,zs8 po pa pb hs,ra.op rb ro⟩
end
section
variable {P : Program} {w : World} {K : Fg} {mg : Str -> Option Value} {base : Heap}
theorem wc4 {x : Str} {st : Stmt} {f : Addr} {fd : FuncData} {N ps : List Str} {k : Nat} {sp : Sp3} {t : TS3} (F : Fun K x x st f fd) (S : FnScope N ps (wa0 st))
    (len : ∀ ds μ Q,sp ds μ Q -> ds.length = ps.length)
    (body : ∀ (cdv : Value) (A : Around) (outer : List Env) (s : Shared) (H : Hp) (E : XK),Room k (A.deeper (envOfC x (wa0 st) s.heap.objs.size f cdv)) -> RSs (cxOf CX0 P w K mg base N x (wa0 st) f cdv A outer s H E).nox (yd0 st) t)
    (rd : ∀ ds μ Q,sp ds μ Q -> t { nx:=λ _ μ'=>Q .non μ',rt:=Q } (start3 N ds) μ) : FnOk P w K mg base CX0 (k + 1) f fd ps (lift K sp):=by
 refine F.ok S (λ vs H Q E h=>?_) (λ cdv A outer s H vs Q E hr h=>?_)
 ·obtain ⟨ds,μ,Q3,r,m,q,ks⟩:=h
  rw [<- r.length]; exact len _ _ _ q
 ·obtain ⟨ds,μ,Q3,r,m,q,ks⟩:=h
  obtain ⟨tv,p,rt⟩:=body cdv A outer s H E hr
  exact ⟨tv,p,rt _ H _ _ μ _ (RSt.start N r) m (rd ds μ Q3 q) ⟨λ ρ μ' σ H' h' k' s' m'=>ks _ _ _ _ h' k' .non m',λ ρ μ' σ H' h'=>False.elim h',λ ρ μ' σ H' h'=>False.elim h',ks⟩⟩
theorem zh0 {x : Str} {st : Stmt} {f : Addr} {fd : FuncData} {N ps : List Str} {k : Nat} {sp : Sp3} {t : TS3} (F : Fun K x x st f fd) (hm : mg x = some (.ref f)) (hb : Binds K fd ps []) (S : FnScope N ps (wa0 st))
    (len : ∀ ds μ Q,sp ds μ Q -> ds.length = ps.length)
    (body : ∀ (cdv : Value) (A : Around) (outer : List Env) (s : Shared) (H : Hp) (E : XK),Room k (A.deeper (envOfC x (wa0 st) s.heap.objs.size f cdv)) -> RSs (cxOf CX0 P w K mg base N x (wa0 st) f cdv A outer s H E).nox (yd0 st) t)
    (rd : ∀ ds μ Q,sp ds μ Q -> t { nx:=λ _ μ'=>Q .non μ',rt:=Q } (start3 N ds) μ) : Cal P w K mg base (k + 1) x ps sp :=
 ⟨f,fd,wc4 F S len body rd,hm,F.kp,hb⟩
theorem za1 {x : Str} {st : Stmt} {f : Addr} {fd : FuncData} {ps : List Str} {sp : Sp3} (F : Fun K x x st f fd) (hm : mg x = some (.ref f)) (hb : Binds K fd ps []) (no : ∀ ds μ Q,¬ sp ds μ Q) : Cal P w K mg base 0 x ps sp:=by
 have no' : ∀ vs H Q E,¬ lift K sp vs H Q E:=λ vs H Q E ⟨ds,μ,Q3,_,_,q,_⟩=>no _ _ _ q
 exact ⟨f,fd,⟨λ vs H Q E h=>absurd h (no' vs H Q E),λ A outer s H args us vs Q E _ _ _ _ h=>absurd h (no' vs H Q E)⟩,hm,F.kp,hb⟩
end
end Pv
namespace Pv
open PySem PySem.Spec PyProof.Rows L2
section
variable {X : Cx}
theorem RdO.i0 {K : Fg} {g3 : Int -> Int -> D} {g : Int -> Int -> V} (hg : ∀ i j H,RelD K H (g3 i j) (g i j)) : RdO K (rI0 g) (int20 g3):=λ x y v u H Q μ Q3 m rx ry h k=>by
 cases rx with
 | int i =>
  cases ry with
  | int j=>exact ⟨i,j,rfl,rfl,k _ _ _ _ h (Kp.refl _) (hg i j H) m⟩
  | _=>exact False.elim h
 | _=>cases ry <;> exact False.elim h
theorem RdO.i2 {K : Fg} {C : Int -> Int -> Prop} {g3 : Int -> Int -> D} {g : Int -> Int -> V} (hg : ∀ i j H,RelD K H (g3 i j) (g i j)) : RdO K (rI C g) (int2 C g3):=λ x y v u H Q μ Q3 m rx ry h k=>by
 cases rx with
 | int i =>
  cases ry with
  | int j=>exact ⟨i,j,rfl,rfl,h.1,k _ _ _ _ h.2 (Kp.refl _) (hg i j H) m⟩
  | _=>exact False.elim h
 | _=>cases ry <;> exact False.elim h
theorem yk0 : RO X (binaryOp .Sub) subR:=⟨_,yv7,RdO.i0 λ _ _ _=>.int _⟩
theorem wr1 : RO X (binaryOp .Mod) modR:=⟨_,yw7,RdO.i2 λ _ _ _=>.int _⟩
theorem zr4 : RO X (binaryOp .Pow) powR:=⟨_,wv7,RdO.i2 λ _ _ _=>.int _⟩
theorem log2_lt {n k : Nat} (hk : 0 < k) (h : n < 2 ^ k) : n.log2 < k:=by
 rcases Nat.eq_zero_or_pos n with h0 | hp
 ·rw [h0]; simpa using hk
 ·exact (Nat.log2_lt (Nat.ne_of_gt hp)).mpr h
theorem zu4 : OpR X (binaryOp .FloorDiv) (rI (λ _ j=>0 < j /\ j < 2 ^ 120) λ i j=>.int (i / j)):=opI λ i j _ _ _ _ _ hc q=>by
 have h1 : (0 : Int) < j:=hc.1
 have h2 : j < 2 ^ 120:=hc.2
 refine floordiv_int (by omega) (by rw [Int.fdiv_eq_ediv_of_nonneg i (by omega)]; exact q) (.inl (PyProof.noPylong_of_log2 ?_))
 have h3 : j.natAbs < 2 ^ 120:=by omega
 exact Nat.lt_trans (log2_lt (by decide) h3) (by decide)
theorem wb1 : RO X (binaryOp .FloorDiv) fdivR:=⟨_,zu4,RdO.i2 λ _ _ _=>.int _⟩
theorem CMul.mulok {i j : Int} (h : CMul i j) : IntMulOk i j:=by
 rcases h with h | ⟨h1,h2⟩
 ·exact L2.CMul.ok h
 ·unfold IntMulOk
  intro e
  rw [Bool.and_eq_true] at e
  have e2:=e.2
  unfold Builtin.Int.intTooBig at e2
  have hb : ∀ x : Int,x.natAbs < Big -> Builtin.Int.intBits x <= 1000:=λ x hx=>by
   unfold Builtin.Int.intBits
   split
   ·exact Nat.zero_le _
   ·exact log2_lt (by decide) hx
  have b1:=hb i h1
  have b2:=hb j h2
  have e3:=of_decide_eq_true e2
  have e4 : (2000 : Nat) < bitsLine:=by decide
  omega
theorem op_mulB : OpR X (binaryOp .Mult) (rI CMul λ i j=>.int (i * j)):=opI λ _ _ _ _ _ _ _ hc q=>mul_int q hc.mulok
theorem wv1 : RU X (unaryOp .USub) negR:=⟨_,xo6,λ x v H Q μ Q3 m r h k=>by
 cases r with
 | int i=>exact ⟨i,rfl,k _ _ _ _ h (Kp.refl _) (.int _) m⟩
 | _=>exact False.elim h⟩
theorem q_lt : RO X (compareOp .Lt) ltR:=⟨_,yt8,RdO.i0 λ _ _ _=>.bl _⟩
theorem q_le : RO X (compareOp .LtE) leR:=⟨_,zt8,RdO.i0 λ _ _ _=>.bl _⟩
theorem q_gt : RO X (compareOp .Gt) gtR:=⟨_,wt8,RdO.i0 λ _ _ _=>.bl _⟩
theorem q_ge : RO X (compareOp .GtE) geR:=⟨_,xu8,RdO.i0 λ _ _ _=>.bl _⟩
noncomputable def zp8 (K : Fg) : R2:=λ x y H Q=>∃ a b xs ys,x = .ref a /\ y = .ref b /\ SqT K H a xs /\ SqT K H b ys /\ xs.length + ys.length <= sizeLine ∧
 (xs = [] -> Q (.ref b) H) /\ (ys = [] -> Q (.ref a) H) /\ (∀ p,H p = none -> Q (.ref p) (upd H p (.tup (xs ++ ys))))
theorem wb6 : OpR X (binaryOp .Add) (zp8 X.K):=by
 intro pins s σ H x y v u Q I rx ry h
 obtain ⟨a,b,xs,ys,rfl,rfl,ha,hb,hz,q1,q2,q3⟩:=h
 by_cases hx : xs = []
 ·cases rx
  cases ry
  obtain ⟨its,r,ht,_⟩:=I.tuple ha
  obtain ⟨its2,r2,ht2,_⟩:=I.tuple hb
  have hi : its = []:=by subst hx; cases r; rfl
  obtain ⟨⟨cls,dd,data,sl⟩,ho,hc,n,hd⟩:=id ht
  obtain ⟨⟨cls2,dd2,data2,sl2⟩,ho2,hc2,n2,hd2⟩:=id ht2
  simp only at hc hd hc2 hd2
  subst hc hd hc2 hd2
  exact concat_meets ⟨_,ho,rfl⟩ ⟨_,ho2,rfl⟩ noFill_tuple_add seq_tuple_add PySem.F.slot_tuple_add PySem.F.entry_tuple_add (PySem.F.args_tuple_add_2 _ _)
   (tuple_addW0 a b its.toArray its2.toArray n n2 dd dd2 sl sl2 (by simp [hi])) ⟨ho,ho2,⟨.ref b,H,I,rfl,q1 hx⟩⟩
 ·exact zb6 pins s σ H _ _ v u Q I rx ry ⟨a,b,xs,ys,rfl,rfl,ha,hb,hx,hz,q2,λ _=>q3⟩
theorem yh0 : RO X (binaryOp .Add) addR:=by
 refine ⟨_,(op_add.or yi3).or (op_cat.or wb6),λ x y v u H Q μ Q3 m rx ry h k=>?_⟩
 cases rx with
 | int i =>
  cases ry with
  | int j=>exact .inl (.inl ⟨i,j,rfl,rfl,k _ _ _ _ h (Kp.refl _) (.int _) m⟩)
  | _=>exact False.elim h
 | str i =>
  cases ry with
  | str j=>exact .inl (.inr ⟨i,j,rfl,rfl,h.1,k _ _ _ _ h.2 (Kp.refl _) (.str _) m⟩)
  | _=>exact False.elim h
 | ref p =>
  cases ry with
  | ref q =>
   dsimp only [addR] at h
   cases e : μ p with
   | none=>rw [e] at h; exact h.elim
   | some oo =>
    cases oo with
    | ins _ _=>rw [e] at h; exact h.elim
    | dct _=>rw [e] at h; exact h.elim
    | lst xs =>
     cases e2 : μ q with
     | none=>rw [e,e2] at h; exact h.elim
     | some o2 =>
      cases o2 with
      | ins _ _=>rw [e,e2] at h; exact h.elim
      | dct _=>rw [e,e2] at h; exact h.elim
      | lst ys =>
       rw [e,e2] at h
       obtain ⟨vs,hv,rv⟩:=m p xs e
       obtain ⟨us,hu,ru⟩:=m q ys e2
       refine .inr (.inl ⟨p,q,vs,us,rfl,rfl,hv,hu,by rw [<- rv.length,<- ru.length]; exact h.1,λ t ht=>?_⟩)
       exact k _ _ _ _ (h.2 t (m.free ht)) (Kp.new ht) (.ref t) (m.newL ht (rv.append ru))
  | _=>exact False.elim h
 | tup hq rs =>
  cases ry with
  | tup hq2 rs2 =>
   rename_i a l vs b l2 us
   refine .inr (.inr ⟨a,b,vs,us,rfl,rfl,hq,hq2,by rw [<- rs.length,<- rs2.length]; exact h.1,λ e=>?_,λ e=>?_,λ t ht=>?_⟩)
   ·subst e; cases rs
    exact k _ _ _ _ h.2 (Kp.refl _) (.tup hq2 rs2) m
   ·subst e; cases rs2
    have h2:=h.2
    rw [List.append_nil] at h2
    exact k _ _ _ _ h2 (Kp.refl _) (.tup hq rs) m
   ·exact k _ _ _ _ h.2 (Kp.new ht) (.tup (SqT.of yj0) ((rs.append rs2).mono (Kp.new ht))) (m.newT ht)
  | _=>exact False.elim h
 | _=>cases ry <;> exact False.elim h
theorem RelDs.atI {K : Fg} {H : Hp} {l : List D} {vs : List V} {i : Int} {d : D} (r : RelDs K H l vs) (e : Pv.atI l i = some d) : ∃ v,L2.atI vs i = some v /\ RelD K H d v:=by
 unfold Pv.atI at e
 unfold L2.atI
 rw [wb8,<- r.length]
 cases q : ixN l.length i with
 | none=>rw [q] at e; cases e
 | some j =>
  rw [q] at e
  exact r.get e
theorem q_ix : RX X ixR:=by
 refine ⟨_,ix_list.or wa4,λ x y v u H Q μ Q3 m rx ry h k=>?_⟩
 cases ry with
 | int i =>
  cases rx with
  | tup hq rs =>
   rename_i a l vs
   dsimp only [ixR] at h
   cases e : Pv.atI l i with
   | none=>rw [e] at h; exact h.elim
   | some d =>
    rw [e] at h
    obtain ⟨w,e1,r1⟩:=rs.atI e
    exact .inr ⟨a,vs,i,w,rfl,rfl,hq,e1,k _ _ _ _ h (Kp.refl _) r1 m⟩
  | fls hq rs =>
   rename_i a l vs
   dsimp only [ixR] at h
   cases e : Pv.atI l i with
   | none=>rw [e] at h; exact h.elim
   | some d =>
    rw [e] at h
    obtain ⟨w,e1,r1⟩:=rs.atI e
    exact .inl ⟨a,vs,i,w,rfl,rfl,hq.l,e1,k _ _ _ _ h (Kp.refl _) r1 m⟩
  | ref p =>
   dsimp only [ixR] at h
   cases e0 : μ p with
   | none=>rw [e0] at h; exact h.elim
   | some oo =>
    cases oo with
    | ins _ _=>rw [e0] at h; exact h.elim
    | dct _=>rw [e0] at h; exact h.elim
    | lst l =>
     rw [e0] at h
     dsimp only at h
     obtain ⟨vs,hv,rs⟩:=m p l e0
     cases e : Pv.atI l i with
     | none=>rw [e] at h; exact h.elim
     | some d =>
      rw [e] at h
      obtain ⟨w,e1,r1⟩:=rs.atI e
      exact .inl ⟨p,vs,i,w,rfl,rfl,SqL.of hv,e1,k _ _ _ _ h (Kp.refl _) r1 m⟩
  | _=>exact False.elim h
 | _=>cases rx <;> exact False.elim h
theorem yt2 {K : Fg} {H : Hp} : ∀ {l : List D} {vs : List V} {zs : List Str},RelDs K H l vs -> strs? l = some zs -> vs = zs.map V.str
 | _,_,zs,.nil,e=>by simp [strs?] at e; subst e; rfl
 | _,_,zs,.cons h r,e=>by
  cases h with
  | str x =>
   simp only [strs?] at e
   split at e
   ·next ys e1 =>
    simp only [Option.some.injEq] at e
    subst e
    rw [yt2 r e1]; rfl
   ·cases e
  | _=>simp [strs?] at e
theorem zy4 (z : Str) (zs : List Str) : inV (.str z) (zs.map V.str) = zs.contains z:=by
 unfold inV
 rw [List.any_map]
 induction zs with
 | nil=>rfl
 | cons y r ih =>
  rw [List.any_cons,ih,List.contains_cons]
  congr 1
  show (y == z) = (z == y)
  rw [Bool.eq_iff_iff,beq_iff_eq,beq_iff_eq]
  exact eq_comm
theorem xd4 (zs : List Str) : (zs.map V.str).all xe2 = true:=by
 rw [List.all_map,List.all_eq_true]; intro _ _; rfl
theorem xt3 : RC X (.builtin "len") lenR:=by
 refine ⟨_,call_len_seq.or yl2,λ xs vs H Q μ Q3 m r h k=>?_⟩
 cases r with
 | nil=>exact False.elim h
 | cons r1 r2 =>
  cases r2 with
  | cons _ _=>cases r1 <;> exact False.elim h
  | nil =>
   cases r1 with
   | tup hq rs =>
    rename_i a l vs
    refine .inl ⟨a,vs,rfl,.inr hq,?_⟩
    rw [<- rs.length]
    exact k _ _ _ _ h (Kp.refl _) (.int _) m
   | fls hq rs =>
    rename_i a l vs
    refine .inl ⟨a,vs,rfl,.inl hq.l,?_⟩
    rw [<- rs.length]
    exact k _ _ _ _ h (Kp.refl _) (.int _) m
   | str z=>exact .inr ⟨z,rfl,h.1,k _ _ _ _ h.2 (Kp.refl _) (.int _) m⟩
   | ref p =>
    dsimp only [lenR] at h
    cases e : μ p with
    | none=>rw [e] at h; exact h.elim
    | some oo =>
     cases oo with
     | ins _ _=>rw [e] at h; exact h.elim
     | dct _=>rw [e] at h; exact h.elim
     | lst l =>
      rw [e] at h
      obtain ⟨vs,hv,rs⟩:=m p l e
      refine .inl ⟨p,vs,rfl,.inl (SqL.of hv),?_⟩
      rw [<- rs.length]
      exact k _ _ _ _ h (Kp.refl _) (.int _) m
   | _=>exact False.elim h
theorem zq8 : RC X (.builtin "abs") absR:=by
 refine ⟨_,yc5,λ xs vs H Q μ Q3 m r h k=>?_⟩
 cases r with
 | nil=>exact False.elim h
 | cons r1 r2 =>
  cases r2 with
  | cons _ _=>cases r1 <;> exact False.elim h
  | nil =>
   cases r1 with
   | int i=>exact ⟨i,rfl,k _ _ _ _ h (Kp.refl _) (.int _) m⟩
   | _=>exact False.elim h
theorem zv5 : RC X (.type "tuple") tupR:=by
 refine ⟨_,we2,λ xs vs H Q μ Q3 m r h k=>?_⟩
 cases r with
 | nil=>exact False.elim h
 | cons r1 r2 =>
  cases r2 with
  | cons _ _=>cases r1 <;> exact False.elim h
  | nil =>
   cases r1 with
   | tup hq rs=>exact ⟨_,_,rfl,.inr ⟨hq,k _ _ _ _ h (Kp.refl _) (.tup hq rs) m⟩⟩
   | ref p =>
    dsimp only [tupR] at h
    cases e : μ p with
    | none=>rw [e] at h; exact h.elim
    | some oo =>
     cases oo with
     | ins _ _=>rw [e] at h; exact h.elim
     | dct _=>rw [e] at h; exact h.elim
     | lst l =>
      rw [e] at h
      obtain ⟨vs,hv,rs⟩:=m p l e
      exact ⟨p,vs,rfl,.inl ⟨SqL.of hv,λ t ht=>k _ _ _ _ h (Kp.new ht) (.tup (SqT.of yj0) (rs.mono (Kp.new ht))) (m.newT ht)⟩⟩
   | _=>exact False.elim h
theorem zd2 {K : Fg} {H : Hp} : ∀ {l : List D} {vs : List V} {zs : List Int},RelDs K H l vs -> ints? l = some zs -> vs = zs.map V.int
 | _,_,zs,.nil,e=>by simp [ints?] at e; subst e; rfl
 | _,_,zs,.cons h r,e=>by
  cases h with
  | int x =>
   simp only [ints?] at e
   split at e
   ·next ys e1 =>
    simp only [Option.some.injEq] at e
    subst e
    rw [zd2 r e1]; rfl
   ·cases e
  | _=>simp [ints?] at e
end
end Pv
namespace Pv
open PySem PySem.Spec PyProof.Rows L2
section
variable {X : Cx} {pins : List (Addr × Obj)} {σ : L2.St} {H : Hp} {s : Shared}
mutual
theorem yt0 (I : Inv X pins σ H s) : ∀ {d : D} {v : V} {p : PyData} {u : Value},RelD X.K H d v -> dat d = some p -> RelV v u -> ∃ as,Reads s.heap u p as
 | _,_,p,u,.non,e,r=>by simp only [dat,Option.some.injEq] at e; subst e; cases r; exact ⟨_,Reads.none⟩
 | _,_,p,u,.bl b,e,r=>by simp only [dat,Option.some.injEq] at e; subst e; cases r; exact ⟨_,Reads.bool b⟩
 | _,_,p,u,.int i,e,r=>by simp only [dat,Option.some.injEq] at e; subst e; obtain ⟨t,rfl⟩:=r; exact ⟨_,Reads.int i t⟩
 | _,_,p,u,.str x,e,r=>by
  simp only [dat] at e
  split at e
  ·simp only [Option.some.injEq] at e; subst e; obtain ⟨t,rfl⟩:=r; exact ⟨_,Reads.str x t⟩
  ·cases e
 | _,_,p,u,.ref a,e,r=>by simp [dat] at e
 | _,_,p,u,.ty n,e,r=>by simp [dat] at e
 | _,_,p,u,.fls _ _,e,r=>by simp [dat] at e
 | _,_,p,u,.exc _ _ _,e,r=>by simp [dat] at e
 | _,_,p,u,.tup hq rs,e,r=>by
  simp only [dat] at e
  split at e
  ·next ps e1 =>
   simp only [Option.some.injEq] at e; subst e
   cases r
   obtain ⟨its,rv,⟨o,ho,hc,n,hd⟩,hz⟩:=I.tuple hq
   obtain ⟨as,q⟩:=xe1 I rs e1 rv
   exact ⟨_,Reads.tuple ho hc hd (by simpa using q)⟩
  ·cases e
theorem xe1 (I : Inv X pins σ H s) : ∀ {l : List D} {vs : List V} {ps : List PyData} {us : List Value},RelDs X.K H l vs -> dats l = some ps -> Vals vs us -> ∃ as,ReadsAll s.heap us ps as
 | _,_,ps,us,.nil,e,r=>by simp only [dats,Option.some.injEq] at e; subst e; cases r; exact ⟨_,ReadsAll.nil⟩
 | _,_,ps,us,.cons h rs,e,r=>by
  simp only [dats] at e
  split at e
  ·next p e1 =>
   split at e
   ·next qs e2 =>
    simp only [Option.some.injEq] at e; subst e
    cases r with
    | cons r1 r2 =>
     obtain ⟨as,q1⟩:=yt0 I h e1 r1
     obtain ⟨bs,q2⟩:=xe1 I rs e2 r2
     exact ⟨_,ReadsAll.cons q1 q2⟩
   ·cases e
  ·cases e
end
theorem zk0 (I : Inv X pins σ H s) {μ : Mu} (m : RelM X.K μ H) {d : D} {v : V} {p : PyData} {u : Value} (h : RelD X.K H d v) (e : datM μ d = some p) (r : RelV v u) : ∃ as,Reads s.heap u p as:=by
 cases h with
 | ref a =>
  simp only [datM] at e
  split at e
  ·next l e0 =>
   split at e
   ·next ps e1 =>
    simp only [Option.some.injEq] at e; subst e
    cases r
    obtain ⟨vs,hv,rs⟩:=m a l e0
    obtain ⟨its,rv,pl,hz⟩:=I.list (SqL.of hv)
    obtain ⟨o,ho,hc,n,hd⟩:=pl.isList
    obtain ⟨as,q⟩:=xe1 I rs e1 rv
    exact ⟨_,Reads.list ho hc hd (by simpa using q)⟩
   ·cases e
  ·cases e
 | non=>exact yt0 I .non e r
 | bl b=>exact yt0 I (.bl b) e r
 | int i=>exact yt0 I (.int i) e r
 | str x=>exact yt0 I (.str x) e r
 | ty n=>exact yt0 I (.ty n) e r
 | tup hq rs=>exact yt0 I (.tup hq rs) e r
 | fls hq rs=>exact yt0 I (.fls hq rs) e r
 | exc a1 a2 a3=>simp [datM,dat] at e
mutual
theorem xm0 : ∀ (d : D) (p : PyData),dat d = some p -> p.canLay0 = true
 | .non,p,e=>by simp only [dat,Option.some.injEq] at e; subst e; rfl
 | .bl b,p,e=>by simp only [dat,Option.some.injEq] at e; subst e; rfl
 | .int b,p,e=>by simp only [dat,Option.some.injEq] at e; subst e; rfl
 | .str x,p,e=>by
  simp only [dat] at e
  split at e
  ·next h=>simp only [Option.some.injEq] at e; subst e; exact h
  ·cases e
 | .tup l,p,e=>by
  simp only [dat] at e
  split at e
  ·next ps e1=>simp only [Option.some.injEq] at e; subst e; simp only [PyData.canLay0]; exact wf1 l ps e1
  ·cases e
 | .fls _,p,e=>by simp [dat] at e
 | .ref _,p,e=>by simp [dat] at e
 | .ty _,p,e=>by simp [dat] at e
theorem wf1 : ∀ (l : List D) (ps : List PyData),dats l = some ps -> PyData.canLayAll0 ps = true
 | [],ps,e=>by simp only [dats,Option.some.injEq] at e; subst e; rfl
 | d :: r,ps,e=>by
  simp only [dats] at e
  split at e
  ·next p e1 =>
   split at e
   ·next qs e2 =>
    simp only [Option.some.injEq] at e; subst e
    simp only [PyData.canLayAll0,Bool.and_eq_true]
    exact ⟨xm0 d p e1,wf1 r qs e2⟩
   ·cases e
  ·cases e
end
theorem xr2 {μ : Mu} {d : D} {p : PyData} (e : datM μ d = some p) : p.canLay0 = true:=by
 cases d with
 | ref a =>
  simp only [datM] at e
  split at e
  ·next l e0 =>
   split at e
   ·next ps e1=>simp only [Option.some.injEq] at e; subst e; simp only [PyData.canLay0]; exact wf1 l ps e1
   ·cases e
  ·cases e
 | non=>exact xm0 _ p e
 | bl b=>exact xm0 _ p e
 | int i=>exact xm0 _ p e
 | str x=>exact xm0 _ p e
 | ty n=>exact xm0 _ p e
 | tup l=>exact xm0 _ p e
 | fls l=>exact xm0 _ p e
 | exc c=>simp [datM,dat] at e
theorem zg0 {μ : Mu} {d : D} {p : PyData} (e : datM μ d = some p) (h : p.depth <= 64) : PySem.SeqAt.shaped p = true:=by
 unfold PySem.SeqAt.shaped
 rw [xr2 e,decide_eq_true h]; rfl
noncomputable def rEqD (K : Fg) (neg : Bool) : R2:=λ x y H Q=>∃ d e μ p q,RelM K μ H /\ RelD K H d x /\ RelD K H e y /\ datM μ d = some p /\ datM μ e = some q /\ p.depth <= 64 /\ q.depth <= 64 /\ Q (.bl (if neg then !PyData.eqv p q else PyData.eqv p q)) H
theorem xx7 (hu : X.A.units + 64 < cLine) : OpR X (compareOp .Eq) (rEqD X.K false):=by
 intro pins s σ H x y v u Q I rx ry h
 obtain ⟨d,e,μ,p,q,m,rd,re,e1,e2,h1,h2,k⟩:=h
 obtain ⟨as,q1⟩:=zk0 I m rd e1 rx
 obtain ⟨bs,q2⟩:=zk0 I m re e2 ry
 exact eq_dataH q1 q2 (zg0 e1 h1) (zg0 e2 h2) hu ⟨.bl _,H,I,rfl,k⟩
theorem xw7 (hu : X.A.units + 64 < cLine) : OpR X (compareOp .NotEq) (rEqD X.K true):=by
 intro pins s σ H x y v u Q I rx ry h
 obtain ⟨d,e,μ,p,q,m,rd,re,e1,e2,h1,h2,k⟩:=h
 obtain ⟨as,q1⟩:=zk0 I m rd e1 rx
 obtain ⟨bs,q2⟩:=zk0 I m re e2 ry
 exact ne_dataH q1 q2 (zg0 e1 h1) (zg0 e2 h2) hu ⟨.bl _,H,I,rfl,k⟩
theorem wd8 {K : Fg} {H : Hp} {x y : D} {v u : V} {c : Bool} (rx : RelD K H x v) (ry : RelD K H y u) (e : eqS x y = some c) : scal v u = true /\ decide (v = u) = c:=by
 unfold eqS at e
 split at e <;> first | (cases e; done) | (cases rx; cases ry; cases e; exact ⟨rfl,rfl⟩) | (cases rx; cases ry; cases e; refine ⟨rfl,?_⟩; simp)
theorem hu64 {A : Around} {k : Nat} (hr : Room k A) : A.units + 64 < cLine:=by have:=hr.un; omega
noncomputable def rInD (K : Fg) (neg : Bool) : R2:=λ x y H Q=>∃ d e μ p xs,∃ b : Bool,RelM K μ H /\ RelD K H d x /\ RelD K H e y /\ datM μ d = some p /\ datM μ e = some (if b then .list xs else .tuple xs) /\ p.depth <= 64 /\ (if b then PyData.list xs else PyData.tuple xs).depth <= 64 ∧
 Q (.bl (if neg then !(xs.any λ e=>PyData.eqv e p) else xs.any λ e=>PyData.eqv e p)) H
theorem ww7 (hu : X.A.units + 65 < cLine) : OpR X (compareOp .In) (rInD X.K false):=by
 intro pins s σ H x y v u Q I rx ry h
 obtain ⟨d,e,μ,p,xs,b,m,rd,re,e1,e2,h1,h2,k⟩:=h
 obtain ⟨as,q1⟩:=zk0 I m rd e1 rx
 obtain ⟨bs,q2⟩:=zk0 I m re e2 ry
 cases b
 ·exact PySem.SeqAt.in_tuple_reads q2 q1 (PySem.SeqAt.canLay_of_shaped (zg0 e2 h2)) (PySem.SeqAt.canLay_of_shaped (zg0 e1 h1)) (room_in_shaped (zg0 e1 h1) hu) ⟨.bl _,H,I,rfl,k⟩
 ·exact PySem.SeqAt.in_list_reads q2 q1 (PySem.SeqAt.canLay_of_shaped (zg0 e2 h2)) (PySem.SeqAt.canLay_of_shaped (zg0 e1 h1)) (room_in_shaped (zg0 e1 h1) hu) ⟨.bl _,H,I,rfl,k⟩
theorem xx3 (hu : X.A.units + 65 < cLine) : OpR X (compareOp .NotIn) (rInD X.K true):=by
 intro pins s σ H x y v u Q I rx ry h
 obtain ⟨d,e,μ,p,xs,b,m,rd,re,e1,e2,h1,h2,k⟩:=h
 obtain ⟨as,q1⟩:=zk0 I m rd e1 rx
 obtain ⟨bs,q2⟩:=zk0 I m re e2 ry
 cases b
 ·exact PySem.SeqAt.notIn_tuple_reads q2 q1 (PySem.SeqAt.canLay_of_shaped (zg0 e2 h2)) (PySem.SeqAt.canLay_of_shaped (zg0 e1 h1)) (room_in_shaped (zg0 e1 h1) hu) ⟨.bl _,H,I,rfl,k⟩
 ·exact PySem.SeqAt.notIn_list_reads q2 q1 (PySem.SeqAt.canLay_of_shaped (zg0 e2 h2)) (PySem.SeqAt.canLay_of_shaped (zg0 e1 h1)) (room_in_shaped (zg0 e1 h1) hu) ⟨.bl _,H,I,rfl,k⟩
theorem hu65 {A : Around} {k : Nat} (hr : Room k A) : A.units + 65 < cLine:=by have:=hr.un; omega
theorem wc8 {K : Fg} {neg : Bool} {x y : D} {v u : V} {H : Hp} {Q : VK} {μ : Mu} {Q3 : VK3} (m : RelM K μ H) (rx : RelD K H x v) (ry : RelD K H y u) (h : inD neg x y μ Q3) (k : Ks K H Q3 Q) : rInD K neg v u H Q:=by
 unfold inD at h
 split at h
 ·next d xs e1 e2=>exact ⟨x,y,μ,d,xs,true,m,rx,ry,e1,e2,h.1.1,h.1.2,k _ _ _ _ h.2 (Kp.refl _) (.bl _) m⟩
 ·next d xs e1 e2=>exact ⟨x,y,μ,d,xs,false,m,rx,ry,e1,e2,h.1.1,h.1.2,k _ _ _ _ h.2 (Kp.refl _) (.bl _) m⟩
 ·exact h.elim
theorem RdO.inn {K : Fg} {neg : Bool} : RdO K (λ x y H Q=>(rIn K neg x y H Q \/ ∃ i j,x = .str i /\ y = .str j /\ Q (.bl (if neg then !(!(Builtin.Str.occurrences j i 0 j.length 1).isEmpty) else !(Builtin.Str.occurrences j i 0 j.length 1).isEmpty)) H) \/ rInD K neg x y H Q) (inR neg):=λ x y v u H Q μ Q3 m rx ry h k=>by
 unfold inR at h
 split at h
 ·next z l =>
  cases e : strs? l with
  | none=>rw [e] at h; exact .inr (wc8 m rx ry h k)
  | some zs =>
   rw [e] at h
   cases rx
   cases ry with
   | tup hq rs =>
    rename_i a vs
    have ev:=yt2 rs e
    refine .inl <| .inl ⟨a,vs,rfl,.inr hq,rfl,by rw [ev]; exact xd4 zs,?_⟩
    rw [ev,zy4]
    exact k _ _ _ _ h (Kp.refl _) (.bl _) m
 ·next z y =>
  cases rx
  cases ry
  exact .inl <| .inr ⟨z,y,rfl,rfl,k _ _ _ _ h (Kp.refl _) (.bl _) m⟩
 ·exact .inr (wc8 m rx ry h k)
theorem q_in (hu : X.A.units + 65 < cLine) : RO X (compareOp .In) (inR false):=⟨_,(op_in_seq.or yx3).or (ww7 hu),RdO.inn⟩
theorem wv5 (hu : X.A.units + 65 < cLine) : RO X (compareOp .NotIn) (inR true):=⟨_,(op_notIn_seq.or yi2).or (xx3 hu),RdO.inn⟩
theorem q_eq (hu : X.A.units + 64 < cLine) : RO X (compareOp .Eq) eqR:=by
 refine ⟨_,op_eq.or (xx7 hu),λ x y v u H Q μ Q3 m rx ry h k=>?_⟩
 unfold eqR at h
 cases e : eqS x y with
 | some c =>
  rw [e] at h
  obtain ⟨h1,h2⟩:=wd8 rx ry e
  refine .inl ⟨h1,?_⟩
  rw [h2]
  exact k _ _ _ _ h (Kp.refl _) (.bl _) m
 | none =>
  rw [e] at h
  dsimp only at h
  cases e1 : datM μ x with
  | none=>rw [e1] at h; exact h.elim
  | some p =>
   cases e2 : datM μ y with
   | none=>rw [e1,e2] at h; exact h.elim
   | some q =>
    rw [e1,e2] at h
    exact .inr ⟨x,y,μ,p,q,m,rx,ry,e1,e2,h.1.1,h.1.2,k _ _ _ _ h.2 (Kp.refl _) (.bl _) m⟩
theorem q_ne (hu : X.A.units + 64 < cLine) : RO X (compareOp .NotEq) neR:=by
 refine ⟨_,op_ne.or (xw7 hu),λ x y v u H Q μ Q3 m rx ry h k=>?_⟩
 unfold neR at h
 cases e : eqS x y with
 | some c =>
  rw [e] at h
  obtain ⟨h1,h2⟩:=wd8 rx ry e
  refine .inl ⟨h1,?_⟩
  rw [h2]
  exact k _ _ _ _ h (Kp.refl _) (.bl _) m
 | none =>
  rw [e] at h
  dsimp only at h
  cases e1 : datM μ x with
  | none=>rw [e1] at h; exact h.elim
  | some p =>
   cases e2 : datM μ y with
   | none=>rw [e1,e2] at h; exact h.elim
   | some q =>
    rw [e1,e2] at h
    exact .inr ⟨x,y,μ,p,q,m,rx,ry,e1,e2,h.1.1,h.1.2,k _ _ _ _ h.2 (Kp.refl _) (.bl _) m⟩
theorem yf6 (K : Fg) : ∀ t ∈ ["int", "str", "tuple", "bool", "NoneType", "list"],∀ T ∈ ["int", "str", "tuple", "bool", "list"],PySem.W.kitOne K (.type t) (.type T) = some (t == T || (t == "bool" && T == "int")):=by
 intro t ht T hT
 simp only [List.mem_cons,List.not_mem_nil,or_false] at ht hT
 rcases ht with rfl | rfl | rfl | rfl | rfl | rfl <;> rcases hT with rfl | rfl | rfl | rfl | rfl <;> with_unfolding_all rfl
theorem yc8 {K : Fg} {t T : String} {b : Bool} (e : isIn t T = some b) (ht : t ∈ ["int", "str", "tuple", "bool", "NoneType", "list"]) (hT : T ∈ ["int", "str", "tuple", "bool", "list"]) : PySem.W.kitOne K (.type t) (.type T) = some b:=by
 rw [yf6 K t ht T hT]
 simp only [List.mem_cons,List.not_mem_nil,or_false] at ht hT
 rcases ht with rfl | rfl | rfl | rfl | rfl | rfl <;> rcases hT with rfl | rfl | rfl | rfl | rfl <;> simp [isIn] at e <;> subst e <;> rfl
theorem zc8 {t T : String} {b : Bool} (e : isIn t T = some b) (ht : t ∈ ["int", "str", "tuple", "bool", "NoneType", "list"]) : T ∈ ["int", "str", "tuple", "bool", "list"] \/ (t = T /\ b = true):=by
 unfold isIn at e
 simp only [List.mem_cons,List.not_mem_nil,or_false] at ht ⊢
 split at e
 ·next h=>simp only [Option.some.injEq] at e; exact .inr ⟨h,e.symm⟩
 ·split at e
  ·next h=>rw [h.2]; simp
  ·split at e
   ·next h=>rcases h.2 with rfl | rfl | rfl | rfl | rfl <;> simp
   ·cases e
theorem xx4 (K : Fg) (t : String) : PySem.W.kitOne K (.type t) (.type t) = some true:=by
 unfold PySem.W.kitOne
 rw [if_pos (by simp)]
noncomputable def rIsi (K : Fg) : List V -> Hp -> VK -> Prop:=λ xs H Q=>∃ d v μ t T b,xs = [v,.ty T] /\ RelM K μ H /\ RelD K H d v /\ tyN μ d = some t /\ isIn t T = some b /\ Q (.bl b) H
theorem xc5 : CallR X (.builtin "isinstance") (rIsi X.K):=by
 intro pins s σ H xs us Q I r h
 obtain ⟨d,v,μ,t,T,b,rfl,m,rd,e1,e2,q⟩:=h
 obtain ⟨u,w',rfl,rx,ry⟩:=yn2 r
 cases ry
 have fin : ∀ tk,EP X pins σ Q (.bool b) { s with toks:=tk }:=λ tk=>⟨.bl b,H,I.tok tk,rfl,q⟩
 have hk : ∀ t',t' ∈ ["int", "str", "tuple", "bool", "NoneType", "list"] -> isIn t' T = some b -> PySem.W.kitOne X.K (.type t') (.type T) = some b:=λ t' h1 h2=>by
  rcases zc8 h2 h1 with z | ⟨rfl,rfl⟩
  ·exact yc8 h2 h1 z
  ·exact xx4 _ _
 cases rd with
 | non=>simp only [tyN,Option.some.injEq] at e1; subst e1; cases rx; exact PySem.W.kia_one PySem.W.kitx_none I.kIn True.intro (hk _ (by simp) e2) (λ z=>nomatch z) fin
 | bl y=>simp only [tyN,Option.some.injEq] at e1; subst e1; cases rx; exact PySem.W.kia_one PySem.W.kitx_bool I.kIn True.intro (hk _ (by simp) e2) (λ z=>nomatch z) fin
 | int i=>simp only [tyN,Option.some.injEq] at e1; subst e1; obtain ⟨tk,rfl⟩:=rx; exact PySem.W.kia_one PySem.W.kitx_int I.kIn True.intro (hk _ (by simp) e2) (λ z=>nomatch z) fin
 | str y=>simp only [tyN,Option.some.injEq] at e1; subst e1; obtain ⟨tk,rfl⟩:=rx; exact PySem.W.kia_one PySem.W.kitx_str I.kIn True.intro (hk _ (by simp) e2) (λ z=>nomatch z) fin
 | tup hq rs =>
  simp only [tyN,Option.some.injEq] at e1; subst e1; cases rx
  obtain ⟨its,rv,⟨o,ho,hc,_⟩,hz⟩:=I.tuple hq
  exact PySem.W.kia_one PySem.W.kitx_tuple I.kIn ⟨o,ho,hc⟩ (hk _ (by simp) e2) (λ z=>nomatch z) fin
 | ref p =>
  simp only [tyN] at e1
  split at e1
  ·next l e0 =>
   simp only [Option.some.injEq] at e1; subst e1; cases rx
   obtain ⟨vs,hv,rs⟩:=m p l e0
   obtain ⟨its,rv,pl,hz⟩:=I.list (SqL.of hv)
   obtain ⟨o,ho,hc,_⟩:=pl.isList
   exact PySem.W.kia_one PySem.W.kitx_list I.kIn ⟨o,ho,hc⟩ (hk _ (by simp) e2) (λ z=>nomatch z) fin
  ·cases e1
 | ty n=>simp [tyN] at e1
 | fls _ _=>simp [tyN] at e1
 | exc _ _ _=>simp [tyN] at e1
theorem xi3 : RC X (.builtin "isinstance") isiR:=by
 refine ⟨_,xc5,λ xs vs H Q μ Q3 m r h k=>?_⟩
 cases r with
 | nil=>exact False.elim h
 | cons r1 r2 =>
  cases r2 with
  | nil=>exact False.elim h
  | cons r2 r3 =>
   cases r3 with
   | cons _ _=>cases r2 <;> exact False.elim h
   | nil =>
    cases r2 with
    | ty T =>
     rename_i d v
     dsimp only [isiR] at h
     cases e : tyN μ d with
     | none=>rw [e] at h; exact h.elim
     | some t =>
      rw [e] at h
      dsimp only at h
      cases e2 : isIn t T with
      | none=>rw [e2] at h; exact h.elim
      | some b =>
       rw [e2] at h
       exact ⟨d,v,μ,t,T,b,rfl,m,r1,e,e2,k _ _ _ _ h (Kp.refl _) (.bl _) m⟩
    | _=>exact False.elim h
variable {o e : Expr} {es : List Expr} {to : TE3} {t : TA3} {apos cpos : Pos}
theorem wu5 {name : Str} {id : String} {r : V -> List V -> Hp -> VK -> Prop} {r3 : D -> List D -> Mu -> VK3 -> Prop} (slot : Slot "list" name id) (hty : typeOf (.builtin id) = pure (.type "method_descriptor")) (hm : MtR X id r)
    (hrd : ∀ p xs v vs H Q μ Q3,RelM X.K μ H -> RelD X.K H (.ref p) v -> RelDs X.K H xs vs -> r3 (.ref p) xs μ Q3 -> Ks X.K H Q3 Q -> r v vs H Q) (ho : RE X o to) (ha : RA X (e :: es) t)
    (hbase : attributeBase o name X.env (eval o X.env) = eval o X.env)
    (hfew : ((backTo cpos (starEach (e :: es) X.env)).all (λ x=>!x.1) && (backToKw cpos (keywordEach [] X.env)).all (λ x=>x.1.isSome)
     && decide ((e :: es).length + ([] : List Keyword).length + (if ([] : List Keyword).isEmpty then 0 else 1) < 30)) = true)
    (hline : (apos.endLine == cpos.line) = true) (hs : starEach (e :: es) X.env = (false,eval e X.env) :: starEach es X.env) (hplain : (backTo cpos (starEach es X.env)).any (·.1) = false) :
    RE X (.Call (.Attribute o name apos) (e :: es) [] cpos) (mt3 r3 to t):=by
 obtain ⟨va,pa,ra⟩:=ho
 obtain ⟨vb,pb,rb⟩:=ha
 refine ⟨_,ws8 PySem.F.plainAttrs_list slot hty hm pa pb hbase hfew hline hs hplain,λ σ H Q ρ μ Q3 s m h k=>ra σ H _ ρ μ _ s m h λ d μ1 v H1 h1 k1 r1 m1=>?_⟩
 cases r1 with
 | ref p =>
  dsimp only at h1
  cases e0 : μ1 p with
  | none=>rw [e0] at h1; exact h1.elim
  | some oo =>
   cases oo with
   | ins _ _=>rw [e0] at h1; exact h1.elim
   | dct _=>rw [e0] at h1; exact h1.elim
   | lst l =>
    rw [e0] at h1
    obtain ⟨vs,hv,rs⟩:=m1 p l e0
    refine ⟨.inl ⟨rfl,vs,SqL.of hv⟩,rb σ H1 _ ρ μ1 _ (s.mono k1) m1 h1 λ xs μ2 ys H2 h2 k2 r2 m2=>?_⟩
    exact hrd p xs _ ys H2 Q μ2 Q3 m2 (.ref p) r2 h2 (k.after (k1.trans k2))
 | _=>exact False.elim h1
theorem xi2 (ho : RE X o to) (ha : RA X (e :: es) t) (hbase : attributeBase o "append" X.env (eval o X.env) = eval o X.env:=by rfl)
    (hfew : ((backTo cpos (starEach (e :: es) X.env)).all (λ x=>!x.1) && (backToKw cpos (keywordEach [] X.env)).all (λ x=>x.1.isSome)
     && decide ((e :: es).length + ([] : List Keyword).length + (if ([] : List Keyword).isEmpty then 0 else 1) < 30)) = true:=by rfl)
    (hline : (apos.endLine == cpos.line) = true:=by rfl) (hs : starEach (e :: es) X.env = (false,eval e X.env) :: starEach es X.env:=by rfl) (hplain : (backTo cpos (starEach es X.env)).any (·.1) = false:=by rfl) :
    RE X (.Call (.Attribute o "append" apos) (e :: es) [] cpos) (mt3 appR to t):=by
 refine wu5 PySem.F.slot_list_append PySem.F.type_list_append ws1 (λ p xs v vs H Q μ Q3 m rp rx h k=>?_) ho ha hbase hfew hline hs hplain
 cases rp
 cases rx with
 | nil=>exact False.elim h
 | cons r1 r2 =>
  cases r2 with
  | cons _ _=>exact False.elim h
  | nil =>
   dsimp only [appR] at h
   cases e0 : μ p with
   | none=>rw [e0] at h; exact h.elim
   | some oo =>
    cases oo with
    | ins _ _=>rw [e0] at h; exact h.elim
    | dct _=>rw [e0] at h; exact h.elim
    | lst l =>
     rw [e0] at h
     obtain ⟨vs,hv,rs⟩:=m p l e0
     exact ⟨p,vs,_,rfl,rfl,hv,by rw [<- rs.length]; exact h.1,k _ _ _ _ h.2 (Kp.wr hv) .non (m.wr hv (rs.append (.cons r1 .nil)))⟩
theorem xs3 (ho : RE X o to) (ha : RA X (e :: es) t) (hbase : attributeBase o "extend" X.env (eval o X.env) = eval o X.env:=by rfl)
    (hfew : ((backTo cpos (starEach (e :: es) X.env)).all (λ x=>!x.1) && (backToKw cpos (keywordEach [] X.env)).all (λ x=>x.1.isSome)
     && decide ((e :: es).length + ([] : List Keyword).length + (if ([] : List Keyword).isEmpty then 0 else 1) < 30)) = true:=by rfl)
    (hline : (apos.endLine == cpos.line) = true:=by rfl) (hs : starEach (e :: es) X.env = (false,eval e X.env) :: starEach es X.env:=by rfl) (hplain : (backTo cpos (starEach es X.env)).any (·.1) = false:=by rfl) :
    RE X (.Call (.Attribute o "extend" apos) (e :: es) [] cpos) (mt3 extR to t):=by
 refine wu5 PySem.F.slot_list_extend PySem.F.type_list_extend wy3 (λ p xs v vs H Q μ Q3 m rp rx h k=>?_) ho ha hbase hfew hline hs hplain
 cases rp
 cases rx with
 | nil=>exact False.elim h
 | cons r1 r2 =>
  cases r2 with
  | cons _ _=>cases r1 <;> exact False.elim h
  | nil =>
   cases r1 with
   | ref q =>
    dsimp only [extR] at h
    cases e0 : μ p with
    | none=>rw [e0] at h; exact h.elim
    | some oo =>
     cases oo with
     | ins _ _=>rw [e0] at h; exact h.elim
     | dct _=>rw [e0] at h; exact h.elim
     | lst l =>
      cases e2 : μ q with
      | none=>rw [e0,e2] at h; exact h.elim
      | some o2 =>
       cases o2 with
       | ins _ _=>rw [e0,e2] at h; exact h.elim
       | dct _=>rw [e0,e2] at h; exact h.elim
       | lst l2 =>
        rw [e0,e2] at h
        obtain ⟨vs,hv,rs⟩:=m p l e0
        obtain ⟨us,hu,ru⟩:=m q l2 e2
        exact ⟨p,q,vs,us,rfl,rfl,hv,hu,by rw [<- rs.length,<- ru.length]; exact h.1,k _ _ _ _ h.2 (Kp.wr hv) .non (m.wr hv (rs.append ru))⟩
   | _=>exact False.elim h
end
end Pv
namespace Pv
open PySem PySem.Spec PyProof.Rows L2
noncomputable abbrev ws0 (X : Cx) (NN : List Str) (scope : Scope) (cl : List (Str × Addr)) (C : Addr) (fp : List Addr) (s₀ : Shared) (H₀ : Hp) (pn : List (Addr × Obj)) : Cx :=
 { X with N:=NN,s₀:=s₀,H₀:=H₀,env:=compEnvC scope cl C X.env,outer:=X.stack,ex:=fp,fn:=λ _=>false,pn:=pn,xe:=λ _ _=>False }
structure CompSc (X : Cx) (NN : List Str) (scope : Scope) (cl : List (Str × Addr)) (js : List (Option Nat)) : Prop where
 clos : closureFor scope X.env = pure cl
 cell : ∀ y ∈ scope.names,y.2 ≠ .cell
 kind : scope.kind = .function
 names : ∀ y ∈ scope.names,y.2 = .local -> scope.names.lookup y.1 = some .local
 sub : ∀ x c,cl.lookup x = some c -> X.env.cells.lookup x = some c
 has : ∀ x,((relabel scope X.env).names.lookup x = some .cell \/ (relabel scope X.env).names.lookup x = some .free) -> ∃ c,cl.lookup x = some c
 len : js.length = NN.length
 out : ∀ (i j : Nat),js[i]? = some (some j) -> ∃ x,NN[i]? = some x /\ X.N[j]? = some x /\ Vis X.env.scope x /\ X.env.scope.names.lookup x ≠ some .local /\ ((relabel scope X.env).names.lookup x = some .cell \/ (relabel scope X.env).names.lookup x = some .free)
theorem zo0 {α : Type} {x : Str} {k : α} : ∀ {l : List (Str × α)},l.lookup x = some k -> (x,k) ∈ l
 | [],h=>by simp at h
 | (n,k') :: r,h=>by
  rw [List.lookup_cons] at h
  split at h
  ·next e=>simp only [Option.some.injEq] at h; subst h; rw [eq_of_beq e]; exact List.mem_cons_self
  ·exact List.mem_cons_of_mem _ (zo0 h)
theorem CompSc.closed {X : Cx} {NN : List Str} {scope : Scope} (hf : ∀ y ∈ scope.names,y.2 ≠ .free) (hc : ∀ y ∈ scope.names,y.2 ≠ .cell) (hk : scope.kind = .function) (hn : ∀ y ∈ scope.names,y.2 = .local -> scope.names.lookup y.1 = some .local) :
    CompSc X NN scope [] (NN.map λ _=>none) where
 clos:=closureFor_none hf
 cell:=hc
 kind:=hk
 names:=hn
 sub:=λ x c h=>by simp at h
 has:=λ x h=>by
  exfalso
  have e : (relabel scope X.env).names = scope.names:=map_eq_self (l:=scope.names) (λ y hy=>by
   obtain ⟨n,k⟩:=y
   have : (k == NameKind.free) = false:=by simpa using hf _ hy
   simp [this])
  rw [e] at h
  rcases h with h | h
  ·exact hc _ (zo0 h) rfl
  ·exact hf _ (zo0 h) rfl
 len:=by simp
 out:=λ i j h=>by
  rw [List.getElem?_map] at h
  cases q : NN[i]? with
  | none=>rw [q] at h; cases h
  | some y=>rw [q] at h; simp at h
noncomputable def wa1 (js : List (Option Nat)) (σ : L2.St) : L2.St:=js.map λ j=>j.bind λ j=>(σ[j]?).bind id
noncomputable def PTs (X : Cx) (ifs : List Expr) (t : TT) : Prop:=∀ (pins : List (Addr × Obj)) (s : Shared) (σ : L2.St) (H : Hp) (Q : Bool -> Hp -> Prop),Inv X pins σ H s -> t σ H Q ->
 wpAny (model X.prog X.w) X.A (forIn ifs true λ c r=>if r = true then do let ok <- isTrue c X.env (eval c X.env); pure (ForInStep.yield ok) else pure (ForInStep.yield r)) (TP X pins σ Q) X.xe s
theorem ww5 {X : Cx} : PTs X [] (λ _ H Q=>Q true H):=λ _ _ _ H _ I h=>wpAny_tests_nil ⟨H,I,h⟩
theorem zw5 {X : Cx} {c : Expr} {t : TT} (h : PT X c t) : PTs X [c] t:=λ pins s σ H Q I q=>wpAny_tests_one (h pins s σ H Q I q)
noncomputable def wn3 (js : List (Option Nat)) (wi : TI) (g : TG) (tc : TT) (te : TE) : TE:=λ σ H Q=>wi σ H λ J H1=>∀ p,H1 p = none ->
 ∃ W : Nat -> Nat -> L2.St -> Hp -> Prop,(∃ m,W 0 m (wa1 js σ) (upd H1 p (.lst []))) /\ ∀ i m σ' H',W i m σ' H' ->
  ((J.stop i H' /\ Q (.ref p) H') \/ (J.go i H' /\ ∀ x H2,J.yld i H' x H2 -> g x σ' H2 λ σ3 H3=>tc σ3 H3 λ b H4 =>
   if b = true then te σ3 H4 λ y H5=>∃ ys,H5 p = some (.lst ys) /\ ys.length < sizeLine /\ ∃ m',m' < m /\ W (i + 1) m' σ3 (upd H5 p (.lst (ys ++ [y]))) else ∃ m',m' < m /\ W (i + 1) m' σ3 H4))
section
variable {X : Cx} {NN : List Str} {scope : Scope} {cl : List (Str × Addr)} {js : List (Option Nat)}
theorem yh6 {pins : List (Addr × Obj)} {σ : L2.St} {H : Hp} {s : Shared} {fp : List Addr} {pn : List (Addr × Obj)} (hc : X.calm = true) (S : CompSc X NN scope cl js) (I : Inv X pins σ H s) (f : ∀ b ∈ fp,FpOk X pins H b /\ b < s.heap.objs.size) :
    (ws0 X NN scope cl s.heap.objs.size fp s H pn).Ok where
 mod:=I.ok.mod
 kind:=S.kind
 glob:=I.ok.glob
 blt:=I.ok.blt
 above:=Nat.le_refl _
 inj:=λ x y c h1 h2=>I.ok.inj x y c (S.sub x c h1) (S.sub y c h2)
 has:=λ x h=>S.has x h
 cab:=λ x c h=>by cases h
 hd:=λ _=>I.ok.hd hc
 frames:=I.ok.frames
 stk:=.inl rfl
 exf:=λ b hb=>⟨Nat.ne_of_lt (f b hb).2,λ x c e=>(f b hb).1.2.2.2.2.1 x c (S.sub x c e)⟩
 bs:=I.bs
 bsz:=Nat.le_trans I.ok.bsz I.sz
 noex:=λ b o e hb=>by
  rcases (f b hb).1.2.2.2.1 with z | z
  ·exact I.ok.noex b o e z
  ·exact absurd (Nat.lt_of_lt_of_le (Heap.lt_size e) (Nat.le_trans I.ok.bsz z)) (Nat.lt_irrefl _)
 exfs:=λ b hb hfs=>by
  rcases List.mem_cons.mp (I.stkSub b hfs) with z | z
  ·exact (f b hb).1.2.1 z
  ·exact (f b hb).1.2.2.1 z
 funs:=I.stack
 frf:=I.stkFree
theorem wj2 {js : List (Option Nat)} {σ : L2.St} {i : Nat} {v : V} (h : (wa1 js σ)[i]? = some (some v)) : ∃ j,js[i]? = some (some j) /\ σ[j]? = some (some v):=by
 unfold wa1 at h
 rw [List.getElem?_map] at h
 cases q : js[i]? with
 | none=>rw [q] at h; cases h
 | some o =>
  rw [q] at h
  cases o with
  | none=>simp at h
  | some j =>
   refine ⟨j,rfl,?_⟩
   simp only [Option.map_some,Option.bind_some,Option.some.injEq] at h
   cases e : σ[j]? with
   | none=>rw [e] at h; simp at h
   | some w=>rw [e] at h; simp only [Option.bind_some,id] at h; rw [h]
theorem yg4 {pins : List (Addr × Obj)} {σ : L2.St} {H : Hp} {s : Shared} {fp : List Addr} {h₁ : Heap} {m : Str -> Option Value} {tk : Nat} (hc : X.calm = true) (S : CompSc X NN scope cl js) (I : Inv X pins σ H s) (f : ∀ b ∈ fp,FpOk X pins H b /\ b < s.heap.objs.size)
    (hn : h₁.Ns s.heap.objs.size m) (k : ∀ b u,s.heap.get? b = some u -> h₁.get? b = some u) : Inv (ws0 X NN scope cl s.heap.objs.size fp s H (X.pn ++ pins)) [] (wa1 js σ) H { s with heap:=h₁,toks:=tk } where
 ok:=yh6 hc S I f
 os:=rfl
 bare:=I.bare
 base:=Un.kept k
 loc:=by
  refine ⟨m,hn,λ i x v h1 h2 h3=>?_⟩
  obtain ⟨j,e1,e2⟩:=wj2 h2
  obtain ⟨y,q1,q2,q3,q4,q5⟩:=S.out i j e1
  have q1' : NN[i]? = some x:=h1
  rw [q1] at q1'; cases q1'
  obtain ⟨mX,_,hl⟩:=I.loc
  obtain ⟨u,r,l⟩:=hl j x v q2 e2 q3
  refine ⟨u,r,.inr ⟨q5,?_⟩⟩
  rcases l with ⟨z,_⟩ | ⟨_,c,hc',hcell⟩
  ·exact absurd z q4
  ·obtain ⟨c',hc2⟩:=S.has x q5
   have e:=S.sub x c' hc2
   rw [hc'] at e; cases e
   obtain ⟨o,ho,hd⟩:=hcell
   exact ⟨c,hc2,o,k _ _ ho,hd⟩
 cell:=λ x c e=>by
  obtain ⟨v,o,ho,hd⟩:=I.cell x c (S.sub x c e)
  exact ⟨v,o,k _ _ ho,hd⟩
 free:=I.hok.fresh (Nat.le_refl _)
 freeC:=λ x c e=>I.freeC x c (S.sub x c e)
 pin:=λ p hp=>by
  have hp' : p ∈ X.pn ++ pins:=by simpa using hp
  obtain ⟨h1,h2,h3,h4,h5⟩:=I.pin p hp'
  refine ⟨k _ _ h1,h2,Nat.ne_of_lt (Heap.lt_size h1),λ z=>?_,h5⟩
  rcases List.mem_cons.mp (I.stkSub _ z) with z | z
  ·exact h3 z
  ·exact h4 z
 hok:=I.hok.kept k
 len:=by show (wa1 js σ).length = NN.length; unfold wa1; rw [List.length_map]; exact S.len
theorem xa6 {elt target iter : Expr} {ifs : List Expr} {pos : Pos} {wi : TI} {g : TG} {tc : TT} {te : TE} (hc : X.calm = true) (S : CompSc X NN scope cl js) (hi : PI X target iter wi)
    (hg : ∀ C fp s₀ H₀ pn,PG (ws0 X NN scope cl C fp s₀ H₀ pn) target g) (ht : ∀ C fp s₀ H₀ pn,PTs (ws0 X NN scope cl C fp s₀ H₀ pn) ifs tc) (he : ∀ C fp s₀ H₀ pn,PE (ws0 X NN scope cl C fp s₀ H₀ pn) elt te)
    (hs : ∀ x,foldedSetIterable iter X.env x = pure x) : PE X (.ListComp elt [⟨target,iter,ifs,0⟩] scope pos) (wn3 js wi g tc te):=by
 intro pins s σ H Q I h
 rw [eval_ListComp]
 refine wpAny_comprehension_free (use:=none) rfl hs S.clos S.kind S.names (thn (hi pins s σ H _ I h) λ xv s1 h1=>thn h1 λ itv s2 h2=>?_)
 obtain ⟨it,fp,tn,J,H2,rfl,I2,T,st2,f2,hW⟩:=h2
 refine wpAny_newObj_type (wpAny_newFunctionEnv S.cell (by intro y hy; simp at hy) (λ h₁ hns₁ hsb₁=>?_) S.kind)
 dsimp only at hns₁ hsb₁ ⊢
 have hD : H2 s2.heap.objs.size = none:=I2.hok.fresh (Nat.le_refl _)
 have I3 : Inv X pins σ (upd H2 s2.heap.objs.size (.lst [])) { s2 with heap:=s2.heap.push { cls:=.type "list",dict:=none,data:=.seq ([] : List Value).toArray } } :=
  I2.lnew (t':=s2.toks) (its:=[]) .nil (by rw [sizeLine_eq]; decide)
 generalize hsD : ({ s2 with heap:=s2.heap.push { cls:=.type "list",dict:=none,data:=.seq ([] : List Value).toArray } } : Shared) = sD at I3
 have eh : sD.heap = s2.heap.push { cls:=.type "list",dict:=none,data:=.seq ([] : List Value).toArray }:=by rw [<- hsD]
 have es : ∀ (h : Heap) (tk : Nat),({ s2 with heap:=h,toks:=tk } : Shared) = { sD with heap:=h,toks:=tk }:=λ h tk=>by rw [<- hsD]
 have hsz : s2.heap.objs.size < sD.heap.objs.size:=by rw [eh,Heap.size_push]; exact Nat.lt_succ_self _
 rw [<- eh] at hns₁ hsb₁ ⊢
 generalize hp0 : s2.heap.objs.size = p0 at *
 have up : ∀ b u,s2.heap.get? b = some u -> sD.heap.get? b = some u:=λ b u e=>by rw [eh]; exact Heap.get?_push_of_some _ e
 have k : ∀ b u,sD.heap.get? b = some u -> h₁.get? b = some u:=λ b u e=>hsb₁.extBut b u (Nat.ne_of_lt (Heap.lt_size e)) (Heap.get?_push_of_some _ e)
 have f3 : ∀ b ∈ fp,FpOk X pins (upd H2 p0 (.lst [])) b /\ b < sD.heap.objs.size:=λ b hb=>by
  obtain ⟨o,ho,_⟩:=T.obj 0 _ st2 b hb
  have hlt : b < p0:=by rw [<- hp0]; exact Heap.lt_size ho
  refine ⟨⟨?_,(f2 b hb).2⟩,Nat.lt_trans hlt hsz⟩
  rw [zf0 (Nat.ne_of_lt hlt)]; exact (f2 b hb).1
 obtain ⟨W,⟨m0,w0⟩,turn⟩:=hW p0 hD
 have I4:=yg4 (tk:=s2.toks + ([] : List (Str × Value)).length) hc S I3 f3 hns₁ k
 have st4 : tn 0 h₁:=T.keep 0 _ _ st2 λ b _ o e=>k b o (up b o e)
 rw [es]
 generalize hX' : ws0 X NN scope cl sD.heap.objs.size fp sD (upd H2 p0 (.lst [])) (X.pn ++ pins) = X' at I4
 have a1 : X'.env = compEnvC scope cl sD.heap.objs.size X.env:=by rw [<- hX']
 have a2 : X'.prog = X.prog:=by rw [<- hX']
 have a3 : X'.w = X.w:=by rw [<- hX']
 have a4 : X'.A = X.A:=by rw [<- hX']
 have a5 : X'.K = X.K:=by rw [<- hX']
 have a6 : X'.calm = true:=by rw [<- hX']; exact hc
 have a7 : X'.xe = λ _ _=>False:=by rw [<- hX']
 have a8 : X'.ex = fp:=by rw [<- hX']
 have T' : Turn X'.prog X'.w X'.K target J fp it tn:=by rw [a2,a3,a5]; exact T
 have hg' : PG X' target g:=by rw [<- hX']; exact hg _ _ _ _ _
 have ht' : PTs X' ifs tc:=by rw [<- hX']; exact ht _ _ _ _ _
 have he' : PE X' elt te:=by rw [<- hX']; exact he _ _ _ _ _
 have fin : ∀ {σ' : L2.St} {H' : Hp} {s' : Shared},Inv X' [] σ' H' s' -> Q (.ref p0) H' -> compPost (model X.prog X.w) X.A X.xe none (EP X pins σ Q) (.ref p0) sD.heap.objs.size (.ok .next) s':=λ {σ' H' s'} I' q=>by
  obtain ⟨m',hn',_⟩:=I'.loc
  rw [a1] at hn'
  refine ⟨m',hn',λ h' sb=>?_⟩
  have u : Un (frs X.stack) fp (upd H2 p0 (.lst [])) H' sD.heap s'.heap:=by
   have:=I'.base
   rw [<- hX'] at this
   exact this
  have hch : ∀ b ∈ fp,(b ∈ X.ex \/ X.s₀.heap.objs.size <= b) /\ b ≠ X.env.locals /\ (∀ x c,X.env.cells.lookup x = some c -> c ≠ b) /\ ∀ p ∈ X.pn ++ pins,p.1 ≠ b:=λ b hb=>by
   obtain ⟨_,z1,_,z3,z4,z5⟩:=(f3 b hb).1
   exact ⟨z3,z1,z4,z5⟩
  have os' : s'.os = sD.os:=by
   have:=I'.os
   rw [<- hX'] at this
   exact this
  have hok' : HOk X.prog X.w H' s'.heap:=by
   have:=I'.hok
   rw [<- hX'] at this
   exact this
  have I5 : Inv X pins σ H' s':=I3.call' os' u hok' I'.bare hch
  have hC : H' sD.heap.objs.size = none:=by
   have:=I'.free
   rw [a1] at this
   exact this
  refine ⟨.ref p0,H',I5.turned (t':=s'.toks) (it:=sD.heap.objs.size) (λ b o hb e=>sb.extBut b o hb e) hC (Nat.ne_of_gt I3.lt) (.inr I3.sz) (λ x c e=>?_) (λ p hp=>?_),rfl,q⟩
  ·obtain ⟨v,o,ho,_⟩:=I3.cell x c e
   exact Nat.ne_of_lt (Heap.lt_size ho)
  ·exact Nat.ne_of_lt (Heap.lt_size (I3.pin p hp).1)
 have fp4 : ∀ {H' : Hp},(∀ b ∈ fp,H' b = none) -> ∀ b ∈ fp,FpOk X' [] H' b:=λ hn b hb=>by
  obtain ⟨_,z1,z2,z3,z4,z5⟩:=(f3 b hb).1
  rw [<- hX']
  refine ⟨hn b hb,Nat.ne_of_lt (f3 b hb).2,λ z=>?_,.inl hb,λ x c e=>z4 x c (S.sub x c e),λ p hp=>z5 p (by simpa using hp)⟩
  rcases List.mem_cons.mp (I3.stkSub _ z) with z | z
  ·exact z1 z
  ·exact z2 z
 have loop : ∀ s₃ : Shared,Inv X' [] (wa1 js σ) (upd H2 p0 (.lst [])) s₃ -> tn 0 s₃.heap ->
     codeAny (model X.prog X.w) X.A (.compLoop (.ListComp elt [⟨target,iter,ifs,0⟩] scope pos) 0 (.ref it) (.ref p0) (compEnvC scope cl sD.heap.objs.size X.env)) (compPost (model X.prog X.w) X.A X.xe none (EP X pins σ Q) (.ref p0) sD.heap.objs.size) s₃:=by
  intro s₃ I₃ st₃
  refine codeAny_loop rfl (λ n s'=>∃ i σ' H',Inv X' [] σ' H' s' /\ tn i s'.heap /\ (∀ b ∈ fp,H' b = none) /\ W i n σ' H') (λ n s' hI=>?_) m0 ⟨0,wa1 js σ,_,I₃,st₃,λ b hb=>(f3 b hb).1.1,w0⟩
  obtain ⟨i,σ3,H3,J3,st3,fr3,w3⟩:=hI
  have tr:=turn i n σ3 H3 w3
  show wpAny _ X.A ((compTurn (.ListComp elt [⟨target,iter,ifs,0⟩] scope pos) 0 (.ref it) (.ref p0) (compEnvC scope cl sD.heap.objs.size X.env)).onRaise (λ x=>do noteFrame x (compEnvC scope cl sD.heap.objs.size X.env); theTreesLotGoes x)) _ _ s'
  refine wpAny_noted ?_
  rw [compTurn_list,<- a1,<- a2,<- a3,<- a4]
  have nof : ∀ {α : Type} {t : Sem α} {Q' : α -> Shared -> Prop} {s'' : Shared} {E : Value -> Shared -> Prop},wpAny (model X'.prog X'.w) X'.A t Q' X'.xe s'' -> wpAny (model X'.prog X'.w) X'.A t Q' E s'':=λ h=>wpAny_mono h (λ _ _ q=>q) λ _ _ z=>by rw [a7] at z; exact z.elim
  rcases tr with ⟨stop,qn⟩ | ⟨go,step⟩
  ·refine wpAny_bind (wpAny_standAt (wpAny_bind (nof (thn (T'.done X' rfl rfl rfl a6 i [] s' σ3 H3 X'.xe J3 (fp4 fr3) st3 stop) λ r s4 ⟨hr,J4⟩=>?_))))
   subst hr
   exact wpAny_pure (fin J4 qn)
  ·refine wpAny_bind (wpAny_standAt (wpAny_bind (nof (thn (T'.item X' rfl rfl rfl a6 i [] s' σ3 H3 X'.xe J3 (fp4 fr3) st3 go) λ r s4 ⟨u,hr,h4⟩=>?_))))
   subst hr
   refine wpAny_bind (nof (thn h4 λ _ s5 ⟨x,H5,I5,r5,y5,st5,fr5⟩=>?_))
   have I5':=I5.pinned (fp4 fr5) (T.obj _ _ st5)
   refine wpAny_bind (nof (thn (hg' _ s5 σ3 H5 x u _ I5' r5 (step x H5 y5)) λ _ s6 ⟨σ6,H6,I6,q6⟩=>?_))
   refine wpAny_bind (nof (thn (ht' _ s6 σ6 H6 _ I6 q6) λ ok s7 ⟨H7,I7,q7⟩=>?_))
   have again : ∀ {s8 : Shared} {σ8 : L2.St} {H8 : Hp},Inv X' ([] ++ wx1 fp s5.heap) σ8 H8 s8 -> (∃ m',m' < n /\ W (i + 1) m' σ8 H8) -> ∃ m,m < n /\ ∃ i σ' H',Inv X' [] σ' H' s8 /\ tn i s8.heap /\ (∀ b ∈ fp,H' b = none) /\ W i m σ' H':=λ {s8 σ8 H8} I8 ⟨m',hm,w8⟩=>by
    refine ⟨m',hm,i + 1,σ8,H8,I8.unpinned,T.keep _ _ _ st5 λ b hb o e=>(I8.pin (b,o) (List.mem_append_right _ (List.mem_append_right _ (zr0 hb e)))).1,λ b hb=>?_,w8⟩
    obtain ⟨o,e,d⟩:=T.obj _ _ st5 b hb
    exact (I8.pin (b,o) (List.mem_append_right _ (List.mem_append_right _ (zr0 hb e)))).2.1
   cases ok with
   | false=>exact wpAny_pure ⟨rfl,again I7 q7⟩
   | true =>
    refine wpAny_bind (wpAny_bind (nof (thn (he' _ s7 σ6 H7 _ I7 q7) λ xv s8 ⟨y,H8,I8,r8,ys,q8,hlen,q9⟩=>wpAny_bind (nof ?_))))
    refine thn (ws1 (X:=X') _ s8 σ6 H8 (.ref p0) [y] (.ref p0) [xv] (λ v H9=>v = .non /\ H9 = upd H8 p0 (.lst (ys ++ [y]))) I8 rfl (.cons r8 .nil) ⟨p0,ys,y,rfl,rfl,q8,hlen,rfl,rfl⟩) λ rv s9 ⟨v9,H9,I9,_,_,e9⟩=>?_
    subst e9
    exact wpAny_pure (wpAny_pure ⟨rfl,again I9 q9⟩)
 exact codeAny_compStart_list (loop _ I4 st4) (T.self X.A 0 _ _ _ st4 (loop _ I4 st4))
end
end Pv
namespace Pv
open PySem PySem.Spec PyProof.Rows L2
theorem zl2 : bootBuiltins "len" = some (.builtin "len"):=by decide +kernel
theorem we8 : bootBuiltins "abs" = some (.builtin "abs"):=by decide +kernel
theorem wi0 : bootBuiltins "isinstance" = some (.builtin "isinstance"):=by decide +kernel
theorem yp1 : bootBuiltins "tuple" = some (.type "tuple"):=by decide +kernel
theorem wi4 : bootBuiltins "int" = some (.type "int"):=by decide +kernel
theorem yi6 : bootBuiltins "bool" = some (.type "bool"):=by decide +kernel
theorem xi6 : bootBuiltins "list" = some (.type "list"):=by decide +kernel
theorem ze8 : bootBuiltins "all" = some (.builtin "all"):=by decide +kernel
theorem zq0 : bootBuiltins "min" = some (.builtin "min"):=by decide +kernel
theorem wz0 : bootBuiltins "max" = some (.builtin "max"):=by decide +kernel
theorem wc5 : bootBuiltins "range" = some (.type "range"):=by decide +kernel
noncomputable def RTs (X : Cx) (ifs : List Expr) (t : TT3) : Prop:=∃ tv,PTs X ifs tv /\ RdT X.K tv t
theorem wp0 {X : Cx} : RTs X [] tt3:=⟨_,ww5,λ σ H Q ρ μ Q3 s m h k=>k _ _ _ h (Kp.refl _) m⟩
theorem wt5 {X : Cx} {c : Expr} {t : TT3} (h : RT X c t) : RTs X [c] t:=let ⟨tv,p,r⟩:=h; ⟨tv,zw5 p,r⟩
theorem yy4 {K : Fg} {H : Hp} {ρ : St3} {σ : L2.St} (s : RSt K H ρ σ) (js : List (Option Nat)) : RSt K H (js.map λ j=>j.bind (getI ρ)) (wa1 js σ):=by
 refine ⟨by simp [wa1],λ i d e=>?_⟩
 rw [zq2,List.getElem?_map] at e
 unfold wa1
 rw [List.getElem?_map]
 cases q : js[i]? with
 | none=>rw [q] at e; cases e
 | some o =>
  rw [q] at e
  cases o with
  | none=>simp at e
  | some j =>
   have e' : getI ρ j = some d:=by simpa using e
   obtain ⟨v,h1,h2⟩:=s.at' j d e'
   exact ⟨v,by simp [h1],h2⟩
theorem RdE.comp {K : Fg} {js : List (Option Nat)} {wi : TI} {g : TG} {tc : TT} {te : TE} {ti : TI3} {g3 : TG3} {tc3 : TT3} {te3 : TE3} (ri : RdI K wi ti) (rg : RdG K g g3) (rt : RdT K tc tc3) (re : RdE K te te3) : RdE K (wn3 js wi g tc te) (comp3 js ti g3 tc3 te3):=by
 intro σ H Q ρ μ Q3 s m h k
 refine ri σ H _ ρ μ _ s m h λ l S μ1 J H1 h1 k1 m1 ok p hp=>?_
 obtain ⟨W,w0,hS,hn,hs⟩:=h1 p (m1.free hp)
 have kn : Kp H1 (upd H1 p (.lst [])):=Kp.new hp
 refine ⟨λ i n σ2 H2=>n = l.length - i /\ i <= l.length /\ ∃ ρ2 μ2 ys,RSt K H2 ρ2 σ2 /\ RelM K μ2 H2 /\ Kp H1 H2 /\ W (l.drop i) ys ρ2 μ2,⟨l.length,rfl,Nat.zero_le _,_,_,[],(yy4 (s.mono k1) js).mono kn,m1.newL hp .nil,kn,w0⟩,?_⟩
 rintro i n σ2 H2 ⟨rfl,hi,ρ2,μ2,ys,s2,m2,k2,w2⟩
 obtain ⟨hS2,hp2⟩:=hS _ _ _ _ w2
 by_cases hlt : i < l.length
 ·rw [List.drop_eq_getElem_cons hlt] at w2
  obtain ⟨hz,h2⟩:=hs _ _ _ _ _ w2
  obtain ⟨ok1,_⟩:=ok i H2 μ2 k2 m2 hS2
  obtain ⟨go,yl⟩:=ok1 l[i] (List.getElem?_eq_getElem hlt)
  refine .inr ⟨go,λ x H3 y=>?_⟩
  obtain ⟨k3,m3,r3⟩:=yl x H3 y
  refine rg x l[i] σ2 H3 _ ρ2 μ2 _ (s2.mono k3) m3 r3 h2 λ ρ4 μ4 σ4 H4 h4 k4 s4 m4=>?_
  refine rt σ4 H4 _ ρ4 μ4 _ s4 m4 h4 λ b μ5 H5 h5 k5 m5=>?_
  have k15 : Kp H1 H5:=k2.trans (k3.trans (k4.trans k5))
  cases b with
  | false=>exact ⟨l.length - (i + 1),by omega,rfl,hlt,ρ4,μ5,ys,s4.mono k5,m5,k15,h5⟩
  | true =>
   refine re σ4 H5 _ ρ4 μ5 _ (s4.mono k5) m5 h5 λ d μ6 v H6 h6 k6 r6 m6=>?_
   obtain ⟨vs,hv,rv⟩:=m6 p ys h6.1
   refine ⟨vs,hv,by rw [<- rv.length]; exact hz,l.length - (i + 1),by omega,rfl,hlt,ρ4,_,_,((s4.mono k5).mono k6).mono (Kp.wr hv),m6.wr hv (rv.append (.cons r6 .nil)),(k15.trans k6).trans (Kp.wr hv),h6.2⟩
 ·have e : i = l.length:=by omega
  subst e
  rw [List.drop_length] at w2
  exact .inl ⟨(ok _ H2 μ2 k2 m2 hS2).2 (Nat.le_refl _),k _ _ _ _ (hn _ _ _ w2) (k1.trans k2) (.ref p) m2⟩
section
variable {X : Cx} {elt target iter : Expr} {ifs : List Expr} {pos : Pos} {ti : TI3} {g : TG3} {tc : TT3} {te : TE3} {NN : List Str} {scope : Scope} {cl : List (Str × Addr)} {js : List (Option Nat)}
theorem yi1 (hc : X.calm = true) (S : CompSc X NN scope cl js) (hi : RI X target iter ti) (hg : ∀ C fp s₀ H₀ pn,RG (ws0 X NN scope cl C fp s₀ H₀ pn) target g)
    (ht : ∀ C fp s₀ H₀ pn,RTs (ws0 X NN scope cl C fp s₀ H₀ pn) ifs tc) (he : ∀ C fp s₀ H₀ pn,RE (ws0 X NN scope cl C fp s₀ H₀ pn) elt te)
    (hs : ∀ x,foldedSetIterable iter X.env x = pure x) : RE X (.ListComp elt [⟨target,iter,ifs,0⟩] scope pos) (comp3 js ti g tc te):=by
 obtain ⟨wi,pi,ri⟩:=hi
 let gU : TG:=λ v σ H Q=>∀ (r : TG3),r = g -> ∃ d ρ μ Q3,RSt X.K H ρ σ /\ RelM X.K μ H /\ RelD X.K H d v /\ g d ρ μ Q3 /\ (∀ ρ' μ' σ' H',Q3 ρ' μ' -> Kp H H' -> RSt X.K H' ρ' σ' -> RelM X.K μ' H' -> Q σ' H')
 let tU : TT:=λ σ H Q=>∃ ρ μ Q3,RSt X.K H ρ σ /\ RelM X.K μ H /\ tc ρ μ Q3 /\ (∀ b μ' H',Q3 b μ' -> Kp H H' -> RelM X.K μ' H' -> Q b H')
 let eU : TE:=λ σ H Q=>∃ ρ μ Q3,RSt X.K H ρ σ /\ RelM X.K μ H /\ te ρ μ Q3 /\ Ks X.K H Q3 Q
 have hg' : ∀ C fp s₀ H₀ pn,PG (ws0 X NN scope cl C fp s₀ H₀ pn) target gU:=λ C fp s₀ H₀ pn=>by
  obtain ⟨tv,p,r⟩:=hg C fp s₀ H₀ pn
  intro pins s σ H v u Q I rv h
  obtain ⟨d,ρ,μ,Q3,a1,a2,a3,a4,a5⟩:=h g rfl
  exact p pins s σ H v u Q I rv (r v d σ H Q ρ μ Q3 a1 a2 a3 a4 a5)
 have ht' : ∀ C fp s₀ H₀ pn,PTs (ws0 X NN scope cl C fp s₀ H₀ pn) ifs tU:=λ C fp s₀ H₀ pn=>by
  obtain ⟨tv,p,r⟩:=ht C fp s₀ H₀ pn
  intro pins s σ H Q I h
  obtain ⟨ρ,μ,Q3,a1,a2,a3,a4⟩:=h
  exact p pins s σ H Q I (r σ H Q ρ μ Q3 a1 a2 a3 a4)
 have he' : ∀ C fp s₀ H₀ pn,PE (ws0 X NN scope cl C fp s₀ H₀ pn) elt eU:=λ C fp s₀ H₀ pn=>by
  obtain ⟨tv,p,r⟩:=he C fp s₀ H₀ pn
  intro pins s σ H Q I h
  obtain ⟨ρ,μ,Q3,a1,a2,a3,a4⟩:=h
  exact p pins s σ H Q I (r σ H Q ρ μ Q3 a1 a2 a3 a4)
 exact ⟨_,xa6 hc S pi hg' ht' he' hs,RdE.comp ri (λ v d σ H Q ρ μ Q3 a1 a2 a3 a4 a5 _ _=>⟨d,ρ,μ,Q3,a1,a2,a3,a4,a5⟩) (λ σ H Q ρ μ Q3 a1 a2 a3 a4=>⟨ρ,μ,Q3,a1,a2,a3,a4⟩) (λ σ H Q ρ μ Q3 a1 a2 a3 a4=>⟨ρ,μ,Q3,a1,a2,a3,a4⟩)⟩
theorem ye1 (hf : ∀ y ∈ scope.names,y.2 ≠ .free) (hcl : ∀ y ∈ scope.names,y.2 ≠ .cell) (hn : ∀ y ∈ scope.names,y.2 = .local -> scope.names.lookup y.1 = some .local) (hi : RI X target iter ti) (hg : ∀ C fp s₀ H₀ pn,RG (ws0 X NN scope [] C fp s₀ H₀ pn) target g)
    (ht : ∀ C fp s₀ H₀ pn,RTs (ws0 X NN scope [] C fp s₀ H₀ pn) ifs tc) (he : ∀ C fp s₀ H₀ pn,RE (ws0 X NN scope [] C fp s₀ H₀ pn) elt te) (hc : X.calm = true:=by rfl) (hk : scope.kind = .function:=by rfl)
    (hs : ∀ x,foldedSetIterable iter X.env x = pure x:=by intro _; rfl) : RE X (.ListComp elt [⟨target,iter,ifs,0⟩] scope pos) (comp3 (NN.map λ _=>none) ti g tc te) :=
 yi1 hc (CompSc.closed hf hcl hk hn) hi hg ht he hs
end
end Pv
namespace Pv
open PySem PySem.Spec PyProof.Rows L2
mutual
inductive TupK (K : Fg) : List D -> Addr -> Prop where
 | mk {a : Addr} {l : List D} {its : Array Value} {n : Nat} {od : Option Addr} {sl : Array (Option Value)} : K.lookup a = some ⟨.type "tuple",od,.seq its n,sl⟩ -> its.size <= sizeLine -> ItK K l its.toList -> TupK K l a
inductive ItK (K : Fg) : List D -> List Value -> Prop where
 | nil : ItK K [] []
 | int {i : Int} {t : Tok} {l : List D} {us : List Value} : ItK K l us -> ItK K (.int i :: l) (.int i t :: us)
 | str {x : Str} {t : Tok} {l : List D} {us : List Value} : ItK K l us -> ItK K (.str x :: l) (.str x t :: us)
 | bl {b : Bool} {l : List D} {us : List Value} : ItK K l us -> ItK K (.bl b :: l) (.bool b :: us)
 | tup {a : Addr} {l' l : List D} {us : List Value} : TupK K l' a -> ItK K l us -> ItK K (.tup l' :: l) (.ref a :: us)
end
mutual
theorem TupK.rel {K : Fg} : ∀ {l : List D} {a : Addr},TupK K l a -> ∀ H,RelD K H (.tup l) (.ref a)
 | _,_,.mk h1 h2 h3,H=>by
  obtain ⟨vs,r,rd⟩:=h3.rel
  exact .tup (.inr ⟨_,_,_,h1,rfl,rfl,h2,r⟩) (rd H)
theorem ItK.rel {K : Fg} : ∀ {l : List D} {us : List Value},ItK K l us -> ∃ vs,Vals vs us /\ ∀ H,RelDs K H l vs
 | _,_,.nil=>⟨[],.nil,λ _=>.nil⟩
 | _,_,.int h=>let ⟨vs,r,rd⟩:=h.rel; ⟨_,.cons (show RelV (.int _) _ from ⟨_,rfl⟩) r,λ H=>.cons (.int _) (rd H)⟩
 | _,_,.str h=>let ⟨vs,r,rd⟩:=h.rel; ⟨_,.cons (show RelV (.str _) _ from ⟨_,rfl⟩) r,λ H=>.cons (.str _) (rd H)⟩
 | _,_,.bl h=>let ⟨vs,r,rd⟩:=h.rel; ⟨_,.cons (show RelV (.bl _) _ from rfl) r,λ H=>.cons (.bl _) (rd H)⟩
 | _,_,.tup h0 h=>let ⟨vs,r,rd⟩:=h.rel; ⟨_,.cons (show RelV (.ref _) _ from rfl) r,λ H=>.cons (h0.rel H) (rd H)⟩
end
section
variable {K : Fg} {h : Heap} {mg : Str -> Option Value} {x : Str}
theorem wx2 {i : Int} {t : Tok} (X : K.In h) (G : h.Ns mainGlobals mg) (e : PySem.W.nsIn K mainGlobals x = some (some (.int i t))) : Gd K mg x (.int i):=⟨_,.int i,PySem.W.mg_of X G e,⟨_,rfl⟩,λ _=>.int i⟩
theorem xk2 {a : Addr} {l : List D} (X : K.In h) (G : h.Ns mainGlobals mg) (e : PySem.W.nsIn K mainGlobals x = some (some (.ref a))) (r : TupK K l a) : Gd K mg x (.tup l):=⟨_,.ref a,PySem.W.mg_of X G e,rfl,λ H=>r.rel H⟩
end
theorem zj2 {K : Fg} {H : Hp} : ∀ ns : List Int,RelDs K H (ns.map D.int) (ns.map V.int)
 | []=>.nil
 | n :: r=>.cons (.int n) (zj2 r)
theorem yw4 {K : Fg} {H : Hp} {a : Addr} {ns : List Int} {sp : Sp3} (hO : Only H) (hS : SqL K H a (ns.map V.int)) (h : sp [.fls (ns.map D.int)] (λ _=>none) (λ d _=>d = .bl true)) :
    lift K sp [.ref a] H (λ v _=>v = .bl true) λ _ _ _=>False:=by
 have hF : SqF K H a (ns.map V.int):=by
  rcases hS with (h1 | ⟨o,h1⟩) | h1
  ·rcases hO a with z | ⟨o,xs,z⟩
   ·rw [h1] at z; cases z
   ·rw [h1] at z; cases z
  ·exact .inl ⟨o,h1⟩
  ·exact .inr h1
 refine ⟨_,_,_,.cons (.fls hF (zj2 ns)) .nil,(⟨λ p xs e=>(by cases e),λ p c fs e=>(by cases e),λ p kvs e=>(by cases e)⟩),h,λ d μ' v H' q _ r _=>?_⟩
 subst q
 cases r
 rfl
end Pv
namespace Pv
open PySem PySem.Spec PyProof.Rows L2
open PySem.AutoSeq1 (wpAny_loadPart')
theorem yo2 (l : Addr) (items : Array Value) (n : Nat) (dd : Option Addr) (sl : Array (Option Value)) (x : Int) (u : Tok) (hc0 : (decide (x < -(2 ^ 63)) || decide (x ≥ 2 ^ 63)) = false) (hc1 : (items.isEmpty || x == 1) = true) :
    Meets (Builtin.«tuple.__mul__» ⟨[.ref l,.int x u],[]⟩) (λ _ R s=>s.heap.get? l = some { cls:=.type "tuple",dict:=dd,data:=.seq items n,slots:=sl } /\ R (.ok (.ret (.ref l))) s) :=
 .of_wp λ prog w A R s h=>by
  obtain ⟨hp,g,d,tk,os⟩:=s; obtain ⟨hl,h⟩:=h
  have f1:=AutoSeq1.idx_int
  have f2:=AutoSeq1.sub_tuple_tuple
  wp_walk using wpAny_loadPart' hl
  refine wpAny_ite_false (decide_eq_false (by rw [hc0]; exact Bool.false_ne_true)) ?_
  wp_walk using wpAny_loadPart' hl
  exact ⟨_,rfl,h⟩
theorem xo2 (l : Addr) (items : Array Value) (n : Nat) (dd : Option Addr) (sl : Array (Option Value)) (x : Int) (u : Tok) (hc0 : (decide (x < -(2 ^ 63)) || decide (x ≥ 2 ^ 63)) = false) (hc1 : (items.isEmpty || x == 1) = false) (hc2 : (decide (x <= 0) || items.isEmpty) = true) :
    Meets (Builtin.«tuple.__mul__» ⟨[.ref l,.int x u],[]⟩) (λ _ R s=>s.heap.get? l = some { cls:=.type "tuple",dict:=dd,data:=.seq items n,slots:=sl } /\ R (.ok (.ret (.ref s.heap.objs.size))) { s with heap:=s.heap.push { cls:=.type "tuple",data:=.seq #[] } }) :=
 .of_wp λ prog w A R s h=>by
  obtain ⟨hp,g,d,tk,os⟩:=s; obtain ⟨hl,h⟩:=h
  have f1:=AutoSeq1.idx_int
  have f2:=AutoSeq1.sub_tuple_tuple
  wp_walk using wpAny_loadPart' hl
  refine wpAny_ite_false (decide_eq_false (by rw [hc0]; exact Bool.false_ne_true)) ?_
  wp_walk using wpAny_loadPart' hl
  exact ⟨_,rfl,h⟩
theorem wn2 (l : Addr) (items : Array Value) (n : Nat) (dd : Option Addr) (sl : Array (Option Value)) (x : Int) (u : Tok) (hc0 : (decide (x < -(2 ^ 63)) || decide (x ≥ 2 ^ 63)) = false) (hc1 : (items.isEmpty || x == 1) = false) (hc2 : (decide (x <= 0) || items.isEmpty) = false)
    (hc3 : ¬ ((items.size : Int) * x > (2 ^ 63 - 1) / 8)) (hc4 : Builtin.Tuple.tupleTooMany ((items.size : Int) * x) = false) (hz : ((List.replicate x.toNat items).foldl (· ++ ·) #[]).size <= sizeLine) :
    Meets (Builtin.«tuple.__mul__» ⟨[.ref l,.int x u],[]⟩) (λ _ R s=>s.heap.get? l = some { cls:=.type "tuple",dict:=dd,data:=.seq items n,slots:=sl } /\ R (.ok (.ret (.ref s.heap.objs.size))) { s with heap:=s.heap.push { cls:=.type "tuple",data:=.seq ((List.replicate x.toNat items).foldl (· ++ ·) #[]) } }) :=
 .of_wp λ prog w A R s h=>by
  obtain ⟨hp,g,d,tk,os⟩:=s; obtain ⟨hl,h⟩:=h
  have f1:=AutoSeq1.idx_int
  have f2:=AutoSeq1.sub_tuple_tuple
  wp_walk using wpAny_loadPart' hl
  refine wpAny_ite_false (decide_eq_false (by rw [hc0]; exact Bool.false_ne_true)) ?_
  wp_walk using wpAny_loadPart' hl
  refine wpAny_ite_false (decide_eq_false hc3) ?_
  wp_walk using wpAny_loadPart' hl
  all_goals try (refine wpAny_ite_false (decide_eq_false (by rw [hc4]; exact Bool.false_ne_true)) ?_)
  have hsz : ((List.replicate x.toNat items).foldl (· ++ ·) #[]).size <= sizeLine:=hz
  wp_walk using wpAny_loadPart' hl
  exact ⟨_,rfl,h⟩
theorem zs1 : fillsNumberSlot (.type "tuple") "mul" = pure false :=
 PySem.fillsNumberSlot_seq (id := "tuple.__mul__") (r:=some (.builtin "tuple.__rmul__")) F.slot_tuple_mul.lookup (by decide +kernel) F.slot_tuple_rmul.lookup (by decide +kernel)
theorem xr1 : seqRepeat? (.type "tuple") = pure (some (.builtin "tuple.__mul__")):=by
 unfold seqRepeat?
 rw [PySem.seqSlot_of F.slot_tuple_mul.lookup (T := "tuple") (name := "__mul__") (id := "tuple.__mul__") (by decide +kernel),PySem.seqSlot_of F.slot_tuple_rmul.lookup (T := "tuple") (name := "__rmul__") (id := "tuple.__rmul__") (by decide +kernel)]
 rfl
theorem xw1 (a : Int) (t : Tok) (l : Addr) (its : Array Value) (n : Nat) (dd : Option Addr) (sl : Array (Option Value)) :
    Meets (Builtin.«int.__rmul__» ⟨[.int a t,.ref l],[]⟩) (λ _ R s=>s.heap.get? l = some ⟨.type "tuple",dd,.seq its n,sl⟩ /\ R (.ok (.ret .notImplemented)) s) :=
 .of_wp λ prog w A R s h=>by
  obtain ⟨hp,g,d,tk,os⟩:=s
  obtain ⟨hl,h⟩:=h
  wp_walk using wpAny_loadPart' hl
  exact ⟨_,rfl,h⟩
section
variable {X : Cx}
noncomputable def xp8 (K : Fg) : R2:=λ x y H Q=>∃ a k xs,x = .ref a /\ y = .int k /\ SqT K H a xs /\ -(2 ^ 62) <= k /\ k < 2 ^ 62 /\ xs.length * k.toNat <= 1000000 /\ (xs = [] \/ k = 1 -> Q (.ref a) H) /\ ∀ p,H p = none -> Q (.ref p) (upd H p (.tup (List.replicate k.toNat xs).flatten))
theorem op_repT : OpR X (binaryOp .Mult) (xp8 X.K):=by
 intro pins s σ H x y v u Q I rx ry h
 obtain ⟨a,k,xs,rfl,rfl,hq,h1,h2,hz,q1,q2⟩:=h
 cases rx
 obtain ⟨t,rfl⟩:=ry
 obtain ⟨its,r,⟨⟨cls,dd,data,sl⟩,ho,hc,n,hd⟩,hl⟩:=I.tuple hq
 simp only at hc hd
 subst hc hd
 have hlen : its.length = xs.length:=r.length.symm
 have c0 : (decide (k < -(2 ^ 63)) || decide (k ≥ 2 ^ 63)) = false:=by
  rw [decide_eq_false (by omega),decide_eq_false (by omega)]; rfl
 refine wpAny_binaryOp_repeat_ref (T := "tuple") (U := "int") (by decide) ⟨_,ho,rfl⟩ (λ s'=>typeIs_int s' k t) zs1 F.fills_int_mul F.slot_int_rmul xr1 F.slot_int_index.lookup
  (call_meets F.slot_int_rmul (typeIs_int s k t) F.entry_int_rmul (F.args_int_rmul_2 _ _) (xw1 k t a its.toArray n dd sl) ⟨ho,rfl,⟨_,ho,rfl⟩,?_⟩)
 by_cases e1 : xs = [] \/ k = 1
 ·refine call_meets F.slot_tuple_mul ⟨_,ho,rfl⟩ F.entry_tuple_mul (F.args_tuple_mul_2 _ _) (yo2 a its.toArray n dd sl k t c0 ?_) ⟨ho,⟨.ref a,H,I,rfl,q1 e1⟩⟩
  rcases e1 with e1 | e1
  ·subst e1; cases r; rfl
  ·subst e1; simp
 ·have hne : its ≠ []:=λ z=>e1 (.inl (by subst z; cases r; rfl))
  have hk1 : k ≠ 1:=λ z=>e1 (.inr z)
  have c1 : (its.toArray.isEmpty || k == 1) = false:=by simp [hne,hk1]
  have hf : H s.heap.objs.size = none:=I.hok.fresh (Nat.le_refl _)
  by_cases e2 : k <= 0
  ·have hk0 : k.toNat = 0:=by omega
   refine call_meets F.slot_tuple_mul ⟨_,ho,rfl⟩ F.entry_tuple_mul (F.args_tuple_mul_2 _ _) (xo2 a its.toArray n dd sl k t c0 c1 (by simp [e2])) ⟨ho,?_⟩
   refine ⟨.ref _,upd H s.heap.objs.size (.tup []),I.laid (t':=s.toks) (λ b ob q=>Heap.get?_push_of_some _ q) (Nat.le_refl _) ⟨by rw [sizeLine_eq]; decide,[],.nil,IsTup.new _ _⟩,rfl,?_⟩
   have:=q2 _ hf
   rw [hk0] at this
   exact this
  ·have fr : List.foldl (· ++ ·) #[] (List.replicate k.toNat its.toArray) = (List.replicate k.toNat its).flatten.toArray:=by
     have:=yu1 its k.toNat []
     rw [List.nil_append] at this
     exact this
   have hb : (1000000 : Nat) <= sizeLine:=by rw [sizeLine_eq]; decide
   have hm : (its.toArray.size : Int) * k <= 1000000:=by
    rw [List.size_toArray,hlen]
    have : ((xs.length * k.toNat : Nat) : Int) <= 1000000:=by omega
    rw [Int.natCast_mul,Int.toNat_of_nonneg (by omega)] at this
    exact this
   have hsz : (List.replicate k.toNat its).flatten.length <= sizeLine:=by rw [yp2,Nat.mul_comm,hlen]; omega
   refine call_meets F.slot_tuple_mul ⟨_,ho,rfl⟩ F.entry_tuple_mul (F.args_tuple_mul_2 _ _) (wn2 a its.toArray n dd sl k t c0 c1 (by simp [hne]; omega) (by omega) ?_ (by rw [fr,List.size_toArray]; exact hsz)) ⟨ho,?_⟩
   ·unfold Builtin.Tuple.tupleTooMany
    rw [decide_eq_false (by omega)]
   ·rw [fr]
    refine ⟨.ref _,upd H s.heap.objs.size (.tup (List.replicate k.toNat xs).flatten),I.laid (t':=s.toks) (λ b ob q=>Heap.get?_push_of_some _ q) (Nat.le_refl _) ⟨?_,_,r.rep k.toNat,IsTup.new _ _⟩,rfl,q2 _ hf⟩
    rw [yp2,Nat.mul_comm]; omega
theorem xq0 : RO X (binaryOp .Mult) mulR:=by
 refine ⟨_,op_mulB.or (op_repT.or zv7),λ x y v u H Q μ Q3 m rx ry h k=>?_⟩
 cases ry with
 | int j =>
  cases rx with
  | int i=>exact .inl ⟨i,j,rfl,rfl,h.1,k _ _ _ _ h.2 (Kp.refl _) (.int _) m⟩
  | tup hq rs =>
   rename_i a l vs
   refine .inr (.inl ⟨a,j,vs,rfl,rfl,hq,h.1.1.1,h.1.1.2,by rw [<- rs.length]; exact h.1.2,λ e=>?_,λ p hp=>?_⟩)
   ·rcases e with e | e
    ·subst e; cases rs
     have h2:=h.2
     have e : (List.replicate j.toNat ([] : List D)).flatten = []:=by simp
     rw [e] at h2
     exact k _ _ _ _ h2 (Kp.refl _) (.tup hq .nil) m
    ·subst e
     have h2:=h.2
     have e : (List.replicate (1 : Int).toNat l).flatten = l:=by simp
     rw [e] at h2
     exact k _ _ _ _ h2 (Kp.refl _) (.tup hq rs) m
   ·exact k _ _ _ _ h.2 (Kp.new hp) (.tup (SqT.of yj0) ((rs.rep _).mono (Kp.new hp))) (m.newT hp)
  | ref p =>
   dsimp only [mulR] at h
   cases e : μ p with
   | none=>rw [e] at h; exact h.elim
   | some oo =>
    cases oo with
    | ins _ _=>rw [e] at h; exact h.elim
    | dct _=>rw [e] at h; exact h.elim
    | lst l =>
     rw [e] at h
     obtain ⟨vs,hv,rv⟩:=m p l e
     have hb : (1000000 : Nat) <= sizeLine:=by rw [sizeLine_eq]; decide
     refine .inr (.inr ⟨p,j,vs,rfl,rfl,hv,by have:=h.1.1.1; omega,by have:=h.1.1.2; omega,by rw [<- rv.length]; exact Nat.le_trans h.1.2 hb,λ t ht=>?_⟩)
     exact k _ _ _ _ (h.2 t (m.free ht)) (Kp.new ht) (.ref t) (m.newL ht (rv.rep _))
  | _=>exact False.elim h
 | _=>cases rx <;> exact False.elim h
theorem wh4 : CallR X (.type "int") (λ xs H Q=>∃ z n,xs = [.str z] /\ PySem.intText? z = some n /\ z.length <= 640 /\ Q (.int n) H):=by
 intro pins s σ H xs us Q I r h
 obtain ⟨z,n,rfl,e,hl,q⟩:=h
 obtain ⟨u,rfl,t,rfl⟩:=wu1 r
 exact PySem.W.KIN.call_text e hl ⟨.int n,H,I.tok _,⟨_,rfl⟩,q⟩
theorem xq8 : RC X (.type "int") intR:=by
 refine ⟨_,call_int1.or wh4,λ xs vs H Q μ Q3 m r h k=>?_⟩
 cases r with
 | nil=>exact False.elim h
 | cons r1 r2 =>
  cases r2 with
  | cons _ _=>cases r1 <;> exact False.elim h
  | nil =>
   cases r1 with
   | int i=>exact .inl (.inl ⟨i,rfl,k _ _ _ _ h (Kp.refl _) (.int _) m⟩)
   | bl b=>exact .inl (.inr ⟨b,rfl,k _ _ _ _ h (Kp.refl _) (.int _) m⟩)
   | str z =>
    dsimp only [intR] at h
    cases e : PySem.intText? z with
    | none=>rw [e] at h; exact h.elim
    | some n =>
     rw [e] at h
     exact .inr ⟨z,n,rfl,e,h.1,k _ _ _ _ h.2 (Kp.refl _) (.int _) m⟩
   | _=>exact False.elim h
theorem zj4 {K : Fg} {H : Hp} : ∀ {l : List D} {vs : List V} {bs : List Bool},RelDs K H l vs -> bls? l = some bs -> vs = bs.map V.bl
 | _,_,bs,.nil,e=>by simp [bls?] at e; subst e; rfl
 | _,_,bs,.cons h r,e=>by
  cases h with
  | bl x =>
   simp only [bls?] at e
   split at e
   ·next ys e1 =>
    simp only [Option.some.injEq] at e
    subst e
    rw [zj4 r e1]; rfl
   ·cases e
  | _=>simp [bls?] at e
theorem wr2 : ∀ {bs : List Bool} {us : List Value},Vals (bs.map V.bl) us -> us = bs.map Value.bool
 | [],_,r=>by cases r; rfl
 | b :: bs,_,r=>by
  cases r with
  | cons r1 r2=>cases r1; rw [wr2 r2]; rfl
theorem zl3 (prog : Program) (w : World) (A : Around) (bs : List Bool) : TruthOf prog w A (λ i v=>(bs.map Value.bool).toArray[i]? = some v) (λ i=>bs.getD i false):=by
 intro i v s Q E hP hQ
 have hP' : (bs.map Value.bool)[i]? = some v:=by simpa using hP
 rw [List.getElem?_map] at hP'
 cases e : bs[i]? with
 | none=>rw [e] at hP'; cases hP'
 | some b =>
  rw [e] at hP'
  simp only [Option.map_some,Option.some.injEq] at hP'
  subst hP'
  refine wpAny_truthy_bool ?_
  have : bs.getD i false = b:=by rw [List.getD_eq_getElem?_getD,e]; rfl
  dsimp only at hQ
  rw [this] at hQ
  exact hQ
theorem zs3 (bs : List Bool) : (List.range bs.length).all (λ i=>bs.getD i false) = bs.all id:=by
 rw [Bool.eq_iff_iff,List.all_eq_true,List.all_eq_true]
 constructor
 ·intro h x hx
  obtain ⟨i,hi,rfl⟩:=List.mem_iff_getElem.mp hx
  have:=h i (List.mem_range.mpr hi)
  rw [List.getD_eq_getElem?_getD,List.getElem?_eq_getElem hi] at this
  exact this
 ·intro h i hi
  have hi':=List.mem_range.mp hi
  rw [List.getD_eq_getElem?_getD,List.getElem?_eq_getElem hi']
  exact h _ (List.getElem_mem hi')
theorem xi4 (hc : X.calm = true) : CallR X (.builtin "all") (λ xs H Q=>∃ (p : Addr) (bs : List Bool),xs = [.ref p] /\ SqL X.K H p (bs.map V.bl) /\ Q (.bl (bs.all id)) H):=by
 intro pins s σ H xs us Q I r h
 obtain ⟨p,bs,rfl,hq,q⟩:=h
 obtain ⟨u,rfl,rx⟩:=wu1 r
 cases rx
 obtain ⟨its,r',pl,hz⟩:=I.list hq
 have eu:=wr2 r'
 subst eu
 refine call_all_walk (wpAny_pyIter_list pl.isList ?_)
 have hlt : p < s.heap.objs.size:=by obtain ⟨o,ho,_⟩:=pl.isList; exact Heap.lt_size ho
 refine ⟨_,_,_,_,_,_,_,rfl,Walks.list (A:=X.A.in1) (I.ok.hd hc) _ p (Nat.ne_of_lt hlt) _,⟨⟨_,Heap.get?_push_size _ rfl,rfl,rfl⟩,pl.isList.at λ o e=>Heap.get?_push_of_some _ e⟩,zl3 _ _ _ bs,λ h' tk hk=>?_⟩
 have e : (bs.map Value.bool).toArray.size = bs.length:=by simp
 rw [e,zs3]
 refine ⟨.bl _,H,I.kept (t':=tk) λ b o eb=>hk b o ?_ (Heap.get?_push_of_some _ eb),rfl,q⟩
 intro z
 rw [List.mem_singleton] at z
 rw [z] at eb
 exact absurd (Heap.lt_size eb) (Nat.lt_irrefl _)
theorem RdC.bools {K : Fg} {f : List Bool -> Bool} {r3 : C3} (hr : ∀ ds μ Q3,r3 ds μ Q3 -> ∃ p l bs,ds = [.ref p] /\ μ p = some (.lst l) /\ bls? l = some bs /\ Q3 (.bl (f bs)) μ) :
    RdC K (λ xs H Q=>∃ (p : Addr) (bs : List Bool),xs = [.ref p] /\ SqL K H p (bs.map V.bl) /\ Q (.bl (f bs)) H) r3:=λ xs vs H Q μ Q3 m r h k=>by
 obtain ⟨p,l,bs,rfl,e,e1,q⟩:=hr _ _ _ h
 cases r with
 | cons r1 r2 =>
  cases r2
  cases r1
  obtain ⟨us,hv,rs⟩:=m p l e
  have ev:=zj4 rs e1
  subst ev
  exact ⟨p,bs,rfl,SqL.of hv,k _ _ _ _ q (Kp.refl _) (.bl _) m⟩
theorem yq8 (hc : X.calm = true:=by rfl) : RC X (.builtin "all") allR:=by
 refine ⟨_,xi4 hc,RdC.bools λ ds μ Q3 h=>?_⟩
 unfold allR at h
 split at h
 ·split at h
  ·next p _ l e =>
   split at h
   ·next bs e1=>exact ⟨p,l,bs,rfl,e,e1,h⟩
   ·exact h.elim
  ·exact h.elim
 ·exact h.elim
end
end Pv
namespace Pv
open PySem PySem.Spec PyProof.Rows L2
open PySem.AutoSeq1 (wpAny_loadPart')
theorem ye6 (p q : Addr) (a b c d : Int) (t1 t2 t3 t4 : Tok) (n m : Nat) (dd dd2 : Option Addr) (sl sl2 : Array (Option Value)) :
    Meets (Builtin.«tuple.__lt__» ⟨[.ref p,.ref q],[]⟩) (λ A R s=>s.heap.get? p = some { cls:=.type "tuple",dict:=dd,data:=.seq #[.int a t1,.int b t2] n,slots:=sl } /\ s.heap.get? q = some { cls:=.type "tuple",dict:=dd2,data:=.seq #[.int c t3,.int d t4] m,slots:=sl2 } ∧
     R (.ok (.ret (.bool (ltP a b c d)))) s) :=
 .of_wp λ prog w A R s h=>by
  obtain ⟨hp,g,dr,tk,os⟩:=s; obtain ⟨hl,hb,h⟩:=h
  have f2:=AutoSeq1.sub_tuple_tuple
  have lt : ∀ (x y : Int) (tx ty : Tok) {Q : Value -> Shared -> Prop} {E : Value -> Shared -> Prop} {A : Around} {s : Shared},Q (.bool (decide (x < y))) s -> wpAny (model prog w) A (richCompare .Lt (.int x tx) (.int y ty)) Q E s:=λ x y tx ty Q E A s hq=>wpAny_lt_int hq
  have eqb : ∀ (x y : Int) (tx ty : Tok) {Q : Bool -> Shared -> Prop} {E : Value -> Shared -> Prop} {A : Around} {s : Shared},Q (x == y) s -> wpAny (model prog w) A (eqBool (.int x tx) (.int y ty)) Q E s:=λ x y tx ty Q E A s hq=>wpAny_eqBool_int hq
  wp_walk using wpAny_loadPart' hl,wpAny_loadPart' hb,eqb a c t1 t3
  by_cases h1 : a = c
  ·rw [show (a == c) = true by simpa using h1]
   wp_walk using eqb b d t2 t4
   by_cases h2 : b = d
   ·rw [show (b == d) = true by simpa using h2]
    wp_walk
    have h' : R (.ok (.ret (.bool false))) ⟨hp,g,dr,tk,os⟩:=by simpa [ltP,h1,h2] using h
    exact ⟨_,rfl,h'⟩
   ·rw [show (b == d) = false by simpa using h2]
    wp_walk using lt b d t2 t4
    exact ⟨_,rfl,by simpa [ltP,h1] using h⟩
  ·rw [show (a == c) = false by simpa using h1]
   wp_walk using lt a c t1 t3
   exact ⟨_,rfl,by simpa [ltP,h1] using h⟩
section
variable {prog : Program} {w : World} {A : Around} {R : Result -> Shared -> Prop} {I : Addr} {fp wr : List Addr} {n : Nat} {P : Nat -> Value -> Prop} {St : Nat -> Heap -> Prop}
theorem wy4 : (toString "min" ++ toString ".loop" : String) = "min.loop" := by decide
theorem zj5 (W : Walks prog w A.in1 I fp wr n P St) (S : Addr) (hSf : S ∉ fp) (s : Shared) (vb : Value) (c : Nat) (hst : St n s.heap)
    (hS : s.heap.get? S = some { cls:=.type "list",dict:=none,data:=.seq #[vb,vb] c,slots:=#[] })
    (hR : ∀ h' tk,(∀ b o,b ∉ wr -> b ≠ S -> s.heap.get? b = some o -> h'.get? b = some o) -> R (.ok (.ret vb)) { s with heap:=h',toks:=tk }) :
    codeAny (model prog w) A (.builtin "min.loop" ⟨[.ref I,.none,.ref S],[]⟩) R s:=by
 have hSw : S ∉ wr:=λ h=>hSf (W.sub _ h)
 refine codeAny_builtin F.entry_min_loop ?_
 rw [Around.under_plainId F.plain_min_loop _]
 show wpAny _ A.in1 (seqItems? (.ref S) >>= _) _ _ s
 refine wpAny_bind (wpAny_seqItems hS rfl ?_)
 show wpAny _ A.in1 (tryCatch (pyNext (.ref I)) _ >>= _) _ _ s
 refine wpAny_bind (wpAny_tryCatch (W.done s _ _ hst λ h' tk hk'=>?_))
 have hS':=hk' S _ hSw hS
 show wpAny _ A.in1 (updateSeq S (λ _=>#[]) >>= _) _ _ _
 refine wpAny_bind ?_
 refine wpAny_updateSeq hS' rfl (wpAny_bind (wpAny_letGo (wpAny_pure ?_)))
 exact hR _ tk λ b o hbw hbS e=>(Heap.get?_update_other _ _ (Ne.symm hbS)).trans (hk' b o hbw e)
theorem xe6 (W : Walks prog w A.in1 I fp wr n P St) (S : Addr) (hSf : S ∉ fp) (s : Shared) (vb v0 : Value) (r : Bool) (c j : Nat) (hlt : j < n) (hj : j + 1 = n) (hst : St j s.heap) (hv : ∀ v,P j v -> v = v0)
    (hcmp : ∀ (h' : Heap) (tk : Nat) (Q : Value -> Shared -> Prop) (E : Value -> Shared -> Prop),(∀ b o,b ∉ wr -> s.heap.get? b = some o -> h'.get? b = some o) -> Q (.bool r) { s with heap:=h',toks:=tk } -> wpAny (model prog w) A.in1 (richCompare .Lt v0 vb) Q E { s with heap:=h',toks:=tk })
    (hS : s.heap.get? S = some { cls:=.type "list",dict:=none,data:=.seq #[vb,vb] c,slots:=#[] })
    (hR : ∀ h' tk,(∀ b o,b ∉ wr -> b ≠ S -> s.heap.get? b = some o -> h'.get? b = some o) -> R (.ok (.ret (if r then v0 else vb))) { s with heap:=h',toks:=tk }) :
    codeAny (model prog w) A (.builtin "min.loop" ⟨[.ref I,.none,.ref S],[]⟩) R s:=by
 have hSw : S ∉ wr:=λ h=>hSf (W.sub _ h)
 refine codeAny_builtin F.entry_min_loop ?_
 rw [Around.under_plainId F.plain_min_loop _]
 show wpAny _ A.in1 (seqItems? (.ref S) >>= _) _ _ s
 refine wpAny_bind (wpAny_seqItems hS rfl ?_)
 show wpAny _ A.in1 (tryCatch (pyNext (.ref I)) _ >>= _) _ _ s
 refine wpAny_bind (wpAny_tryCatch (W.item j s _ _ hlt hst λ v h' tk hP hst' hk'=>?_))
 obtain rfl:=hv v hP
 have hS':=hk' S _ hSw hS
 show wpAny _ A.in1 (tryCatch (holding [v,v] (richCompare .Lt v vb >>= _)) _ >>= _) _ _ _
 refine wpAny_bind (wpAny_tryCatch (wpAny_holding (wpAny_bind (hcmp h' tk _ _ hk' ?_))))
 refine wpAny_bind (wpAny_holding (wpAny_truthy_bool ?_))
 refine wpAny_bind (wpAny_letGo (wpAny_pure ?_))
 cases r with
 | true =>
  simp only [if_true]
  refine wpAny_bind ?_
  refine wpAny_updateSeq hS' rfl (wpAny_bind (wpAny_letGo ?_))
  rw [wy4]
  refine wpAny_pure ⟨plainId_quiet F.plain_min_loop _,zj5 W S hSf _ v _ (hj ▸ W.frame _ _ _ hst' λ b hbf o e=>?_) (Heap.get?_update_self _ hS' rfl) λ h'' tk'' hk''=>?_⟩
  ·exact (Heap.get?_update_other _ _ (λ h : S = b=>hSf (by rw [h]; exact hbf))).trans e
  ·exact hR h'' tk'' λ b o hbw hbS e=>hk'' b o hbw hbS ((Heap.get?_update_other _ _ (Ne.symm hbS)).trans (hk' b o hbw e))
 | false =>
  simp only [Bool.false_eq_true,if_false]
  refine wpAny_bind (wpAny_letGo ?_)
  rw [wy4]
  refine wpAny_pure ⟨plainId_quiet F.plain_min_loop _,zj5 W S hSf _ vb c (hj ▸ hst') hS' λ h'' tk'' hk''=>?_⟩
  exact hR h'' tk'' λ b o hbw hbS e=>hk'' b o hbw hbS (hk' b o hbw e)
theorem zy7 (W : Walks prog w A.in1 I fp wr 2 P St) (S : Addr) (hSf : S ∉ fp) (s : Shared) (va vb : Value) (r : Bool) (c : Nat) (hst : St 0 s.heap) (hva : ∀ v,P 0 v -> v = va) (hvb : ∀ v,P 1 v -> v = vb)
    (hcmp : ∀ (h' : Heap) (tk : Nat) (Q : Value -> Shared -> Prop) (E : Value -> Shared -> Prop),(∀ b o,b ∉ wr -> b ≠ S -> s.heap.get? b = some o -> h'.get? b = some o) -> Q (.bool r) { s with heap:=h',toks:=tk } -> wpAny (model prog w) A.in1 (richCompare .Lt vb va) Q E { s with heap:=h',toks:=tk })
    (hS : s.heap.get? S = some { cls:=.type "list",dict:=none,data:=.seq #[] c,slots:=#[] })
    (hR : ∀ h' tk,(∀ b o,b ∉ wr -> b ≠ S -> s.heap.get? b = some o -> h'.get? b = some o) -> R (.ok (.ret (if r then vb else va))) { s with heap:=h',toks:=tk }) :
    codeAny (model prog w) A (.builtin "min.loop" ⟨[.ref I,.none,.ref S],[]⟩) R s:=by
 have hSw : S ∉ wr:=λ h=>hSf (W.sub _ h)
 refine codeAny_builtin F.entry_min_loop ?_
 rw [Around.under_plainId F.plain_min_loop _]
 show wpAny _ A.in1 (seqItems? (.ref S) >>= _) _ _ s
 refine wpAny_bind (wpAny_seqItems hS rfl ?_)
 show wpAny _ A.in1 (tryCatch (pyNext (.ref I)) _ >>= _) _ _ s
 refine wpAny_bind (wpAny_tryCatch (W.item 0 s _ _ (by decide) hst λ v h' tk hP hst' hk'=>?_))
 obtain rfl:=hva v hP
 have hS':=hk' S _ hSw hS
 show wpAny _ A.in1 (updateSeq S (λ _=>#[v,v]) >>= _) _ _ _
 refine wpAny_bind ?_
 refine wpAny_updateSeq hS' rfl ?_
 rw [wy4]
 have up : ∀ (f : Obj -> Obj) b o,b ∉ wr -> b ≠ S -> s.heap.get? b = some o -> Heap.get? (h'.update S f) b = some o:=λ f b o hbw hbS e=>(Heap.get?_update_other _ _ (Ne.symm hbS)).trans (hk' b o hbw e)
 refine wpAny_pure ⟨plainId_quiet F.plain_min_loop _,xe6 W S hSf _ v vb r _ 1 (by decide) rfl (W.frame _ _ _ hst' λ b hbf o e=>?_) hvb (λ h2 tk2 Q E hk2 hq=>?_) (Heap.get?_update_self _ hS' rfl) λ h'' tk'' hk''=>?_⟩
 ·exact (Heap.get?_update_other _ _ (λ h : S = b=>hSf (by rw [h]; exact hbf))).trans e
 ·exact hcmp h2 tk2 Q E (λ b o hbw hbS e=>hk2 b o hbw (up _ b o hbw hbS e)) hq
 ·exact hR h'' tk'' λ b o hbw hbS e=>hk'' b o hbw hbS (up _ b o hbw hbS e)
end
section
variable {prog : Program} {w : World} {A : Around} {E : Value -> Shared -> Prop} {s : Shared}
theorem zi3 {va vb : Value} {r : Bool} {Q : Value -> Shared -> Prop} (hh : A.handled = none)
    (hcmp : ∀ (h' : Heap) (tk : Nat) (Q : Value -> Shared -> Prop) (E : Value -> Shared -> Prop),(∀ b o,s.heap.get? b = some o -> h'.get? b = some o) -> Q (.bool r) { s with heap:=h',toks:=tk } -> wpAny (model prog w) A.in1 (richCompare .Lt vb va) Q E { s with heap:=h',toks:=tk })
    (h : ∀ h' tk,(∀ c o,s.heap.get? c = some o -> h'.get? c = some o) -> Q (if r then vb else va) { s with heap:=h',toks:=tk }) :
    wpAny (model prog w) A (call (.builtin "min") [va,vb]) Q E s:=by
 refine call_function_tree F.kind_min F.plain_min F.entry_min (F.args_min2 _ _) ?_
 show wpAny _ A.in1 (Builtin.Builtins.bindParams "min" ["key", "default"] 0 ⟨[],[]⟩ >>= _) _ _ s
 refine wpAny_bind (wpAny_of_eq (show Builtin.Builtins.bindParams "min" ["key", "default"] 0 ⟨[],[]⟩ = pure [none,none] from rfl) ?_)
 show wpAny _ A.in1 (newTuple [va,vb] >>= _) _ _ s
 refine wpAny_bind (wpAny_newObj_type ?_)
 have hT : (s.heap.push { cls:=.type "tuple",data:=.seq #[va,vb] }).IsTuple s.heap.objs.size #[va,vb]:=⟨_,Heap.get?_push_size _ rfl,rfl,0,rfl⟩
 refine wpAny_bind (wpAny_pyIter_tuple (s:={ s with heap:=s.heap.push { cls:=.type "tuple",data:=.seq #[va,vb] } }) hT ?_)
 have hsz : (s.heap.push { cls:=.type "tuple",data:=.seq #[va,vb] }).objs.size = s.heap.objs.size + 1:=Heap.size_push ..
 refine wpAny_bind (wpAny_newObj_type ?_)
 rw [wy4]
 have hsz2 : ((s.heap.push { cls:=.type "tuple",data:=.seq #[va,vb] }).push { cls:=.type "tuple_iterator",data:=.fields #[.ref s.heap.objs.size,.int 0 0] }).objs.size = s.heap.objs.size + 2:=by rw [Heap.size_push,hsz]
 have keep : ∀ c o,s.heap.get? c = some o -> Heap.get? (((s.heap.push { cls:=.type "tuple",data:=.seq #[va,vb] }).push { cls:=.type "tuple_iterator",data:=.fields #[.ref s.heap.objs.size,.int 0 0] }).push { cls:=.type "list",data:=.seq #[] }) c = some o:=λ c o e=>Heap.get?_push_of_some _ (Heap.get?_push_of_some _ (Heap.get?_push_of_some _ e))
 have off : ∀ (c : Addr) (o : Obj),s.heap.get? c = some o -> c ∉ [(s.heap.push { cls:=.type "tuple",data:=.seq #[va,vb] }).objs.size] /\ c ≠ ((s.heap.push { cls:=.type "tuple",data:=.seq #[va,vb] }).push { cls:=.type "tuple_iterator",data:=.fields #[.ref s.heap.objs.size,.int 0 0] }).objs.size:=λ c o e=>by
  have h1:=Heap.lt_size e
  rw [hsz2,hsz]
  refine ⟨λ hm=>?_,Nat.ne_of_lt (Nat.lt_succ_of_lt (Nat.lt_succ_of_lt h1))⟩
  rw [List.mem_singleton.mp hm] at h1
  exact absurd h1 (Nat.not_lt.mpr (Nat.le_succ _))
 refine wpAny_pure ⟨plainId_quiet F.plain_min_loop _,zy7 (Walks.tuple (A:=A.in1) hh _ s.heap.objs.size (by rw [hsz]; exact Nat.ne_of_lt (Nat.lt_succ_self _)) #[va,vb]) _ ?_ _ va vb r _ ?_ (λ v hP=>by simpa using hP.symm) (λ v hP=>by simpa using hP.symm) ?_ (Heap.get?_push_size _ rfl) ?_⟩
 ·rw [hsz2,hsz]
  simp
 ·exact ⟨⟨_,Heap.get?_push_of_some _ (Heap.get?_push_size _ rfl),rfl,rfl⟩,(hT.push _).push _⟩
 ·intro h' tk Q E hk hq
  exact hcmp h' tk Q E (λ c o e=>hk c o (off c o e).1 (off c o e).2 (keep c o e)) hq
 ·intro h' tk hk
  exact h h' tk λ c o e=>hk c o (off c o e).1 (off c o e).2 (keep c o e)
theorem zv4 {p q : Addr} {a b c d : Int} {t1 t2 t3 t4 : Tok} {Q : Value -> Shared -> Prop} (hh : A.handled = none) (hu : A.units + 64 < cLine) (hp : IsTup s.heap p #[.int a t1,.int b t2]) (hq : IsTup s.heap q #[.int c t3,.int d t4])
    (h : ∀ h' tk,(∀ c o,s.heap.get? c = some o -> h'.get? c = some o) -> Q (if ltP c d a b then .ref q else .ref p) { s with heap:=h',toks:=tk }) :
    wpAny (model prog w) A (call (.builtin "min") [.ref p,.ref q]) Q E s:=by
 refine zi3 hh (λ h' tk Q E hk hq'=>?_) h
 obtain ⟨⟨cp,dp,datp,slp⟩,ep,hcp,np,hdp⟩:=hp
 obtain ⟨⟨cq,dq,datq,slq⟩,eq,hcq,nq,hdq⟩:=hq
 dsimp only at hcp hdp hcq hdq
 subst hcp hdp hcq hdq
 refine richCompare_meets_room (T := "tuple") (s:={ s with heap:=h',toks:=tk }) ⟨_,hk _ _ eq,rfl⟩ ⟨_,hk _ _ ep,rfl⟩ F.slot_tuple_lt F.entry_tuple_lt (F.args_tuple_lt_2 _ _) (ye6 q p c d a b t3 t4 t1 t2 nq np dq dp slq slp) ⟨hk _ _ eq,hk _ _ ep,by simp,hq'⟩ ?_
 have : A.in1.units = A.units + 1:=rfl
 omega
end
section
variable {X : Cx}
theorem zg4 (hc : X.calm = true) (hu : X.A.units + 64 < cLine) : CallR X (.builtin "min") (λ xs H Q=>∃ p q a b c d,xs = [.ref p,.ref q] /\ SqT X.K H p [.int a,.int b] /\ SqT X.K H q [.int c,.int d] /\ Q (.ref (if ltP c d a b then q else p)) H):=by
 intro pins s σ H xs us Q I r h
 obtain ⟨p,q,a,b,c,d,rfl,hp,hq,k⟩:=h
 obtain ⟨u,w',rfl,e1,e2⟩:=yn2 r
 cases e1
 cases e2
 obtain ⟨its,rv,pp,hz⟩:=I.tuple hp
 obtain ⟨its2,rv2,pp2,hz2⟩:=I.tuple hq
 obtain ⟨v1,v2,rfl,⟨t1,rfl⟩,⟨t2,rfl⟩⟩:=yn2 rv
 obtain ⟨v3,v4,rfl,⟨t3,rfl⟩,⟨t4,rfl⟩⟩:=yn2 rv2
 refine zv4 (I.ok.hd hc) hu pp pp2 λ h' tk kk=>⟨_,H,I.kept kk,?_,k⟩
 cases ltP c d a b
 ·exact rfl
 ·exact rfl
theorem wp8 (hc : X.calm = true) (hu : X.A.units + 64 < cLine) : RC X (.builtin "min") minR:=by
 refine ⟨_,zg4 hc hu,λ xs vs H Q μ Q3 m r h k=>?_⟩
 unfold minR at h
 split at h
 ·next a b c d =>
  cases r with
  | cons r1 r2 =>
   cases r2 with
   | cons r2 r3 =>
    cases r3
    cases r1 with
    | tup hq rs =>
     cases r2 with
     | tup hq2 rs2 =>
      cases rs with
      | cons x1 y1 =>
       cases y1 with
       | cons x2 y2 =>
        cases y2
        cases x1
        cases x2
        cases rs2 with
        | cons x3 y3 =>
         cases y3 with
         | cons x4 y4 =>
          cases y4
          cases x3
          cases x4
          rename_i p q
          refine ⟨p,q,a,b,c,d,rfl,hq,hq2,k _ _ _ _ h (Kp.refl _) ?_ m⟩
          cases ltP c d a b
          ·exact .tup hq (.cons (.int _) (.cons (.int _) .nil))
          ·exact .tup hq2 (.cons (.int _) (.cons (.int _) .nil))
 ·exact h.elim
end
end Pv
namespace Pv
open PySem PySem.Spec PyProof.Rows L2
noncomputable def zf1 (cells : List (Str × Addr)) : List (Str × NameKind) -> List (Str × Addr) -> List (Str × Addr)
 | [],acc=>acc
 | (n,k) :: r,acc=>if k == .free then zf1 cells r ((n,(cells.lookup n).getD 0) :: acc) else zf1 cells r acc
theorem xj1 {scope : Scope} {env : Env} (h : ∀ y ∈ scope.names,y.2 = .free -> (env.cells.lookup y.1).isSome = true) : closureFor scope env = pure (zf1 env.cells scope.names []):=by
 unfold closureFor
 have key : ∀ (l : List (Str × NameKind)) (acc : List (Str × Addr)),(∀ y ∈ l,y.2 = .free -> (env.cells.lookup y.1).isSome = true) ->
     (forIn l acc (λ x r=>if (x.2 == NameKind.free) = true then do let c <- cellOf env x.1; pure (ForInStep.yield ((x.1,c) :: r)) else pure (ForInStep.yield r)) : Sem (List (Str × Addr))) = pure (zf1 env.cells l acc):=by
  intro l
  induction l with
  | nil=>intro acc _; rfl
  | cons y r ih =>
   intro acc hl
   obtain ⟨n,k⟩:=y
   rw [List.forIn_cons]
   have ih':=λ a=>ih a λ z hz=>hl z (List.mem_cons_of_mem _ hz)
   by_cases hk : k = .free
   ·subst hk
    have hs:=hl (n,.free) (List.mem_cons_self ..) rfl
    obtain ⟨c,hc⟩:=Option.isSome_iff_exists.mp hs
    have ec : cellOf env n = pure c:=by unfold cellOf; rw [hc]
    simp only [zf1,ec,pure_bind,beq_self_eq_true,if_true,hc,Option.getD_some]
    exact ih' _
   ·have hk' : (k == NameKind.free) = false:=by simpa using hk
    simp only [zf1,hk',Bool.false_eq_true,if_false,pure_bind]
    exact ih' _
 have:=key scope.names [] h
 refine Eq.trans ?_ this
 refine Eq.trans (bind_pure (forIn scope.names ([] : List (Str × Addr)) _ : Sem (List (Str × Addr)))) ?_
 congr 1
theorem yj1 {cells : List (Str × Addr)} {x : Str} {c : Addr} : ∀ (l : List (Str × NameKind)) (acc : List (Str × Addr)),(∀ y ∈ l,y.2 = .free -> (cells.lookup y.1).isSome = true) -> (acc.lookup x = some c -> cells.lookup x = some c) ->
    (zf1 cells l acc).lookup x = some c -> cells.lookup x = some c
 | [],acc,_,ha,h=>ha h
 | (n,k) :: r,acc,hl,ha,h=>by
  unfold zf1 at h
  split at h
  ·next hk =>
   refine yj1 r _ (λ z hz=>hl z (List.mem_cons_of_mem _ hz)) (λ h2=>?_) h
   rw [List.lookup_cons] at h2
   split at h2
   ·next e =>
    have e' : x = n:=eq_of_beq e
    subst e'
    obtain ⟨c',hc⟩:=Option.isSome_iff_exists.mp (hl (x,k) (List.mem_cons_self ..) (eq_of_beq hk))
    rw [hc] at h2
    simp only [Option.getD_some,Option.some.injEq] at h2
    rw [hc,h2]
   ·exact ha h2
  ·exact yj1 r acc (λ z hz=>hl z (List.mem_cons_of_mem _ hz)) ha h
theorem zj1 {cells : List (Str × Addr)} {x : Str} : ∀ (l : List (Str × NameKind)) (acc : List (Str × Addr)),((∃ c,acc.lookup x = some c) \/ (x,NameKind.free) ∈ l) -> ∃ c,(zf1 cells l acc).lookup x = some c
 | [],acc,h=>by
  rcases h with h | h
  ·exact h
  ·cases h
 | (n,k) :: r,acc,h=>by
  unfold zf1
  split
  ·next hk =>
   refine zj1 r _ ?_
   by_cases e : x = n
   ·subst e
    left
    exact ⟨(cells.lookup x).getD 0,by rw [List.lookup_cons]; simp⟩
   ·rcases h with ⟨c,h⟩ | h
    ·left
     refine ⟨c,?_⟩
     rw [List.lookup_cons]
     have : (x == n) = false:=by simpa using e
     rw [this]; exact h
    ·right
     rcases List.mem_cons.mp h with h | h
     ·exact absurd (congrArg Prod.fst h) e
     ·exact h
  ·next hk =>
   refine zj1 r acc ?_
   rcases h with h | h
   ·exact .inl h
   ·rcases List.mem_cons.mp h with h | h
    ·cases h; exact absurd rfl hk
    ·exact .inr h
theorem CompSc.free {X : Cx} {NN : List Str} {scope : Scope} {js : List (Option Nat)} (hcell : ∀ y ∈ scope.names,y.2 ≠ .cell) (hk : scope.kind = .function) (hfn : X.env.scope.kind = .function)
    (hn : ∀ y ∈ scope.names,y.2 = .local -> scope.names.lookup y.1 = some .local) (hfree : ∀ y ∈ scope.names,y.2 = .free -> X.env.scope.names.lookup y.1 = some .cell) (hlook : ∀ y ∈ scope.names,y.2 = .free -> scope.names.lookup y.1 = some .free)
    (hcl : ∀ x,X.env.scope.names.lookup x = some .cell -> (X.env.cells.lookup x).isSome = true) (len : js.length = NN.length)
    (hout : ∀ i ∈ List.range js.length,∀ j,js.getD i none = some j -> ∃ x,NN[i]? = some x /\ X.N[j]? = some x /\ scope.names.lookup x = some .free) :
    CompSc X NN scope (zf1 X.env.cells scope.names []) js where
 clos:=xj1 λ y hy e=>hcl _ (hfree y hy e)
 cell:=hcell
 kind:=hk
 names:=hn
 sub:=λ x c h=>yj1 scope.names [] (λ y hy e=>hcl _ (hfree y hy e)) (λ h=>by simp at h) h
 has:=λ x h=>by
  refine zj1 scope.names [] (.inr ?_)
  have hm : ∃ k,(x,k) ∈ scope.names /\ (k = .free \/ k = .cell):=by
   have key : ∀ kk,(relabel scope X.env).names.lookup x = some kk -> (kk = .cell \/ kk = .free) -> ∃ k,(x,k) ∈ scope.names /\ (k = .free \/ k = .cell):=λ kk hkk hc=>by
    have hmem:=zo0 hkk
    obtain ⟨⟨n,k⟩,hy,e⟩:=List.mem_map.mp hmem
    dsimp only at e
    split at e
    ·next hq =>
     cases e
     simp only [Bool.and_eq_true] at hq
     exact ⟨k,hy,.inl (by simpa using hq.1.1)⟩
    ·cases e
     exact ⟨kk,hy,hc.symm⟩
   rcases h with h | h
   ·exact key _ h (.inl rfl)
   ·exact key _ h (.inr rfl)
  obtain ⟨k,hk1,hk2⟩:=hm
  rcases hk2 with rfl | rfl
  ·exact hk1
  ·exact absurd rfl (hcell _ hk1)
 len:=len
 out:=λ i j h=>by
  have hi : i < js.length:=by
   rcases Nat.lt_or_ge i js.length with z | z
   ·exact z
   ·rw [List.getElem?_eq_none z] at h; cases h
  obtain ⟨x,e1,e2,e3⟩:=hout i (List.mem_range.mpr hi) j (by rw [List.getD_eq_getElem?_getD,h]; rfl)
  have hf:=hfree (x,.free) (zo0 e3) rfl
  refine ⟨x,e1,e2,.inr (.inl hf),by rw [hf]; simp,?_⟩
  left
  have key : ∀ (l : List (Str × NameKind)),l.lookup x = some .free -> (l.map λ (n,k)=>if (k == NameKind.free && X.env.scope.kind == .function && X.env.kindOf n == some .cell) then (n,NameKind.cell) else (n,k)).lookup x = some .cell:=λ l=>by
   induction l with
   | nil=>intro h; simp at h
   | cons y r ih =>
    obtain ⟨n,k⟩:=y
    intro h
    rw [List.lookup_cons] at h
    rw [List.map_cons,List.lookup_cons]
    by_cases e : x = n
    ·subst e
     simp only [beq_self_eq_true,Option.some.injEq] at h
     subst h
     have hkind : (X.env.kindOf x == some NameKind.cell) = true:=by
      show (X.env.scope.names.lookup x == some NameKind.cell) = true
      rw [hf]; rfl
     simp [hfn,hkind]
    ·have e' : (x == n) = false:=by simpa using e
     rw [e'] at h
     have ih':=ih h
     by_cases hq : (k == NameKind.free && X.env.scope.kind == ScopeKind.function && X.env.kindOf n == some NameKind.cell) = true
     ·simp only [hq,if_true,e']; exact ih'
     ·simp only [hq,Bool.false_eq_true,if_false,e']; exact ih'
  exact key _ e3
theorem xg4 {CX : CXT} {P : Program} {w : World} {K : Fg} {mg : Str -> Option Value} {base : Heap} {N : List Str} {qual : Str} {sc : Scope} {f : Addr} {cdv : Value} {A : Around} {outer : List Env} {s : Shared} {H : Hp} {E : XK} {NN : List Str} {scope : Scope} {js : List (Option Nat)}
    (hcell : ∀ y ∈ scope.names,y.2 ≠ .cell:=by decide +kernel) (hk : scope.kind = .function:=by rfl) (hfn : sc.kind = .function:=by rfl)
    (hn : ∀ y ∈ scope.names,y.2 = .local -> scope.names.lookup y.1 = some .local:=by decide +kernel) (hfree : ∀ y ∈ scope.names,y.2 = .free -> sc.names.lookup y.1 = some .cell:=by decide +kernel)
    (hlook : ∀ y ∈ scope.names,y.2 = .free -> scope.names.lookup y.1 = some .free:=by decide +kernel) (len : js.length = NN.length:=by rfl)
    (hout : ∀ i ∈ List.range js.length,∀ j ∈ (js.getD i none).toList,∃ x ∈ NN[i]?.toList,N[j]? = some x /\ scope.names.lookup x = some .free:=by decide +kernel) :
    CompSc (cxOf CX P w K mg base N qual sc f cdv A outer s H E).nox NN scope (zf1 (cxOf CX P w K mg base N qual sc f cdv A outer s H E).nox.env.cells scope.names []) js :=
 CompSc.free (X:=(cxOf CX P w K mg base N qual sc f cdv A outer s H E).nox) hcell hk hfn hn hfree hlook (λ x h=>by
  obtain ⟨c,hc⟩:=xp1 (n:=_) h
  exact Option.isSome_iff_exists.mpr ⟨c,hc⟩) len λ i hi j hj=>by
   obtain ⟨x,h1,h2,h3⟩:=hout i hi j (by rw [hj]; simp)
   exact ⟨x,by simpa using h1,h2,h3⟩
end Pv
namespace Pv
open PySem
noncomputable def isN : D -> Bool
 | .non=>true
 | _=>false
noncomputable def isNR (neg : Bool) : R3:=λ x y μ Q=>match y with
 | .non=>Q (.bl (if neg then !isN x else isN x)) μ
 | _=>False
noncomputable def maxR : C3:=λ ds μ Q=>match ds with
 | [.int i,.int j]=>Q (.int (if j > i then j else i)) μ
 | _=>False
noncomputable def min2R : C3:=λ ds μ Q=>match ds with
 | [.int i,.int j]=>Q (.int (if j < i then j else i)) μ
 | _=>False
noncomputable def ch3 (r r' : R3) (ta tb tc : TE3) : TE3:=λ ρ μ Q=>ta ρ μ λ x μ1=>tb ρ μ1 λ y μ2=>r x y μ2 λ d μ3=>match d with
 | .bl true=>tc ρ μ3 λ z μ4=>r' y z μ4 Q
 | .bl false=>Q (.bl false) μ3
 | _=>False
end Pv
namespace Pv
open PySem PySem.Spec PyProof.Rows L2
section
variable {X : Cx}
theorem xc8 {K : Fg} {H : Hp} {x : D} {v : V} (r : RelD K H x v) : decide (v = .non) = isN x:=by
 cases r <;> simp [isN]
theorem wb2 : RO X (compareOp .Is) (isNR false):=by
 refine ⟨_,zw7,λ x y v u H Q μ Q3 m rx ry h k=>?_⟩
 cases ry with
 | non =>
  refine ⟨rfl,?_⟩
  rw [xc8 rx]
  exact k _ _ _ _ h (Kp.refl _) (.bl _) m
 | _=>exact False.elim h
theorem wr4 : RO X (compareOp .IsNot) (isNR true):=by
 refine ⟨_,yb6,λ x y v u H Q μ Q3 m rx ry h k=>?_⟩
 cases ry with
 | non =>
  refine ⟨rfl,?_⟩
  rw [xc8 rx]
  exact k _ _ _ _ h (Kp.refl _) (.bl _) m
 | _=>exact False.elim h
theorem zb2 (hc : X.calm = true) : RC X (.builtin "max") maxR:=by
 refine ⟨_,zh4 hc,λ xs vs H Q μ Q3 m r h k=>?_⟩
 cases r with
 | nil=>exact False.elim h
 | cons r1 r2 =>
  cases r1 with
  | int i =>
   cases r2 with
   | nil=>exact False.elim h
   | cons r2 r3 =>
    cases r2 with
    | int j =>
     cases r3 with
     | nil=>exact ⟨i,j,rfl,k _ _ _ _ h (Kp.refl _) (.int _) m⟩
     | cons _ _=>exact False.elim h
    | _=>exact False.elim h
  | _=>exact False.elim h
theorem zt0 (hc : X.calm = true) : RC X (.builtin "min") min2R:=by
 refine ⟨_,xh4 hc,λ xs vs H Q μ Q3 m r h k=>?_⟩
 cases r with
 | nil=>exact False.elim h
 | cons r1 r2 =>
  cases r1 with
  | int i =>
   cases r2 with
   | nil=>exact False.elim h
   | cons r2 r3 =>
    cases r2 with
    | int j =>
     cases r3 with
     | nil=>exact ⟨i,j,rfl,k _ _ _ _ h (Kp.refl _) (.int _) m⟩
     | cons _ _=>exact False.elim h
    | _=>exact False.elim h
  | _=>exact False.elim h
end
end Pv
namespace Pv
open PySem
noncomputable def mnR : C3:=λ ds μ Q=>match ds with
 | [.int i,.int j]=>Q (.int (if j < i then j else i)) μ
 | [.tup [.int a,.int b],.tup [.int c,.int d]]=>Q (if ltP c d a b then .tup [.int c,.int d] else .tup [.int a,.int b]) μ
 | [.ref p]=>match μ p with
  | some (.lst l)=>match ints? l with
   | some ns=>0 < ns.length /\ ∀ m,m ∈ ns -> (∀ a,a ∈ ns -> m <= a) -> Q (.int m) μ
   | none=>False
  | _=>False
 | _=>False
noncomputable def mxR : C3:=λ ds μ Q=>match ds with
 | [.int i,.int j]=>Q (.int (if j > i then j else i)) μ
 | [.ref p]=>match μ p with
  | some (.lst l)=>match ints? l with
   | some ns=>0 < ns.length /\ ∀ m,m ∈ ns -> (∀ a,a ∈ ns -> a <= m) -> Q (.int m) μ
   | none=>False
  | _=>False
 | _=>False
theorem mnR_ii (i j : Int) (μ : Mu) (Q : VK3) : mnR [.int i,.int j] μ Q = Q (.int (if j < i then j else i)) μ:=propext ⟨λ h=>h,λ h=>h⟩
theorem mnR_pp (a b c d : Int) (μ : Mu) (Q : VK3) : mnR [.tup [.int a,.int b],.tup [.int c,.int d]] μ Q = Q (if ltP c d a b then .tup [.int c,.int d] else .tup [.int a,.int b]) μ:=propext ⟨λ h=>h,λ h=>h⟩
theorem mxR_ii (i j : Int) (μ : Mu) (Q : VK3) : mxR [.int i,.int j] μ Q = Q (.int (if j > i then j else i)) μ:=propext ⟨λ h=>h,λ h=>h⟩
theorem wd6 {p : Addr} {ns : List Int} {μ : Mu} {Q : VK3} (h : μ p = some (.lst (ns.map D.int))) (k : 0 < ns.length /\ ∀ m,m ∈ ns -> (∀ a,a ∈ ns -> m <= a) -> Q (.int m) μ) : mnR [.ref p] μ Q:=by
 have e : ∀ ns : List Int,ints? (ns.map D.int) = some ns:=λ ns=>by
  induction ns with
  | nil=>rfl
  | cons n r ih=>simp only [List.map_cons,ints?,ih]
 unfold mnR
 simp only [h,e]
 exact k
theorem xd6 {p : Addr} {ns : List Int} {μ : Mu} {Q : VK3} (h : μ p = some (.lst (ns.map D.int))) (k : 0 < ns.length /\ ∀ m,m ∈ ns -> (∀ a,a ∈ ns -> a <= m) -> Q (.int m) μ) : mxR [.ref p] μ Q:=by
 have e : ∀ ns : List Int,ints? (ns.map D.int) = some ns:=λ ns=>by
  induction ns with
  | nil=>rfl
  | cons n r ih=>simp only [List.map_cons,ints?,ih]
 unfold mxR
 simp only [h,e]
 exact k
noncomputable def lrng3 (to : TE3) : TE3:=λ ρ μ Q=>cons3 to nil3 ρ μ λ ds μ1=>match ds with
 | [.int j]=>((-(2 ^ 62) <= j /\ j < 2 ^ 62) /\ j <= 2 ^ 24) /\ ∀ r,μ1 r = none -> Q (.ref r) (updM μ1 r (.lst (rngD 0 j.toNat)))
 | _=>False
noncomputable def putD (f : Str) (v : D) : List (Str × D) -> List (Str × D)
 | []=>[(f,v)]
 | (g,x) :: r=>if g = f then (g,v) :: r else (g,x) :: putD f v r
noncomputable def fld3 (t : TE3) (c f : Str) : TE3:=λ ρ μ Q=>t ρ μ λ d μ1=>match d with
 | .ref p=>match μ1 p with
  | some (.ins c' fs)=>c' = c /\ (match fs.lookup f with
   | some v=>Q v μ1
   | none=>False)
  | _=>False
 | _=>False
noncomputable def zo2 (to tv : TE3) (c f : Str) : TS3:=λ D' ρ μ=>tv ρ μ λ y μ1=>to ρ μ1 λ d μ2=>match d with
 | .ref p=>match μ2 p with
  | some (.ins c' fs)=>(c' = c /\ fs.length < 1000) /\ D'.nx ρ (updM μ2 p (.ins c (putD f y fs)))
  | _=>False
 | _=>False
noncomputable def yz7 (c : Str) (sp : Sp3) (t : TA3) : TE3:=λ ρ μ Q=>t ρ μ λ ds μ1=>∀ p,μ1 p = none -> sp (.ref p :: ds) (updM μ1 p (.ins c [])) (λ v μ2=>v = .non /\ Q (.ref p) μ2)
noncomputable def yz3 (c m : Str) (sp : Sp3) (to : TE3) (t : TA3) : TE3:=λ ρ μ Q=>to ρ μ λ d μ1=>match d with
 | .ref p=>match μ1 p with
  | some (.ins c' fs)=>(c' = c /\ fs.lookup m = none) /\ t ρ μ1 λ ds μ2=>sp (.ref p :: ds) μ2 Q
  | _=>False
 | _=>False
noncomputable abbrev XE3:=Str -> Mu -> Prop
noncomputable def ws3 (XE : XE3) (x : Str) (t : TA3) : TS3:=λ _ ρ μ=>t ρ μ λ ds μ1=>ds.length <= sizeLine /\ XE x μ1
noncomputable def isx3 (t : TE3) (sub : Str -> Option Bool) : TE3:=λ ρ μ Q=>t ρ μ λ d μ1=>match d with
 | .exc c=>match sub c with
  | some b=>Q (.bl b) μ1
  | _=>False
 | _=>False
noncomputable def try3 (i : Nat) (spx : XE3 -> Sp3) (st : D -> St3 -> St3) (ok : Str -> Bool) (ta : TA3) (ts : TS3) : TS3:=λ D' ρ μ=>ta ρ μ λ ds μ1 =>
 spx (λ c μ2=>ok c = true /\ ts { nx:=λ ρ' μ'=>D'.nx (ρ'.set i none) μ',rt:=λ _ _=>False } (ρ.set i (some (.exc c))) μ2) ds μ1 (λ d μ2=>D'.nx (st d ρ) μ2)
noncomputable def xu6 (j : Nat) : D -> St3 -> St3:=λ d ρ=>ρ.set j (some d)
end Pv
namespace Pv
open PySem PySem.Spec PyProof.Rows L2
section
variable {X : Cx}
theorem RC.or {f : Value} {R1 R2 : C3} (h1 : RC X f R1) (h2 : RC X f R2) : RC X f (λ ds μ Q=>R1 ds μ Q \/ R2 ds μ Q):=by
 obtain ⟨c1,p1,r1⟩:=h1
 obtain ⟨c2,p2,r2⟩:=h2
 exact ⟨λ xs H Q=>c1 xs H Q \/ c2 xs H Q,λ pins s σ H xs us Q I r h=>h.elim (p1 pins s σ H xs us Q I r) (p2 pins s σ H xs us Q I r),
  λ xs vs H Q μ Q3 m r h k=>h.elim (λ h=>.inl (r1 xs vs H Q μ Q3 m r h k)) λ h=>.inr (r2 xs vs H Q μ Q3 m r h k)⟩
theorem RC.le {f : Value} {R1 R2 : C3} (h : RC X f R1) (e : ∀ ds μ Q,R2 ds μ Q -> R1 ds μ Q) : RC X f R2:=by
 obtain ⟨c1,p1,r1⟩:=h
 exact ⟨c1,p1,λ xs vs H Q μ Q3 m r h k=>r1 xs vs H Q μ Q3 m r (e _ _ _ h) k⟩
noncomputable def wy7 : C3:=λ ds μ Q=>match ds with
 | [.ref p]=>match μ p with
  | some (.lst l)=>match ints? l with
   | some ns=>0 < ns.length /\ ∀ m,m ∈ ns -> (∀ a,a ∈ ns -> m <= a) -> Q (.int m) μ
   | none=>False
  | _=>False
 | _=>False
noncomputable def xz7 : C3:=λ ds μ Q=>match ds with
 | [.ref p]=>match μ p with
  | some (.lst l)=>match ints? l with
   | some ns=>0 < ns.length /\ ∀ m,m ∈ ns -> (∀ a,a ∈ ns -> a <= m) -> Q (.int m) μ
   | none=>False
  | _=>False
 | _=>False
theorem wg4 (hc : X.calm = true) : CallR X (.builtin "min") (λ xs H Q=>∃ (p : Addr) (ns : List Int),xs = [.ref p] /\ SqL X.K H p (ns.map V.int) /\ 0 < ns.length /\ ∀ m,m ∈ ns -> (∀ a,a ∈ ns -> m <= a) -> Q (.int m) H):=by
 intro pins s σ H xs us Q I r h
 obtain ⟨p,ns,rfl,hq,hne,q⟩:=h
 obtain ⟨u,rfl,rx⟩:=wu1 r
 cases rx
 obtain ⟨its,r',pl,hz⟩:=I.list hq
 have hi:=yy1 r'
 obtain ⟨ys,e⟩:=hi.allInts.items
 have hl:=pl.isList
 rw [e] at hl
 have hns : ns = ys.toList.map (·.1):=by rw [<- hi.numsOf,<- nums_intItems,<- e]
 have hsz : 0 < ys.size:=by
  have h3:=hne; rw [hns,List.length_map,Array.length_toList] at h3; exact h3
 refine min_intList (I.ok.hd hc) hl hsz λ v h' tk hv hk=>?_
 obtain ⟨t,rfl⟩:=intItems_at hv
 obtain ⟨h1,h2⟩:=argBest_lt (numAt ys) (ys.size - 1)
 refine ⟨.int _,H,I.kept (t':=tk) hk,⟨t,rfl⟩,q _ ?_ λ a ha=>?_⟩
 ·rw [hns,numAt_eq]; exact getD_mem (by rw [List.length_map,Array.length_toList]; omega)
 ·rw [hns] at ha
  obtain ⟨j,hj,rfl⟩:=mem_getD ha
  rw [List.length_map,Array.length_toList] at hj
  rw [<- numAt_eq]; exact h2 j (by omega)
theorem yh4 (hc : X.calm = true) : CallR X (.builtin "max") (λ xs H Q=>∃ (p : Addr) (ns : List Int),xs = [.ref p] /\ SqL X.K H p (ns.map V.int) /\ 0 < ns.length /\ ∀ m,m ∈ ns -> (∀ a,a ∈ ns -> a <= m) -> Q (.int m) H):=by
 intro pins s σ H xs us Q I r h
 obtain ⟨p,ns,rfl,hq,hne,q⟩:=h
 obtain ⟨u,rfl,rx⟩:=wu1 r
 cases rx
 obtain ⟨its,r',pl,hz⟩:=I.list hq
 have hi:=yy1 r'
 obtain ⟨ys,e⟩:=hi.allInts.items
 have hl:=pl.isList
 rw [e] at hl
 have hns : ns = ys.toList.map (·.1):=by rw [<- hi.numsOf,<- nums_intItems,<- e]
 have hsz : 0 < ys.size:=by
  have h3:=hne; rw [hns,List.length_map,Array.length_toList] at h3; exact h3
 refine max_intList (I.ok.hd hc) hl hsz λ v h' tk hv hk=>?_
 obtain ⟨t,rfl⟩:=intItems_at hv
 obtain ⟨h1,h2⟩:=argBest_gt (numAt ys) (ys.size - 1)
 refine ⟨.int _,H,I.kept (t':=tk) hk,⟨t,rfl⟩,q _ ?_ λ a ha=>?_⟩
 ·rw [hns,numAt_eq]; exact getD_mem (by rw [List.length_map,Array.length_toList]; omega)
 ·rw [hns] at ha
  obtain ⟨j,hj,rfl⟩:=mem_getD ha
  rw [List.length_map,Array.length_toList] at hj
  rw [<- numAt_eq]; exact h2 j (by omega)
theorem xo7 (hc : X.calm = true) : RC X (.builtin "min") wy7:=by
 refine ⟨_,wg4 hc,λ xs vs H Q μ Q3 m r h k=>?_⟩
 unfold wy7 at h
 split at h
 ·next p =>
  cases r with
  | cons r1 r2 =>
   cases r2
   cases r1
   split at h
   ·next l e =>
    split at h
    ·next ns e1 =>
     obtain ⟨vs,hv,rs⟩:=m p l e
     have ev:=zd2 rs e1
     subst ev
     exact ⟨p,ns,rfl,SqL.of hv,h.1,λ a h1 h2=>k _ _ _ _ (h.2 a h1 h2) (Kp.refl _) (.int _) m⟩
    ·exact h.elim
   ·exact h.elim
 ·exact h.elim
theorem yo7 (hc : X.calm = true) : RC X (.builtin "max") xz7:=by
 refine ⟨_,yh4 hc,λ xs vs H Q μ Q3 m r h k=>?_⟩
 unfold xz7 at h
 split at h
 ·next p =>
  cases r with
  | cons r1 r2 =>
   cases r2
   cases r1
   split at h
   ·next l e =>
    split at h
    ·next ns e1 =>
     obtain ⟨vs,hv,rs⟩:=m p l e
     have ev:=zd2 rs e1
     subst ev
     exact ⟨p,ns,rfl,SqL.of hv,h.1,λ a h1 h2=>k _ _ _ _ (h.2 a h1 h2) (Kp.refl _) (.int _) m⟩
    ·exact h.elim
   ·exact h.elim
 ·exact h.elim
theorem q_mn (hc : X.calm = true) (hu : X.A.units + 64 < cLine) : RC X (.builtin "min") mnR:=by
 refine ((zt0 hc).or ((wp8 hc hu).or (xo7 hc))).le λ ds μ Q h=>?_
 unfold mnR at h
 split at h
 ·exact .inl h
 ·exact .inr (.inl h)
 ·exact .inr (.inr h)
 ·exact h.elim
theorem q_mx (hc : X.calm = true) : RC X (.builtin "max") mxR:=by
 refine ((zb2 hc).or (yo7 hc)).le λ ds μ Q h=>?_
 unfold mxR at h
 split at h
 ·exact .inl h
 ·exact .inr h
 ·exact h.elim
end
section
variable {X : Cx} {e : Expr} {te : TE3} {p p2 pos pos2 : Pos}
noncomputable def xh8 (ta : TA) : TE:=λ σ H Q=>ta σ H λ xs H1=>∃ j : Int,xs = [.int j] /\ (-(2 ^ 62) <= j /\ j < 2 ^ 62 /\ j <= 2 ^ 24) /\ ∀ r,H1 r = none -> Q (.ref r) (upd H1 r (.lst ((List.range j.toNat).map λ i=>V.int (0 + (i : Nat)))))
theorem zb4 {acc : Array Value} {n : Nat} (h : ItemsOf (λ i v=>∃ t,v = .int (0 + (i : Int) * 1) t) acc n) : ∃ us : List Value,acc = us.toArray /\ Vals ((List.range n).map λ i=>V.int (0 + (i : Nat))) us:=by
 obtain ⟨h0,h2⟩:=h
 refine ⟨acc.toList,by simp,?_⟩
 have key : ∀ (l : List Value) (k : Nat),(∀ i v,l[i]? = some v -> ∃ t,v = Value.int (0 + ((k + i : Nat) : Int) * 1) t) -> Vals ((List.range' k l.length).map λ i=>V.int (0 + (i : Nat))) l:=by
  intro l
  induction l with
  | nil=>intro k _; exact .nil
  | cons v l ih =>
   intro k hk
   rw [List.length_cons,List.range'_succ,List.map_cons]
   refine .cons ?_ (ih (k + 1) λ i v' e=>?_)
   ·obtain ⟨t,e⟩:=hk 0 v rfl
    exact ⟨t,by rw [e]; congr 1; omega⟩
   ·obtain ⟨t,e'⟩:=hk (i + 1) v' (by simpa using e)
    exact ⟨t,by rw [e']; congr 1; omega⟩
 have:=key acc.toList 0 λ i v e=>by
  obtain ⟨t,e'⟩:=h2 i v (by simpa using e)
  exact ⟨t,by rw [e']; congr 1; omega⟩
 rw [Array.length_toList,h0,<- List.range_eq_range'] at this
 exact this
theorem zz5 {ta : TA} (hc : X.calm = true) (hg : Gl X "list") (hm : X.mg "list" = none) (hg2 : Gl X "range") (hm2 : X.mg "range" = none) (ha : PA X [e] ta)
    (hs : starEach [e] X.env = [(false,eval e X.env)]:=by rfl)
    (hs2 : starEach [.Call (.Name "range" p2) [e] [] pos2] X.env = [(false,eval (.Call (.Name "range" p2) [e] [] pos2) X.env)]:=by rfl) :
    PE X (.Call (.Name "list" p) [.Call (.Name "range" p2) [e] [] pos2] [] pos) (xh8 ta):=by
 intro pins s σ H Q I h
 refine Call_ (zt1 I hg hm xi6 (PyProof.Rows.callWith_type1 ?_ hs2 rfl))
 rw [hs2]
 show wpAny _ _ (spliced ((false,eval (.Call (.Name "range" p2) [e] [] pos2) X.env) :: backTo pos (starEach [] X.env))) _ _ s
 refine Calls.spliced_cons ?_
 refine Call_ (zt1 I hg2 hm2 wc5 (PyProof.Rows.callWith_type1 (thn (ha pos2 pins s σ H _ I h) λ us s1 ⟨vs,H1,I1,r1,q1⟩=>?_) hs rfl))
 obtain ⟨j,e1,⟨j1,j2,j3⟩,k⟩:=q1
 subst e1
 cases r1 with
 | cons r rr =>
  cases rr
  obtain ⟨t,rfl⟩:=r
  refine call_range_1 ?_
  refine Calls.spliced_nil ?_
  have hsz' : Builtin.Range.rangeSize 0 j 1 = ((j.toNat : Nat) : Int):=by rw [rangeSize_one]; split <;> omega
  refine call_list_range (I.ok.hd hc) (IsRange.new ..) (small_one (by decide) (by decide) j1 j2) hsz' (by omega) λ h' tk acc' c' hk hS' hacc=>?_
  obtain ⟨us,rfl,rv⟩:=zb4 hacc
  have hk2 : ∀ b o,s1.heap.get? b = some o -> h'.get? b = some o:=λ b o e=>hk b o (Heap.get?_push_of_some _ e)
  refine ⟨.ref _,_,I1.laid (t':=tk) hk2 (show s1.heap.objs.size <= _ by simp only [Heap.size_push]; exact Nat.le_succ _) (show ObjOk X.prog X.w _ h' _ (.lst _) from ⟨?_,us,c',rv,hS'⟩),rfl,k _ (I1.hok.fresh (by simp only [Heap.size_push]; exact Nat.le_succ _))⟩
  rw [List.length_map,List.length_range]
  have : (2 : Nat) ^ 24 <= sizeLine:=by decide
  omega
theorem wm2 {K : Fg} {H : Hp} : ∀ (l : List Nat),RelDs K H (l.map λ i=>D.int (0 + (i : Nat))) (l.map λ i=>V.int (0 + (i : Nat)))
 | []=>.nil
 | x :: r=>.cons (.int _) (wm2 r)
theorem zu5 (he : RE X e te) (hm : X.mg "list" = none) (hm2 : X.mg "range" = none) (hc : X.calm = true:=by rfl) (hg : Gl X "list" := by rfl) (hg2 : Gl X "range" := by rfl) (hs : starEach [e] X.env = [(false,eval e X.env)]:=by rfl)
    (hs2 : starEach [.Call (.Name "range" p2) [e] [] pos2] X.env = [(false,eval (.Call (.Name "range" p2) [e] [] pos2) X.env)]:=by rfl) :
    RE X (.Call (.Name "list" p) [.Call (.Name "range" p2) [e] [] pos2] [] pos) (lrng3 te):=by
 obtain ⟨va,pa,ra⟩:=xa0 he yb0 hs
 refine ⟨_,zz5 hc hg hm hg2 hm2 pa hs hs2,λ σ H Q ρ μ Q3 s m h k=>ra σ H _ ρ μ _ s m h λ ds μ1 vs H1 h1 k1 r1 m1=>?_⟩
 cases r1 with
 | nil=>exact False.elim h1
 | cons r1 r2 =>
  cases r2 with
  | cons _ _=>cases r1 <;> exact False.elim h1
  | nil =>
   cases r1 with
   | int j =>
    dsimp only at h1
    exact ⟨j,rfl,⟨h1.1.1.1,h1.1.1.2,h1.1.2⟩,λ r hr=>k _ _ _ _ (h1.2 r (m1.free hr)) (k1.trans (Kp.new hr)) (.ref r) (m1.newL hr (wm2 _))⟩
   | _=>exact False.elim h1
end
end Pv
namespace L2
open PySem PySem.Spec PyProof.Rows
theorem zn2 {P : Program} {w : World} {K : PySem.W.Frag} {tg : Expr} (it : Addr) (lo : Int) (n : Nat) : Turn P w K tg (Itr lo n) [it] it (λ i h=>IsLongIter h it (lo + (i : Nat) * 1) ((n : Int) - (i : Nat)) 1) where
 mem:=by simp
 obj:=λ i h st b hb=>by
  have e : b = it:=by simpa using hb
  subst e
  exact ⟨_,st,λ v z=>by
   have z' : Data.fields _ = Data.cell v:=z
   cases z'⟩
 keep:=λ i h h' st k=>k it (by simp) _ st
 item:=by
  intro X hP hw hK hc i pins s σ H E I hf st hg
  subst hP hw hK
  obtain ⟨f0,f1,f2,f3,f4,f5⟩:=hf it (by simp)
  have W:=Walks.longrange (prog:=X.prog) (w:=X.w) (I.ok.hd hc) it lo 1 n
  refine W.item i s _ _ hg st λ v h' tk hv st' kk=>?_
  obtain ⟨t,rfl⟩:=hv
  have I1 : Inv X pins σ H { s with heap:=h',toks:=tk }:=I.turned (λ b o hb e=>kk b o (by simpa using hb) e) f0 f1 f3 f4 f5
  refine ⟨_,rfl,yc4 (s:={ s with heap:=h',toks:=tk }) (n := "longrange_iterator") st' rfl rfl (by decide) ⟨.int (lo + i),H,I1,⟨t,?_⟩,⟨rfl,rfl⟩,st',λ b hb=>(hf b hb).1⟩⟩
  rw [Int.mul_one]
 done:=by
  intro X hP hw hK hc i pins s σ H E I hf st hg
  subst hP hw hK
  obtain ⟨f0,f1,f2,f3,f4,f5⟩:=hf it (by simp)
  exact wpAny_pyNext_long_end (I.ok.hd hc) st (by have : n <= i:=hg; omega) λ h' eb=>⟨rfl,I.turned (t':=s.toks) (λ b o hb e=>eb b o hb e) f0 f1 f3 f4 f5⟩
 self:=λ _ _ _ _ _ st h=>wpAny_pyIter_longiter st h
section
variable {X : Cx} {tg : Expr}
theorem ys3 {pins : List (Addr × Obj)} {σ : St} {H : Hp} {s : Shared} {R : It -> Hp -> Prop} {E : Value -> Shared -> Prop} {lo hi : Int} {t u v : Tok} {tk : Nat} (I : Inv X pins σ H s)
    (q : R (Itr lo (hi - lo).toNat) H) : wpAny (model X.prog X.w) X.A (pyIter (.ref s.heap.objs.size)) (PIE X pins σ tg R) E { s with heap:=s.heap.push { cls:=.type "range",data:=.fields #[.int lo t,.int hi u,.int 1 v] },toks:=tk }:=by
 have I1 : Inv X pins σ H { s with heap:=s.heap.push { cls:=.type "range",data:=.fields #[.int lo t,.int hi u,.int 1 v] },toks:=tk }:=I.kept λ b o e=>Heap.get?_push_of_some _ e
 have e1 : lo + ((0 : Nat) : Int) * 1 = lo:=by simp
 have e2 : (((hi - lo).toNat : Nat) : Int) - ((0 : Nat) : Int) = Builtin.Range.rangeSize lo hi 1:=by rw [rangeSize_one]; split <;> omega
 cases hs : Builtin.Range.small lo hi 1 with
 | true =>
  refine wpAny_pyIter_range (IsRange.new ..) hs ?_
  refine ⟨(s.heap.push { cls:=.type "range",data:=.fields #[.int lo t,.int hi u,.int 1 v] }).objs.size,[(s.heap.push { cls:=.type "range",data:=.fields #[.int lo t,.int hi u,.int 1 v] }).objs.size],_,_,H,rfl,
   I1.kept (t':=tk) λ b o e=>Heap.get?_push_of_some _ e,yw1 _ lo (hi - lo).toNat,?_,λ b hb=>?_,q⟩
  ·show IsRangeIter _ _ (lo + ((0 : Nat) : Int) * 1) ((((hi - lo).toNat : Nat) : Int) - ((0 : Nat) : Int)) 1
   rw [e1,e2]
   exact Heap.get?_push_size _ rfl
  ·have e : b = (s.heap.push { cls:=.type "range",data:=.fields #[.int lo t,.int hi u,.int 1 v] }).objs.size:=by simpa using hb
   subst e
   exact I1.fpOk (Nat.le_refl _) (I1.hok.fresh (Nat.le_refl _))
 | false =>
  refine wpAny_pyIter_longrange (IsRange.new ..) hs ?_
  refine ⟨(s.heap.push { cls:=.type "range",data:=.fields #[.int lo t,.int hi u,.int 1 v] }).objs.size,[(s.heap.push { cls:=.type "range",data:=.fields #[.int lo t,.int hi u,.int 1 v] }).objs.size],_,_,H,rfl,
   I1.kept (t':=tk) λ b o e=>Heap.get?_push_of_some _ e,zn2 _ lo (hi - lo).toNat,?_,λ b hb=>?_,q⟩
  ·show IsLongIter _ _ (lo + ((0 : Nat) : Int) * 1) ((((hi - lo).toNat : Nat) : Int) - ((0 : Nat) : Int)) 1
   rw [e1,e2]
   exact Heap.get?_push_size _ rfl
  ·have e : b = (s.heap.push { cls:=.type "range",data:=.fields #[.int lo t,.int hi u,.int 1 v] }).objs.size:=by simpa using hb
   subst e
   exact I1.fpOk (Nat.le_refl _) (I1.hok.fresh (Nat.le_refl _))
noncomputable def zu8 (ta : TA) : TI:=λ σ H R=>ta σ H λ vs H1=>∃ i j : Int,vs = [.int i,.int j] /\ R (Itr i (j - i).toNat) H1
theorem wu3 {a b : Expr} {ta : TA} {p pos : Pos} (hg : Gl X "range") (hm : X.mg "range" = none) (ha : PA X [a,b] ta) (hs : starEach [a,b] X.env = [(false,eval a X.env),(false,eval b X.env)]:=by rfl) (hs2 : starEach [b] X.env = [(false,eval b X.env)]:=by rfl) :
    PI X tg (.Call (.Name "range" p) [a,b] [] pos) (zu8 ta):=by
 intro pins s σ H R I h
 refine Call_ (zt1 I hg hm boot_range (PyProof.Rows.callWith_type1 (thn (ha pos pins s σ H _ I h) λ us s1 ⟨vs,H1,I1,r1,q1⟩=>?_) (by rw [hs,hs2]) (by rw [hs2]; rfl)))
 obtain ⟨i,j,e,q⟩:=q1
 subst e
 cases r1 with
 | cons r rr =>
  cases rr with
  | cons r' rr =>
   cases rr
   obtain ⟨t,rfl⟩:=r
   obtain ⟨t',rfl⟩:=r'
   exact call_range_2 (ys3 I1 q)
end
end L2
namespace Pv
open PySem L2
noncomputable def irL3 (t : TA3) : TI3:=λ ρ μ R=>t ρ μ λ ds μ1=>match ds with
 | [.int i,.int j]=>R (rngD i (j - i).toNat) (λ _=>True) μ1
 | _=>False
section
variable {X : Cx} {a b tg : Expr} {ta tb : TE3} {pos : Pos}
theorem zh2 {p : Pos} (hm : X.mg "range" = none) (ha : RE X a ta) (hb : RE X b tb) (hg : Gl X "range" := by rfl) (hs : starEach [a,b] X.env = [(false,eval a X.env),(false,eval b X.env)]:=by rfl) (hs2 : starEach [b] X.env = [(false,eval b X.env)]:=by rfl) :
    RI X tg (.Call (.Name "range" p) [a,b] [] pos) (irL3 (cons3 ta (cons3 tb nil3))):=by
 obtain ⟨va,pa,ra⟩:=xa0 ha (xa0 hb yb0 hs2) (by rw [hs,hs2])
 refine ⟨_,wu3 hg hm pa hs hs2,λ σ H R ρ μ R3 s m h k=>ra σ H _ ρ μ _ s m h λ ds μ1 vs H1 h1 k1 r1 m1=>?_⟩
 cases r1 with
 | nil=>exact False.elim h1
 | cons r1 r2 =>
  cases r1 with
  | int i =>
   cases r2 with
   | nil=>exact False.elim h1
   | cons r2 r3 =>
    cases r2 with
    | int j =>
     cases r3 with
     | nil=>exact ⟨i,j,rfl,k _ _ _ _ _ h1 k1 m1 (xx2 _ _)⟩
     | cons _ _=>exact False.elim h1
    | _=>exact False.elim h1
  | _=>exact False.elim h1
end
end Pv
namespace Pv
open PySem PySem.Spec PyProof.Rows L2
noncomputable def CXn (P : Program) (w : World) : CXT:=λ outer H s E e s'=>∃ (ea : Addr) (cls a0 : Value) (H' : Hp) (B : Heap),e = .ref ea /\ s'.os = s.os /\ AllBare s'.gens /\ Un (frs outer) [] H H' s.heap s'.heap /\ HOk P w H' s'.heap ∧
 Heap.FlyingW B outer ea cls a0 s'.heap /\ H' ea = none /\ (∀ b o,s'.heap.get? b = some o -> b ∉ frs outer -> (∃ o',s.heap.get? b = some o') -> B.get? b = some o) /\ (∀ b,H' b ≠ none -> ∃ o,s'.heap.get? b = some o /\ B.get? b = some o) /\ E cls none H'
theorem yw2 {P : Program} {w : World} {K : Fg} {mg : Str -> Option Value} {base : Heap} {N : List Str} {qual : Str} {scope : Scope} {f : Addr} {cd : Value} {A : Around} {outer : List Env} {s0 : Shared} {H0 : Hp} {E : XK} :
    ym1 (CXn P w) (cxOf (CXn P w) P w K mg base N qual scope f cd A outer s0 H0 E) E:=by
 intro pins σ H s e s' I h
 obtain ⟨ea,cls,a0,H',B,rfl,os,bare,u2,hok,fl,hea,cov1,cov2,hE⟩:=h
 have u1 : Un (frs outer) [] H0 H s0.heap s.heap:=I.base
 have habove : s0.heap.objs.size <= (envOfC qual scope s0.heap.objs.size f cd).locals:=I.ok.above
 have hloc : ∀ {b : Addr} {o : Obj},s0.heap.get? b = some o -> b ≠ (envOfC qual scope s0.heap.objs.size f cd).locals:=λ {b o} q z=>by
  have:=Heap.lt_size q
  rw [z] at this
  exact absurd this (Nat.not_lt.mpr habove)
 have hfs : frs ((envOfC qual scope s0.heap.objs.size f cd) :: outer) = (envOfC qual scope s0.heap.objs.size f cd).locals :: frs outer:=rfl
 have hfn : ∀ {b : Addr} {o : Obj},s0.heap.get? b = some o -> b ∉ frs outer -> b ∉ frs ((envOfC qual scope s0.heap.objs.size f cd) :: outer):=λ {b o} q z hm=>by
  rw [hfs] at hm
  rcases List.mem_cons.mp hm with hm | hm
  ·exact hloc q hm
  ·exact z hm
 show wpAny (model P w) (A.deeper (envOfC qual scope s0.heap.objs.size f cd)) (leaving (envOfC qual scope s0.heap.objs.size f cd) (.ref ea)) _ _ s'
 refine wpAny_leaves_onW I.ok.frames rfl fl λ h' fl' up=>?_
 have far : ∀ b o,s0.heap.get? b = some o -> b ∉ frs outer -> ∃ o',s'.heap.get? b = some o' /\ B.get? b = some o' /\ h'.get? b = some o':=λ b o q hb=>by
  obtain ⟨o1,e1⟩:=u1.there b o q (by simp)
  obtain ⟨o2,e2⟩:=u2.there b o1 e1 (by simp)
  have e3:=cov1 b o2 e2 (hfn q hb) ⟨o1,e1⟩
  exact ⟨o2,e2,e3,fl'.1 b o2 e3⟩
 have frm : ∀ b o,s'.heap.get? b = some o -> b ∈ frs outer -> ∃ sl,h'.get? b = some { o with slots:=sl }:=λ b o q hb=>by
  have hm : b ∈ ((envOfC qual scope s0.heap.objs.size f cd) :: outer).filterMap (·.frame):=by
   show b ∈ frs _
   rw [hfs]; exact List.mem_cons_of_mem _ hb
  obtain ⟨_,o',ho,hnf⟩:=fl.2.2.1.mem hm
  rw [q] at ho; cases ho
  exact up b o q hnf
 refine ⟨ea,cls,a0,H',B,rfl,os.trans I.os,bare,?_,?_,fl',hea,?_,?_,hE⟩
 ·refine ⟨λ b o q n hb _=>?_,λ b o q n hb _=>?_,λ b o q n _=>?_,λ b o q _=>?_,λ b xs q=>u2.tups b xs (u1.tups b xs q),λ b o u q=>u2.frzs b o u (u1.frzs b o u q),λ b ps q=>?_⟩
  ·have e1:=u1.keep b o q n hb (by simp)
   have e2:=u2.keep b o e1 (u1.free b o q n (by simp)) (hfn q hb) (by simp)
   obtain ⟨o',e3,_,e5⟩:=far b o q hb
   rw [e2] at e3; cases e3
   exact e5
  ·obtain ⟨sl,e1⟩:=u1.slot b o q n hb (by simp)
   obtain ⟨sl2,e2⟩:=u2.slot b _ e1 (u1.free b o q n (by simp)) (by show b ∈ frs ((envOfC qual scope s0.heap.objs.size f cd) :: outer); rw [hfs]; exact List.mem_cons_of_mem _ hb) (by simp)
   obtain ⟨sl3,e3⟩:=frm b _ e2 hb
   exact ⟨sl3,e3⟩
  ·obtain ⟨o1,e1⟩:=u1.there b o q (by simp)
   exact u2.free b o1 e1 (u1.free b o q n (by simp)) (by simp)
  ·by_cases hb : b ∈ frs outer
   ·obtain ⟨o1,e1⟩:=u1.there b o q (by simp)
    obtain ⟨o2,e2⟩:=u2.there b o1 e1 (by simp)
    obtain ⟨sl,e3⟩:=frm b o2 e2 hb
    exact ⟨_,e3⟩
   ·obtain ⟨o',_,_,e5⟩:=far b o q hb
    exact ⟨o',e5⟩
  ·obtain ⟨m1,e1⟩:=u1.tbls b ps q
   obtain ⟨m2,e2⟩:=u2.tbls b _ e1
   exact ⟨m1 ++ m2,by rw [e2,Array.append_assoc]⟩
 ·refine λ a o e=>(hok a o e).stay (λ b u hb q=>?_) (λ _ h=>h) (λ _ _ h=>h)
  have hne : H' b ≠ none:=by
   rcases hb with rfl | hb
   ·rw [e]; simp
   ·rw [hb]; simp
  obtain ⟨o',e1,e2⟩:=cov2 b hne
  rw [q] at e1; cases e1
  exact fl'.1 b _ e2
 ·intro b o q hb ⟨o',q'⟩
  obtain ⟨o2,_,e4,e5⟩:=far b o' q' hb
  have q2 : h'.get? b = some o:=q
  rw [e5] at q2; cases q2
  exact e4
 ·intro b hb
  obtain ⟨o,e1,e2⟩:=cov2 b hb
  exact ⟨o,fl'.1 b o e2,e2⟩
theorem ys1 {P : Program} {w : World} {H : Hp} {h : Heap} {a : Addr} {o : HO} (x : ObjOk P w H h a o) : ∃ ob,h.get? a = some ob:=by
 induction o with
 | lst xs=>obtain ⟨z,its,n,r,e⟩:=x; exact ⟨_,e⟩
 | tup xs=>obtain ⟨z,its,r,ob,e,c⟩:=x; exact ⟨_,e⟩
 | dK kvs=>obtain ⟨z,y,vs,r,ob,es,ep,e,c⟩:=x; exact ⟨_,e⟩
 | dT kvs=>obtain ⟨z,y,xs,r,ob,es,ep,e,c⟩:=x; exact ⟨_,e⟩
 | set S n=>obtain ⟨ob,es,ep,t,e,c⟩:=x; exact ⟨_,e⟩
 | ins C dx fs=>obtain ⟨d,z,ne,e,mA,_,r⟩:=x; exact ⟨_,e⟩
 | own y=>obtain ⟨ob,e⟩:=x; exact ⟨_,e⟩
 | xd fs=>obtain ⟨mA,⟨od,es,ep,e,c⟩,r⟩:=x; exact ⟨_,e⟩
 | rng lo hi=>obtain ⟨t,u,v,e⟩:=x; exact ⟨_,e⟩
 | frz ob u ih=>obtain ⟨e,q⟩:=x; exact ⟨_,e⟩
 | tbl ps=>exact ⟨_,x⟩
 | met f y=>exact ⟨_,x⟩
 | ext φ=>obtain ⟨p,⟨o,e⟩,st⟩:=x; exact ⟨_,e⟩
section
variable {P : Program} {w : World} {K : Fg} {mg : Str -> Option Value} {base : Heap} {N : List Str} {qual : Str} {scope : Scope} {f : Addr} {cd : Value} {A : Around} {outer : List Env} {s0 : Shared} {H0 : Hp} {E : XK}
theorem wn7 {pins : List (Addr × Obj)} {σ : L2.St} {H : Hp} {s : Shared} {h1 : Heap} {e : Addr} {cls : Value} {us : List Value} (I : L2.Inv (cxOf (CXn P w) P w K mg base N qual scope f cd A outer s0 H0 E) pins σ H s) (hx : Heap.MadeExcOf s.heap h1 e cls us) (hE : E cls none H) :
    (cxOf (CXn P w) P w K mg base N qual scope f cd A outer s0 H0 E).xe (.ref e) { s with heap:=h1 }:=by
 have u1 : Un (frs outer) [] H0 H s0.heap s.heap:=I.base
 have e0:=I.env0
 have habove : s0.heap.objs.size <= (envOfC qual scope s0.heap.objs.size f cd).locals:=I.ok.above
 have hfs : frs ((envOfC qual scope s0.heap.objs.size f cd) :: outer) = (envOfC qual scope s0.heap.objs.size f cd).locals :: frs outer:=rfl
 have hfn : ∀ {b : Addr} {o : Obj},s0.heap.get? b = some o -> b ∉ frs outer -> b ∉ frs ((envOfC qual scope s0.heap.objs.size f cd) :: outer):=λ {b o} q z hm=>by
  rw [hfs] at hm
  rcases List.mem_cons.mp hm with hm | hm
  ·have:=Heap.lt_size q
   rw [hm] at this
   exact absurd this (Nat.not_lt.mpr habove)
  ·exact z hm
 have hin : ∀ env ∈ ((envOfC qual scope s0.heap.objs.size f cd) :: outer),∀ b,env.frame = some b -> b ∈ frs ((envOfC qual scope s0.heap.objs.size f cd) :: outer):=λ env he b hb=>List.mem_filterMap.mpr ⟨env,he,hb⟩
 have hfun : s.heap.FunFrames base ((envOfC qual scope s0.heap.objs.size f cd) :: outer):=e0.funs
 have hl:=PySem.W.funFrames_hide hfun hin
 show wpAny (model P w) (A.deeper (envOfC qual scope s0.heap.objs.size f cd)) (leaving (envOfC qual scope s0.heap.objs.size f cd) (.ref e)) _ _ _
 refine wpAny_leaves_madeW (s:={ s with heap:=h1 }) (base:=PySem.W.hideAll s.heap (frs ((envOfC qual scope s0.heap.objs.size f cd) :: outer))) I.ok.frames rfl (λ b o q=>PySem.W.of_hideAll _ q) hl hx λ h' t fl htup ht up=>?_
 have inB : ∀ b o,s.heap.get? b = some o -> b ∉ frs ((envOfC qual scope s0.heap.objs.size f cd) :: outer) -> (PySem.W.hideAll s.heap (frs ((envOfC qual scope s0.heap.objs.size f cd) :: outer))).get? b = some o:=λ b o q hb=>PySem.W.hideAll_get _ q hb
 have trk : ∀ b,H b ≠ none -> ∃ o,s.heap.get? b = some o /\ b ∉ frs ((envOfC qual scope s0.heap.objs.size f cd) :: outer):=λ b hb=>by
  cases q : H b with
  | none=>exact absurd q hb
  | some ho =>
   obtain ⟨o,eo⟩:=ys1 (I.hok b ho q)
   refine ⟨o,eo,λ hm=>?_⟩
   have:=e0.frf b hm
   rw [q] at this; cases this
 have frm : ∀ b o,s.heap.get? b = some o -> b ∈ frs outer -> ∃ sl,h'.get? b = some { o with slots:=sl }:=λ b o q hb=>by
  have hm : b ∈ ((envOfC qual scope s0.heap.objs.size f cd) :: outer).filterMap (·.frame):=by
   show b ∈ frs _
   rw [hfs]; exact List.mem_cons_of_mem _ hb
  obtain ⟨_,o',ho,hnf⟩:=hfun.mem hm
  rw [q] at ho; cases ho
  exact up b o (hx.keeps b o q) hnf
 refine ⟨e,cls,.ref t,H,_,rfl,I.os,I.bare,?_,?_,fl,?_,?_,?_,hE⟩
 ·refine ⟨λ b o q n hb _=>?_,λ b o q n hb _=>?_,λ b o q n _=>u1.free b o q n (by simp),λ b o q _=>?_,λ b xs q=>u1.tups b xs q,λ b o u q=>u1.frzs b o u q,λ b ps q=>u1.tbls b ps q⟩
  ·exact fl.1 b o (inB b o (u1.keep b o q n hb (by simp)) (hfn q hb))
  ·obtain ⟨sl,e1⟩:=u1.slot b o q n hb (by simp)
   obtain ⟨sl2,e2⟩:=frm b _ e1 hb
   exact ⟨sl2,e2⟩
  ·obtain ⟨o1,e1⟩:=u1.there b o q (by simp)
   by_cases hb : b ∈ frs outer
   ·obtain ⟨sl,e2⟩:=frm b o1 e1 hb
    exact ⟨_,e2⟩
   ·exact ⟨o1,fl.1 b o1 (inB b o1 e1 (hfn q hb))⟩
 ·refine λ a o ha=>(I.hok a o ha).stay (λ b u hb q=>?_) (λ _ h=>h) (λ _ _ h=>h)
  have hne : H b ≠ none:=by
   rcases hb with rfl | hb
   ·rw [ha]; simp
   ·rw [hb]; simp
  obtain ⟨o',e1,e2⟩:=trk b hne
  exact fl.1 b u (inB b u q e2)
 ·cases q : H e with
  | none=>rfl
  | some ho =>
   obtain ⟨o,eo⟩:=ys1 (I.hok e ho q)
   rw [hx.new] at eo; cases eo
 ·intro b o q hb ⟨o',q'⟩
  obtain ⟨o1,e1⟩:=u1.there b o' q' (by simp)
  have e2:=inB b o1 e1 (hfn q' hb)
  have e3:=fl.1 b o1 e2
  have q2 : h'.get? b = some o:=q
  rw [e3] at q2; cases q2
  exact e2
 ·intro b hb
  obtain ⟨o,e1,e2⟩:=trk b hb
  exact ⟨o,fl.1 b o (inB b o e1 e2),inB b o e1 e2⟩
noncomputable def ys6 (E : XK) (C : Addr) (ta : TA) : TS:=λ _ σ H=>ta σ H λ vs H1=>vs.length <= sizeLine /\ E (.ref C) none H1
theorem ws4 {x : Str} {C : Addr} {Bn B newId inN nid initId : String} {bm bmN : List Value} {e₀ : Expr} {rest : List Expr} {np cpos pos : Pos} {ta : TA}
    (O : OwnCls x C bm newId mg base) (Fn : ExcBaseFacts Bn newId inN bmN) (hBn : bm.contains (.type Bn) = true) (FB : ExcBaseFacts B nid initId bm)
    (hg : Gl (cxOf (CXn P w) P w K mg base N qual scope f cd A outer s0 H0 E) x) (ha : PA (cxOf (CXn P w) P w K mg base N qual scope f cd A outer s0 H0 E) (e₀ :: rest) ta)
    (he : starEach (e₀ :: rest) (envOfC qual scope s0.heap.objs.size f cd) = (false,eval e₀ (envOfC qual scope s0.heap.objs.size f cd)) :: starEach rest (envOfC qual scope s0.heap.objs.size f cd):=by rfl)
    (hplain : (backTo cpos (starEach rest (envOfC qual scope s0.heap.objs.size f cd))).any (·.1) = false:=by rfl) (hd : (x == ("__debug__" : Str)) = false:=by decide) :
    PS (cxOf (CXn P w) P w K mg base N qual scope f cd A outer s0 H0 E) (.Raise (some (.Call (.Name x np) (e₀ :: rest) [] cpos)) none pos) (ys6 E C ta):=by
 intro pins s σ H D I h
 obtain ⟨tl,NN,nm,q,bs,hdct,sn,sub,ab,col,dd,k0,k1,k2,k3,k5,mN,hC,hN,hni,T⟩:=O.obj
 refine wpAny_Raise_call_subU (C:=C) (nm:=nm) (q:=q) (N:=NN) (bs:=bs) (bm:=tl) (hdct:=hdct) (sn:=sn) (sub:=sub) (ab:=ab) (col:=col) (dd:=dd) (k0:=k0) (k1:=k1) (k2:=k2) (k3:=k3) (k5:=k5)
  Fn hBn FB (mN:=mN) (T.hasType FB.hasBase) (I.ok.hd rfl) (by
   show (backTo cpos (starEach (e₀ :: rest) (envOfC qual scope s0.heap.objs.size f cd))).any (·.1) = false
   rw [he]; show (false || (backTo cpos (starEach rest (envOfC qual scope s0.heap.objs.size f cd))).any (·.1)) = false; rw [hplain]; rfl) hni (yz0 I hg O.bound ⟨rfl,?_⟩ hd)
 have hA:=ha cpos pins s σ H _ I h
 have he' : starEach (e₀ :: rest) (cxOf (CXn P w) P w K mg base N qual scope f cd A outer s0 H0 E).env = _:=he
 rw [he'] at hA ⊢
 refine Calls.evalArgs_plain (thn hA λ us s2 ⟨vs,H2,I2,r2,q2⟩=>⟨rfl,?_,I2.bk _ _ hC,hN.keeps I2.bk,T.keeps I2.bk,λ h' e hx=>wn7 I2 hx q2.2⟩)
 rw [<- r2.length]; exact q2.1
noncomputable def EXok (K : Fg) (mg : Str -> Option Value) (XE : XE3) (E : XK) : Prop:=∀ x C μ' H',XE x μ' -> mg x = some (.ref C) -> RelM K μ' H' -> E (.ref C) none H'
noncomputable def xw4 (K : Fg) (mg : Str -> Option Value) (spx : XE3 -> Sp3) : Sp:=λ vs H Q E=>∃ ds μ Q3 XE,RelDs K H ds vs /\ RelM K μ H /\ spx XE ds μ Q3 /\ Ks K H Q3 Q /\ EXok K mg XE E
noncomputable def CalX (P : Program) (w : World) (K : Fg) (mg : Str -> Option Value) (base : Heap) (k : Nat) (x : Str) (ps : List Str) (spx : XE3 -> Sp3) : Prop :=
 ∃ f fd,FnOk P w K mg base (CXn P w) k f fd ps (xw4 K mg spx) /\ mg x = some (.ref f) /\ PySem.W.keepIn K (.ref f) = true /\ Binds K fd ps []
theorem CalX.mono {j k : Nat} {x : Str} {ps : List Str} {spx : XE3 -> Sp3} (c : CalX P w K mg base j x ps spx) (h : j <= k) : CalX P w K mg base k x ps spx:=by
 obtain ⟨f,fd,F,r⟩:=c
 exact ⟨f,fd,F.mono h,r⟩
variable {XE : XE3}
theorem xq4 {x : Str} {C : Addr} {Bn B newId inN nid initId : String} {bm bmN : List Value} {e₀ : Expr} {rest : List Expr} {np cpos pos : Pos} {ta : TA3} (EX : EXok K mg XE E)
    (O : OwnCls x C bm newId mg base) (Fn : ExcBaseFacts Bn newId inN bmN) (hBn : bm.contains (.type Bn) = true) (FB : ExcBaseFacts B nid initId bm)
    (ha : RA (cxOf (CXn P w) P w K mg base N qual scope f cd A outer s0 H0 E) (e₀ :: rest) ta) (hg : Gl (cxOf (CXn P w) P w K mg base N qual scope f cd A outer s0 H0 E) x:=by rfl)
    (he : starEach (e₀ :: rest) (envOfC qual scope s0.heap.objs.size f cd) = (false,eval e₀ (envOfC qual scope s0.heap.objs.size f cd)) :: starEach rest (envOfC qual scope s0.heap.objs.size f cd):=by rfl)
    (hplain : (backTo cpos (starEach rest (envOfC qual scope s0.heap.objs.size f cd))).any (·.1) = false:=by rfl) (hd : (x == ("__debug__" : Str)) = false:=by decide) :
    RS (cxOf (CXn P w) P w K mg base N qual scope f cd A outer s0 H0 E) (.Raise (some (.Call (.Name x np) (e₀ :: rest) [] cpos)) none pos) (ws3 XE x ta):=by
 obtain ⟨va,pa,ra⟩:=ha
 exact ⟨_,ws4 O Fn hBn FB hg pa he hplain hd,λ σ H D ρ μ D3 s m h k=>ra σ H _ ρ μ _ s m h λ ds μ1 vs H1 h1 k1 r1 m1=>⟨by rw [<- r1.length]; exact h1.1,EX x C μ1 H1 h1.2 O.bound m1⟩⟩
theorem xo1 {k : Nat} {ps : List Str} {spx : XE3 -> Sp3} {x : Str} {e : Expr} {es : List Expr} {p pos : Pos} {t : TA3} (EX : EXok K mg XE E) (c : CalX P w K mg base k x ps spx) (hr : Room k (A.deeper (envOfC qual scope s0.heap.objs.size f cd)))
    (ha : RA (cxOf (CXn P w) P w K mg base N qual scope f cd A outer s0 H0 E) (e :: es) t) (hg : Gl (cxOf (CXn P w) P w K mg base N qual scope f cd A outer s0 H0 E) x:=by rfl) (hdb : (x == ("__debug__" : Str)) = false:=by decide)
    (he : starEach (e :: es) (envOfC qual scope s0.heap.objs.size f cd) = (false,eval e (envOfC qual scope s0.heap.objs.size f cd)) :: starEach es (envOfC qual scope s0.heap.objs.size f cd):=by rfl) (hpl : (backTo pos (starEach es (envOfC qual scope s0.heap.objs.size f cd))).any (·.1) = false:=by rfl) :
    RE (cxOf (CXn P w) P w K mg base N qual scope f cd A outer s0 H0 E) (.Call (.Name x p) (e :: es) [] pos) (call3 (spx XE) t):=by
 obtain ⟨g,fd,F,hm,hk,hb⟩:=c
 obtain ⟨va,pa,ra⟩:=ha
 refine ⟨_,zv3 (X:=cxOf (CXn P w) P w K mg base N qual scope f cd A outer s0 H0 E) F hr hg hm hk hb .nil yw2 pa hdb he hpl,λ σ H Q ρ μ Q3 s m h k=>ra σ H _ ρ μ _ s m h λ ds μ1 vs H1 h1 k1 r1 m1=>?_⟩
 rw [List.append_nil]
 exact ⟨ds,μ1,Q3,XE,r1,m1,h1,k.after k1,EX⟩
theorem xf2 {x : Str} {st : Stmt} {g : Addr} {fd : FuncData} {NN ps : List Str} {k : Nat} {spx : XE3 -> Sp3} {t : XE3 -> TS3} (F : Fun K x x st g fd) (hm : mg x = some (.ref g)) (hb : Binds K fd ps []) (S : FnScope NN ps (wa0 st))
    (len : ∀ XE ds μ Q,spx XE ds μ Q -> ds.length = ps.length)
    (body : ∀ (cdv : Value) (A : Around) (outer : List Env) (s : Shared) (H : Hp) (E : XK) (XE : XE3),Room k (A.deeper (envOfC x (wa0 st) s.heap.objs.size g cdv)) -> EXok K mg XE E ->
     RSs (cxOf (CXn P w) P w K mg base NN x (wa0 st) g cdv A outer s H E) (yd0 st) (t XE))
    (rd : ∀ XE ds μ Q,spx XE ds μ Q -> t XE { nx:=λ _ μ'=>Q .non μ',rt:=Q } (start3 NN ds) μ) : CalX P w K mg base (k + 1) x ps spx:=by
 refine ⟨g,fd,?_,hm,F.kp,hb⟩
 obtain ⟨oc,od,kV,doc,pm,an,cdv,ct,osl,rfl,lk,hcd⟩:=F.ex
 refine wg6 lk hcd S (λ vs H Q E h=>?_) λ A outer s H vs Q E hr h=>?_
 ·obtain ⟨ds,μ,Q3,XE,r,m,q,ks,ex⟩:=h
  rw [<- r.length]; exact len _ _ _ _ q
 ·obtain ⟨ds,μ,Q3,XE,r,m,q,ks,ex⟩:=h
  obtain ⟨tv,p,rt⟩:=body cdv A outer s H E XE hr ex
  exact ⟨tv,p,rt _ H _ _ μ _ (RSt.start NN r) m (rd XE ds μ Q3 q) ⟨λ ρ μ' σ H' h' k' s' m'=>ks _ _ _ _ h' k' .non m',λ ρ μ' σ H' h'=>False.elim h',λ ρ μ' σ H' h'=>False.elim h',ks⟩⟩
end
end Pv
namespace Pv
open PySem PySem.Spec PyProof.Rows L2 PySem.Calls
section
variable {prog : Program} {w : World} {A : Around} {E : Value -> Shared -> Prop} {s : Shared} {K : PySem.W.Frag} {x D : Addr} {ox : Obj}
structure ExcK (K : PySem.W.Frag) (D : Addr) : Prop where
 ga : PySem.W.findIn K (.ref D) "__getattribute__" = some (some (.builtin "BaseException.__getattribute__"))
 no : PySem.W.findIn K (.ref D) "__getattr__" = some none
 be : PySem.W.mroIn K D (.type "BaseException") = some true
 cd : (PySem.W.clsIn K D).isSome = true
 ca : PySem.W.findIn K (.ref D) "__class__" = some (some (.builtin "object.__class__"))
 gt : PySem.W.specialIn K (.builtin "object.__class__") "__get__" = some (some (.builtin "getset_descriptor.__get__"))
 tk : PySem.W.takesIn K (.builtin "object.__class__") = some true
 ob : PySem.W.mroIn K D (.type "object") = some true
noncomputable def ExcAt (x D : Addr) (h : Heap) : Prop:=∃ ob,h.get? x = some ob /\ ob.cls = .ref D
theorem ExcAt.type {M : Model} {h : Heap} (I : ExcAt x D h) : PySem.W.Looks M h (typeOf (.ref x)) (.ref D):=by
 obtain ⟨ob,h1,h2⟩:=I
 exact h2 ▸ (PySem.W.Looks.ld h1).andThen .now
theorem xa5 {M : Model} {h : Heap} (Z : ExcK K D) (X : K.In h) : PySem.W.Looks M h (Builtin.ObjectAttr.find (.ref x) (.ref D) "__class__") (.bind (.builtin "getset_descriptor.__get__") (.builtin "object.__class__")):=by
 have L1:=PySem.W.looks_findIn (M:=M) X Z.ca
 have L2:=PySem.W.looks_specialIn (M:=M) X Z.gt
 have L3:=PySem.W.looks_takesIn (M:=M) X Z.tk
 refine L1.andThen (PySem.W.Looks.andThen (show PySem.W.Looks M h (Builtin.ObjectAttr.getOf (some (.builtin "object.__class__"))) (some (.builtin "getset_descriptor.__get__")) from L2) ?_)
 exact (show PySem.W.Looks M h (Builtin.ObjectAttr.dataDescriptor? (some (.builtin "object.__class__")) (some (.builtin "getset_descriptor.__get__"))) (some (.builtin "getset_descriptor.__get__",.builtin "object.__class__")) from L3.andThen .now).andThen (PySem.W.Looks.tag .now)
theorem xh6 {R : Result -> Shared -> Prop} {tp : Value} (Z : ExcK K D) (X : K.In s.heap) (I : ExcAt x D s.heap)
    (h : R (.ok (.ret (.ref D))) s) : codeAny (model prog w) A (.call (.builtin "getset_descriptor.__get__") ⟨[.builtin "object.__class__",.ref x,tp],[]⟩) R s:=by
 obtain ⟨ob,h1,h2⟩:=I
 obtain ⟨hh,g,dr,t,os⟩:=s
 have L0:=ExcAt.type (M:=model prog w) (x:=x) (D:=D) (h:=hh) ⟨ob,h1,h2⟩
 have L1:=PySem.W.looks_mroIn (M:=model prog w) X Z.ob
 refine codeAny_call_builtin PySem.W.KF.slot_gs.plain PySem.W.KF.entry_gs (PySem.W.KF.slot_gs.check _ _ _ _ _ _ _ _ PySem.W.KF.type_class (PySem.W.KF.args_gs _ _ _) ?_)
 unfold Builtin.«getset_descriptor.__get__» Builtin.Getset_descriptor.descrGet
 rw [PySem.W.dga_obj]
 refine wpAny_bind (wpAny_pure ?_)
 unfold Builtin.Getset_descriptor.descrGetter Builtin.Getset_descriptor.descrCheckInstance Builtin.Getset_descriptor.descrNameAndClass isInstance
 simp only [PySem.W.KF.owner_class]
 repeat lk
 refine ⟨Code.quiet_builtin _ (by decide +kernel),codeAny_builtin PySem.W.KF.entry_class ?_⟩
 unfold Builtin.«object.__class__» shownTypeOf
 repeat lk
 exact h
theorem wd4 {Q : Option Value -> Shared -> Prop} (Z : ExcK K D) (X : K.In s.heap) (I : ExcAt x D s.heap) (h : Q (some (.ref D)) { s with toks:=s.toks + 1 }) : wpAny (model prog w) A (getAttr? (.ref x) "__class__") Q E s:=by
 obtain ⟨hh,g,d,t,os⟩:=s
 have L0:=I.type (M:=model prog w)
 have L1:=PySem.W.looks_findIn (M:=model prog w) X Z.ga
 have L2:=PySem.W.looks_findIn (M:=model prog w) X Z.no
 have L3:=xa5 (M:=model prog w) (x:=x) Z X
 have L4:=PySem.W.looks_mroIn (M:=model prog w) X Z.be
 unfold getAttr? getAttrBy? getAttrBy
 refine wpAny_bind (wpAny_mkText (wpAny_bind (wpAny_attempt (wpAny_holding (wpAny_bind (L0.at (wpAny_bind (L1.at ?_))))))))
 have hx2 : (Value.builtin "BaseException.__getattribute__" == Value.builtin "object.__getattribute__") = false:=by decide +kernel
 simp only [hx2,Bool.and_false,Bool.false_eq_true,if_false]
 unfold getAttrByItsOwn hookBefore
 have hh1 : onTheHeap (Value.ref D) = true:=rfl
 simp only [hh1,if_true]
 refine wpAny_bind (L2.at (wpAny_bind (wpAny_attempt (wpAny_holding ?_))))
 unfold callGetattribute boundAndCalled
 simp only [Bool.false_and,Bool.false_eq_true,if_false]
 have hb : bindSpecial (.builtin "BaseException.__getattribute__") (.ref x) = pure (.builtin "BaseException.__getattribute__",[.ref x]):=PySem.F.attr_ValueError.ga.bind _
 rw [hb]
 refine wpAny_bind (wpAny_pure ?_)
 refine wpAny_call (codeAny_call_builtin PySem.F.attr_ValueError.ga.plain F.entry_bexc_ga ?_)
 have hk : builtinKind "BaseException.__getattribute__" = some .slot:=by decide +kernel
 have hsplit : splitId "BaseException.__getattribute__" = some ("BaseException", "__getattribute__"):=by decide +kernel
 have ha:=F.args_bexc_ga (.ref x) (.str "__class__" t)
 simp only [checkBuiltinCall,hk,hsplit]
 refine wpAny_bind ?_
 ·unfold isInstance
  refine wpAny_bind (L0.at (L4.at ?_))
  simp only [Bool.not_true,Bool.false_eq_true,if_false]
  obtain ⟨ob,I1,I2⟩:=id I
  dsimp only at I1
  repeat (any_goals (first | assumption | (with_reducible refine wpAny_loadPart_at I1 ?_; rw [I2]) | with_reducible refine L3.at ?_ | wp_step))
  refine xh6 (s:=⟨hh,g,d,t + 1,os⟩) Z X I (wpAny_pure ?_)
  exact PySem.W.handed_on rfl (wpAny_pure h)
theorem ww4 (Z : ExcK K D) : PySem.W.KitX K (.ref x) (.ref D) (ExcAt x D) where
 ty:=λ _ _ _ I=>I.type
 it:=λ _ _ X _=>by
  obtain ⟨cdD,hcD⟩:=Option.isSome_iff_exists.mp Z.cd
  unfold PySem.W.clsIn at hcD
  split at hcD
  ·rename_i c' d' cd' sl' ho
   intro A' Q' E' s' k q
   unfold isType loadHead
   exact wpAny_bind (wpAny_loadPart (k _ _ (X _ _ ho)) (wpAny_pure q))
  ·cases hcD
 ne:=λ h tp dd its n sl X htp=>by
  obtain ⟨cdD,hcD⟩:=Option.isSome_iff_exists.mp Z.cd
  refine Bool.eq_false_iff.mpr λ q=>?_
  have e : D = tp:=Value.ref.inj (beq_iff_eq.mp q)
  subst e
  unfold PySem.W.clsIn at hcD
  split at hcD
  ·rename_i c' d' cd' sl' ho
   have z:=(X _ _ ho).symm.trans htp
   cases z
  ·cases hcD
 ca:=λ X I k=>wd4 Z X I k
end
section
variable {X : Cx} {e : Expr} {te : TE3} {p p2 pos : Pos}
theorem zg6 {P : Program} {w : World} {H : Hp} {h : Heap} (hok : HOk P w H h) {a : Addr} {ob : Obj} {u : HO} (e : H a = some (.frz ob u)) : h.get? a = some ob:=(show ObjOk P w H h a (.frz ob u) from hok a _ e).1
theorem wb5 {cV : V} {cv : Value} (rc : ∀ u,RelV cV u -> u = cv) : CallR X (.builtin "isinstance") (λ xs H Q=>∃ a C ob u b,xs = [.ref a,cV] /\ H a = some (.frz ob u) /\ ob.cls = .ref C /\ ExcK X.K C /\ PySem.W.kitOne X.K (.ref C) cv = some b /\ Q (.bl b) H):=by
 intro pins s σ H xs us Q I r h
 obtain ⟨a,C,ob,u,b,rfl,ha,h1,Z,hk,q⟩:=h
 obtain ⟨u1,u2,rfl,r1,r2⟩:=yn2 r
 cases r1
 cases rc _ r2
 have hg:=zg6 I.hok ha
 have hi : ExcAt a C s.heap:=⟨ob,hg,h1⟩
 exact PySem.W.kia_one (ww4 Z) I.kIn hi hk (λ z=>nomatch z) λ tk=>⟨.bl b,H,I.tok tk,rfl,q⟩
theorem xy1 {y : Str} {C : Addr} (hg : Gl X y) (hm : X.mg y = some (.ref C)) (hd : (y == ("__debug__" : Str)) = false:=by decide) : PE X (.Name y p2) (λ _ H Q=>Q (.ref C) H):=λ pins s σ H Q I h=>yz0 I hg hm ⟨.ref C,H,I,rfl,h⟩ hd
theorem zr1 {y : Str} {cV : V} {cv : Value} {sub : Str -> Option Bool} (he : RE X e te) (hc : PE X (.Name y p2) (λ _ H Q=>Q cV H)) (rc : ∀ u,RelV cV u -> u = cv)
    (hsub : ∀ c C b,sub c = some b -> PySem.W.nsIn X.K mainGlobals c = some (some (.ref C)) -> ExcK X.K C /\ PySem.W.kitOne X.K (.ref C) cv = some b)
    (hm : X.mg "isinstance" = none) (hg : Gl X "isinstance" := by rfl)
    (hs : starEach [e,.Name y p2] X.env = (false,eval e X.env) :: starEach [.Name y p2] X.env:=by rfl) (hs2 : starEach [.Name y p2] X.env = (false,eval (.Name y p2) X.env) :: starEach [] X.env:=by rfl)
    (hpl : (backTo pos (starEach [.Name y p2] X.env)).any (·.1) = false:=by rfl) :
    RE X (.Call (.Name "isinstance" p) [e,.Name y p2] [] pos) (isx3 te sub):=by
 obtain ⟨va,pa,ra⟩:=he
 refine ⟨_,xw2 (wb5 rc) hg hm wi0 (wo2 pa (wo2 hc xi5 hs2) hs) (by decide) (by decide) hs hpl,λ σ H Q ρ μ Q3 s m h k=>ra σ H _ ρ μ _ s m h λ d μ1 v H1 h1 k1 r1 m1=>?_⟩
 cases r1 with
 | exc a1 a2 a3 =>
  dsimp only at h1
  split at h1
  ·next b eb =>
   obtain ⟨z1,z2⟩:=hsub _ _ b eb a3
   exact ⟨_,_,_,_,b,rfl,a1,a2,z1,z2,k _ _ _ _ h1 k1 (.bl _) m1⟩
  ·exact h1.elim
 | _=>exact False.elim h1
end
end Pv
namespace Pv
open PySem PySem.Spec PyProof.Rows L2 PySem.Calls
section
variable {X : Cx} {pins : List (Addr × Obj)} {σ : L2.St} {H H' : Hp} {s s' : Shared}
noncomputable abbrev mark (X : Cx) (e : Value) : Cx:={ X with A:=X.A.mark (some e),calm:=false,xe:=λ _ _=>False }
theorem yx2 (I : Inv X pins σ H s) (e : Value) : Inv (mark X e) pins σ H s :=
 ⟨⟨I.ok.mod,I.ok.kind,I.ok.glob,I.ok.blt,I.ok.above,I.ok.inj,I.ok.has,I.ok.cab,(λ z=>Bool.noConfusion z),I.ok.frames,I.ok.stk,I.ok.exf,I.ok.bs,I.ok.bsz,I.ok.noex,I.ok.exfs,I.ok.funs,I.ok.frf⟩,I.os,I.bare,I.base,I.loc,I.cell,I.free,I.freeC,I.pin,I.hok,I.len⟩
theorem zj3 {e : Value} (ok : X.Ok) (I : Inv (mark X e) pins σ H s) : Inv X pins σ H s :=
 ⟨ok,I.os,I.bare,I.base,I.loc,I.cell,I.free,I.freeC,I.pin,I.hok,I.len⟩
theorem xl2 {B h5 : Heap} {ea : Addr} {cls a0 : Value} (u2 : Un (frs X.stack) [] H H' s.heap s'.heap)
    (cov1 : ∀ b o,s'.heap.get? b = some o -> b ∉ frs X.stack -> (∃ o',s.heap.get? b = some o') -> B.get? b = some o)
    (fl : Heap.FlyingW B X.stack ea cls a0 s'.heap) (st : ∀ b o,B.get? b = some o -> h5.get? b = some o) (up : s'.heap.UpToSlots h5) : Un (frs X.stack) [] H H' s.heap h5:=by
 have frm : ∀ b o,s'.heap.get? b = some o -> b ∈ frs X.stack -> ∃ sl,h5.get? b = some { o with slots:=sl }:=λ b o q hb=>by
  obtain ⟨_,o',ho,hnf⟩:=fl.2.2.1.mem hb
  rw [q] at ho; cases ho
  exact up b o q hnf
 refine ⟨λ b o q n hb _=>?_,λ b o q n hb _=>?_,λ b o q n hx=>u2.free b o q n hx,λ b o q hx=>?_,u2.tups,u2.frzs,u2.tbls⟩
 ·exact st b o (cov1 b o (u2.keep b o q n hb (by simp)) hb ⟨o,q⟩)
 ·obtain ⟨sl,e1⟩:=u2.slot b o q n hb (by simp)
  obtain ⟨sl2,e2⟩:=frm b _ e1 hb
  exact ⟨sl2,e2⟩
 ·obtain ⟨o1,e1⟩:=u2.there b o q hx
  by_cases hb : b ∈ frs X.stack
  ·obtain ⟨sl,e2⟩:=frm b o1 e1 hb
   exact ⟨_,e2⟩
  ·exact ⟨o1,st b o1 (cov1 b o1 e1 hb ⟨o,q⟩)⟩
theorem wy1 {B h5 : Heap} {P : Program} {w : World} (hok : HOk P w H' s'.heap) (cov2 : ∀ b,H' b ≠ none -> ∃ o,s'.heap.get? b = some o /\ B.get? b = some o) (st : ∀ b o,B.get? b = some o -> h5.get? b = some o) : HOk P w H' h5:=by
 refine λ a o e=>(hok a o e).stay (λ b u hb q=>?_) (λ _ h=>h) (λ _ _ h=>h)
 have hne : H' b ≠ none:=by
  rcases hb with rfl | hb
  ·rw [e]; simp
  ·rw [hb]; simp
 obtain ⟨o',e1,e2⟩:=cov2 b hne
 rw [q] at e1; cases e1
 exact st b _ e2
theorem wn6 {fs : List Addr} {h h5 : Heap} {ea : Addr} {o : HO} (u : Un fs [] H H' h h5) (he : H' ea = none) (hn : h.get? ea = none) : Un fs [] H (upd H' ea o) h h5:=by
 have ne : ∀ {b ob},h.get? b = some ob -> b ≠ ea:=λ {b ob} q z=>by subst z; rw [hn] at q; cases q
 have ne2 : ∀ {b u},H' b = some u -> b ≠ ea:=λ {b u} q z=>by subst z; rw [he] at q; cases q
 refine ⟨u.keep,u.slot,λ b ob q n hx=>?_,u.there,λ b xs q=>?_,λ b ob v q=>?_,λ b ps q=>?_⟩
 ·rw [zf0 (ne q)]; exact u.free b ob q n hx
 ·have:=u.tups b xs q; rw [zf0 (ne2 this)]; exact this
 ·have:=u.frzs b ob v q; rw [zf0 (ne2 this)]; exact this
 ·obtain ⟨m,e⟩:=u.tbls b ps q; exact ⟨m,by rw [zf0 (ne2 e)]; exact e⟩
theorem zm5 {P : Program} {w : World} {h5 : Heap} {ea : Addr} {oe : Obj} (hok : HOk P w H' h5) (he : H' ea = none) (hg : h5.get? ea = some oe) : HOk P w (upd H' ea (.frz oe (.own 0))) h5:=by
 have ne2 : ∀ {b u},H' b = some u -> b ≠ ea:=λ {b u} q z=>by subst z; rw [he] at q; cases q
 intro a o e
 by_cases ha : a = ea
 ·subst ha
  rw [yj0] at e
  cases e
  exact ⟨hg,⟨_,hg⟩⟩
 ·rw [zf0 ha] at e
  exact (hok a o e).stay (λ b u hb q=>q) (λ b q=>by rw [zf0 (ne2 q)]; exact q) (λ b xs q=>by rw [zf0 (ne2 q)]; exact q)
theorem wq2 {M : Model} {A : Around} {E : Value -> Shared -> Prop} {K : PySem.W.Frag} {ea C Pc : Addr} {ob : Obj} {Q : Bool -> Shared -> Prop} (Z : K.In s.heap) (h1 : s.heap.get? ea = some ob) (h2 : ob.cls = .ref C)
    (k1 : PySem.W.kitCls K (.ref C) (.ref Pc) = some true) (k2 : PySem.W.kitCls K (.ref Pc) (.type "BaseException") = some true) (k3 : PySem.W.kitCls K (.type "type") (.type "tuple") = some false) (hq : Q true s) : wpAny M A (excMatches (.ref ea) (.ref Pc)) Q E s:=by
 obtain ⟨a1,a2,a3⟩:=PySem.W.kit_cls (M:=M) Z k1
 obtain ⟨b1,b2,b3⟩:=PySem.W.kit_cls (M:=M) Z k2
 obtain ⟨c1,c2,c3⟩:=PySem.W.kit_cls (M:=M) Z k3
 have L0:=ExcAt.type (M:=M) (x:=ea) (D:=C) (h:=s.heap) ⟨ob,h1,h2⟩
 obtain ⟨hh,g,d,t,os⟩:=s
 unfold excMatches isInstance
 refine wpAny_bind (wpAny_bind (a1.at (c3.at ?_)))
 dsimp only
 simp only [Bool.false_eq_true,if_false,pure_bind,List.forIn_cons,List.forIn_nil]
 unfold isExcClass
 repeat (any_goals (first | assumption | with_reducible refine L0.at ?_ | with_reducible refine a3.at ?_ | with_reducible refine b3.at ?_ | with_reducible refine a2.at ?_ | with_reducible refine a1.at ?_ | wp_step))
theorem zb5 {e : Value} {E' : XK} {n x : Str} {i : Nat} {Pc : Addr} {b₀ : Stmt} {suite : List Stmt} {np pos : Pos} {Q : Flow -> Shared -> Prop} {EE : Value -> Shared -> Prop}
    (I : Inv X pins σ H s) (hst : X.stack = X.env :: X.outer) (hfr : X.env.frame = some X.env.locals) (h : CXn X.prog X.w X.stack H s E' e s')
    (hN : X.N.Nodup) (hi : X.N[i]? = some n) (hloc : X.env.scope.names.lookup n = some .local) (hg : Gl X x) (hm : X.mg x = some (.ref Pc)) (hd : (x == ("__debug__" : Str)) = false)
    (hcls : ∀ cls H',E' cls none H' -> ∃ C,cls = .ref C /\ PySem.W.kitCls X.K (.ref C) (.ref Pc) = some true) (k2 : PySem.W.kitCls X.K (.ref Pc) (.type "BaseException") = some true) (k3 : PySem.W.kitCls X.K (.type "type") (.type "tuple") = some false)
    (k : ∀ ea C H' ob s6,Kp H H' -> E' (.ref C) none H' -> H' ea = none -> ob.cls = .ref C -> Inv (mark X (.ref ea)) pins (σ.set i (some (.ref ea))) (upd H' ea (.frz ob (.own 0))) s6 ->
     wpAny (model X.prog X.w) (X.A.mark (some (.ref ea))) (execs (b₀ :: suite) X.env) (λ f s₄=>wpAny (model X.prog X.w) X.A (do bindName X.env n .none; unbindBehindTheSuite X.env n pos) (λ _ s₅=>Q f s₅) EE s₄) (λ _ _=>False) s6) :
    wpAny (model X.prog X.w) X.A (noteFrame e X.env) (λ _ s₂=>wpAny (model X.prog X.w) X.A (setFlight e none) (λ _ s₃ =>
     wpAny (model X.prog X.w) X.A (handleBy e X.env [.ExceptHandler (some (.Name x np)) (some n) (b₀ :: suite) pos]) Q EE s₃) EE s₂) EE s':=by
 obtain ⟨ea,cls,a0,H',B,rfl,os,bare,u2,hok,fl,hea,cov1,cov2,hE⟩:=h
 obtain ⟨C,rfl,k1⟩:=hcls _ _ hE
 have fl0:=fl
 rw [hst] at fl
 refine wpAny_looks_onW (by rw [<- hst]; exact I.ok.frames) hfr fl λ h4 held4 sm4=>?_
 refine wpAny_landsW held4 λ h5 fl5 sm5=>?_
 have I5 : Inv X pins σ H' { s' with heap:=h5 }:=I.call' (s':={ s' with heap:=h5 }) (ch:=[]) os (xl2 u2 cov1 fl0 fl5.1 (sm4.trans sm5)) (wy1 hok cov2 fl5.1) bare (λ b z=>absurd z (by simp))
 obtain ⟨ob5,hob5,hc5⟩:=fl5.there
 refine wpAny_handleBy_cons (codeAny_handlers_test (yz0 (yx2 I5 (.ref ea)) hg hm ?_ hd)) (by intro q; cases q)
 refine wq2 I5.kIn hob5 hc5 k1 k2 k3 ?_
 refine codeAny_handlers_suite_as ?_
 refine lands_againW (s:={ s' with heap:=h5 }) fl5 λ h6 fl6 sm6=>?_
 obtain ⟨oe,ws,hoe,hoec,hoed,hoe0⟩:=fl6.first
 have hsn : s.heap.get? ea = none:=by
  cases q : s.heap.get? ea with
  | none=>rfl
  | some o =>
   exfalso
   obtain ⟨o1,e1⟩:=u2.there ea o q (by simp)
   by_cases hb : ea ∈ frs X.stack
   ·obtain ⟨_,o',ho,hnf⟩:=fl0.2.2.1.mem hb
    obtain ⟨oe0,vs0,he0,_,hd0,_⟩:=fl0.first
    rw [he0] at ho; cases ho
    exact hnf _ hd0
   ·have:=cov1 ea o1 e1 hb ⟨o,q⟩
    rw [fl0.2.1] at this; cases this
 have I7 : Inv X pins σ (upd H' ea (.frz oe (.own 0))) { s' with heap:=h6 }:=I.call' (s':={ s' with heap:=h6 }) (ch:=[]) os (wn6 (xl2 u2 cov1 fl0 fl6.1 ((sm4.trans sm5).trans sm6)) hea hsn) (zm5 (wy1 hok cov2 fl6.1) hea hoe) bare (λ b z=>absurd z (by simp))
 refine wn1 I7 hN hi (.inl hloc) (v:=.ref ea) (u:=.ref ea) rfl (λ s8 I8=>?_) (.inr hloc)
 exact wpAny_mono (k ea C H' oe s8 ⟨u2.tups,u2.frzs⟩ hE hea hoec (yx2 I8 (.ref ea))) (λ f s4 z=>z) (λ _ _ z=>z.elim)
theorem wf6 {M : Model} {A : Around} {E : Value -> Shared -> Prop} {i : Nat} {n : Str} {pos : Pos} {Q : Unit -> Shared -> Prop} (I : Inv X pins σ H s) (hN : X.N.Nodup) (hi : X.N[i]? = some n) (hk : X.env.scope.names.lookup n = some .local)
    (h : ∀ s',Inv X pins (σ.set i none) H s' -> Q () s') : wpAny M A (do bindName X.env n .none; unbindBehindTheSuite X.env n pos) Q E s:=by
 obtain ⟨m,hn,hl⟩:=id I.loc
 have hcls : (X.env.scope.kind == .class || (X.env.scope.kind == .module && X.env.locals != X.env.globals)) = false:=by rw [I.ok.kind]; rfl
 have hiσ : i < σ.length:=by rw [I.len]; exact (List.getElem?_eq_some_iff.mp hi).1
 have cne:=I.cne
 have tracked : ∀ {a : Addr} {h' : Heap},(∃ o,s.heap.get? a = some o /\ H a = none) -> Heap.SameBut a s.heap h' -> HOk X.prog X.w H h':=λ {a h'} ha hs b ob e=>by
  obtain ⟨_,_,hfree⟩:=ha
  refine (I.hok b ob e).stay (λ c w' hc q=>(hs.2 c ?_).trans q) (λ _ q=>q) λ _ _ q=>q
  rintro rfl
  rcases hc with rfl | hc
  ·rw [hfree] at e; cases e
  ·rw [hfree] at hc; cases hc
 refine wpAny_nameGoes_keeps hk hn hcls λ h' v hn' hs=>?_
 obtain ⟨oL,_,_,hoL,_⟩:=id hn
 refine h _ ⟨I.ok,I.os,I.bare,⟨λ b o e n hb hx=>?_,λ b o e n hb hx=>?_,I.base.free,λ b o e hx=>?_,I.base.tups,I.base.frzs,I.base.tbls⟩,⟨_,hn',λ j y v' e1 e2 e3=>?_⟩,λ y c e=>?_,I.free,I.freeC,λ p hp=>?_,tracked ⟨oL,hoL,I.free⟩ hs,by simpa using I.len⟩
 ·exact (hs.2 b (Nat.ne_of_lt (Nat.lt_of_lt_of_le (Heap.lt_size e) I.ok.above))).trans (I.base.keep b o e n hb hx)
 ·obtain ⟨sl,e1⟩:=I.base.slot b o e n hb hx
  exact ⟨sl,(hs.2 b (Nat.ne_of_lt (Nat.lt_of_lt_of_le (Heap.lt_size e) I.ok.above))).trans e1⟩
 ·obtain ⟨o',e1⟩:=I.base.there b o e hx
  exact ⟨o',(hs.2 b (Nat.ne_of_lt (Nat.lt_of_lt_of_le (Heap.lt_size e) I.ok.above))).trans e1⟩
 ·by_cases hj : j = i
  ·subst hj
   rw [List.getElem?_set_self hiσ] at e2
   cases e2
  ·rw [List.getElem?_set_ne (Ne.symm hj)] at e2
   obtain ⟨u',r',q⟩:=hl j y v' e1 e2 e3
   refine ⟨u',r',?_⟩
   rcases q with ⟨k,e⟩ | ⟨k,c,e,z⟩
   ·refine .inl ⟨k,?_⟩
    have : y ≠ n:=λ e=>hj (xc2 hN e1 (e ▸ hi))
    simp [this,e]
   ·exact .inr ⟨k,c,e,z.sameBut hs (cne y c e)⟩
 ·obtain ⟨w',z⟩:=I.cell y c e
  exact ⟨w',z.sameBut hs (cne y c e)⟩
 ·obtain ⟨e,n,ne,nf,d⟩:=I.pin p hp
  exact ⟨(hs.2 p.1 ne).trans e,n,ne,nf,d⟩
noncomputable def tTry (K : Fg) (Pc : Addr) (i : Nat) (sp : Sp) (st : V -> L2.St -> L2.St) (ta : TA) (ts : Addr -> TS) : TS:=λ D σ H=>ta σ H λ vs H1=>sp vs H1 (λ v H2=>D.nx (st v σ) H2)
 (λ cls _ H2=>∃ C,cls = .ref C /\ PySem.W.kitCls K (.ref C) (.ref Pc) = some true /\ (Kp H1 H2 -> ∀ ea ob,H2 ea = none -> ob.cls = .ref C ->
  ts ea { nx:=λ σ' H'=>D.nx (σ'.set i none) H',rt:=λ _ _=>False,bk:=λ _ _=>False,ct:=λ _ _=>False } (σ.set i (some (.ref ea))) (upd H2 ea (.frz ob (.own 0)))))
variable {k : Nat} {f : Addr} {fd : FuncData} {ps : List Str} {sp : Sp} {fx n x : Str} {i : Nat} {Pc : Addr} {e : Expr} {es : List Expr} {b₀ : Stmt} {suite : List Stmt} {p cpos np hpos pos epos : Pos} {ta : TA} {ts : Addr -> TS}
theorem ym4 {st : V -> L2.St -> L2.St} {QV : Value -> Shared -> Prop} {D : Ends} (F : FnOk X.prog X.w X.K X.mg X.base (CXn X.prog X.w) k f fd ps sp) (hr : Room k X.A) (hgf : Gl X fx) (hmf : X.mg fx = some (.ref f)) (hkf : PySem.W.keepIn X.K (.ref f) = true) (hb : Binds X.K fd ps []) (ha : PA X (e :: es) ta)
    (hsu : ∀ ea,PSs (mark X (.ref ea)) (b₀ :: suite) (ts ea))
    (hN : X.N.Nodup) (hi : X.N[i]? = some n) (hloc : X.env.scope.names.lookup n = some .local) (hg : Gl X x) (hm : X.mg x = some (.ref Pc)) (hd : (x == ("__debug__" : Str)) = false)
    (k2 : PySem.W.kitCls X.K (.ref Pc) (.type "BaseException") = some true) (k3 : PySem.W.kitCls X.K (.type "type") (.type "tuple") = some false) (hst : X.stack = X.env :: X.outer) (hfr : X.env.frame = some X.env.locals)
    (hxe : ∀ v s,X.xe v s -> False)
    (hdb : (fx == ("__debug__" : Str)) = false) (he : starEach (e :: es) X.env = (false,eval e X.env) :: starEach es X.env) (hpl : (backTo cpos (starEach es X.env)).any (·.1) = false)
    (I : Inv X pins σ H s) (h : tTry X.K Pc i sp st ta ts D σ H) (kv : ∀ v u H2 s2,RelV v u -> Inv X pins σ H2 s2 -> D.nx (st v σ) H2 -> QV u s2) :
    wpAny (model X.prog X.w) X.A (eval (.Call (.Name fx p) (e :: es) [] cpos) X.env) QV
     (λ ex s₁=>wpAny (model X.prog X.w) X.A (noteFrame ex X.env) (λ _ s₂=>wpAny (model X.prog X.w) X.A (setFlight ex none) (λ _ s₃=>wpAny (model X.prog X.w) X.A (handleBy ex X.env [.ExceptHandler (some (.Name x np)) (some n) (b₀ :: suite) hpos]) (SP X pins D) X.xe s₃) X.xe s₂) X.xe s₁) s:=by
 refine wpAny_Call_Name_kw (yz0 I hgf hmf ?_ hdb)
 refine PySem.W.callWith_K (h₀:=X.base) I.ok.mod.kin hkf (wpAny_mono (ha cpos pins s σ H _ I h) (λ us s1 ⟨vs,H1,I1,r,q⟩=>⟨I1.kIn,?_⟩) λ _ _ z=>(hxe _ _ z).elim) he hpl
 have hl : (us ++ []).length = ps.length:=by rw [List.append_nil,<- r.length]; exact F.len _ _ _ _ q
 have hbb:=hb s1 us I1.kIn hl
 rw [List.append_nil] at hbb
 refine wpAny_call (codeAny_mono (F.run X.A X.stack s1 H1 ⟨us,[]⟩ us vs _ _ hr I1.env0 hbb r q) λ rr s' hq=>?_)
 cases rr with
 | error ex =>
  dsimp only [CR] at hq
  refine zb5 I1 hst hfr hq hN hi hloc hg hm hd (λ cls H' hE=>?_) k2 k3 λ ea C H' ob s6 hkp hE hea hob I6=>?_
  ·obtain ⟨C,e1,e2,_⟩:=hE
   exact ⟨C,e1,e2⟩
  ·obtain ⟨C',e1,e2,e3⟩:=hE
   cases e1
   refine wpAny_mono (hsu ea pins s6 _ _ _ I6 (e3 hkp ea ob hea hob)) (λ fl s4 z=>?_) λ _ _ z=>z
   cases fl with
   | next =>
    obtain ⟨σ',H4,I4,q4⟩:=z
    exact wf6 (zj3 I1.ok I4) hN hi hloc λ s5 I5=>⟨_,H4,I5,q4⟩
   | brk=>obtain ⟨_,_,_,z⟩:=z; exact z.elim
   | cont=>obtain ⟨_,_,_,z⟩:=z; exact z.elim
   | ret _=>obtain ⟨_,_,_,_,_,z⟩:=z; exact z.elim
 | ok fl =>
  cases fl with
  | ret u =>
   obtain ⟨v,H2,I2,rv,q2⟩:=I1.after hq
   exact kv v u H2 _ rv I2 q2
  | next=>exact False.elim hq
  | brk=>exact False.elim hq
  | cont=>exact False.elim hq
theorem wx5 {j : Nat} {y : Str} {py : Pos} (F : FnOk X.prog X.w X.K X.mg X.base (CXn X.prog X.w) k f fd ps sp) (hr : Room k X.A) (hgf : Gl X fx) (hmf : X.mg fx = some (.ref f)) (hkf : PySem.W.keepIn X.K (.ref f) = true) (hb : Binds X.K fd ps []) (ha : PA X (e :: es) ta)
    (hsu : ∀ ea,PSs (mark X (.ref ea)) (b₀ :: suite) (ts ea))
    (hN : X.N.Nodup) (hi : X.N[i]? = some n) (hloc : X.env.scope.names.lookup n = some .local) (hj : X.N[j]? = some y) (hlocy : X.env.scope.names.lookup y = some .local) (hg : Gl X x) (hm : X.mg x = some (.ref Pc)) (hd : (x == ("__debug__" : Str)) = false)
    (k2 : PySem.W.kitCls X.K (.ref Pc) (.type "BaseException") = some true) (k3 : PySem.W.kitCls X.K (.type "type") (.type "tuple") = some false) (hst : X.stack = X.env :: X.outer) (hfr : X.env.frame = some X.env.locals)
    (hxe : ∀ v s,X.xe v s -> False)
    (hdb : (fx == ("__debug__" : Str)) = false) (he : starEach (e :: es) X.env = (false,eval e X.env) :: starEach es X.env) (hpl : (backTo cpos (starEach es X.env)).any (·.1) = false)
    (hs : swapsWith (.Call (.Name fx p) (e :: es) [] cpos) (some (.Name y py)) epos.line X.env = pure false) :
    PS X (.Try [.Assign [.Name y py] (.Call (.Name fx p) (e :: es) [] cpos) epos] [.ExceptHandler (some (.Name x np)) (some n) (b₀ :: suite) hpos] [] [] pos) (tTry X.K Pc i sp (λ v σ=>σ.set j (some v)) ta ts):=by
 intro pins s σ H D I h
 refine wpAny_Try_except (wpAny_execs_cons (wpAny_Assign_Name ?_ hs))
 exact ym4 F hr hgf hmf hkf hb ha hsu hN hi hloc hg hm hd k2 k3 hst hfr hxe hdb he hpl I h (λ v u H2 s2 rv I2 q=>wn1 I2 hN hj (.inl hlocy) rv (λ s3 I3=>wpAny_execs_nil (wpAny_execs_nil ⟨_,H2,I3,q⟩)) (.inr hlocy))
end
end Pv
namespace Pv
open PySem PySem.Spec PyProof.Rows L2 PySem.Calls
theorem RSt.unset {K : Fg} {H : Hp} {ρ : St3} {σ : L2.St} (i : Nat) (s : RSt K H ρ σ) : RSt K H (ρ.set i none) (σ.set i none):=by
 refine ⟨by simp [s.len],λ j e h=>?_⟩
 rw [wd2] at h
 split at h
 ·cases h
 ·next c =>
  obtain ⟨v,h1,r⟩:=s.at' j e h
  by_cases hj : i = j
  ·exfalso
   apply c
   refine ⟨hj,?_⟩
   rw [s.len,hj]
   exact (List.getElem?_eq_some_iff.mp h1).1
  ·exact ⟨v,by rw [List.getElem?_set_ne hj]; exact h1,r⟩
theorem RelM.newF {K : Fg} {μ : Mu} {H : Hp} (m : RelM K μ H) {p : Addr} {o : HO} (h : H p = none) : RelM K μ (upd H p o):=m.newT h
section
variable {X : Cx} {k : Nat} {ps : List Str} {spx : XE3 -> Sp3} {fx n x : Str} {i : Nat} {Pc : Addr} {e : Expr} {es : List Expr} {b₀ : Stmt} {suite : List Stmt} {p cpos np hpos pos epos : Pos} {ta : TA3} {ts : TS3} {ok : Str -> Bool}
theorem xg7 {f : Addr} {va : TA} {tv : Addr -> TS} {st : V -> L2.St -> L2.St} {st3 : D -> St3 -> St3} (hstp : ∀ {H : Hp} {ρ : St3} {σ : L2.St} {d : D} {v : V},RSt X.K H ρ σ -> RelD X.K H d v -> RSt X.K H (st3 d ρ) (st v σ))
    (ra : RdA X.K va ta) (rt : ∀ ea,RdS X.K (tv ea) ts) (hok : ∀ c,ok c = true -> ∃ C,PySem.W.nsIn X.K mainGlobals c = some (some (.ref C)) /\ X.mg c = some (.ref C) /\ PySem.W.kitCls X.K (.ref C) (.ref Pc) = some true) :
    RdS X.K (tTry X.K Pc i (xw4 X.K X.mg spx) st va tv) (try3 i spx st3 ok ta ts):=by
 intro σ H D ρ μ D3 s m h kd
 refine ra σ H _ ρ μ _ s m h λ ds μ1 vs H1 h1 k1 r1 m1=>?_
 refine ⟨ds,μ1,_,_,r1,m1,h1,λ d μ2 v H2 h2 k2 r2 m2=>?_,λ c C μ2 H2 hX hmc m2=>?_⟩
 ·exact kd.nx _ _ _ _ h2 (k1.trans k2) (hstp (s.mono (k1.trans k2)) r2) m2
 ·obtain ⟨o1,o2⟩:=hX
  obtain ⟨C',z1,z2,z3⟩:=hok c o1
  rw [hmc] at z2
  cases z2
  refine ⟨C,rfl,z3,λ kp ea ob hea hob=>?_⟩
  have kn : Kp H2 (upd H2 ea (.frz ob (.own 0))):=Kp.new hea
  refine rt ea _ _ _ _ _ _ ((((s.mono (k1.trans kp)).mono kn)).set i (.exc yj0 hob z1)) (m2.newF hea) o2 ⟨λ ρ' μ' σ' H' q k' s' m'=>?_,λ _ _ _ _ q=>False.elim q,λ _ _ _ _ q=>False.elim q,λ _ _ _ _ q=>False.elim q⟩
  exact kd.nx _ _ _ _ q (k1.trans (kp.trans (kn.trans k'))) (s'.unset i) m'
theorem xu5 {j : Nat} {y : Str} {py : Pos} (c : CalX X.prog X.w X.K X.mg X.base k fx ps spx) (hr : Room k X.A) (ha : RA X (e :: es) ta) (hsu : ∀ ea,RSs (mark X (.ref ea)) (b₀ :: suite) ts) (hN : X.N.Nodup)
    (hm : X.mg x = some (.ref Pc)) (k2 : PySem.W.kitCls X.K (.ref Pc) (.type "BaseException") = some true) (k3 : PySem.W.kitCls X.K (.type "type") (.type "tuple") = some false)
    (hok : ∀ c,ok c = true -> ∃ C,PySem.W.nsIn X.K mainGlobals c = some (some (.ref C)) /\ X.mg c = some (.ref C) /\ PySem.W.kitCls X.K (.ref C) (.ref Pc) = some true)
    (hi : X.N[i]? = some n:=by rfl) (hloc : X.env.scope.names.lookup n = some .local:=by rfl) (hj : X.N[j]? = some y:=by rfl) (hlocy : X.env.scope.names.lookup y = some .local:=by rfl) (hg : Gl X x:=by rfl) (hgf : Gl X fx:=by rfl) (hd : (x == ("__debug__" : Str)) = false:=by decide)
    (hst : X.stack = X.env :: X.outer:=by rfl) (hfr : X.env.frame = some X.env.locals:=by rfl) (hxe : ∀ v s,X.xe v s -> False:=by intro _ _ h; exact h)
    (hdb : (fx == ("__debug__" : Str)) = false:=by decide) (he : starEach (e :: es) X.env = (false,eval e X.env) :: starEach es X.env:=by rfl) (hpl : (backTo cpos (starEach es X.env)).any (·.1) = false:=by rfl)
    (hs : swapsWith (.Call (.Name fx p) (e :: es) [] cpos) (some (.Name y py)) epos.line X.env = pure false:=by rfl) :
    RS X (.Try [.Assign [.Name y py] (.Call (.Name fx p) (e :: es) [] cpos) epos] [.ExceptHandler (some (.Name x np)) (some n) (b₀ :: suite) hpos] [] [] pos) (try3 i spx (xu6 j) ok ta ts):=by
 obtain ⟨f,fd,F,hmf,hkf,hb⟩:=c
 obtain ⟨va,pa,ra⟩:=ha
 exact ⟨_,wx5 F hr hgf hmf hkf hb pa (ts:=λ ea=>(hsu ea).choose) (λ ea=>(hsu ea).choose_spec.1) hN hi hloc hj hlocy hg hm hd k2 k3 hst hfr hxe hdb he hpl hs,xg7 (f:=f) (λ s r=>s.set j r) ra (λ ea=>(hsu ea).choose_spec.2) hok⟩
end
end Pv
namespace Pv
open PySem PySem.Spec PyProof.Rows L2 PySem.Calls
structure RoomM (k : Nat) (A : Around) : Prop where
 dp : A.depth + 3 * k + 5 < recursionLimit
 un : A.units + 16 * k + 200 < cLine
theorem RoomM.mono {j k : Nat} {A : Around} (r : RoomM k A) (h : j <= k) : RoomM j A:=⟨by have:=r.dp; omega,by have:=r.un; omega⟩
theorem RoomM.deeper {k : Nat} {A : Around} (r : RoomM (k + 1) A) (env : Env) : RoomM k (A.deeper env) :=
 ⟨by have:=r.dp; show A.depth + 1 + 3 * k + 5 < _; omega,by have:=r.un; show A.units + 3 + 16 * k + 200 < _; omega⟩
theorem RoomM.of {k : Nat} {A : Around} (r : Room k A) (e : Option Value) : RoomM k (A.mark e):=⟨r.dp,r.un⟩
structure FnOkM (P : Program) (w : World) (K : PySem.W.Frag) (mg : Str -> Option Value) (base : Heap) (CX : CXT) (k : Nat) (f : Addr) (fd : FuncData) (ps : List Str) (sp : Sp) : Prop where
 len : ∀ vs H Q E,sp vs H Q E -> vs.length = ps.length
 run : ∀ (A : Around) (outer : List Env) (s : Shared) (H : Hp) (args : Args) (us : List Value) (vs : List V) (Q : VK) (E : XK),RoomM k A -> Env0 P w K mg base A outer s H -> BindsTo s fd args (ps.zip us) -> Vals vs us -> sp vs H Q E ->
  codeAny (model P w) A (.call (.ref f) args) (CR CX outer P w H s Q E) s
noncomputable abbrev cxM (CX : CXT) (P : Program) (w : World) (K : PySem.W.Frag) (mg : Str -> Option Value) (base : Heap) (N : List Str) (qual : Str) (scope : Scope) (f : Addr) (cd : Value) (A : Around) (outer : List Env) (s : Shared) (H : Hp) (E : XK) : Cx :=
 { cxOf CX P w K mg base N qual scope f cd A outer s H E with calm:=false }
theorem wj3 {CX : CXT} {P : Program} {w : World} {K : PySem.W.Frag} {mg : Str -> Option Value} {base : Heap} {N ps : List Str} {qual : Str} {scope : Scope} {f : Addr} {cd : Value} {A : Around} {outer : List Env} {s s1 : Shared} {H : Hp} {E : XK} {us : List Value} {vs : List V}
    (S : FnScope N ps scope) (e0 : Env0 P w K mg base A outer s H) (hl : vs.length = ps.length) (r : Vals vs us)
    (x : InCallC s s.heap.objs.size (bindL (envOfC qual scope s.heap.objs.size f cd).kindOf (ps.zip us) λ _=>none) (cellsFrom (s.heap.objs.size + 1) scope.names []) (bindC (envOfC qual scope s.heap.objs.size f cd).kindOf (ps.zip us) λ _=>none) s1) :
    Inv (cxM CX P w K mg base N qual scope f cd A outer s H E) [] (start N vs) H s1:=by
 have I:=yj2 (CX:=CX) (P:=P) (w:=w) (K:=K) (mg:=mg) (base:=base) (E:=E) (A:={ A with handled:=none }) (outer:=outer) S rfl ⟨e0.frames,e0.mod,e0.bs,e0.bsz,e0.funs,e0.frf,e0.hok,e0.bare⟩ hl r x
 exact ⟨⟨I.ok.mod,I.ok.kind,I.ok.glob,I.ok.blt,I.ok.above,I.ok.inj,I.ok.has,I.ok.cab,(λ z=>Bool.noConfusion z),Around.frames_deeper e0.frames,I.ok.stk,I.ok.exf,I.ok.bs,I.ok.bsz,I.ok.noex,I.ok.exfs,I.ok.funs,I.ok.frf⟩,I.os,I.bare,I.base,I.loc,I.cell,I.free,I.freeC,I.pin,I.hok,I.len⟩
theorem xd8 {CX : CXT} {P : Program} {w : World} {K : PySem.W.Frag} {mg : Str -> Option Value} {base : Heap} {k : Nat} {f : Addr} {name qual : Str} {params : Arguments} {body : List Stmt} {scope : Scope} {dV kV doc pm cdv ct oc : Value} {an od : Option Addr}
    {osl : Array (Option Value)} {N ps : List Str} {sp : Sp} (lk : K.lookup f = some ⟨oc,od,.func (PySem.W.fnOf name qual params body scope dV kV doc pm an cdv ct),osl⟩) (hcd : PySem.W.codeIn K cdv qual = true) (S : FnScope N ps scope)
    (len : ∀ vs H Q E,sp vs H Q E -> vs.length = ps.length)
    (hbody : ∀ (A : Around) (outer : List Env) (s : Shared) (H : Hp) (vs : List V) (Q : VK) (E : XK),RoomM k (A.deeper (envOfC qual scope s.heap.objs.size f cdv)) -> sp vs H Q E ->
     ∃ t,PSs (cxM CX P w K mg base N qual scope f cdv A outer s H E) body t /\ t { nx:=λ _ H'=>Q .non H',rt:=Q } (start N vs) H) :
    FnOkM P w K mg base CX (k + 1) f (PySem.W.fnOf name qual params body scope dV kV doc pm an cdv ct) ps sp:=by
 refine ⟨len,λ A outer s H args us vs Q E hr e0 hb r hsp=>?_⟩
 have hl:=len _ _ _ _ hsp
 have KX : K.In s.heap:=e0.mod.kin.keeps λ b o e=>(e0.bs b o e).1
 have lim : s.heap.NoLimit:=e0.mod.nolimit.keeps λ b o e=>(e0.bs b o e).1
 have hkind : ∀ y ∈ ps.zip us,scope.names.lookup y.1 = some .local \/ (scope.names.lookup y.1 = some .cell /\ ((cellsFrom (s.heap.objs.size + 1) scope.names []).lookup y.1).isSome = true):=λ ⟨n,v⟩ hy=>by
  rcases S.par n (List.of_mem_zip hy).1 with q | q
  ·exact .inl q
  ·exact .inr ⟨q,PySem.W.cellsFrom_some _ _ _ (.inl q)⟩
 have hdep : A.depth < recursionLimit:=by have:=hr.dp; omega
 refine codeAny_call_function hdep (KX _ _ lk) rfl S.co S.gen rfl (PySem.W.codeRec_of KX hcd) (hb _ _ _ _ ?_)
 refine wpAny_newFunctionEnv_cells S.kind hkind λ env he s1 x=>?_
 subst he
 refine ⟨lim.keeps x.toInCall.keep,codeAny_func ?_⟩
 obtain ⟨t,ht,hq⟩:=hbody A outer s H vs Q E (hr.deeper _) hsp
 have I : Inv (cxM CX P w K mg base N qual scope f cdv A outer s H E) [] (start N vs) H s1:=wj3 S e0 hl r x
 refine wpAny_mono (ht [] s1 (start N vs) H _ I hq) (λ fl s' hs=>?_) λ e s' hs=>hs
 have fin : ∀ {σ' : L2.St} {H' : Hp} {v : V} {u : Value},Inv (cxM CX P w K mg base N qual scope f cdv A outer s H E) [] σ' H' s' -> RelV v u -> Q v H' -> CE outer P w H s Q u s' :=
  λ {σ' H' v u} J rv q=>⟨v,H',J.os,J.bare,J.base,J.hok,rv,q⟩
 cases fl with
 | ret u =>
  obtain ⟨v,σ',H',J,rv,q⟩:=hs
  exact fin J rv q
 | next =>
  obtain ⟨σ',H',J,q⟩:=hs
  exact fin (v:=V.non) (u:=Value.none) J rfl q
 | brk =>
  obtain ⟨_,_,_,q⟩:=hs
  exact False.elim q
 | cont =>
  obtain ⟨_,_,_,q⟩:=hs
  exact False.elim q
noncomputable def CalM (P : Program) (w : World) (K : Fg) (mg : Str -> Option Value) (base : Heap) (k : Nat) (x : Str) (ps : List Str) (sp : Sp3) : Prop :=
 ∃ f fd,FnOkM P w K mg base CX0 k f fd ps (lift K sp) /\ mg x = some (.ref f) /\ PySem.W.keepIn K (.ref f) = true /\ Binds K fd ps []
theorem CalM.mono {P : Program} {w : World} {K : Fg} {mg : Str -> Option Value} {base : Heap} {j k : Nat} {x : Str} {ps : List Str} {sp : Sp3} (c : CalM P w K mg base j x ps sp) (h : j <= k) : CalM P w K mg base k x ps sp:=by
 obtain ⟨f,fd,F,r⟩:=c
 exact ⟨f,fd,⟨F.len,λ A outer s H args us vs Q E hr=>F.run A outer s H args us vs Q E (hr.mono h)⟩,r⟩
section
variable {X : Cx} {x : Str} {e : Expr} {es : List Expr} {p pos : Pos} {t : TA3}
theorem xr4 {k : Nat} {ps : List Str} {sp : Sp3} (c : CalM X.prog X.w X.K X.mg X.base k x ps sp) (hr : RoomM k X.A) (ha : RA X (e :: es) t) (hg : Gl X x:=by rfl) (hdb : (x == ("__debug__" : Str)) = false:=by decide)
    (he : starEach (e :: es) X.env = (false,eval e X.env) :: starEach es X.env:=by rfl) (hpl : (backTo pos (starEach es X.env)).any (·.1) = false:=by rfl) : RE X (.Call (.Name x p) (e :: es) [] pos) (call3 sp t):=by
 obtain ⟨f,fd,F,hm,hk,hb⟩:=c
 obtain ⟨va,pa,ra⟩:=ha
 refine ⟨yt6 (lift X.K sp) [] E0 va,λ pins s σ H Q I h=>?_,λ σ H Q ρ μ Q3 s m h k=>ra σ H _ ρ μ _ s m h λ ds μ1 vs H1 h1 k1 r1 m1=>?_⟩
 ·refine wpAny_Call_Name_kw (yz0 I hg hm ?_ hdb)
  refine PySem.W.callWith_K (h₀:=X.base) I.ok.mod.kin hk (thn (pa pos pins s σ H _ I h) λ us s1 ⟨vs,H1,I1,r,q⟩=>⟨I1.kIn,?_⟩) he hpl
  dsimp only at q
  rw [List.append_nil] at q
  have hl : (us ++ []).length = ps.length:=by rw [List.append_nil,<- r.length]; exact F.len _ _ _ _ q
  have hbb:=hb s1 us I1.kIn hl
  rw [List.append_nil] at hbb
  refine wpAny_call (codeAny_mono (F.run X.A X.stack s1 H1 ⟨us,[]⟩ us vs Q E0 hr I1.env0 hbb r q) λ rr s' hq=>?_)
  cases rr with
  | error ex=>exact False.elim hq
  | ok fl =>
   cases fl with
   | ret u=>exact I1.after hq
   | next=>exact False.elim hq
   | brk=>exact False.elim hq
   | cont=>exact False.elim hq
 ·rw [List.append_nil]
  exact ⟨ds,μ1,Q3,r1,m1,h1,k.after k1⟩
end
section
variable {P : Program} {w : World} {K : Fg} {mg : Str -> Option Value} {base : Heap}
theorem wh6 {x : Str} {st : Stmt} {f : Addr} {fd : FuncData} {N ps : List Str} {k : Nat} {sp : Sp3} {t : TS3} (F : Fun K x x st f fd) (hm : mg x = some (.ref f)) (hb : Binds K fd ps []) (S : FnScope N ps (wa0 st))
    (len : ∀ ds μ Q,sp ds μ Q -> ds.length = ps.length)
    (body : ∀ (cdv : Value) (A : Around) (outer : List Env) (s : Shared) (H : Hp) (E : XK),RoomM k (A.deeper (envOfC x (wa0 st) s.heap.objs.size f cdv)) -> RSs (cxM CX0 P w K mg base N x (wa0 st) f cdv A outer s H E).nox (yd0 st) t)
    (rd : ∀ ds μ Q,sp ds μ Q -> t { nx:=λ _ μ'=>Q .non μ',rt:=Q } (start3 N ds) μ) : CalM P w K mg base (k + 1) x ps sp:=by
 refine ⟨f,fd,?_,hm,F.kp,hb⟩
 obtain ⟨oc,od,kV,doc,pm,an,cdv,ct,osl,rfl,lk,hcd⟩:=F.ex
 refine xd8 lk hcd S (λ vs H Q E h=>?_) λ A outer s H vs Q E hr h=>?_
 ·obtain ⟨ds,μ,Q3,r,m,q,ks⟩:=h
  rw [<- r.length]; exact len _ _ _ q
 ·obtain ⟨ds,μ,Q3,r,m,q,ks⟩:=h
  obtain ⟨tv,p,rt⟩:=body cdv A outer s H E hr
  exact ⟨tv,p.nox,rt _ H _ _ μ _ (RSt.start N r) m (rd ds μ Q3 q) ⟨λ ρ μ' σ H' h' k' s' m'=>ks _ _ _ _ h' k' .non m',λ ρ μ' σ H' h'=>False.elim h',λ ρ μ' σ H' h'=>False.elim h',ks⟩⟩
end
end Pv
namespace Pv
open PySem PySem.Spec PyProof.Rows L2 PySem.Calls
theorem xv7 {K : Fg} {h : Heap} {mg : Str -> Option Value} {x : Str} {C : Addr} {bs : List Value} {ni : String} (Z : K.In h) (G : h.Ns mainGlobals mg) (e : PySem.W.nsIn K mainGlobals x = some (some (.ref C))) (w : PySem.W.excIn K C bs ni = true) : OwnCls x C bs ni mg h:=by
 refine ⟨PySem.W.mg_of Z G e,?_⟩
 unfold PySem.W.excIn at w
 split at w
 case h_2=>cases w
 case h_1 d1 c1 s1 ho =>
  split at w
  case h_2=>cases w
  case h_1 C2 b1 z0 z1 z2 z3 id z5 hm hs =>
   simp only [Bool.and_eq_true,beq_iff_eq,Bool.not_eq_true'] at w
   obtain ⟨⟨⟨⟨⟨w1,w2⟩,w3⟩,w4⟩,w5⟩,w6⟩:=w
   subst w1 w2
   cases c1
   dsimp only at hm w3 w5 w6
   subst hm w3
   have es : s1 = #[z0,z1,z2,z3,some (.builtin id),z5]:=by cases s1; simp only at hs; rw [hs]
   rw [es] at ho
   exact ⟨b1,_,_,_,_,_,_,_,_,_,d1,z0,z1,z2,z3,z5,_,Z _ _ ho,.of_isNs (PySem.W.isNs_of_in Z w5),PySem.W.nsMap_none_of_in Z w5 w6,PySem.W.tail_of_in Z w4⟩
theorem yi4 {P : Program} {w : World} {K : Fg} {mg : Str -> Option Value} {base : Heap} {x : Str} {st : Stmt} {f : Addr} {fd : FuncData} {ps : List Str} {spx : XE3 -> Sp3} (F : Fun K x x st f fd) (hm : mg x = some (.ref f)) (hb : Binds K fd ps []) (no : ∀ XE ds μ Q,¬ spx XE ds μ Q) : CalX P w K mg base 0 x ps spx:=by
 have no' : ∀ vs H Q E,¬ xw4 K mg spx vs H Q E:=λ vs H Q E ⟨ds,μ,Q3,XE,_,_,q,_⟩=>no _ _ _ _ q
 exact ⟨f,fd,⟨λ vs H Q E h=>absurd h (no' vs H Q E),λ A outer s H args us vs Q E _ _ _ _ h=>absurd h (no' vs H Q E)⟩,hm,F.kp,hb⟩
section
variable {K : Fg} {C : Addr} {cd : ClassData} {t c : Value} {b : Bool} {T : String}
theorem xa1 (cl : PySem.W.clsIn K C = some cd) (tc : PySem.W.typeIn K (.ref C) = some (.type "type")) (sb : PySem.W.subIn K t (.ref C) = some b) : PySem.W.kitCls K t (.ref C) = some b:=by
 unfold PySem.W.kitCls
 dsimp only
 rw [cl,tc,if_pos (by simp),sb]
theorem zp2 (hm : PySem.W.kitMeta T = true) (sb : PySem.W.subIn K t (.type T) = some b) : PySem.W.kitCls K t (.type T) = some b:=by
 unfold PySem.W.kitCls
 dsimp only
 rw [if_pos hm,sb]
theorem yl1 (ne : (t == c) = false) (h : PySem.W.kitCls K t c = some b) : PySem.W.kitOne K t c = some b:=by
 unfold PySem.W.kitOne
 rw [if_neg (by rw [ne]; decide),h]
theorem za4 : PySem.W.kitOne K t t = some true:=by
 unfold PySem.W.kitOne
 rw [if_pos (by simp)]
end
theorem yf2 : bootBuiltins "ValueError" = some (.type "ValueError"):=by decide +kernel
end Pv
namespace Pv
open PySem PySem.Spec PyProof.Rows L2 PySem.Calls
theorem Kp.wrI {H : Hp} {p : Addr} {o : HO} {C dx : Addr} {fs : List (Str × V)} (h : H p = some (.ins C dx fs)) : Kp H (upd H p o) :=
 ⟨λ b ys q=>by rw [zf0 (xv4 q h (by intro z; cases z))]; exact q,λ b o u q=>by rw [zf0 (xv4 q h (by intro z; cases z))]; exact q⟩
theorem RelFs.put {K : Fg} {H : Hp} {f : Str} {d : D} {v : V} (r : RelD K H d v) {l : List (Str × D)} {vs : List (Str × V)} (h : RelFs K H l vs) : RelFs K H (putD f d l) (putF f v vs):=by
 induction h with
 | nil=>exact .cons r .nil
 | @cons g d' v' l' vs' h1 h2 ih =>
  simp only [putD,putF]
  split
  ·exact .cons r h2
  ·exact .cons h1 ih
theorem RelFs.get {K : Fg} {H : Hp} {f : Str} {l : List (Str × D)} {vs : List (Str × V)} (h : RelFs K H l vs) {d : D} (e : l.lookup f = some d) : ∃ v,vs.lookup f = some v /\ RelD K H d v:=by
 induction h with
 | nil=>cases e
 | @cons g d' v' l' vs' h1 h2 ih =>
  simp only [List.lookup] at e ⊢
  split at e
  ·next q=>cases e; exact ⟨v',rfl,h1⟩
  ·next q=>exact ih e
theorem RelFs.no {K : Fg} {H : Hp} {f : Str} {l : List (Str × D)} {vs : List (Str × V)} (h : RelFs K H l vs) (e : l.lookup f = none) : vs.lookup f = none:=by
 induction h with
 | nil=>rfl
 | @cons g d' v' l' vs' h1 h2 ih =>
  simp only [List.lookup] at e ⊢
  split at e
  ·cases e
  ·next q=>exact ih e
theorem RelFs.len {K : Fg} {H : Hp} {l : List (Str × D)} {vs : List (Str × V)} (h : RelFs K H l vs) : l.length = vs.length:=by
 induction h with
 | nil=>rfl
 | cons _ _ ih=>simp only [List.length_cons,ih]
theorem RelM.wrI {K : Fg} {μ : Mu} {H : Hp} {p : Addr} {c : Str} {C dx : Addr} {fs : List (Str × D)} {vs ws : List (Str × V)} (n : PySem.W.nsIn K mainGlobals c = some (some (.ref C))) (h : H p = some (.ins C dx ws)) (hx : H dx = some (.own p)) (r : RelFs K H fs vs) (m : RelM K μ H) :
    RelM K (updM μ p (.ins c fs)) (upd H p (.ins C dx vs)):=by
 refine ⟨λ q ys e=>?_,λ q c' gs e=>?_,λ q kvs e=>?_⟩
 ·by_cases z : q = p
  ·subst z; rw [wb0] at e; cases e
  ·rw [ye0 z] at e
   rw [zf0 z]
   obtain ⟨us,q1,r1⟩:=m.lst q ys e
   exact ⟨us,q1,r1.mono (Kp.wrI h)⟩
 ·by_cases z : q = p
  ·subst z
   rw [wb0] at e; cases e
   refine ⟨C,dx,vs,n,yj0,?_,r.mono (Kp.wrI h)⟩
   rw [zf0]
   ·exact hx
   ·intro y; subst y; rw [h] at hx; cases hx
  ·rw [ye0 z] at e
   obtain ⟨C',dx',us,n',q1,q2,r1⟩:=m.ins q c' gs e
   refine ⟨C',dx',us,n',by rw [zf0 z]; exact q1,?_,r1.mono (Kp.wrI h)⟩
   rw [zf0]
   ·exact q2
   ·intro y; subst y; rw [h] at q2; cases q2
 ·by_cases z : q = p
  ·subst z; rw [wb0] at e; cases e
  ·rw [ye0 z] at e
   rw [zf0 z]
   obtain ⟨us,q1,r1⟩:=m.dct q kvs e
   exact ⟨us,q1,r1.mono (Kp.wrI h)⟩
theorem RelM.newI {K : Fg} {μ : Mu} {H : Hp} {x dx : Addr} {c : Str} {C : Addr} (n : PySem.W.nsIn K mainGlobals c = some (some (.ref C))) (h : H x = none) (hd : H dx = none) (hne : dx ≠ x) (m : RelM K μ H) :
    RelM K (updM μ x (.ins c [])) (upd (upd H dx (.own x)) x (.ins C dx [])):=by
 have m1:=m.newT (o:=.own x) hd
 have h1 : upd H dx (.own x) x = none:=by rw [zf0 (Ne.symm hne)]; exact h
 have m2:=m1.newT (o:=.ins C dx []) h1
 refine ⟨λ q ys e=>?_,λ q c' gs e=>?_,λ q kvs e=>?_⟩
 ·by_cases z : q = x
  ·subst z; rw [wb0] at e; cases e
  ·rw [ye0 z] at e; exact m2.lst q ys e
 ·by_cases z : q = x
  ·subst z
   rw [wb0] at e; cases e
   exact ⟨C,dx,[],n,yj0,by rw [zf0 hne,yj0],.nil⟩
  ·rw [ye0 z] at e; exact m2.ins q c' gs e
 ·by_cases z : q = x
  ·subst z; rw [wb0] at e; cases e
  ·rw [ye0 z] at e; exact m2.dct q kvs e
structure ObjC (K : Fg) (c : Str) (C : Addr) : Prop where
 ns : PySem.W.nsIn K mainGlobals c = some (some (.ref C))
 cl : Cls K C
section
variable {X : Cx} {e o value : Expr} {te to tv : TE3} {c f m : Str} {C : Addr} {pos pos' p apos : Pos} {es : List Expr} {t : TA3} {x : Str}
theorem yb1 (he : RE X e te) (oc : ObjC X.K c C) (na : NoAttr X.K C f) (hb : attributeBase e f X.env (eval e X.env) = eval e X.env:=by rfl) : RE X (.Attribute e f pos) (fld3 te c f):=by
 obtain ⟨va,pa,ra⟩:=he
 refine ⟨_,zu7 pa hb,λ σ H Q ρ μ Q3 s mm h k=>ra σ H _ ρ μ _ s mm h λ d μ1 v H1 h1 k1 r1 m1=>?_⟩
 cases r1 with
 | ref q =>
  dsimp only at h1
  cases e0 : μ1 q with
  | none=>rw [e0] at h1; exact h1.elim
  | some oo =>
   cases oo with
   | lst _=>rw [e0] at h1; exact h1.elim
   | dct _=>rw [e0] at h1; exact h1.elim
   | ins c' fs =>
    rw [e0] at h1
    obtain ⟨rfl,h2⟩:=h1
    obtain ⟨C',dx,vs,n,q1,q2,r⟩:=m1.ins q _ fs e0
    rw [oc.ns] at n
    cases n
    cases e1 : fs.lookup f with
    | none=>rw [e1] at h2; exact h2.elim
    | some d =>
     rw [e1] at h2
     obtain ⟨v,l,rv⟩:=r.get e1
     exact ⟨q,C,dx,vs,v,rfl,q1,oc.cl,na,l,k _ _ _ _ h2 k1 rv m1⟩
 | _=>exact False.elim h1
theorem zv2 (ho : RE X o to) (hv : RE X value tv) (oc : ObjC X.K c C) (na : NoAttr X.K C f) (hs : swapsWith value (some (.Attribute o f pos')) pos.line X.env = pure false:=by rfl) : RS X (.Assign [.Attribute o f pos'] value pos) (zo2 to tv c f):=by
 obtain ⟨va,pa,ra⟩:=ho
 obtain ⟨vb,pb,rb⟩:=hv
 refine ⟨_,wq7 pa pb hs,λ σ H D ρ μ D3 s mm h kd=>rb σ H _ ρ μ _ s mm h λ y μ1 u H1 h1 k1 r1 m1=>ra σ H1 _ ρ μ1 _ (s.mono k1) m1 h1 λ d μ2 v H2 h2 k2 r2 m2=>?_⟩
 cases r2 with
 | ref q =>
  dsimp only at h2
  cases e0 : μ2 q with
  | none=>rw [e0] at h2; exact h2.elim
  | some oo =>
   cases oo with
   | lst _=>rw [e0] at h2; exact h2.elim
   | dct _=>rw [e0] at h2; exact h2.elim
   | ins c' fs =>
    rw [e0] at h2
    obtain ⟨⟨rfl,hl⟩,h3⟩:=h2
    obtain ⟨C',dx,vs,n,q1,q2,r⟩:=m2.ins q _ fs e0
    have n0:=n
    rw [oc.ns] at n
    cases n
    refine ⟨q,C,dx,vs,rfl,q1,oc.cl,na,by rw [<- r.len]; exact hl,?_⟩
    have kw : Kp H2 (upd H2 q (.ins C dx (putF f u vs))):=Kp.wrI q1
    exact kd.nx _ _ _ _ h3 (k1.trans (k2.trans kw)) (((s.mono k1).mono k2).mono kw) (m2.wrI n0 q1 q2 (r.put (r1.mono k2)))
 | _=>exact False.elim h2
noncomputable def CalT (P : Program) (w : World) (K : Fg) (mg : Str -> Option Value) (base : Heap) (k : Nat) (C : Addr) (m : Str) (ps : List Str) (sp : Sp3) : Prop :=
 ∃ f fd,FnOk P w K mg base CX0 k f fd ps (lift K sp) /\ PySem.W.findIn K (.ref C) m = some (some (.ref f)) /\ PySem.W.isFn K (.ref f) = true /\ PySem.W.keepIn K (.ref f) = true /\ Binds K fd ps []
theorem yu5 {k : Nat} {ps : List Str} {sp : Sp3} (oc : ObjC X.K x C) (mk : PySem.W.makesIn X.K C = true) (kp : PySem.W.keepIn X.K (.ref C) = true) (cf : CalT X.prog X.w X.K X.mg X.base k C "__init__" ps sp) (hm : X.mg x = some (.ref C)) (hr : Room (k + 1) X.A) (ha : RA X (e :: es) t)
    (hg : Gl X x:=by rfl) (hdb : (x == ("__debug__" : Str)) = false:=by decide) (he : starEach (e :: es) X.env = (false,eval e X.env) :: starEach es X.env:=by rfl) (hpl : (backTo pos (starEach es X.env)).any (·.1) = false:=by rfl) :
    RE X (.Call (.Name x p) (e :: es) [] pos) (yz7 x sp t):=by
 obtain ⟨f,fd,F,h1,h2,h3,hb⟩:=cf
 obtain ⟨va,pa,ra⟩:=ha
 refine ⟨_,yz5 ⟨mk,h1,h2,kp⟩ F hr hg hm hb .nil xb6 pa hdb he hpl,λ σ H Q ρ μ Q3 s mm h kk=>ra σ H _ ρ μ _ s mm h λ ds μ1 vs H1 g1 k1 r1 m1 y dy n1 n2 n3=>?_⟩
 rw [List.append_nil]
 have kA : Kp H1 (upd H1 dy (.own y)):=Kp.new n2
 have n1' : upd H1 dy (.own y) y = none:=by rw [zf0 (Ne.symm n3)]; exact n1
 have kB : Kp (upd H1 dy (.own y)) (upd (upd H1 dy (.own y)) y (.ins C dy [])):=Kp.new n1'
 refine ⟨_,_,_,.cons (.ref y) ((r1.mono kA).mono kB),m1.newI oc.ns n1 n2 n3,g1 y (m1.free n1),λ d μ2 v H2 q k2 r2 m2=>?_⟩
 obtain ⟨rfl,q2⟩:=q
 cases r2
 exact ⟨rfl,kk _ _ _ _ q2 (k1.trans (kA.trans (kB.trans k2))) (.ref y) m2⟩
theorem wr3 {k : Nat} {ps : List Str} {sp : Sp3} {pl : Sem Bool} (ho : RE X o to) (oc : ObjC X.K c C) (cf : CalT X.prog X.w X.K X.mg X.base k C m ps sp) (hr : Room k X.A) (ha : RA X (e :: es) t)
    (hst : starEach (e :: es) X.env = (false,eval e X.env) :: starEach es X.env:=by rfl) (hpl : (backTo pos (starEach es X.env)).any (·.1) = false:=by rfl)
    (ht : eval (.Call (.Attribute o m apos) (e :: es) [] pos) X.env = (do
     let ov <- eval o X.env
     standAt apos.atName
     let (f,first) <- holding [ov] (getMethod ov m pl)
     callWith pos f first (backTo pos (starEach (e :: es) X.env)) (backToKw pos (keywordEach [] X.env))):=by rfl) :
    RE X (.Call (.Attribute o m apos) (e :: es) [] pos) (yz3 c m sp to t):=by
 obtain ⟨f,fd,F,h1,h2,h3,hb⟩:=cf
 obtain ⟨va,pa,ra⟩:=ho
 obtain ⟨vb,pb,rb⟩:=ha
 refine ⟨_,xz5 (pl:=pl) pa oc.cl ⟨h1,h2,h3⟩ F hr hb .nil xb6 pb hst hpl ht,λ σ H Q ρ μ Q3 s mm h kk=>ra σ H _ ρ μ _ s mm h λ d μ1 v H1 g1 k1 r1 m1=>?_⟩
 cases r1 with
 | ref q =>
  dsimp only at g1
  cases e0 : μ1 q with
  | none=>rw [e0] at g1; exact g1.elim
  | some oo =>
   cases oo with
   | lst _=>rw [e0] at g1; exact g1.elim
   | dct _=>rw [e0] at g1; exact g1.elim
   | ins c' fs =>
    rw [e0] at g1
    obtain ⟨⟨rfl,hl⟩,g2⟩:=g1
    obtain ⟨C',dx,vs,n,q1,q2,r⟩:=m1.ins q _ fs e0
    rw [oc.ns] at n
    cases n
    refine ⟨q,dx,vs,rfl,q1,r.no hl,rb σ H1 _ ρ μ1 _ (s.mono k1) m1 g2 λ ds μ2 us H2 g3 k2 r2 m2=>?_⟩
    rw [List.append_nil]
    exact ⟨_,_,_,.cons (.ref q) r2,m2,g3,kk.after (k1.trans k2)⟩
 | _=>exact False.elim g1
end
section
variable {P : Program} {w : World} {K : Fg} {mg : Str -> Option Value} {base : Heap}
theorem CalT.mono {j k : Nat} {C : Addr} {m : Str} {ps : List Str} {sp : Sp3} (c : CalT P w K mg base j C m ps sp) (h : j <= k) : CalT P w K mg base k C m ps sp:=by
 obtain ⟨f,fd,F,r⟩:=c
 exact ⟨f,fd,F.mono h,r⟩
theorem zi4 {x qual : Str} {st : Stmt} {f C : Addr} {fd : FuncData} {N ps : List Str} {k : Nat} {sp : Sp3} {t : TS3} (F : Fun K x qual st f fd) (hf : PySem.W.findIn K (.ref C) x = some (some (.ref f))) (hi : PySem.W.isFn K (.ref f) = true) (hb : Binds K fd ps []) (S : FnScope N ps (wa0 st))
    (len : ∀ ds μ Q,sp ds μ Q -> ds.length = ps.length)
    (body : ∀ (cdv : Value) (A : Around) (outer : List Env) (s : Shared) (H : Hp) (E : XK),Room k (A.deeper (envOfC qual (wa0 st) s.heap.objs.size f cdv)) -> RSs (cxOf CX0 P w K mg base N qual (wa0 st) f cdv A outer s H E).nox (yd0 st) t)
    (rd : ∀ ds μ Q,sp ds μ Q -> t { nx:=λ _ μ'=>Q .non μ',rt:=Q } (start3 N ds) μ) : CalT P w K mg base (k + 1) C x ps sp:=by
 refine ⟨f,fd,Fun.ok F S (λ vs H Q E h=>?_) λ cdv A outer s H vs Q E hr h=>?_,hf,hi,F.kp,hb⟩
 ·obtain ⟨ds,μ,Q3,r,m,q,ks⟩:=h
  rw [<- r.length]; exact len _ _ _ q
 ·obtain ⟨ds,μ,Q3,r,m,q,ks⟩:=h
  obtain ⟨tv,p,rt⟩:=body cdv A outer s H E hr
  exact ⟨tv,p,rt _ H _ _ μ _ (RSt.start N r) m (rd ds μ Q3 q) ⟨λ ρ μ' σ H' h' k' s' m'=>ks _ _ _ _ h' k' .non m',λ ρ μ' σ H' h'=>False.elim h',λ ρ μ' σ H' h'=>False.elim h',ks⟩⟩
end
end Pv
namespace Pv
open PySem PySem.Spec PyProof.Rows L2 PySem.Calls
noncomputable def CalTX (P : Program) (w : World) (K : Fg) (mg : Str -> Option Value) (base : Heap) (k : Nat) (C : Addr) (m : Str) (ps : List Str) (spx : XE3 -> Sp3) : Prop :=
 ∃ f fd,FnOk P w K mg base (CXn P w) k f fd ps (xw4 K mg spx) /\ PySem.W.findIn K (.ref C) m = some (some (.ref f)) /\ PySem.W.isFn K (.ref f) = true /\ PySem.W.keepIn K (.ref f) = true /\ Binds K fd ps []
section
variable {P : Program} {w : World} {K : Fg} {mg : Str -> Option Value} {base : Heap} {N : List Str} {qual : Str} {scope : Scope} {f : Addr} {cd : Value} {A : Around} {outer : List Env} {s0 : Shared} {H0 : Hp} {E : XK} {XE : XE3}
theorem CalTX.mono {j k : Nat} {C : Addr} {m : Str} {ps : List Str} {spx : XE3 -> Sp3} (c : CalTX P w K mg base j C m ps spx) (h : j <= k) : CalTX P w K mg base k C m ps spx:=by
 obtain ⟨f,fd,F,r⟩:=c
 exact ⟨f,fd,F.mono h,r⟩
theorem zr3 {k : Nat} {ps : List Str} {spx : XE3 -> Sp3} {pl : Sem Bool} {o : Expr} {to : TE3} {c m : Str} {C : Addr} {apos pos : Pos} (EX : EXok K mg XE E) (ho : RE (cxOf (CXn P w) P w K mg base N qual scope f cd A outer s0 H0 E) o to) (oc : ObjC K c C) (cf : CalTX P w K mg base k C m ps spx) (hr : Room k (A.deeper (envOfC qual scope s0.heap.objs.size f cd)))
    (ht : eval (.Call (.Attribute o m apos) [] [] pos) (envOfC qual scope s0.heap.objs.size f cd) = (do
     let ov <- eval o (envOfC qual scope s0.heap.objs.size f cd)
     standAt apos.atName
     let (fv,first) <- holding [ov] (getMethod ov m pl)
     callWith pos fv first (backTo pos (starEach [] (envOfC qual scope s0.heap.objs.size f cd))) (backToKw pos (keywordEach [] (envOfC qual scope s0.heap.objs.size f cd)))):=by rfl) :
    RE (cxOf (CXn P w) P w K mg base N qual scope f cd A outer s0 H0 E) (.Call (.Attribute o m apos) [] [] pos) (yz3 c m (spx XE) to nil3):=by
 obtain ⟨g,fd,F,h1,h2,h3,hb⟩:=cf
 obtain ⟨va,pa,ra⟩:=ho
 refine ⟨_,zt4 (X:=cxOf (CXn P w) P w K mg base N qual scope f cd A outer s0 H0 E) (pl:=pl) pa oc.cl ⟨h1,h2,h3⟩ F hr hb .nil yw2 ht,λ σ H Q ρ μ Q3 s mm h kk=>ra σ H _ ρ μ _ s mm h λ d μ1 v H1 g1 k1 r1 m1=>?_⟩
 cases r1 with
 | ref q =>
  dsimp only at g1
  cases e0 : μ1 q with
  | none=>rw [e0] at g1; exact g1.elim
  | some oo =>
   cases oo with
   | lst _=>rw [e0] at g1; exact g1.elim
   | dct _=>rw [e0] at g1; exact g1.elim
   | ins c' fs =>
    rw [e0] at g1
    obtain ⟨⟨rfl,hl⟩,g2⟩:=g1
    obtain ⟨C',dx,vs,n,q1,q2,r⟩:=m1.ins q _ fs e0
    have n0 : PySem.W.nsIn K mainGlobals _ = _:=n
    rw [oc.ns] at n0
    cases n0
    refine ⟨q,dx,vs,rfl,q1,r.no hl,?_⟩
    exact ⟨_,_,_,XE,.cons (.ref q) .nil,m1,g2,kk.after k1,EX⟩
 | _=>exact False.elim g1
theorem zc5 {x q : Str} {st : Stmt} {g C : Addr} {fd : FuncData} {NN ps : List Str} {k : Nat} {spx : XE3 -> Sp3} {t : XE3 -> TS3} (F : Fun K x q st g fd) (hf : PySem.W.findIn K (.ref C) x = some (some (.ref g))) (hi : PySem.W.isFn K (.ref g) = true) (hb : Binds K fd ps []) (S : FnScope NN ps (wa0 st))
    (len : ∀ XE ds μ Q,spx XE ds μ Q -> ds.length = ps.length)
    (body : ∀ (cdv : Value) (A : Around) (outer : List Env) (s : Shared) (H : Hp) (E : XK) (XE : XE3),Room k (A.deeper (envOfC q (wa0 st) s.heap.objs.size g cdv)) -> EXok K mg XE E ->
     RSs (cxOf (CXn P w) P w K mg base NN q (wa0 st) g cdv A outer s H E) (yd0 st) (t XE))
    (rd : ∀ XE ds μ Q,spx XE ds μ Q -> t XE { nx:=λ _ μ'=>Q .non μ',rt:=Q } (start3 NN ds) μ) : CalTX P w K mg base (k + 1) C x ps spx:=by
 refine ⟨g,fd,?_,hf,hi,F.kp,hb⟩
 obtain ⟨oc,od,kV,doc,pm,an,cdv,ct,osl,rfl,lk,hcd⟩:=F.ex
 refine wg6 lk hcd S (λ vs H Q E h=>?_) λ A outer s H vs Q E hr h=>?_
 ·obtain ⟨ds,μ,Q3,XE,r,m,q,ks,ex⟩:=h
  rw [<- r.length]; exact len _ _ _ _ q
 ·obtain ⟨ds,μ,Q3,XE,r,m,q,ks,ex⟩:=h
  obtain ⟨tv,p,rt⟩:=body cdv A outer s H E XE hr ex
  exact ⟨tv,p,rt _ H _ _ μ _ (RSt.start NN r) m (rd XE ds μ Q3 q) ⟨λ ρ μ' σ H' h' k' s' m'=>ks _ _ _ _ h' k' .non m',λ ρ μ' σ H' h'=>False.elim h',λ ρ μ' σ H' h'=>False.elim h',ks⟩⟩
end
section
variable {X : Cx} {pins : List (Addr × Obj)} {σ : L2.St} {H H' : Hp} {s s' : Shared}
variable {k : Nat} {f : Addr} {fd : FuncData} {ps : List Str} {sp : Sp} {fx x : Str} {Pc : Addr} {e : Expr} {es : List Expr} {b₀ : Stmt} {suite : List Stmt} {p cpos np hpos pos epos : Pos} {ta : TA} {ts : Addr -> TS}
end
section
variable {X : Cx} {k : Nat} {ps : List Str} {spx : XE3 -> Sp3} {fx x : Str} {Pc : Addr} {e : Expr} {es : List Expr} {b₀ : Stmt} {suite : List Stmt} {p cpos np hpos pos epos : Pos} {ta : TA3} {ts : TS3} {ok : Str -> Bool}
end
end Pv
namespace Pv
open PySem PySem.Spec PyProof.Rows L2
section
variable {X : Cx} {NN : List Str} {scope : Scope} {cl : List (Str × Addr)} {js : List (Option Nat)}
end
section
variable {X : Cx} {elt target iter : Expr} {ifs : List Expr} {pos : Pos} {ti : TI3} {g : TG3} {tc : TT3} {te : TE3} {NN : List Str} {scope : Scope} {cl : List (Str × Addr)} {js : List (Option Nat)}
end
end Pv
namespace Pv
open PySem PySem.Spec PyProof.Rows L2
noncomputable abbrev xj0 (X : Cx) (NN : List Str) (scope : Scope) (cl : List (Str × Addr)) (o : Str) (C : Addr) (fp : List Addr) (s₀ : Shared) (H₀ : Hp) (pn : List (Addr × Obj)) : Cx :=
 { X with N:=NN,s₀:=s₀,H₀:=H₀,env:=compEnvC scope ((o,C + 1) :: cl) C X.env,outer:=X.stack,ex:=fp,fn:=λ x=>x == o,pn:=pn,xe:=λ _ _=>False }
structure CompSO (X : Cx) (NN : List Str) (scope : Scope) (cl : List (Str × Addr)) (o : Str) (js : List (Option Nat)) : Prop where
 clos : closureFor scope X.env = pure cl
 cf : ∀ n acc,cellsFrom n scope.names acc = (o,n) :: acc
 pc : ∀ h,pushCells h scope.names = h.push { cls:=.type "cell",data:=.cell none }
 kind : scope.kind = .function
 names : ∀ y ∈ scope.names,y.2 = .local -> scope.names.lookup y.1 = some .local
 sub : ∀ x c,cl.lookup x = some c -> X.env.cells.lookup x = some c
 has : ∀ x,((relabel scope X.env).names.lookup x = some .cell \/ (relabel scope X.env).names.lookup x = some .free) -> x = o \/ ∃ c,cl.lookup x = some c
 len : js.length = NN.length
 out : ∀ (i j : Nat),js[i]? = some (some j) -> ∃ x,NN[i]? = some x /\ x ≠ o /\ X.N[j]? = some x /\ Vis X.env.scope x /\ X.env.scope.names.lookup x ≠ some .local /\ ((relabel scope X.env).names.lookup x = some .cell \/ (relabel scope X.env).names.lookup x = some .free)
theorem xx0 {o x : Str} {a c : Addr} {cl : List (Str × Addr)} (h : ((o,a) :: cl).lookup x = some c) : (x = o /\ c = a) \/ cl.lookup x = some c:=by
 rw [List.lookup_cons] at h
 split at h
 ·next e=>cases h; exact .inl ⟨eq_of_beq e,rfl⟩
 ·exact .inr h
theorem own_at {o : Str} {a : Addr} {cl : List (Str × Addr)} : ((o,a) :: cl).lookup o = some a:=by
 rw [List.lookup_cons]; simp
theorem zw3 {o x : Str} {a : Addr} {cl : List (Str × Addr)} (h : x ≠ o) : ((o,a) :: cl).lookup x = cl.lookup x:=by
 rw [List.lookup_cons]
 have : (x == o) = false:=by simpa using h
 rw [this]
theorem zc6 {M : Model} {A : Around} {E : Value -> Shared -> Prop} {s : Shared} {scope : Scope} {globals : Addr} {cl : List (Str × Addr)} {qual : Str} {o : Str} {env : Env} {Q : Env -> Shared -> Prop}
    (cf : ∀ n acc,cellsFrom n scope.names acc = (o,n) :: acc) (pc : ∀ h,pushCells h scope.names = h.push { cls:=.type "cell",data:=.cell none })
    (hQ : ∀ h₁ : Heap,h₁.Ns s.heap.objs.size (λ _=>none) -> (∀ b u,s.heap.get? b = some u -> h₁.get? b = some u) -> h₁.IsCell (s.heap.objs.size + 1) none ->
     Q (newEnv scope s.heap.objs.size globals ((o,s.heap.objs.size + 1) :: cl) qual none .none (some env) builtinsNs) { s with heap:=h₁ }) :
    wpAny M A (newFunctionEnv scope globals cl [] qual none .none (some env)) Q E s:=by
 simp only [newFunctionEnv,Option.isSome_some,if_true]
 refine wpAny_bind (wpAny_alloc ?_)
 refine wpAny_bind (wpAny_layCells _ (λ name kind cells=>by cases hkc : kind == NameKind.cell <;> simp [hkc]) _ _ _ _ ?_)
 rw [cf,pc]
 rw [show ({ s with heap:=s.heap.push { cls:=.type "dict",data:=.dict #[] } } : Shared).heap.objs.size = s.heap.objs.size + 1 from Heap.size_push ..]
 refine wpAny_bind ?_
 rw [List.forIn_nil]
 refine wpAny_pure (wpAny_pure ?_)
 refine hQ _ ((Heap.Ns.new s.heap (.type "dict")).keeps λ b o e=>Heap.get?_push_of_some _ e) (λ b u e=>Heap.get?_push_of_some _ (Heap.get?_push_of_some _ e)) ?_
 rw [<- Heap.size_push]
 exact ⟨_,Heap.get?_push_size _ rfl,rfl⟩
section
variable {o : Str} {X : Cx} {NN : List Str} {scope : Scope} {cl : List (Str × Addr)} {js : List (Option Nat)}
theorem wa5 {pins : List (Addr × Obj)} {σ : L2.St} {H : Hp} {s : Shared} {fp : List Addr} {pn : List (Addr × Obj)} (hc : X.calm = true) (S : CompSO X NN scope cl o js) (I : Inv X pins σ H s) (f : ∀ b ∈ fp,FpOk X pins H b /\ b < s.heap.objs.size) :
    (xj0 X NN scope cl o s.heap.objs.size fp s H pn).Ok where
 mod:=I.ok.mod
 kind:=S.kind
 glob:=I.ok.glob
 blt:=I.ok.blt
 above:=Nat.le_refl _
 inj:=λ x y c h1 h2=>by
  have big : ∀ z,X.env.cells.lookup z = some (s.heap.objs.size + 1) -> False:=λ z hz=>by
   obtain ⟨v,q⟩:=I.cell z _ hz
   exact absurd q.lt (Nat.not_lt.mpr (Nat.le_succ _))
  rcases xx0 h1 with ⟨e1,e2⟩ | e1
  ·rcases xx0 h2 with ⟨e3,e4⟩ | e3
   ·rw [e1,e3]
   ·rw [e2] at e3; exact (big y (S.sub y _ e3)).elim
  ·rcases xx0 h2 with ⟨e3,e4⟩ | e3
   ·rw [e4] at e1; exact (big x (S.sub x _ e1)).elim
   ·exact I.ok.inj x y c (S.sub x c e1) (S.sub y c e3)
 has:=λ x h=>by
  rcases S.has x h with rfl | ⟨c,h2⟩
  ·exact ⟨_,own_at⟩
  ·by_cases e : x = o
   ·subst e; exact ⟨_,own_at⟩
   ·exact ⟨c,(zw3 e).trans h2⟩
 cab:=λ x c h h2=>by
  have e : x = o:=eq_of_beq h
  subst e
  have h3 : some _ = some c:=own_at.symm.trans h2
  cases h3
  exact Nat.le_succ _
 hd:=λ _=>I.ok.hd hc
 frames:=I.ok.frames
 stk:=.inl rfl
 exf:=λ b hb=>⟨Nat.ne_of_lt (f b hb).2,λ x c e=>(xx0 e).elim (λ e=>by rw [e.2]; exact Nat.ne_of_gt (Nat.lt_succ_of_lt (f b hb).2)) λ e=>(f b hb).1.2.2.2.2.1 x c (S.sub x c e)⟩
 bs:=I.bs
 bsz:=Nat.le_trans I.ok.bsz I.sz
 noex:=λ b o e hb=>by
  rcases (f b hb).1.2.2.2.1 with z | z
  ·exact I.ok.noex b o e z
  ·exact absurd (Nat.lt_of_lt_of_le (Heap.lt_size e) (Nat.le_trans I.ok.bsz z)) (Nat.lt_irrefl _)
 exfs:=λ b hb hfs=>by
  rcases List.mem_cons.mp (I.stkSub b hfs) with z | z
  ·exact (f b hb).1.2.1 z
  ·exact (f b hb).1.2.2.1 z
 funs:=I.stack
 frf:=I.stkFree
theorem zk3 {pins : List (Addr × Obj)} {σ : L2.St} {H : Hp} {s : Shared} {fp : List Addr} {h₁ : Heap} {m : Str -> Option Value} {tk : Nat} (hc : X.calm = true) (S : CompSO X NN scope cl o js) (I : Inv X pins σ H s) (f : ∀ b ∈ fp,FpOk X pins H b /\ b < s.heap.objs.size)
    (hn : h₁.Ns s.heap.objs.size m) (k : ∀ b u,s.heap.get? b = some u -> h₁.get? b = some u) (ce : h₁.IsCell (s.heap.objs.size + 1) none) : Inv (xj0 X NN scope cl o s.heap.objs.size fp s H (X.pn ++ pins)) [] (wa1 js σ) H { s with heap:=h₁,toks:=tk } where
 ok:=wa5 hc S I f
 os:=rfl
 bare:=I.bare
 base:=Un.kept k
 loc:=by
  refine ⟨m,hn,λ i x v h1 h2 h3=>?_⟩
  obtain ⟨j,e1,e2⟩:=wj2 h2
  obtain ⟨y,q1,q0,q2,q3,q4,q5⟩:=S.out i j e1
  have q1' : NN[i]? = some x:=h1
  rw [q1] at q1'; cases q1'
  obtain ⟨mX,_,hl⟩:=I.loc
  obtain ⟨u,r,l⟩:=hl j x v q2 e2 q3
  refine ⟨u,r,.inr ⟨q5,?_⟩⟩
  rcases l with ⟨z,_⟩ | ⟨_,c,hc',hcell⟩
  ·exact absurd z q4
  ·rcases S.has x q5 with e | ⟨c',hc2⟩
   ·exact absurd e q0
   ·have e:=S.sub x c' hc2
    rw [hc'] at e; cases e
    obtain ⟨o',ho,hd⟩:=hcell
    exact ⟨c,(zw3 q0).trans hc2,o',k _ _ ho,hd⟩
 cell:=λ x c e=>by
  rcases xx0 e with ⟨_,e2⟩ | e
  ·rw [e2]; exact ⟨none,ce⟩
  ·obtain ⟨v,o',ho,hd⟩:=I.cell x c (S.sub x c e)
   exact ⟨v,o',k _ _ ho,hd⟩
 free:=I.hok.fresh (Nat.le_refl _)
 freeC:=λ x c e=>by
  rcases xx0 e with ⟨_,e2⟩ | e
  ·rw [e2]; exact I.hok.fresh (Nat.le_succ _)
  ·exact I.freeC x c (S.sub x c e)
 pin:=λ p hp=>by
  have hp' : p ∈ X.pn ++ pins:=by simpa using hp
  obtain ⟨h1,h2,h3,h4,h5⟩:=I.pin p hp'
  refine ⟨k _ _ h1,h2,Nat.ne_of_lt (Heap.lt_size h1),λ z=>?_,h5⟩
  rcases List.mem_cons.mp (I.stkSub _ z) with z | z
  ·exact h3 z
  ·exact h4 z
 hok:=I.hok.kept k
 len:=by show (wa1 js σ).length = NN.length; unfold wa1; rw [List.length_map]; exact S.len
theorem xb5 {elt target iter : Expr} {ifs : List Expr} {pos : Pos} {wi : TI} {g : TG} {tc : TT} {te : TE} (hc : X.calm = true) (S : CompSO X NN scope cl o js) (hi : PI X target iter wi)
    (hg : ∀ C fp s₀ H₀ pn,PG (xj0 X NN scope cl o C fp s₀ H₀ pn) target g) (ht : ∀ C fp s₀ H₀ pn,PTs (xj0 X NN scope cl o C fp s₀ H₀ pn) ifs tc) (he : ∀ C fp s₀ H₀ pn,PE (xj0 X NN scope cl o C fp s₀ H₀ pn) elt te)
    (hs : ∀ x,foldedSetIterable iter X.env x = pure x) {use : Option (Value -> Sem Unit)} {Q' : Value -> Shared -> Prop} {pins : List (Addr × Obj)} {s : Shared} {σ : L2.St} {H : Hp} {Q : VK} (I : Inv X pins σ H s) (h : wn3 js wi g tc te σ H Q)
    (hu : ∀ (p0 C : Addr) (H' : Hp) (s' : Shared) (m' : Str -> Option Value),Inv X pins σ H' s' -> s'.heap.Ns C m' -> H' C = none -> C ≠ X.env.locals -> X.s₀.heap.objs.size <= C -> (∀ x c,X.env.cells.lookup x = some c -> c ≠ C) -> (∀ p ∈ X.pn ++ pins,p.1 ≠ C) -> Q (.ref p0) H' ->
     compPost (model X.prog X.w) X.A X.xe use Q' (.ref p0) C (.ok .next) s') :
    wpAny (model X.prog X.w) X.A (comprehension (.ListComp elt [⟨target,iter,ifs,0⟩] scope pos) scope X.env (firstIterPos [⟨target,iter,ifs,0⟩] pos) (newList []) (firstAsync [⟨target,iter,ifs,0⟩]) (firstIter [⟨target,iter,ifs,0⟩] X.env) use) Q' X.xe s:=by
 refine wpAny_comprehension_free (use:=use) rfl hs S.clos S.kind S.names (thn (hi pins s σ H _ I h) λ xv s1 h1=>thn h1 λ itv s2 h2=>?_)
 obtain ⟨it,fp,tn,J,H2,rfl,I2,T,st2,f2,hW⟩:=h2
 refine wpAny_newObj_type (zc6 S.cf S.pc λ h₁ hns₁ kk₁ ce₁=>?_)
 dsimp only at hns₁ kk₁ ce₁ ⊢
 have hD : H2 s2.heap.objs.size = none:=I2.hok.fresh (Nat.le_refl _)
 have I3 : Inv X pins σ (upd H2 s2.heap.objs.size (.lst [])) { s2 with heap:=s2.heap.push { cls:=.type "list",dict:=none,data:=.seq ([] : List Value).toArray } } :=
  I2.lnew (t':=s2.toks) (its:=[]) .nil (by rw [sizeLine_eq]; decide)
 generalize hsD : ({ s2 with heap:=s2.heap.push { cls:=.type "list",dict:=none,data:=.seq ([] : List Value).toArray } } : Shared) = sD at I3
 have eh : sD.heap = s2.heap.push { cls:=.type "list",dict:=none,data:=.seq ([] : List Value).toArray }:=by rw [<- hsD]
 have es : ∀ (h : Heap) (tk : Nat),({ s2 with heap:=h,toks:=tk } : Shared) = { sD with heap:=h,toks:=tk }:=λ h tk=>by rw [<- hsD]
 have hsz : s2.heap.objs.size < sD.heap.objs.size:=by rw [eh,Heap.size_push]; exact Nat.lt_succ_self _
 rw [<- eh] at hns₁ kk₁ ce₁ ⊢
 generalize hp0 : s2.heap.objs.size = p0 at *
 have up : ∀ b u,s2.heap.get? b = some u -> sD.heap.get? b = some u:=λ b u e=>by rw [eh]; exact Heap.get?_push_of_some _ e
 have k : ∀ b u,sD.heap.get? b = some u -> h₁.get? b = some u:=kk₁
 have f3 : ∀ b ∈ fp,FpOk X pins (upd H2 p0 (.lst [])) b /\ b < sD.heap.objs.size:=λ b hb=>by
  obtain ⟨o,ho,_⟩:=T.obj 0 _ st2 b hb
  have hlt : b < p0:=by rw [<- hp0]; exact Heap.lt_size ho
  refine ⟨⟨?_,(f2 b hb).2⟩,Nat.lt_trans hlt hsz⟩
  rw [zf0 (Nat.ne_of_lt hlt)]; exact (f2 b hb).1
 obtain ⟨W,⟨m0,w0⟩,turn⟩:=hW p0 hD
 have I4:=zk3 (tk:=s2.toks) hc S I3 f3 hns₁ k ce₁
 have st4 : tn 0 h₁:=T.keep 0 _ _ st2 λ b _ o e=>k b o (up b o e)
 rw [es]
 generalize hX' : xj0 X NN scope cl o sD.heap.objs.size fp sD (upd H2 p0 (.lst [])) (X.pn ++ pins) = X' at I4
 have a1 : X'.env = compEnvC scope ((o,sD.heap.objs.size + 1) :: cl) sD.heap.objs.size X.env:=by rw [<- hX']
 have a2 : X'.prog = X.prog:=by rw [<- hX']
 have a3 : X'.w = X.w:=by rw [<- hX']
 have a4 : X'.A = X.A:=by rw [<- hX']
 have a5 : X'.K = X.K:=by rw [<- hX']
 have a6 : X'.calm = true:=by rw [<- hX']; exact hc
 have a7 : X'.xe = λ _ _=>False:=by rw [<- hX']
 have a8 : X'.ex = fp:=by rw [<- hX']
 have T' : Turn X'.prog X'.w X'.K target J fp it tn:=by rw [a2,a3,a5]; exact T
 have hg' : PG X' target g:=by rw [<- hX']; exact hg _ _ _ _ _
 have ht' : PTs X' ifs tc:=by rw [<- hX']; exact ht _ _ _ _ _
 have he' : PE X' elt te:=by rw [<- hX']; exact he _ _ _ _ _
 have fin : ∀ {σ' : L2.St} {H' : Hp} {s' : Shared},Inv X' [] σ' H' s' -> Q (.ref p0) H' -> compPost (model X.prog X.w) X.A X.xe use Q' (.ref p0) sD.heap.objs.size (.ok .next) s':=λ {σ' H' s'} I' q=>by
  obtain ⟨m',hn',_⟩:=I'.loc
  rw [a1] at hn'
  have u : Un (frs X.stack) fp (upd H2 p0 (.lst [])) H' sD.heap s'.heap:=by
   have:=I'.base
   rw [<- hX'] at this
   exact this
  have hch : ∀ b ∈ fp,(b ∈ X.ex \/ X.s₀.heap.objs.size <= b) /\ b ≠ X.env.locals /\ (∀ x c,X.env.cells.lookup x = some c -> c ≠ b) /\ ∀ p ∈ X.pn ++ pins,p.1 ≠ b:=λ b hb=>by
   obtain ⟨_,z1,_,z3,z4,z5⟩:=(f3 b hb).1
   exact ⟨z3,z1,z4,z5⟩
  have os' : s'.os = sD.os:=by
   have:=I'.os
   rw [<- hX'] at this
   exact this
  have hok' : HOk X.prog X.w H' s'.heap:=by
   have:=I'.hok
   rw [<- hX'] at this
   exact this
  have I5 : Inv X pins σ H' s':=I3.call' os' u hok' I'.bare hch
  have hC : H' sD.heap.objs.size = none:=by
   have:=I'.free
   rw [a1] at this
   exact this
  refine hu p0 _ H' s' m' I5 hn' hC (Nat.ne_of_gt I3.lt) I3.sz (λ x c e=>?_) (λ p hp=>?_) q
  ·obtain ⟨v,o,ho,_⟩:=I3.cell x c e
   exact Nat.ne_of_lt (Heap.lt_size ho)
  ·exact Nat.ne_of_lt (Heap.lt_size (I3.pin p hp).1)
 have fp4 : ∀ {H' : Hp},(∀ b ∈ fp,H' b = none) -> ∀ b ∈ fp,FpOk X' [] H' b:=λ hn b hb=>by
  obtain ⟨_,z1,z2,z3,z4,z5⟩:=(f3 b hb).1
  rw [<- hX']
  refine ⟨hn b hb,Nat.ne_of_lt (f3 b hb).2,λ z=>?_,.inl hb,λ x c e=>(xx0 e).elim (λ e=>by rw [e.2]; exact Nat.ne_of_gt (Nat.lt_succ_of_lt (f3 b hb).2)) (λ e=>z4 x c (S.sub x c e)),λ p hp=>z5 p (by simpa using hp)⟩
  rcases List.mem_cons.mp (I3.stkSub _ z) with z | z
  ·exact z1 z
  ·exact z2 z
 have loop : ∀ s₃ : Shared,Inv X' [] (wa1 js σ) (upd H2 p0 (.lst [])) s₃ -> tn 0 s₃.heap ->
     codeAny (model X.prog X.w) X.A (.compLoop (.ListComp elt [⟨target,iter,ifs,0⟩] scope pos) 0 (.ref it) (.ref p0) (compEnvC scope ((o,sD.heap.objs.size + 1) :: cl) sD.heap.objs.size X.env)) (compPost (model X.prog X.w) X.A X.xe use Q' (.ref p0) sD.heap.objs.size) s₃:=by
  intro s₃ I₃ st₃
  refine codeAny_loop rfl (λ n s'=>∃ i σ' H',Inv X' [] σ' H' s' /\ tn i s'.heap /\ (∀ b ∈ fp,H' b = none) /\ W i n σ' H') (λ n s' hI=>?_) m0 ⟨0,wa1 js σ,_,I₃,st₃,λ b hb=>(f3 b hb).1.1,w0⟩
  obtain ⟨i,σ3,H3,J3,st3,fr3,w3⟩:=hI
  have tr:=turn i n σ3 H3 w3
  show wpAny _ X.A ((compTurn (.ListComp elt [⟨target,iter,ifs,0⟩] scope pos) 0 (.ref it) (.ref p0) (compEnvC scope ((o,sD.heap.objs.size + 1) :: cl) sD.heap.objs.size X.env)).onRaise (λ x=>do noteFrame x (compEnvC scope ((o,sD.heap.objs.size + 1) :: cl) sD.heap.objs.size X.env); theTreesLotGoes x)) _ _ s'
  refine wpAny_noted ?_
  rw [compTurn_list,<- a1,<- a2,<- a3,<- a4]
  have nof : ∀ {α : Type} {t : Sem α} {Q' : α -> Shared -> Prop} {s'' : Shared} {E : Value -> Shared -> Prop},wpAny (model X'.prog X'.w) X'.A t Q' X'.xe s'' -> wpAny (model X'.prog X'.w) X'.A t Q' E s'':=λ h=>wpAny_mono h (λ _ _ q=>q) λ _ _ z=>by rw [a7] at z; exact z.elim
  rcases tr with ⟨stop,qn⟩ | ⟨go,step⟩
  ·refine wpAny_bind (wpAny_standAt (wpAny_bind (nof (thn (T'.done X' rfl rfl rfl a6 i [] s' σ3 H3 X'.xe J3 (fp4 fr3) st3 stop) λ r s4 ⟨hr,J4⟩=>?_))))
   subst hr
   refine wpAny_pure ?_
   show compPost (model X'.prog X'.w) X'.A X.xe use Q' (.ref p0) sD.heap.objs.size (.ok .next) s4
   rw [a2,a3,a4]
   exact fin J4 qn
  ·refine wpAny_bind (wpAny_standAt (wpAny_bind (nof (thn (T'.item X' rfl rfl rfl a6 i [] s' σ3 H3 X'.xe J3 (fp4 fr3) st3 go) λ r s4 ⟨u,hr,h4⟩=>?_))))
   subst hr
   refine wpAny_bind (nof (thn h4 λ _ s5 ⟨x,H5,I5,r5,y5,st5,fr5⟩=>?_))
   have I5':=I5.pinned (fp4 fr5) (T.obj _ _ st5)
   refine wpAny_bind (nof (thn (hg' _ s5 σ3 H5 x u _ I5' r5 (step x H5 y5)) λ _ s6 ⟨σ6,H6,I6,q6⟩=>?_))
   refine wpAny_bind (nof (thn (ht' _ s6 σ6 H6 _ I6 q6) λ ok s7 ⟨H7,I7,q7⟩=>?_))
   have again : ∀ {s8 : Shared} {σ8 : L2.St} {H8 : Hp},Inv X' ([] ++ wx1 fp s5.heap) σ8 H8 s8 -> (∃ m',m' < n /\ W (i + 1) m' σ8 H8) -> ∃ m,m < n /\ ∃ i σ' H',Inv X' [] σ' H' s8 /\ tn i s8.heap /\ (∀ b ∈ fp,H' b = none) /\ W i m σ' H':=λ {s8 σ8 H8} I8 ⟨m',hm,w8⟩=>by
    refine ⟨m',hm,i + 1,σ8,H8,I8.unpinned,T.keep _ _ _ st5 λ b hb o e=>(I8.pin (b,o) (List.mem_append_right _ (List.mem_append_right _ (zr0 hb e)))).1,λ b hb=>?_,w8⟩
    obtain ⟨o,e,d⟩:=T.obj _ _ st5 b hb
    exact (I8.pin (b,o) (List.mem_append_right _ (List.mem_append_right _ (zr0 hb e)))).2.1
   cases ok with
   | false=>exact wpAny_pure ⟨rfl,again I7 q7⟩
   | true =>
    refine wpAny_bind (wpAny_bind (nof (thn (he' _ s7 σ6 H7 _ I7 q7) λ xv s8 ⟨y,H8,I8,r8,ys,q8,hlen,q9⟩=>wpAny_bind (nof ?_))))
    refine thn (ws1 (X:=X') _ s8 σ6 H8 (.ref p0) [y] (.ref p0) [xv] (λ v H9=>v = .non /\ H9 = upd H8 p0 (.lst (ys ++ [y]))) I8 rfl (.cons r8 .nil) ⟨p0,ys,y,rfl,rfl,q8,hlen,rfl,rfl⟩) λ rv s9 ⟨v9,H9,I9,_,_,e9⟩=>?_
    subst e9
    exact wpAny_pure (wpAny_pure ⟨rfl,again I9 q9⟩)
 exact codeAny_compStart_list (loop _ I4 st4) (T.self X.A 0 _ _ _ st4 (loop _ I4 st4))
theorem zs4 {i : Nat} {x : Str} {px apos : Pos} {elt target iter : Expr} {ifs : List Expr} {pos : Pos} {wi : TI} {g : TG} {tc : TT} {te : TE} (hN : X.N.Nodup) (hi' : X.N[i]? = some x) (hl : X.env.scope.names.lookup x = some .local) (hc : X.calm = true) (S : CompSO X NN scope cl o js) (hi : PI X target iter wi)
    (hg : ∀ C fp s₀ H₀ pn,PG (xj0 X NN scope cl o C fp s₀ H₀ pn) target g) (ht : ∀ C fp s₀ H₀ pn,PTs (xj0 X NN scope cl o C fp s₀ H₀ pn) ifs tc) (he : ∀ C fp s₀ H₀ pn,PE (xj0 X NN scope cl o C fp s₀ H₀ pn) elt te)
    (hs : ∀ x,foldedSetIterable iter X.env x = pure x) (hw : swapsWith (.ListComp elt [⟨target,iter,ifs,0⟩] scope pos) (some (.Name x px)) apos.line X.env = pure true) :
    PS X (.Assign [.Name x px] (.ListComp elt [⟨target,iter,ifs,0⟩] scope pos) apos) (tAsg (wn3 js wi g tc te) (yg6 i)):=by
 intro pins s σ H D I h
 rw [exec_Assign_Name_used _ _ _ _ hw]
 refine wpAny_bind (wpAny_standAt (wpAny_bind ?_))
 show wpAny _ _ (comprehension (.ListComp elt [⟨target,iter,ifs,0⟩] scope pos) scope X.env (firstIterPos [⟨target,iter,ifs,0⟩] pos) (newList []) (firstAsync [⟨target,iter,ifs,0⟩]) (firstIter [⟨target,iter,ifs,0⟩] X.env) (some (assign (.Name x px) X.env)) >>= λ _=>pure ()) _ _ s
 refine wpAny_bind (wpAny_mono (xb5 (use:=some (assign (.Name x px) X.env)) (Q':=λ _ s'=>SP X pins D .next s') hc S hi hg ht he hs I h λ p0 C H' s' m' I5 hn hC n1 n2 n3 n4 q=>?_) (λ _ s' hq=>wpAny_pure (wpAny_pure hq)) λ _ _ e=>e)
 show wpAny _ _ (assign (.Name x px) X.env (.ref p0)) _ _ s'
 refine wpAny_assign_Name (xh2 I5 hN hi' (.inl hl) (v:=.ref p0) rfl (λ s2 I6 ⟨b,sb,hb⟩=>?_) (.inr hl))
 have nb : C ≠ b:=by
  rcases hb with hb | hb
  ·rw [hb]; exact n1
  ·exact Ne.symm (n3 x b hb)
 exact ⟨m',hn.sameBut sb nb,λ h' sb'=>⟨_,H',I6.turned (t':=s2.toks) (λ b o hb e=>sb'.extBut b o hb e) hC n1 (.inr n2) n3 n4,q⟩⟩
end
section
variable {o : Str} {X : Cx} {elt target iter : Expr} {ifs : List Expr} {pos : Pos} {ti : TI3} {g : TG3} {tc : TT3} {te : TE3} {NN : List Str} {scope : Scope} {cl : List (Str × Addr)} {js : List (Option Nat)}
theorem yv2 {i : Nat} {x : Str} {px apos : Pos} (hN : X.N.Nodup) (hc : X.calm = true) (S : CompSO X NN scope cl o js) (hi : RI X target iter ti) (hg : ∀ C fp s₀ H₀ pn,RG (xj0 X NN scope cl o C fp s₀ H₀ pn) target g)
    (ht : ∀ C fp s₀ H₀ pn,RTs (xj0 X NN scope cl o C fp s₀ H₀ pn) ifs tc) (he : ∀ C fp s₀ H₀ pn,RE (xj0 X NN scope cl o C fp s₀ H₀ pn) elt te)
    (hs : ∀ x,foldedSetIterable iter X.env x = pure x) (hi' : X.N[i]? = some x:=by rfl) (hl : X.env.scope.names.lookup x = some .local:=by rfl)
    (hw : swapsWith (.ListComp elt [⟨target,iter,ifs,0⟩] scope pos) (some (.Name x px)) apos.line X.env = pure true:=by rfl) : RS X (.Assign [.Name x px] (.ListComp elt [⟨target,iter,ifs,0⟩] scope pos) apos) (set3 i (comp3 js ti g tc te)):=by
 obtain ⟨wi,pi,ri⟩:=hi
 let gU : TG:=λ v σ H Q=>∀ (r : TG3),r = g -> ∃ d ρ μ Q3,RSt X.K H ρ σ /\ RelM X.K μ H /\ RelD X.K H d v /\ g d ρ μ Q3 /\ (∀ ρ' μ' σ' H',Q3 ρ' μ' -> Kp H H' -> RSt X.K H' ρ' σ' -> RelM X.K μ' H' -> Q σ' H')
 let tU : TT:=λ σ H Q=>∃ ρ μ Q3,RSt X.K H ρ σ /\ RelM X.K μ H /\ tc ρ μ Q3 /\ (∀ b μ' H',Q3 b μ' -> Kp H H' -> RelM X.K μ' H' -> Q b H')
 let eU : TE:=λ σ H Q=>∃ ρ μ Q3,RSt X.K H ρ σ /\ RelM X.K μ H /\ te ρ μ Q3 /\ Ks X.K H Q3 Q
 have hg' : ∀ C fp s₀ H₀ pn,PG (xj0 X NN scope cl o C fp s₀ H₀ pn) target gU:=λ C fp s₀ H₀ pn=>by
  obtain ⟨tv,p,r⟩:=hg C fp s₀ H₀ pn
  intro pins s σ H v u Q I rv h
  obtain ⟨d,ρ,μ,Q3,a1,a2,a3,a4,a5⟩:=h g rfl
  exact p pins s σ H v u Q I rv (r v d σ H Q ρ μ Q3 a1 a2 a3 a4 a5)
 have ht' : ∀ C fp s₀ H₀ pn,PTs (xj0 X NN scope cl o C fp s₀ H₀ pn) ifs tU:=λ C fp s₀ H₀ pn=>by
  obtain ⟨tv,p,r⟩:=ht C fp s₀ H₀ pn
  intro pins s σ H Q I h
  obtain ⟨ρ,μ,Q3,a1,a2,a3,a4⟩:=h
  exact p pins s σ H Q I (r σ H Q ρ μ Q3 a1 a2 a3 a4)
 have he' : ∀ C fp s₀ H₀ pn,PE (xj0 X NN scope cl o C fp s₀ H₀ pn) elt eU:=λ C fp s₀ H₀ pn=>by
  obtain ⟨tv,p,r⟩:=he C fp s₀ H₀ pn
  intro pins s σ H Q I h
  obtain ⟨ρ,μ,Q3,a1,a2,a3,a4⟩:=h
  exact p pins s σ H Q I (r σ H Q ρ μ Q3 a1 a2 a3 a4)
 have rd : RdE X.K (wn3 js wi gU tU eU) (comp3 js ti g tc te):=RdE.comp ri (λ v d σ H Q ρ μ Q3 a1 a2 a3 a4 a5 _ _=>⟨d,ρ,μ,Q3,a1,a2,a3,a4,a5⟩) (λ σ H Q ρ μ Q3 a1 a2 a3 a4=>⟨ρ,μ,Q3,a1,a2,a3,a4⟩) (λ σ H Q ρ μ Q3 a1 a2 a3 a4=>⟨ρ,μ,Q3,a1,a2,a3,a4⟩)
 exact ⟨_,zs4 hN hi' hl hc S pi hg' ht' he' hs hw,λ σ H D ρ μ D3 s m h k=>rd σ H _ ρ μ _ s m h λ d μ1 v H1 h1 k1 r1 m1=>k.nx _ _ _ _ h1 k1 ((s.mono k1).set i r1) m1⟩
end
section
variable {X : Cx} {elt target iter : Expr} {ifs : List Expr} {pos : Pos} {ti : TI3} {g : TG3} {tc : TT3} {te : TE3} {NN : List Str} {scope : Scope}
end
theorem zi2 {env : Env} {x : Str} : ∀ {names : List (Str × NameKind)},names.lookup x = some .cell -> (names.map λ (n,k)=>if (k == NameKind.free && env.scope.kind == .function && env.kindOf n == some .cell) then (n,NameKind.cell) else (n,k)).lookup x = some .cell
 | [],h=>by simp at h
 | (n,k) :: r,h=>by
  rw [List.lookup_cons] at h
  rw [List.map_cons,List.lookup_cons]
  by_cases e : x = n
  ·subst e
   simp only [beq_self_eq_true,Option.some.injEq] at h
   subst h
   have : (NameKind.cell == NameKind.free) = false:=rfl
   simp [this]
  ·have e' : (x == n) = false:=by simpa using e
   rw [e'] at h
   have ih:=zi2 (env:=env) (names:=r) h
   by_cases hq : (k == NameKind.free && env.scope.kind == ScopeKind.function && env.kindOf n == some NameKind.cell) = true
   ·simp only [hq,if_true,e']; exact ih
   ·simp only [hq,Bool.false_eq_true,if_false,e']; exact ih
theorem CompSO.free {X : Cx} {NN : List Str} {scope : Scope} {o : Str} {js : List (Option Nat)} (hone : ∀ y ∈ scope.names,y.2 = .cell -> y.1 = o) (cf : ∀ n acc,cellsFrom n scope.names acc = (o,n) :: acc) (pc : ∀ h,pushCells h scope.names = h.push { cls:=.type "cell",data:=.cell none }) (hk : scope.kind = .function) (hfn : X.env.scope.kind = .function)
    (hn : ∀ y ∈ scope.names,y.2 = .local -> scope.names.lookup y.1 = some .local) (hfree : ∀ y ∈ scope.names,y.2 = .free -> X.env.scope.names.lookup y.1 = some .cell) (hlook : ∀ y ∈ scope.names,y.2 = .free -> scope.names.lookup y.1 = some .free)
    (hcl : ∀ x,X.env.scope.names.lookup x = some .cell -> (X.env.cells.lookup x).isSome = true) (len : js.length = NN.length)
    (hout : ∀ i ∈ List.range js.length,∀ j,js.getD i none = some j -> ∃ x,NN[i]? = some x /\ x ≠ o /\ X.N[j]? = some x /\ scope.names.lookup x = some .free) :
    CompSO X NN scope (zf1 X.env.cells scope.names []) o js where
 clos:=xj1 λ y hy e=>hcl _ (hfree y hy e)
 cf:=cf
 pc:=pc
 kind:=hk
 names:=hn
 sub:=λ x c h=>yj1 scope.names [] (λ y hy e=>hcl _ (hfree y hy e)) (λ h=>by simp at h) h
 has:=λ x h=>by
  have key : ∀ kk,(relabel scope X.env).names.lookup x = some kk -> (kk = .cell \/ kk = .free) -> ∃ k,(x,k) ∈ scope.names /\ (k = .free \/ k = .cell):=λ kk hkk hc=>by
   have hmem:=zo0 hkk
   obtain ⟨⟨n,k⟩,hy,e⟩:=List.mem_map.mp hmem
   dsimp only at e
   split at e
   ·next hq =>
    cases e
    simp only [Bool.and_eq_true] at hq
    exact ⟨k,hy,.inl (by simpa using hq.1.1)⟩
   ·cases e
    exact ⟨kk,hy,hc.symm⟩
  have hm : ∃ k,(x,k) ∈ scope.names /\ (k = .free \/ k = .cell):=by
   rcases h with h | h
   ·exact key _ h (.inl rfl)
   ·exact key _ h (.inr rfl)
  obtain ⟨k,hk1,hk2⟩:=hm
  rcases hk2 with rfl | rfl
  ·exact .inr (zj1 scope.names [] (.inr hk1))
  ·exact .inl (hone _ hk1 rfl)
 len:=len
 out:=λ i j h=>by
  have hi : i < js.length:=by
   rcases Nat.lt_or_ge i js.length with z | z
   ·exact z
   ·rw [List.getElem?_eq_none z] at h; cases h
  obtain ⟨x,e1,e0,e2,e3⟩:=hout i (List.mem_range.mpr hi) j (by rw [List.getD_eq_getElem?_getD,h]; rfl)
  have hf:=hfree (x,.free) (zo0 e3) rfl
  refine ⟨x,e1,e0,e2,.inr (.inl hf),by rw [hf]; simp,?_⟩
  left
  have key : ∀ (l : List (Str × NameKind)),l.lookup x = some .free -> (l.map λ (n,k)=>if (k == NameKind.free && X.env.scope.kind == .function && X.env.kindOf n == some .cell) then (n,NameKind.cell) else (n,k)).lookup x = some .cell:=λ l=>by
   induction l with
   | nil=>intro h; simp at h
   | cons y r ih =>
    obtain ⟨n,k⟩:=y
    intro h
    rw [List.lookup_cons] at h
    rw [List.map_cons,List.lookup_cons]
    by_cases e : x = n
    ·subst e
     simp only [beq_self_eq_true,Option.some.injEq] at h
     subst h
     have hkind : (X.env.kindOf x == some NameKind.cell) = true:=by
      show (X.env.scope.names.lookup x == some NameKind.cell) = true
      rw [hf]; rfl
     simp [hfn,hkind]
    ·have e' : (x == n) = false:=by simpa using e
     rw [e'] at h
     have ih':=ih h
     by_cases hq : (k == NameKind.free && X.env.scope.kind == ScopeKind.function && X.env.kindOf n == some NameKind.cell) = true
     ·simp only [hq,if_true,e']; exact ih'
     ·simp only [hq,Bool.false_eq_true,if_false,e']; exact ih'
  exact key _ e3
theorem wo1 {CX : CXT} {P : Program} {w : World} {K : Fg} {mg : Str -> Option Value} {base : Heap} {N : List Str} {qual : Str} {sc : Scope} {f : Addr} {cdv : Value} {A : Around} {outer : List Env} {s : Shared} {H : Hp} {E : XK} {NN : List Str} {scope : Scope} {o : Str} {js : List (Option Nat)}
    (hone : ∀ y ∈ scope.names,y.2 = .cell -> y.1 = o:=by decide +kernel) (cf : ∀ n acc,cellsFrom n scope.names acc = (o,n) :: acc:=by intro _ _; rfl) (pc : ∀ h,pushCells h scope.names = h.push { cls:=.type "cell",data:=.cell none }:=by intro _; rfl) (hk : scope.kind = .function:=by rfl) (hfn : sc.kind = .function:=by rfl)
    (hn : ∀ y ∈ scope.names,y.2 = .local -> scope.names.lookup y.1 = some .local:=by decide +kernel) (hfree : ∀ y ∈ scope.names,y.2 = .free -> sc.names.lookup y.1 = some .cell:=by decide +kernel)
    (hlook : ∀ y ∈ scope.names,y.2 = .free -> scope.names.lookup y.1 = some .free:=by decide +kernel) (len : js.length = NN.length:=by rfl)
    (hout : ∀ i ∈ List.range js.length,∀ j ∈ (js.getD i none).toList,∃ x ∈ NN[i]?.toList,x ≠ o /\ N[j]? = some x /\ scope.names.lookup x = some .free:=by decide +kernel) :
    CompSO (cxOf CX P w K mg base N qual sc f cdv A outer s H E).nox NN scope (zf1 (cxOf CX P w K mg base N qual sc f cdv A outer s H E).nox.env.cells scope.names []) o js :=
 CompSO.free (X:=(cxOf CX P w K mg base N qual sc f cdv A outer s H E).nox) hone cf pc hk hfn hn hfree hlook (λ x h=>by
  obtain ⟨c,hc⟩:=xp1 (n:=_) h
  exact Option.isSome_iff_exists.mpr ⟨c,hc⟩) len λ i hi j hj=>by
   obtain ⟨x,h1,h0,h2,h3⟩:=hout i hi j (by rw [hj]; simp)
   exact ⟨x,by simpa using h1,h0,h2,h3⟩
theorem xz2 {X : Cx} {NNo NN : List Str} {scopeO scope : Scope} {cl : List (Str × Addr)} {o : Str} {C : Addr} {fp : List Addr} {s₀ : Shared} {H₀ : Hp} {pn : List (Addr × Obj)} {js0 js : List (Option Nat)} (S : CompSO X NNo scopeO cl o js0)
    (hcell : ∀ y ∈ scope.names,y.2 ≠ .cell:=by decide +kernel) (hk : scope.kind = .function:=by rfl) (hkO : scopeO.kind = .function:=by rfl)
    (hn : ∀ y ∈ scope.names,y.2 = .local -> scope.names.lookup y.1 = some .local:=by decide +kernel) (hfree : ∀ y ∈ scope.names,y.2 = .free -> scopeO.names.lookup y.1 = some .cell:=by decide +kernel)
    (hlook : ∀ y ∈ scope.names,y.2 = .free -> scope.names.lookup y.1 = some .free:=by decide +kernel) (len : js.length = NN.length:=by rfl)
    (hout : ∀ i ∈ List.range js.length,∀ j ∈ (js.getD i none).toList,∃ x ∈ NN[i]?.toList,NNo[j]? = some x /\ scope.names.lookup x = some .free:=by decide +kernel) :
    CompSc (xj0 X NNo scopeO cl o C fp s₀ H₀ pn) NN scope (zf1 (xj0 X NNo scopeO cl o C fp s₀ H₀ pn).env.cells scope.names []) js :=
 CompSc.free (X:=xj0 X NNo scopeO cl o C fp s₀ H₀ pn) hcell hk hkO hn (λ y hy e=>zi2 (hfree y hy e)) hlook (λ x h=>by
  rcases S.has x (.inl h) with rfl | ⟨c,hc⟩
  ·show (((x,C + 1) :: cl).lookup x).isSome = true
   rw [own_at]; rfl
  ·show (((o,C + 1) :: cl).lookup x).isSome = true
   by_cases e : x = o
   ·subst e; rw [own_at]; rfl
   ·rw [zw3 e,hc]; rfl) len λ i hi j hj=>by
   obtain ⟨x,h1,h2,h3⟩:=hout i hi j (by rw [hj]; simp)
   exact ⟨x,by simpa using h1,h2,h3⟩
end Pv
namespace Pv
open PySem PySem.Spec PyProof.Rows L2
noncomputable def fdvR : R3:=int2 xg8 λ i j=>.int (i.fdiv j)
theorem zo7 {X : Cx} : RO X (binaryOp .FloorDiv) fdvR:=⟨_,yu4,RdO.i2 λ _ _ _=>.int _⟩
end Pv
namespace Pv
open PySem PySem.Spec PyProof.Rows L2 PySem.Calls
section
variable {X : Cx}
noncomputable def cntR : D -> List D -> Mu -> VK3 -> Prop:=λ x xs μ Q=>match xs with
 | [y]=>match datM μ x,datM μ y with
  | some (.list ps),some q=>((PyData.list ps).depth <= 64 /\ q.depth <= 64) /\ Q (.int ((ps.countP λ e=>PyData.eqv e q : Nat) : Int)) μ
  | _,_=>False
 | _=>False
noncomputable def rCnt (K : Fg) : V -> List V -> Hp -> VK -> Prop:=λ x vs H Q=>∃ d e y μ ps q,vs = [y] /\ RelM K μ H /\ RelD K H d x /\ RelD K H e y /\ datM μ d = some (.list ps) /\ datM μ e = some q /\ (PyData.list ps).depth <= 64 /\ q.depth <= 64 /\ Q (.int ((ps.countP λ e=>PyData.eqv e q : Nat) : Int)) H
theorem yv4 (hu : X.A.units + 65 < cLine) : MtR X "list.count" (rCnt X.K):=by
 intro pins s σ H x vs v us Q I rx rv h
 obtain ⟨d,e,y,μ,ps,q,rfl,m,rd,re,e1,e2,h1,h2,k⟩:=h
 cases rv with
 | cons ru rc =>
 cases rc
 rename_i u
 obtain ⟨as,q1⟩:=zk0 I m rd e1 rx
 obtain ⟨bs,q2⟩:=zk0 I m re e2 ru
 have cl:=PySem.SeqAt.canLay_of_shaped (zg0 e1 h1)
 have cq:=PySem.SeqAt.canLay_of_shaped (zg0 e2 h2)
 simp only [PyData.canLay0] at cl
 cases q1 with
 | list ho hc hd ra =>
  rename_i a o its n as'
  obtain ⟨oc,od,oda,osl⟩:=o
  dsimp only at hc hd
  subst hc hd
  have hm : X.A.units + 1 + min (PyData.depthAll ps) q.depth < cLine:=by
   have : min (PyData.depthAll ps) q.depth <= q.depth:=Nat.min_le_right _ _
   omega
  have cc : List.countP (λ y=>(PySem.SeqAt.readOf s.heap y).eqv q) its.toList = ps.countP λ e=>e.eqv q:=by
   have z:=PySem.SeqAt.readsAll_map ps its.toList as' cl ra
   rw [<- z,List.countP_map]
   rfl
  refine call_meets F.slot_list_count ⟨_,ho,rfl⟩ F.entry_list_count (F.args_list_count_2 _ _) (PySem.SeqAt.list_countAt a its n od osl u λ y=>(PySem.SeqAt.readOf s.heap y).eqv q) ⟨ho,PySem.SeqAt.items_eqAt ra q2 cl cq hm,?_⟩
  rw [cc]
  exact ⟨.int _,H,I.kept (t':=s.toks + 1) λ b ob q=>q,⟨_,rfl⟩,k⟩
variable {o e : Expr} {es : List Expr} {to : TE3} {t : TA3} {apos cpos : Pos}
theorem wv2 (hu : X.A.units + 65 < cLine) (ho : RE X o to) (ha : RA X (e :: es) t) (hbase : attributeBase o "count" X.env (eval o X.env) = eval o X.env:=by rfl)
    (hfew : ((backTo cpos (starEach (e :: es) X.env)).all (λ x=>!x.1) && (backToKw cpos (keywordEach [] X.env)).all (λ x=>x.1.isSome)
     && decide ((e :: es).length + ([] : List Keyword).length + (if ([] : List Keyword).isEmpty then 0 else 1) < 30)) = true:=by rfl)
    (hline : (apos.endLine == cpos.line) = true:=by rfl) (hs : starEach (e :: es) X.env = (false,eval e X.env) :: starEach es X.env:=by rfl) (hplain : (backTo cpos (starEach es X.env)).any (·.1) = false:=by rfl) :
    RE X (.Call (.Attribute o "count" apos) (e :: es) [] cpos) (mt3 cntR to t):=by
 refine wu5 PySem.F.slot_list_count PySem.F.type_list_count (yv4 hu) (λ p xs v vs H Q μ Q3 m rp rx h k=>?_) ho ha hbase hfew hline hs hplain
 cases rx with
 | nil=>exact False.elim h
 | cons r1 r2 =>
  cases r2 with
  | cons _ _=>exact False.elim h
  | nil =>
   rename_i y u
   dsimp only [cntR] at h
   split at h
   ·next ps q e1 e2=>exact ⟨.ref p,y,u,μ,ps,q,rfl,m,rp,r1,e1,e2,h.1.1,h.1.2,k _ _ _ _ h.2 (Kp.refl _) (.int _) m⟩
   ·exact h.elim
end
section
variable {X : Cx} {e : Expr} {p pos : Pos}
end
end Pv
namespace Pv
open PySem PySem.Spec PyProof.Rows L2 PySem.Calls
open PySem.AutoSeq1 (wpAny_loadPart')
section
variable {X : Cx}
variable {o e : Expr} {es : List Expr} {to : TE3} {t : TA3} {apos cpos : Pos}
end
section
variable {X : Cx} {x : Str} {C : Addr} {p pos : Pos}
end
section
variable {X : Cx}
theorem xv2 {a b c : Expr} {ta tb tc : TE3} {op op' : CmpOp} {r r' : R3} {pos : Pos} (ho : RO X (compareOp op) r) (ho' : RO X (compareOp op') r') (ha : RE X a ta) (hb : RE X b tb) (hc : RE X c tc)
    (hm : lastMarks [op,op'] [b,c] = false:=by with_unfolding_all rfl) : RT X (.Compare a [op,op'] [b,c] pos) (b3 (ch3 r r' ta tb tc)):=by
 obtain ⟨o,po,ro⟩:=ho
 obtain ⟨o',po',ro'⟩:=ho'
 obtain ⟨va,pa,ra⟩:=ha
 obtain ⟨vb,pb,rb⟩:=hb
 obtain ⟨vc,pc,rc⟩:=hc
 refine ⟨_,xs4 po po' pa pb pc hm,RdT.test λ σ H Q ρ μ Q3 s m h k=>ra σ H _ ρ μ _ s m h λ x μ1 v H1 h1 k1 r1 m1=>rb σ H1 _ ρ μ1 _ (s.mono k1) m1 h1 λ y μ2 u H2 h2 k2 r2 m2 =>
  ro x y v u H2 _ μ2 _ m2 (r1.mono k2) r2 h2 λ d μ3 z H3 h3 k3 r3 m3=>?_⟩
 cases r3 with
 | bl e =>
  cases e with
  | false=>exact ⟨false,rfl,k _ _ _ _ h3 (k1.trans (k2.trans k3)) (.bl _) m3⟩
  | true =>
   refine ⟨true,rfl,?_⟩
   show vc σ H3 _
   exact rc σ H3 _ ρ μ3 _ (((s.mono k1).mono k2).mono k3) m3 h3 λ w μ4 x4 H4 h4 k4 r4 m4=>ro' y w u x4 H4 Q μ4 Q3 m4 (r2.mono (k3.trans k4)) r4 h4 (k.after (k1.trans (k2.trans (k3.trans k4))))
 | _=>exact False.elim h3
end
end Pv
namespace Mw
noncomputable abbrev Pen:=Int × Int × Int
noncomputable def cs (h : Int) : Int:=if h = 0 then 1 else if h = 2 then -1 else 0
noncomputable def sn (h : Int) : Int:=if h = 1 then 1 else if h = 3 then -1 else 0
noncomputable def led (p q : Pen) : Pen:=(p.1 + q.1 * cs p.2.2 - q.2.1 * sn p.2.2,p.2.1 + q.1 * sn p.2.2 + q.2.1 * cs p.2.2,(p.2.2 + q.2.2) % 4)
noncomputable def st : Pen:=(0,0,0)
noncomputable def Hd (p : Pen) : Prop:=p.2.2 = 0 \/ p.2.2 = 1 \/ p.2.2 = 2 \/ p.2.2 = 3
theorem wi1 : Hd st:=.inl rfl
theorem yn0 (p q : Pen) : Hd (led p q):=by
 unfold Hd led
 have h1:=Int.emod_nonneg (p.2.2 + q.2.2) (show (4 : Int) ≠ 0 by decide)
 have h2:=Int.emod_lt_of_pos (p.2.2 + q.2.2) (show (0 : Int) < 4 by decide)
 dsimp only
 omega
theorem wy0 {p : Pen} (h : Hd p) : led p st = p:=by
 obtain ⟨x,y,k⟩:=p
 unfold Hd at h
 dsimp only at h
 rcases h with rfl | rfl | rfl | rfl <;> simp [led,st,cs,sn]
theorem yq1 {p : Pen} (h : Hd p) : led st p = p:=by
 obtain ⟨x,y,k⟩:=p
 unfold Hd at h
 dsimp only at h
 rcases h with rfl | rfl | rfl | rfl <;> simp [led,st,cs,sn]
theorem ye8 {a b : Int} (h : a = 0 \/ a = 1 \/ a = 2 \/ a = 3) (h' : b = 0 \/ b = 1 \/ b = 2 \/ b = 3) : cs ((a + b) % 4) = cs a * cs b - sn a * sn b:=by
 rcases h with rfl | rfl | rfl | rfl <;> rcases h' with rfl | rfl | rfl | rfl <;> rfl
theorem wt6 {a b : Int} (h : a = 0 \/ a = 1 \/ a = 2 \/ a = 3) (h' : b = 0 \/ b = 1 \/ b = 2 \/ b = 3) : sn ((a + b) % 4) = sn a * cs b + cs a * sn b:=by
 rcases h with rfl | rfl | rfl | rfl <;> rcases h' with rfl | rfl | rfl | rfl <;> rfl
theorem xz0 {p q : Pen} (r : Pen) (h : Hd p) (h' : Hd q) : led (led p q) r = led p (led q r):=by
 have e1:=ye8 h h'
 have e2:=wt6 h h'
 have e3 : ∀ a b c : Int,((a + b) % 4 + c) % 4 = (a + (b + c) % 4) % 4:=λ a b c=>by rw [Int.emod_add_emod,Int.add_emod_emod,Int.add_assoc]
 refine Prod.ext ?_ (Prod.ext ?_ (e3 _ _ _))
 ·show p.1 + q.1 * cs p.2.2 - q.2.1 * sn p.2.2 + r.1 * cs ((p.2.2 + q.2.2) % 4) - r.2.1 * sn ((p.2.2 + q.2.2) % 4) = p.1 + (q.1 + r.1 * cs q.2.2 - r.2.1 * sn q.2.2) * cs p.2.2 - (q.2.1 + r.1 * sn q.2.2 + r.2.1 * cs q.2.2) * sn p.2.2
  rw [e1,e2]
  grind
 ·show p.2.1 + q.1 * sn p.2.2 + q.2.1 * cs p.2.2 + r.1 * sn ((p.2.2 + q.2.2) % 4) + r.2.1 * cs ((p.2.2 + q.2.2) % 4) = p.2.1 + (q.1 + r.1 * cs q.2.2 - r.2.1 * sn q.2.2) * sn p.2.2 + (q.2.1 + r.1 * sn q.2.2 + r.2.1 * cs q.2.2) * cs p.2.2
  rw [e1,e2]
  grind
noncomputable def pw (p : Pen) : Nat -> Pen
 | 0=>st
 | n + 1=>led (pw p n) p
theorem yn1 (p : Pen) : ∀ n,Hd (pw p n)
 | 0=>wi1
 | n + 1=>yn0 _ _
theorem zt3 {p : Pen} (h : Hd p) (m : Nat) : ∀ n,pw p (m + n) = led (pw p m) (pw p n)
 | 0=>(wy0 (yn1 p m)).symm
 | n + 1=>by
  show led (pw p (m + n)) p = led (pw p m) (led (pw p n) p)
  rw [zt3 h m n,xz0 p (yn1 p m) (yn1 p n)]
theorem wh5 {p : Pen} (h : Hd p) (m : Nat) : ∀ n,pw p (m * n) = pw (pw p m) n
 | 0=>rfl
 | n + 1=>by
  rw [Nat.mul_succ,zt3 h,wh5 h m n]
  rfl
theorem xw5 {p : Pen} (h : Hd p) (h0 : p.2.2 ≠ 0) : pw p 4 = st:=by
 obtain ⟨x,y,k⟩:=p
 unfold Hd at h
 dsimp only at h h0
 rcases h with rfl | rfl | rfl | rfl
 ·exact absurd rfl h0
 all_goals (simp [pw,led,st,cs,sn] <;> omega)
theorem wk1 {p : Pen} (h0 : p.2.2 = 0) : ∀ n : Nat,pw p n = (p.1 * n,p.2.1 * n,0)
 | 0=>by simp [pw,st]
 | n + 1=>by
  show led (pw p n) p = _
  rw [wk1 h0 n]
  obtain ⟨x,y,k⟩:=p
  dsimp only at h0
  subst h0
  simp [led,cs,sn,Int.mul_add]
noncomputable def rep (p : Pen) (n : Int) : Pen:=if p.2.2 = 0 then (p.1 * n,p.2.1 * n,0) else pw p (n % 4).toNat
theorem yt3 {p : Pen} (h : Hd p) (h0 : p.2.2 ≠ 0) (n : Nat) : pw p n = pw p (n % 4):=by
 have e : n = 4 * (n / 4) + n % 4:=by omega
 have z : ∀ k,pw st k = st:=λ k=>by
  induction k with
  | zero=>rfl
  | succ k ih=>show led (pw st k) st = st; rw [ih]; exact wy0 wi1
 conv=>lhs; rw [e]
 rw [zt3 h,wh5 h,xw5 h h0,z,yq1 (yn1 _ _)]
theorem yr1 {p : Pen} (h : Hd p) {n : Int} (hn : 0 <= n) : rep p n = pw p n.toNat:=by
 unfold rep
 by_cases h0 : p.2.2 = 0
 ·rw [if_pos h0,wk1 h0,Int.toNat_of_nonneg hn]
 ·rw [if_neg h0,yt3 h h0 n.toNat]
  congr 1
  omega
theorem xk5 {p : Pen} (h : Hd p) {n : Int} (hn : 0 <= n) : Hd (rep p n):=by rw [yr1 h hn]; exact yn1 _ _
inductive Dd where
 | go (n : Int) | jump (n : Int) | turn (n : Int) | times (n : Int) (w : List Dd)
mutual
noncomputable def cnt : Dd -> Nat
 | .times _ w=>1 + cnts w
 | _=>1
noncomputable def cnts : List Dd -> Nat
 | []=>0
 | d :: r=>cnt d + cnts r
end
mutual
noncomputable def dep : Dd -> Nat
 | .times _ w=>1 + deps w
 | _=>0
noncomputable def deps : List Dd -> Nat
 | []=>0
 | d :: r=>max (dep d) (deps r)
end
noncomputable def G : Int:=99999999999999999999
mutual
noncomputable def okd : Dd -> Prop
 | .go n=>0 <= n /\ n <= G
 | .jump n=>-G <= n /\ n <= G
 | .turn n=>-G <= n /\ n <= G
 | .times n w=>(0 <= n /\ n <= G) /\ oks w
noncomputable def oks : List Dd -> Prop
 | []=>True
 | d :: r=>okd d /\ oks r
end
mutual
noncomputable def sk : Dd -> Int
 | .go n=>n
 | .times n w=>n * sks w
 | _=>0
noncomputable def sks : List Dd -> Int
 | []=>0
 | d :: r=>sk d + sks r
end
mutual
noncomputable def pd : Dd -> Pen
 | .go n=>(n,0,0)
 | .jump n=>(n,0,0)
 | .turn n=>(0,0,n % 4)
 | .times n w=>rep (pb w) n
noncomputable def pb : List Dd -> Pen
 | []=>st
 | d :: r=>led (pd d) (pb r)
end
theorem yf1 : ∀ a b,cnts (a ++ b) = cnts a + cnts b
 | [],b=>by simp [cnts]
 | d :: r,b=>by simp only [List.cons_append,cnts,yf1 r b]; omega
theorem ys0 : ∀ a b,deps (a ++ b) = max (deps a) (deps b)
 | [],b=>by simp [deps]
 | d :: r,b=>by simp only [List.cons_append,deps,ys0 r b,Nat.max_assoc]
theorem wl0 : ∀ a b,oks (a ++ b) ↔ oks a /\ oks b
 | [],b=>by simp [oks]
 | d :: r,b=>by simp only [List.cons_append,oks,wl0 r b,and_assoc]
mutual
theorem zn1 : ∀ d,okd d -> Hd (pd d)
 | .go n,_=>.inl rfl
 | .jump n,_=>.inl rfl
 | .turn n,_=>by
  unfold Hd pd
  have h1:=Int.emod_nonneg n (show (4 : Int) ≠ 0 by decide)
  have h2:=Int.emod_lt_of_pos n (show (0 : Int) < 4 by decide)
  dsimp only
  omega
 | .times n w,h=>by
  simp only [pd]
  simp only [okd] at h
  exact xk5 (wj0 w) h.1.1
theorem wj0 : ∀ w,Hd (pb w)
 | []=>by simp only [pb]; exact wi1
 | d :: r=>by simp only [pb]; exact yn0 _ _
end
theorem zv0 : ∀ a b,oks a -> pb (a ++ b) = led (pb a) (pb b)
 | [],b,_=>by simp only [List.nil_append,pb]; exact (yq1 (wj0 b)).symm
 | d :: r,b,h=>by
  simp only [oks] at h
  simp only [List.cons_append,pb]
  rw [zv0 r b h.2,xz0 _ (zn1 d h.1) (wj0 r)]
theorem zv8 : (0 : Int) < G:=by decide
theorem yn6 (e : Nat) : (0 : Int) <= G ^ e:=Int.pow_nonneg (Int.le_of_lt zv8)
theorem xn6 (e : Nat) : G ^ e <= G ^ (e + 1):=by
 rw [Int.pow_succ]
 have h:=yn6 e
 have h1 : (1 : Int) <= G:=by decide
 calc G ^ e = G ^ e * 1:=(Int.mul_one _).symm
  _ <= G ^ e * G:=Int.mul_le_mul_of_nonneg_left h1 h
theorem zl4 {a b : Nat} (h : a <= b) : G ^ a <= G ^ b:=by
 induction b with
 | zero =>
  have : a = 0:=by omega
  subst this; exact Int.le_refl _
 | succ b ih =>
  by_cases hab : a = b + 1
  ·subst hab; exact Int.le_refl _
  ·exact Int.le_trans (ih (by omega)) (xn6 b)
noncomputable def bd (c e : Nat) : Int:=(c : Int) * G ^ (e + 1)
theorem yf8 {c e : Nat} (h : 1 <= c) : G <= bd c e:=by
 unfold bd
 have h1 : (1 : Int) * G ^ 1 <= (c : Int) * G ^ (e + 1):=Int.le_trans (Int.mul_le_mul_of_nonneg_right (by omega) (yn6 1)) (Int.mul_le_mul_of_nonneg_left (zl4 (by omega)) (by omega))
 have h2 : (1 : Int) * G ^ 1 = G:=by rw [Int.one_mul,Int.pow_succ,Int.pow_zero,Int.one_mul]
 omega
theorem wi6 {c c' e e' : Nat} (hc : c <= c') (he : e <= e') : bd c e <= bd c' e' :=
 Int.le_trans (Int.mul_le_mul_of_nonneg_right (by omega) (yn6 _)) (Int.mul_le_mul_of_nonneg_left (zl4 (by omega)) (by omega))
theorem zf8 : bd 100 10 < 2 ^ 1000:=by decide +kernel
theorem wc6 {x : Int} {c e : Nat} (h0 : 0 <= x) (h : x <= bd c e) (hc : c <= 100) (he : e <= 10) : x.natAbs < 2 ^ 1000:=by
 have h1:=Int.le_trans h (wi6 hc he)
 have h2:=zf8
 have h3 : ((x.natAbs : Nat) : Int) < ((2 ^ 1000 : Nat) : Int):=by
  rw [Int.natAbs_of_nonneg h0]
  exact Int.lt_of_le_of_lt h1 (by rw [Int.natCast_pow]; exact h2)
 exact Int.ofNat_lt.mp h3
end Mw
namespace Mw
noncomputable def ab (x : Int) : Int:=if x < 0 then -x else x
noncomputable def pm (p : Pen) : Int:=max (ab p.1) (ab p.2.1)
theorem xs1 {p : Pen} {b : Int} : pm p <= b ↔ (-b <= p.1 /\ p.1 <= b) /\ (-b <= p.2.1 /\ p.2.1 <= b):=by
 unfold pm ab
 split <;> split <;> omega
theorem zr8 (p : Pen) : 0 <= pm p:=by unfold pm ab; split <;> split <;> omega
theorem xu3 {p q : Pen} (h : Hd p) {a b : Int} (ha : pm p <= a) (hb : pm q <= b) : pm (led p q) <= a + b:=by
 rw [xs1] at ha hb ⊢
 obtain ⟨x,y,k⟩:=p
 obtain ⟨x',y',k'⟩:=q
 unfold Hd at h
 dsimp only at h ha hb
 rcases h with rfl | rfl | rfl | rfl <;> simp [led,cs,sn] <;> omega
theorem yy5 {p : Pen} {b : Int} (hb : pm p <= b) : ∀ n : Nat,pm (pw p n) <= n * b
 | 0=>by simp [pw,st,pm,ab]
 | n + 1=>by
  have:=xu3 (yn1 p n) (yy5 hb n) hb
  show pm (led (pw p n) p) <= _
  rw [Int.natCast_add,Int.add_mul]
  omega
theorem yr7 {p : Pen} (h : Hd p) {n b : Int} (hn : 0 <= n) (hb : pm p <= b) : pm (rep p n) <= (n + 3) * b:=by
 have h0:=Int.le_trans (zr8 p) hb
 unfold rep
 split
 ·rw [xs1] at hb ⊢
  dsimp only
  have e : (n + 3) * b = n * b + 3 * b:=Int.add_mul ..
  have a1 : p.1 * n <= b * n:=Int.mul_le_mul_of_nonneg_right hb.1.2 hn
  have a2 : -b * n <= p.1 * n:=Int.mul_le_mul_of_nonneg_right hb.1.1 hn
  have a3 : p.2.1 * n <= b * n:=Int.mul_le_mul_of_nonneg_right hb.2.2 hn
  have a4 : -b * n <= p.2.1 * n:=Int.mul_le_mul_of_nonneg_right hb.2.1 hn
  have e2 : b * n = n * b:=Int.mul_comm ..
  have e3 : -b * n = -(b * n):=Int.neg_mul ..
  omega
 ·have h1:=yy5 hb (n % 4).toNat
  have h2 : (((n % 4).toNat : Nat) : Int) * b <= (n + 3) * b:=Int.mul_le_mul_of_nonneg_right (by omega) h0
  omega
noncomputable def G2 : Int:=200000000000000000000
noncomputable def pbd (c e : Nat) : Int:=(c : Int) * G2 ^ (e + 1)
theorem wl4 (e : Nat) : (0 : Int) <= G2 ^ e:=Int.pow_nonneg (by decide)
theorem xh5 {a b : Nat} (h : a <= b) : G2 ^ a <= G2 ^ b:=by
 induction b with
 | zero =>
  have : a = 0:=by omega
  subst this; exact Int.le_refl _
 | succ b ih =>
  by_cases hab : a = b + 1
  ·subst hab; exact Int.le_refl _
  ·refine Int.le_trans (ih (by omega)) ?_
   rw [Int.pow_succ]
   calc G2 ^ b = G2 ^ b * 1:=(Int.mul_one _).symm
    _ <= G2 ^ b * G2:=Int.mul_le_mul_of_nonneg_left (by decide) (wl4 b)
theorem yw3 (c e : Nat) : 0 <= pbd c e:=Int.mul_nonneg (by omega) (wl4 _)
theorem yo1 {c c' e e' : Nat} (hc : c <= c') (he : e <= e') : pbd c e <= pbd c' e' :=
 Int.le_trans (Int.mul_le_mul_of_nonneg_right (by omega) (wl4 _)) (Int.mul_le_mul_of_nonneg_left (xh5 (by omega)) (by omega))
theorem wa6 {c c' e e' : Nat} : pbd c e + pbd c' e' <= pbd (c + c') (max e e'):=by
 have h1 : pbd c e <= pbd c (max e e'):=yo1 (Nat.le_refl _) (by omega)
 have h2 : pbd c' e' <= pbd c' (max e e'):=yo1 (Nat.le_refl _) (by omega)
 have e3 : pbd (c + c') (max e e') = pbd c (max e e') + pbd c' (max e e'):=by
  unfold pbd
  rw [Int.natCast_add,Int.add_mul]
 omega
theorem xw3 : G <= pbd 1 0:=by decide
mutual
theorem yr8 : ∀ d,okd d -> pm (pd d) <= pbd (cnt d) (dep d)
 | .go n,h=>by
  simp only [okd] at h
  simp only [pd,cnt,dep]
  have:=xw3
  rw [xs1]; dsimp only; omega
 | .jump n,h=>by
  simp only [okd] at h
  simp only [pd,cnt,dep]
  have:=xw3
  rw [xs1]; dsimp only; omega
 | .turn n,h=>by
  simp only [pd,cnt,dep]
  have:=yw3 1 0
  rw [xs1]; dsimp only; omega
 | .times n w,h=>by
  simp only [okd] at h
  simp only [pd,cnt,dep]
  have h1:=yr7 (wj0 w) h.1.1 (yu3 w h.2)
  have h2 : (n + 3) * pbd (cnts w) (deps w) <= G2 * pbd (cnts w) (deps w):=Int.mul_le_mul_of_nonneg_right (by have:=h.1.2; unfold G at this; unfold G2; omega) (yw3 _ _)
  have h3 : G2 * pbd (cnts w) (deps w) = pbd (cnts w) (1 + deps w):=by
   unfold pbd
   rw [Int.mul_left_comm,show 1 + deps w + 1 = (deps w + 1) + 1 by omega,Int.pow_succ G2 (deps w + 1),Int.mul_comm G2]
  have h4 : pbd (cnts w) (1 + deps w) <= pbd (1 + cnts w) (1 + deps w):=yo1 (by omega) (Nat.le_refl _)
  omega
theorem yu3 : ∀ w,oks w -> pm (pb w) <= pbd (cnts w) (deps w)
 | [],h=>by simp only [pb,cnts,deps]; exact Int.le_trans (by decide) (yw3 _ _)
 | d :: r,h=>by
  simp only [oks] at h
  simp only [pb,cnts,deps]
  have:=xu3 (zn1 d h.1) (yr8 d h.1) (yu3 r h.2)
  have:=wa6 (c:=cnt d) (c':=cnts r) (e:=dep d) (e':=deps r)
  omega
end
theorem za6 : pbd 100 8 < 2 ^ 1000:=by decide +kernel
theorem zu3 {p : Pen} {c e : Nat} (h : pm p <= pbd c e) (hc : c <= 100) (he : e <= 8) : p.1.natAbs < 2 ^ 1000 /\ p.2.1.natAbs < 2 ^ 1000:=by
 have h1:=Int.le_trans h (yo1 hc he)
 have h2:=za6
 rw [xs1] at h1
 have key : ∀ x : Int,-(pbd 100 8) <= x -> x <= pbd 100 8 -> x.natAbs < 2 ^ 1000:=λ x a b=>by
  have h3 : ((x.natAbs : Nat) : Int) < ((2 ^ 1000 : Nat) : Int):=by
   have : ((x.natAbs : Nat) : Int) <= pbd 100 8:=by omega
   exact Int.lt_of_le_of_lt this (by rw [Int.natCast_pow]; exact h2)
  exact Int.ofNat_lt.mp h3
 exact ⟨key _ h1.1.1 h1.1.2,key _ h1.2.1 h1.2.2⟩
end Mw
namespace Mw
noncomputable abbrev Stk:=Int × Int × Int
noncomputable def mvS (p : Pen) (s : Stk) : Stk :=
 if p.2.2 = 0 then (p.1 + s.1,p.2.1 + s.2.1,s.2.2)
 else if p.2.2 = 1 then (p.1 - s.2.1 - s.2.2,p.2.1 + s.1,1 - s.2.2)
 else if p.2.2 = 2 then (p.1 - s.1 - (1 - s.2.2),p.2.1 - s.2.1 - s.2.2,s.2.2)
 else (p.1 + s.2.1,p.2.1 - s.1 - (1 - s.2.2),1 - s.2.2)
theorem wx7 (s : Stk) : mvS st s = s:=by
 obtain ⟨x,y,w⟩:=s; simp [mvS,st]
theorem yd6 {p q : Pen} (hp : Hd p) (hq : Hd q) (s : Stk) : mvS (led p q) s = mvS p (mvS q s):=by
 obtain ⟨px,py,ph⟩:=p
 obtain ⟨qx,qy,qh⟩:=q
 obtain ⟨x,y,w⟩:=s
 unfold Hd at hp hq
 dsimp only at hp hq
 rcases hp with rfl | rfl | rfl | rfl <;> rcases hq with rfl | rfl | rfl | rfl <;>
  simp [mvS,led,cs,sn] <;> omega
noncomputable def tms (l : List Stk) (p : Pen) (n : Nat) : List Stk:=(List.range n).flatMap λ k=>l.map (mvS (pw p k))
theorem ys2 (l : List Stk) (p : Pen) : tms l p 0 = []:=rfl
theorem zz1 (l : List Stk) (p : Pen) (n : Nat) : tms l p (n + 1) = tms l p n ++ l.map (mvS (pw p n)):=by
 unfold tms
 rw [List.range_succ,List.flatMap_append]
 simp
mutual
noncomputable def strk : Dd -> List Stk
 | .go n=>(List.range n.toNat).map λ (k : Nat)=>((k : Int),(0 : Int),(0 : Int))
 | .jump _=>[]
 | .turn _=>[]
 | .times n w=>tms (xd0 w) (pb w) n.toNat
noncomputable def xd0 : List Dd -> List Stk
 | []=>[]
 | d :: r=>strk d ++ (xd0 r).map (mvS (pd d))
end
theorem yl0 {p q : Pen} (hp : Hd p) (hq : Hd q) (l : List Stk) : l.map (mvS (led p q)) = (l.map (mvS q)).map (mvS p):=by
 rw [List.map_map]
 apply List.map_congr_left
 intro s _
 exact yd6 hp hq s
theorem wv0 (l : List Stk) : l.map (mvS st) = l:=by
 rw [show mvS st = id from funext wx7,List.map_id]
theorem xk0 : ∀ a b,oks a -> xd0 (a ++ b) = xd0 a ++ (xd0 b).map (mvS (pb a))
 | [],b,_=>by simp only [List.nil_append,xd0,pb,wv0]
 | d :: r,b,h=>by
  simp only [oks] at h
  simp only [List.cons_append,xd0,pb,xk0 r b h.2,List.map_append,List.append_assoc]
  rw [yl0 (zn1 d h.1) (wj0 r)]
mutual
noncomputable def ro : Dd -> List Dd
 | .times n w=>(List.replicate n.toNat (ros w)).flatten
 | .go n=>[.go n]
 | .jump n=>[.jump n]
 | .turn n=>[.turn n]
noncomputable def ros : List Dd -> List Dd
 | []=>[]
 | d :: r=>ro d ++ ros r
end
noncomputable def plain (w : List Dd) : Prop:=∀ d ∈ w,∃ n,d = .go n \/ d = .jump n \/ d = .turn n
theorem yk5 {α : Type} {x : α} {w : List α} : ∀ {k : Nat},x ∈ (List.replicate k w).flatten -> x ∈ w
 | 0,h=>by simp at h
 | k + 1,h=>by
  rw [List.replicate_succ,List.flatten_cons,List.mem_append] at h
  rcases h with h | h
  ·exact h
  ·exact yk5 h
mutual
theorem yq4 : ∀ d,plain (ro d)
 | .go n=>by intro e h; simp only [ro,List.mem_singleton] at h; exact ⟨n,.inl h⟩
 | .jump n=>by intro e h; simp only [ro,List.mem_singleton] at h; exact ⟨n,.inr (.inl h)⟩
 | .turn n=>by intro e h; simp only [ro,List.mem_singleton] at h; exact ⟨n,.inr (.inr h)⟩
 | .times n w=>by intro e h; simp only [ro] at h; exact wq1 w e (yk5 h)
theorem wq1 : ∀ w,plain (ros w)
 | []=>by intro e h; simp [ros] at h
 | d :: r=>by
  intro e h
  simp only [ros,List.mem_append] at h
  rcases h with h | h
  ·exact yq4 d e h
  ·exact wq1 r e h
end
theorem yd4 (w : List Dd) (h : oks w) : ∀ k : Nat,oks (List.replicate k w).flatten /\ pb (List.replicate k w).flatten = pw (pb w) k /\ xd0 (List.replicate k w).flatten = tms (xd0 w) (pb w) k
 | 0=>by simp [oks,pb,pw,xd0,tms]
 | k + 1=>by
  obtain ⟨a1,a2,a3⟩:=yd4 w h k
  have e : (List.replicate (k + 1) w).flatten = (List.replicate k w).flatten ++ w:=by
   rw [List.replicate_succ',List.flatten_append]; simp
  rw [e]
  refine ⟨(wl0 _ _).mpr ⟨a1,h⟩,?_,?_⟩
  ·rw [zv0 _ _ a1,a2]; rfl
  ·rw [xk0 _ _ a1,a2,a3,zz1]
mutual
theorem xm8 : ∀ d,okd d -> oks (ro d) /\ pb (ro d) = pd d /\ xd0 (ro d) = strk d
 | .go n,h=>by
  simp only [ro,oks,pb,xd0,and_true,List.map_nil,List.append_nil]; exact ⟨h,wy0 (zn1 _ h)⟩
 | .jump n,h=>by
  simp only [ro,oks,pb,xd0,and_true,List.map_nil,List.append_nil]; exact ⟨h,wy0 (zn1 _ h)⟩
 | .turn n,h=>by
  simp only [ro,oks,pb,xd0,and_true,List.map_nil,List.append_nil]; exact ⟨h,wy0 (zn1 _ h)⟩
 | .times n w,h=>by
  simp only [okd] at h
  obtain ⟨a1,a2,a3⟩:=xr3 w h.2
  obtain ⟨b1,b2,b3⟩:=yd4 (ros w) a1 n.toNat
  simp only [ro,pd,strk]
  rw [yr1 (wj0 w) h.1.1]
  exact ⟨b1,by rw [b2,a2],by rw [b3,a2,a3]⟩
theorem xr3 : ∀ w,oks w -> oks (ros w) /\ pb (ros w) = pb w /\ xd0 (ros w) = xd0 w
 | [],h=>by simp [ros,oks,xd0]
 | d :: r,h=>by
  simp only [oks] at h
  obtain ⟨a1,a2,a3⟩:=xm8 d h.1
  obtain ⟨b1,b2,b3⟩:=xr3 r h.2
  simp only [ros,pb,xd0]
  refine ⟨(wl0 _ _).mpr ⟨a1,b1⟩,?_,?_⟩
  ·rw [zv0 _ _ a1,a2,b2]
  ·rw [xk0 _ _ a1,a2,a3,b3]
end
noncomputable abbrev Bx:=Int × Int × Int × Int
noncomputable def mn (i j : Int) : Int:=if j < i then j else i
noncomputable def mx (i j : Int) : Int:=if j > i then j else i
theorem xl1 (i j : Int) : mn i j <= i /\ mn i j <= j /\ (mn i j = i \/ mn i j = j):=by unfold mn; split <;> omega
theorem xp2 (i j : Int) : i <= mx i j /\ j <= mx i j /\ (mx i j = i \/ mx i j = j):=by unfold mx; split <;> omega
noncomputable def bor : Option Bx -> Option Bx -> Option Bx
 | none,o=>o
 | some b,none=>some b
 | some a,some b=>some (mn a.1 b.1,mn a.2.1 b.2.1,mx a.2.2.1 b.2.2.1,mx a.2.2.2 b.2.2.2)
noncomputable def bfr (p : Pen) : Option Bx -> Option Bx
 | none=>none
 | some b=>some (mn (led p (b.1,b.2.1,0)).1 (led p (b.2.2.1,b.2.2.2,0)).1,mn (led p (b.1,b.2.1,0)).2.1 (led p (b.2.2.1,b.2.2.2,0)).2.1,
     mx (led p (b.1,b.2.1,0)).1 (led p (b.2.2.1,b.2.2.2,0)).1,mx (led p (b.1,b.2.1,0)).2.1 (led p (b.2.2.1,b.2.2.2,0)).2.1)
noncomputable def Inb (b : Bx) (s : Stk) : Prop:=b.1 <= s.1 /\ b.2.1 <= s.2.1 /\ s.1 + 1 - s.2.2 <= b.2.2.1 /\ s.2.1 + s.2.2 <= b.2.2.2
noncomputable def Tight (l : List Stk) (b : Bx) : Prop:=(∃ s ∈ l,s.1 = b.1) /\ (∃ s ∈ l,s.2.1 = b.2.1) /\ (∃ s ∈ l,s.1 + 1 - s.2.2 = b.2.2.1) /\ ∃ s ∈ l,s.2.1 + s.2.2 = b.2.2.2
noncomputable def IsBox (l : List Stk) : Option Bx -> Prop
 | none=>l = []
 | some b=>(∀ s ∈ l,Inb b s) /\ Tight l b
theorem Tight.mono {l m : List Stk} {b : Bx} (h : Tight l b) (e : ∀ s ∈ l,s ∈ m) : Tight m b:=by
 obtain ⟨⟨s1,h1,e1⟩,⟨s2,h2,e2⟩,⟨s3,h3,e3⟩,⟨s4,h4,e4⟩⟩:=h
 exact ⟨⟨s1,e _ h1,e1⟩,⟨s2,e _ h2,e2⟩,⟨s3,e _ h3,e3⟩,⟨s4,e _ h4,e4⟩⟩
theorem Tight.ne {l : List Stk} {b : Bx} (h : Tight l b) : l ≠ []:=by
 obtain ⟨⟨s,hs,_⟩,_⟩:=h
 intro e; rw [e] at hs; cases hs
theorem IsBox.unique {l : List Stk} {a b : Option Bx} (ha : IsBox l a) (hb : IsBox l b) : a = b:=by
 cases a with
 | none =>
  cases b with
  | none=>rfl
  | some b=>exact absurd ha hb.2.ne
 | some a =>
  cases b with
  | none=>exact absurd hb ha.2.ne
  | some b =>
   obtain ⟨i1,⟨s1,h1,e1⟩,⟨s2,h2,e2⟩,⟨s3,h3,e3⟩,⟨s4,h4,e4⟩⟩:=ha
   obtain ⟨j1,⟨t1,k1,f1⟩,⟨t2,k2,f2⟩,⟨t3,k3,f3⟩,⟨t4,k4,f4⟩⟩:=hb
   obtain ⟨a1,a2,a3,a4⟩:=a
   obtain ⟨b1,b2,b3,b4⟩:=b
   unfold Inb at i1 j1
   dsimp only at *
   have:=i1 _ k1; have:=i1 _ k2; have:=i1 _ k3; have:=i1 _ k4
   have:=j1 _ h1; have:=j1 _ h2; have:=j1 _ h3; have:=j1 _ h4
   have q1 : a1 = b1:=by omega
   have q2 : a2 = b2:=by omega
   have q3 : a3 = b3:=by omega
   have q4 : a4 = b4:=by omega
   subst q1 q2 q3 q4
   rfl
theorem IsBox.congr {l m : List Stk} {o : Option Bx} (h : IsBox l o) (e : ∀ s,s ∈ l ↔ s ∈ m) : IsBox m o:=by
 cases o with
 | none =>
  have h : l = []:=h
  subst h
  exact List.eq_nil_iff_forall_not_mem.mpr λ s hs=>by have:=(e s).mpr hs; cases this
 | some b=>exact ⟨λ s hs=>h.1 s ((e s).mpr hs),h.2.mono λ s hs=>(e s).mp hs⟩
theorem IsBox.or {l m : List Stk} {a b : Option Bx} (ha : IsBox l a) (hb : IsBox m b) : IsBox (l ++ m) (bor a b):=by
 cases a with
 | none =>
  have e : l = []:=ha
  subst e
  exact hb
 | some a =>
  cases b with
  | none =>
   have e : m = []:=hb
   subst e
   rw [List.append_nil]
   exact ha
  | some b =>
   obtain ⟨i1,⟨s1,h1,e1⟩,⟨s2,h2,e2⟩,⟨s3,h3,e3⟩,⟨s4,h4,e4⟩⟩:=ha
   obtain ⟨j1,⟨t1,k1,f1⟩,⟨t2,k2,f2⟩,⟨t3,k3,f3⟩,⟨t4,k4,f4⟩⟩:=hb
   obtain ⟨m1,m2,m3⟩:=xl1 a.1 b.1
   obtain ⟨m4,m5,m6⟩:=xl1 a.2.1 b.2.1
   obtain ⟨m7,m8,m9⟩:=xp2 a.2.2.1 b.2.2.1
   obtain ⟨n1,n2,n3⟩:=xp2 a.2.2.2 b.2.2.2
   refine ⟨λ s hs=>?_,?_,?_,?_,?_⟩
   ·unfold Inb
    dsimp only
    rcases List.mem_append.mp hs with hs | hs
    ·have:=i1 s hs; unfold Inb at this; omega
    ·have:=j1 s hs; unfold Inb at this; omega
   ·rcases m3 with e | e
    ·exact ⟨s1,List.mem_append_left _ h1,by dsimp only; omega⟩
    ·exact ⟨t1,List.mem_append_right _ k1,by dsimp only; omega⟩
   ·rcases m6 with e | e
    ·exact ⟨s2,List.mem_append_left _ h2,by dsimp only; omega⟩
    ·exact ⟨t2,List.mem_append_right _ k2,by dsimp only; omega⟩
   ·rcases m9 with e | e
    ·exact ⟨s3,List.mem_append_left _ h3,by dsimp only; omega⟩
    ·exact ⟨t3,List.mem_append_right _ k3,by dsimp only; omega⟩
   ·rcases n3 with e | e
    ·exact ⟨s4,List.mem_append_left _ h4,by dsimp only; omega⟩
    ·exact ⟨t4,List.mem_append_right _ k4,by dsimp only; omega⟩
noncomputable def wy (s : Stk) : Prop:=s.2.2 = 0 \/ s.2.2 = 1
noncomputable def wys (l : List Stk) : Prop:=∀ s ∈ l,wy s
theorem zn6 (p : Pen) (s : Stk) (h : wy s) : wy (mvS p s):=by
 unfold wy mvS at *
 split
 ·exact h
 ·split
  ·dsimp only; omega
  ·split <;> dsimp only <;> omega
theorem xc1 {p : Pen} {l : List Stk} (h : wys l) : wys (l.map (mvS p)):=by
 intro s hs
 obtain ⟨t,ht,rfl⟩:=List.mem_map.mp hs
 exact zn6 _ _ (h t ht)
theorem wz2 {l m : List Stk} (h : wys l) (k : wys m) : wys (l ++ m):=λ s hs=>(List.mem_append.mp hs).elim (h s) (k s)
theorem ym5 {l : List Stk} {p : Pen} (h : wys l) (n : Nat) : wys (tms l p n):=by
 intro s hs
 obtain ⟨k,_,hk⟩:=List.mem_flatMap.mp hs
 exact xc1 h s hk
mutual
theorem xz1 : ∀ d,wys (strk d)
 | .go n=>by
  intro s hs
  simp only [strk] at hs
  obtain ⟨k,_,rfl⟩:=List.mem_map.mp hs
  exact .inl rfl
 | .jump _=>by intro s hs; simp [strk] at hs
 | .turn _=>by intro s hs; simp [strk] at hs
 | .times n w=>by simp only [strk]; exact ym5 (xi0 w) _
theorem xi0 : ∀ w,wys (xd0 w)
 | []=>by intro s hs; simp [xd0] at hs
 | d :: r=>by simp only [xd0]; exact wz2 (xz1 d) (xc1 (xi0 r))
end
theorem IsBox.fr {l : List Stk} {o : Option Bx} {p : Pen} (hp : Hd p) (hw : wys l) (h : IsBox l o) : IsBox (l.map (mvS p)) (bfr p o):=by
 cases o with
 | none =>
  have e : l = []:=h
  subst e
  rfl
 | some b =>
  obtain ⟨b1,b2,b3,b4⟩:=b
  obtain ⟨i1,⟨s1,h1,e1⟩,⟨s2,h2,e2⟩,⟨s3,h3,e3⟩,⟨s4,h4,e4⟩⟩:=h
  obtain ⟨px,py,ph⟩:=p
  have g1:=i1 _ h1
  have g2:=i1 _ h2
  have g3:=i1 _ h3
  have g4:=i1 _ h4
  have w1:=hw _ h1
  have w2:=hw _ h2
  have w3:=hw _ h3
  have w4:=hw _ h4
  unfold Inb at g1 g2 g3 g4
  unfold wy at w1 w2 w3 w4
  dsimp only at g1 g2 g3 g4 e1 e2 e3 e4
  unfold Hd at hp
  dsimp only at hp
  have mem : ∀ {s},s ∈ l -> ∀ q,mvS q s ∈ l.map (mvS q):=λ hs q=>List.mem_map.mpr ⟨_,hs,rfl⟩
  rcases hp with rfl | rfl | rfl | rfl
  ·refine ⟨λ s hs=>?_,⟨_,mem h1 _,?_⟩,⟨_,mem h2 _,?_⟩,⟨_,mem h3 _,?_⟩,⟨_,mem h4 _,?_⟩⟩
   ·obtain ⟨t,ht,rfl⟩:=List.mem_map.mp hs
    have z1:=i1 t ht; have z2:=hw t ht; unfold Inb at z1 ⊢; unfold wy at z2; clear i1 g1 g2 g3 g4 w1 w2 w3 w4 e1 e2 e3 e4; simp only [mvS,led,cs,sn,mn,mx] at *; simp at *; omega
   all_goals (simp only [mvS,led,cs,sn,mn,mx]; simp; omega)
  ·refine ⟨λ s hs=>?_,⟨_,mem h4 _,?_⟩,⟨_,mem h1 _,?_⟩,⟨_,mem h2 _,?_⟩,⟨_,mem h3 _,?_⟩⟩
   ·obtain ⟨t,ht,rfl⟩:=List.mem_map.mp hs
    have z1:=i1 t ht; have z2:=hw t ht; unfold Inb at z1 ⊢; unfold wy at z2; clear i1 g1 g2 g3 g4 w1 w2 w3 w4 e1 e2 e3 e4; simp only [mvS,led,cs,sn,mn,mx] at *; simp at *; omega
   all_goals (simp only [mvS,led,cs,sn,mn,mx]; simp; omega)
  ·refine ⟨λ s hs=>?_,⟨_,mem h3 _,?_⟩,⟨_,mem h4 _,?_⟩,⟨_,mem h1 _,?_⟩,⟨_,mem h2 _,?_⟩⟩
   ·obtain ⟨t,ht,rfl⟩:=List.mem_map.mp hs
    have z1:=i1 t ht; have z2:=hw t ht; unfold Inb at z1 ⊢; unfold wy at z2; clear i1 g1 g2 g3 g4 w1 w2 w3 w4 e1 e2 e3 e4; simp only [mvS,led,cs,sn,mn,mx] at *; simp at *; omega
   all_goals (simp only [mvS,led,cs,sn,mn,mx]; simp; omega)
  ·refine ⟨λ s hs=>?_,⟨_,mem h2 _,?_⟩,⟨_,mem h3 _,?_⟩,⟨_,mem h4 _,?_⟩,⟨_,mem h1 _,?_⟩⟩
   ·obtain ⟨t,ht,rfl⟩:=List.mem_map.mp hs
    have z1:=i1 t ht; have z2:=hw t ht; unfold Inb at z1 ⊢; unfold wy at z2; clear i1 g1 g2 g3 g4 w1 w2 w3 w4 e1 e2 e3 e4; simp only [mvS,led,cs,sn,mn,mx] at *; simp at *; omega
   all_goals (simp only [mvS,led,cs,sn,mn,mx]; simp; omega)
noncomputable def brs (b : Option Bx) (p : Pen) (o : Option Bx) (ks : List Int) : Option Bx:=ks.foldl (λ w k=>bor w (bfr (rep p k) b)) o
noncomputable def outer (p : Pen) (n : Int) : List Int:=if p.2.2 = 0 then [0,n - 1] else (List.range (mn n 4).toNat).map λ i=>(0 : Int) + (i : Nat)
mutual
noncomputable def bxd : Dd -> Option Bx
 | .go n=>if n = 0 then none else some (0,0,n,0)
 | .jump _=>none
 | .turn _=>none
 | .times n w=>if n = 0 then none else brs (bxa w none st) (pb w) none (outer (pb w) n)
noncomputable def bxa : List Dd -> Option Bx -> Pen -> Option Bx
 | [],o,_=>o
 | d :: r,o,p=>bxa r (bor o (bfr p (bxd d))) (led p (pd d))
end
theorem yj4 {l : List Stk} {b : Option Bx} {p : Pen} (hp : Hd p) (hw : wys l) (h : IsBox l b) : ∀ (ks : List Int) (m : List Stk) (o : Option Bx),(∀ k ∈ ks,0 <= k) -> IsBox m o -> IsBox (m ++ ks.flatMap λ k=>l.map (mvS (pw p k.toNat))) (brs b p o ks)
 | [],m,o,_,hm=>by simpa [brs] using hm
 | k :: ks,m,o,hk,hm=>by
  have h1:=yj4 hp hw h ks (m ++ l.map (mvS (pw p k.toNat))) (bor o (bfr (rep p k) b)) (λ x hx=>hk x (List.mem_cons_of_mem _ hx)) (by
   rw [yr1 hp (hk k (List.mem_cons_self ..))]
   exact hm.or (h.fr (yn1 _ _) hw))
  rw [List.append_assoc] at h1
  exact h1
theorem xk4 {a : Int} {k m : Nat} (h : k <= m) : (0 <= a * k /\ a * k <= a * m) \/ (a * m <= a * k /\ a * k <= 0):=by
 rcases Int.le_total 0 a with h0 | h0
 ·exact .inl ⟨Int.mul_nonneg h0 (by omega),Int.mul_le_mul_of_nonneg_left (by omega) h0⟩
 ·exact .inr ⟨Int.mul_le_mul_of_nonpos_left h0 (by omega),Int.mul_nonpos_of_nonpos_of_nonneg h0 (by omega)⟩
theorem wm5 {l : List Stk} {b : Option Bx} {p : Pen} (hp : Hd p) (hw : wys l) (h : IsBox l b) {n : Int} (hn : 0 < n) : IsBox (tms l p n.toNat) (brs b p none (outer p n)):=by
 have h0 : ∀ k ∈ outer p n,0 <= k:=by
  unfold outer
  intro k hk
  split at hk
  ·simp only [List.mem_cons,List.not_mem_nil,or_false] at hk; omega
  ·obtain ⟨i,_,rfl⟩:=List.mem_map.mp hk; omega
 have h1:=yj4 hp hw h (outer p n) [] none h0 rfl
 rw [List.nil_append] at h1
 by_cases hz : p.2.2 = 0
 ·rw [outer,if_pos hz] at h1 ⊢
  simp only [List.flatMap_cons,List.flatMap_nil,List.append_nil] at h1
  generalize brs b p none [0,n - 1] = o at h1 ⊢
  cases o with
  | none =>
   have e : l.map (mvS (pw p (0 : Int).toNat)) ++ l.map (mvS (pw p (n - 1).toNat)) = []:=h1
   have e1 : l = []:=by
    have:=(List.append_eq_nil_iff.mp e).1
    simpa using this
   subst e1
   show tms [] p n.toNat = []
   unfold tms
   simp
  | some c =>
   obtain ⟨i1,t1⟩:=h1
   refine ⟨λ s hs=>?_,t1.mono λ s hs=>?_⟩
   ·obtain ⟨k,hk,hs⟩:=List.mem_flatMap.mp hs
    obtain ⟨t,ht,rfl⟩:=List.mem_map.mp hs
    have hk : k < n.toNat:=List.mem_range.mp hk
    have a1:=i1 _ (List.mem_append_left _ (List.mem_map.mpr ⟨t,ht,rfl⟩))
    have a2:=i1 _ (List.mem_append_right _ (List.mem_map.mpr ⟨t,ht,rfl⟩))
    have b1:=xk4 (a:=p.1) (k:=k) (m:=(n - 1).toNat) (by omega)
    have b2:=xk4 (a:=p.2.1) (k:=k) (m:=(n - 1).toNat) (by omega)
    rw [wk1 hz] at a1 a2 ⊢
    simp only [mvS,if_true,Inb] at a1 a2 ⊢
    generalize p.1 * ((n - 1).toNat : Int) = x1 at a2 b1
    generalize p.2.1 * ((n - 1).toNat : Int) = x2 at a2 b2
    generalize p.1 * (k : Int) = x3 at b1 ⊢
    generalize p.2.1 * (k : Int) = x4 at b2 ⊢
    have z : (((0 : Int).toNat : Nat) : Int) = 0:=rfl
    rw [z,Int.mul_zero,Int.mul_zero] at a1
    omega
   ·rcases List.mem_append.mp hs with hs | hs
    ·exact List.mem_flatMap.mpr ⟨0,List.mem_range.mpr (by omega),hs⟩
    ·exact List.mem_flatMap.mpr ⟨(n - 1).toNat,List.mem_range.mpr (by omega),hs⟩
 ·refine h1.congr λ s=>?_
  rw [outer,if_neg hz]
  unfold tms
  simp only [List.mem_flatMap,List.mem_map,List.mem_range]
  have em : (mn n 4).toNat <= 4 /\ (mn n 4).toNat <= n.toNat /\ ((mn n 4).toNat = 4 \/ (mn n 4).toNat = n.toNat):=by
   have:=xl1 n 4; omega
  constructor
  ·rintro ⟨k,⟨i,hi,rfl⟩,t,ht,rfl⟩
   refine ⟨i,by omega,t,ht,?_⟩
   have e : ((0 : Int) + (i : Nat)).toNat = i:=by omega
   rw [e]
  ·rintro ⟨k,hk,t,ht,rfl⟩
   refine ⟨0 + ((k % 4 : Nat) : Int),⟨k % 4,?_,rfl⟩,t,ht,?_⟩
   ·have : k % 4 < 4:=Nat.mod_lt _ (by decide)
    have : k % 4 <= k:=Nat.mod_le _ _
    omega
   ·have e : ((0 : Int) + ((k % 4 : Nat) : Int)).toNat = k % 4:=by omega
    rw [e,<- yt3 hp hz]
mutual
theorem xj4 : ∀ d,okd d -> IsBox (strk d) (bxd d)
 | .go n,h=>by
  simp only [okd] at h
  simp only [strk,bxd]
  split
  ·next e=>subst e; rfl
  ·next e =>
   refine ⟨λ s hs=>?_,⟨(((0 : Nat) : Int),0,0),?_,rfl⟩,⟨(((0 : Nat) : Int),0,0),?_,rfl⟩,⟨(((n - 1).toNat : Int),0,0),?_,?_⟩,⟨(((0 : Nat) : Int),0,0),?_,rfl⟩⟩
   ·obtain ⟨k,hk,rfl⟩:=List.mem_map.mp hs
    have:=List.mem_range.mp hk
    simp only [Inb]
    omega
   ·exact List.mem_map.mpr ⟨0,List.mem_range.mpr (by omega),rfl⟩
   ·exact List.mem_map.mpr ⟨0,List.mem_range.mpr (by omega),rfl⟩
   ·exact List.mem_map.mpr ⟨(n - 1).toNat,List.mem_range.mpr (by omega),rfl⟩
   ·dsimp only; omega
   ·exact List.mem_map.mpr ⟨0,List.mem_range.mpr (by omega),rfl⟩
 | .jump n,h=>by simp only [strk,bxd]; rfl
 | .turn n,h=>by simp only [strk,bxd]; rfl
 | .times n w,h=>by
  simp only [okd] at h
  simp only [strk,bxd]
  split
  ·next e=>subst e; rfl
  ·next e =>
   refine wm5 (wj0 w) (xi0 w) ?_ (by omega)
   have:=yr2 w h.2 [] none st wi1 rfl
   rw [List.nil_append,wv0] at this
   exact this
theorem yr2 : ∀ w,oks w -> ∀ (m : List Stk) (o : Option Bx) (p : Pen),Hd p -> IsBox m o -> IsBox (m ++ (xd0 w).map (mvS p)) (bxa w o p)
 | [],_,m,o,p,_,hm=>by simpa [xd0,bxa] using hm
 | d :: r,h,m,o,p,hp,hm=>by
  simp only [oks] at h
  have h1:=yr2 r h.2 (m ++ (strk d).map (mvS p)) (bor o (bfr p (bxd d))) (led p (pd d)) (yn0 _ _) (hm.or ((xj4 d h.1).fr hp (xz1 d)))
  rw [yl0 hp (zn1 d h.1),List.append_assoc] at h1
  simp only [xd0,bxa,List.map_append]
  exact h1
end
theorem wx0 (w : List Dd) (h : oks w) : IsBox (xd0 w) (bxa w none st):=by
 have:=yr2 w h [] none st wi1 rfl
 rw [List.nil_append,wv0] at this
 exact this
end Mw
namespace Pv
open PySem
noncomputable abbrev zz0 : D:=.int 30
noncomputable abbrev we1 : D:=.int 4
noncomputable abbrev wo0 : D:=.int 99999999999999999999
noncomputable abbrev yx0 : D:=.tup [.str "go",.str "jump",.str "turn"]
noncomputable abbrev zl0 : D:=.tup [.str "go",.str "times"]
noncomputable abbrev xn0 : D:=.tup [.int 0,.int 0,.int 0]
noncomputable abbrev yd2 : D:=.tup [.tup [.int 1,.int 0],.tup [.int 0,.int 1],.tup [.int (-1),.int 0],.tup [.int 0,.int (-1)]]
noncomputable abbrev xj2 : D:=.tup [.int 0,.int 1]
noncomputable abbrev wk0 : D:=.int 1000
noncomputable def xnames : List Str:=["NoRoom"]
noncomputable def subX (cls c : Str) : Option Bool:=if xnames.contains c then some (cls == c || cls == "PenError" || cls == "ValueError") else none
noncomputable def okX (c : Str) : Bool:=xnames.contains c
noncomputable def xf5 : List Str:=["word"]
noncomputable def wo5 (sp_q22 : Sp3) : TS3 :=
 (drop3 (call3 sp_q22 (cons3 (v3 0) (cons3 (c3 (.int 0)) nil3))))
noncomputable def we5 : List Str:=["word", "depth", "count", "deed"]
noncomputable def zo5 (sp_q23 : Sp3) : TS3 :=
 (seq3 (ifs3 (not3 (b3 (call3 isiR (cons3 (v3 0) (cons3 (c3 (.ty "tuple")) nil3))))) never3 next3) (seq3 (ifs3 (b3 (o3 gtR (v3 1) (c3 we1))) never3 next3) (seq3 (set3 2 (c3 (.int 0))) (seq3 (for3 (is3 (v3 0)) (gn3 3) (seq3 (set3 2 (o3 addR (v3 2) (call3 sp_q23 (cons3 (v3 3) (cons3 (v3 1) nil3))))) (ifs3 (b3 (o3 gtR (v3 2) (c3 zz0))) never3 next3))) (ret3 (v3 2))))))
noncomputable def xm6 : List Str:=["deed", "depth"]
noncomputable def yr6 (sp_q19 sp_q22 : Sp3) : TS3 :=
 (seq3 (ifs3 (not3 (b3 (call3 isiR (cons3 (v3 0) (cons3 (c3 (.ty "tuple")) nil3))))) never3 next3) (seq3 (ifs3 (and3 (b3 (o3 eqR (call3 lenR (cons3 (v3 0) nil3)) (c3 (.int 2)))) (b3 (o3 (inR false) (o3 ixR (v3 0) (c3 (.int 0))) (c3 yx0)))) (seq3 (drop3 (call3 sp_q19 (cons3 (o3 ixR (v3 0) (c3 (.int 0))) (cons3 (o3 ixR (v3 0) (c3 (.int 1))) nil3)))) (ret3 (c3 (.int 1)))) next3) (seq3 (ifs3 (and3 (b3 (o3 eqR (call3 lenR (cons3 (v3 0) nil3)) (c3 (.int 3)))) (b3 (o3 eqR (o3 ixR (v3 0) (c3 (.int 0))) (c3 (.str "times"))))) (seq3 (drop3 (call3 sp_q19 (cons3 (o3 ixR (v3 0) (c3 (.int 0))) (cons3 (o3 ixR (v3 0) (c3 (.int 1))) nil3)))) (ret3 (o3 addR (c3 (.int 1)) (call3 sp_q22 (cons3 (o3 ixR (v3 0) (c3 (.int 2))) (cons3 (o3 addR (v3 1) (c3 (.int 1))) nil3)))))) next3) never3)))
noncomputable def yf5 : List Str:=["kind", "number"]
noncomputable def xp5 : TS3 :=
 (seq3 (ifs3 (not3 (b3 (call3 isiR (cons3 (v3 1) (cons3 (c3 (.ty "int")) nil3))))) never3 next3) (seq3 (ifs3 (b3 (o3 gtR (call3 absR (cons3 (v3 1) nil3)) (c3 wo0))) never3 next3) (ifs3 (and3 (b3 (o3 ltR (v3 1) (c3 (.int 0)))) (b3 (o3 (inR false) (v3 0) (c3 zl0)))) never3 next3)))
noncomputable def wk6 : List Str:=["pen", "part", "ahead", "x", "y"]
noncomputable def xq6 : TS3 :=
 (seq3 (set3 2 (o3 ixR (c3 yd2) (o3 ixR (v3 0) (c3 (.int 2))))) (seq3 (set3 3 (o3 subR (o3 addR (o3 ixR (v3 0) (c3 (.int 0))) (o3 mulR (o3 ixR (v3 1) (c3 (.int 0))) (o3 ixR (v3 2) (c3 (.int 0))))) (o3 mulR (o3 ixR (v3 1) (c3 (.int 1))) (o3 ixR (v3 2) (c3 (.int 1)))))) (seq3 (set3 4 (o3 addR (o3 addR (o3 ixR (v3 0) (c3 (.int 1))) (o3 mulR (o3 ixR (v3 1) (c3 (.int 0))) (o3 ixR (v3 2) (c3 (.int 1))))) (o3 mulR (o3 ixR (v3 1) (c3 (.int 1))) (o3 ixR (v3 2) (c3 (.int 0)))))) (ret3 (tup3 (cons3 (v3 3) (cons3 (v3 4) (cons3 (o3 modR (o3 addR (o3 ixR (v3 0) (c3 (.int 2))) (o3 ixR (v3 1) (c3 (.int 2)))) (c3 (.int 4))) nil3))))))))
noncomputable def wj6 : List Str:=["word", "pen", "deed"]
noncomputable def xp6 (sp_q30 sp_q36 : Sp3) : TS3 :=
 (seq3 (set3 1 (c3 xn0)) (seq3 (for3 (is3 (v3 0)) (gn3 2) (set3 1 (call3 sp_q30 (cons3 (v3 1) (cons3 (call3 sp_q36 (cons3 (v3 2) nil3)) nil3))))) (ret3 (v3 1))))
noncomputable def zj6 : List Str:=["deed"]
noncomputable def wo6 (sp_q35 sp_q37 : Sp3) : TS3 :=
 (seq3 (ifs3 (b3 (o3 eqR (o3 ixR (v3 0) (c3 (.int 0))) (c3 (.str "turn")))) (ret3 (tup3 (cons3 (c3 (.int 0)) (cons3 (c3 (.int 0)) (cons3 (o3 modR (o3 ixR (v3 0) (c3 (.int 1))) (c3 (.int 4))) nil3))))) next3) (seq3 (ifs3 (b3 (o3 eqR (o3 ixR (v3 0) (c3 (.int 0))) (c3 (.str "times")))) (ret3 (call3 sp_q37 (cons3 (call3 sp_q35 (cons3 (o3 ixR (v3 0) (c3 (.int 2))) nil3)) (cons3 (o3 ixR (v3 0) (c3 (.int 1))) nil3)))) next3) (ret3 (tup3 (cons3 (o3 ixR (v3 0) (c3 (.int 1))) (cons3 (c3 (.int 0)) (cons3 (c3 (.int 0)) nil3)))))))
noncomputable def wd5 : List Str:=["part", "number", "pen", "doing"]
noncomputable def zn5 (sp_q30 : Sp3) : TS3 :=
 (seq3 (ifs3 (b3 (o3 eqR (o3 ixR (v3 0) (c3 (.int 2))) (c3 (.int 0)))) (ret3 (tup3 (cons3 (o3 mulR (o3 ixR (v3 0) (c3 (.int 0))) (v3 1)) (cons3 (o3 mulR (o3 ixR (v3 0) (c3 (.int 1))) (v3 1)) (cons3 (c3 (.int 0)) nil3))))) next3) (seq3 (set3 2 (c3 xn0)) (seq3 (for3 (ir3 (cons3 (o3 modR (v3 1) (c3 (.int 4))) nil3)) (gn3 3) (set3 2 (call3 sp_q30 (cons3 (v3 2) (cons3 (v3 0) nil3))))) (ret3 (v3 2)))))
noncomputable def yl4 : List Str:=["stroke"]
noncomputable def zm4 : TS3 :=
 (ifs3 (or3 (b3 (o3 neR (call3 lenR (cons3 (v3 0) nil3)) (c3 (.int 3)))) (b3 (o3 (inR true) (o3 ixR (v3 0) (c3 (.int 2))) (c3 xj2)))) never3 next3)
noncomputable def yl6 : List Str:=["stroke"]
noncomputable def zq6 : TS3 :=
 (seq3 (ifs3 (b3 (o3 eqR (o3 ixR (v3 0) (c3 (.int 2))) (c3 (.int 0)))) (ret3 (tup3 (cons3 (tup3 (cons3 (o3 ixR (v3 0) (c3 (.int 0))) (cons3 (o3 ixR (v3 0) (c3 (.int 1))) nil3))) (cons3 (tup3 (cons3 (o3 addR (o3 ixR (v3 0) (c3 (.int 0))) (c3 (.int 1))) (cons3 (o3 ixR (v3 0) (c3 (.int 1))) nil3))) nil3)))) next3) (ret3 (tup3 (cons3 (tup3 (cons3 (o3 ixR (v3 0) (c3 (.int 0))) (cons3 (o3 ixR (v3 0) (c3 (.int 1))) nil3))) (cons3 (tup3 (cons3 (o3 ixR (v3 0) (c3 (.int 0))) (cons3 (o3 addR (o3 ixR (v3 0) (c3 (.int 1))) (c3 (.int 1))) nil3))) nil3)))))
noncomputable def wf5 : List Str:=["word"]
noncomputable def zp5 (sp_q21 sp_q39 : Sp3) : TS3 :=
 (seq3 (drop3 (call3 sp_q21 (cons3 (v3 0) nil3))) (ret3 (call3 sp_q39 (cons3 (v3 0) nil3))))
noncomputable def yd5 : List Str:=["word", "box", "pen", "deed"]
noncomputable def xn5 (sp_q15 sp_q18 sp_q24 sp_q30 sp_q36 : Sp3) : TS3 :=
 (seq3 (set3 1 (c3 .non)) (seq3 (set3 2 (c3 xn0)) (seq3 (for3 (is3 (v3 0)) (gn3 3) (seq3 (set3 1 (call3 sp_q18 (cons3 (v3 1) (cons3 (call3 sp_q15 (cons3 (v3 2) (cons3 (call3 sp_q24 (cons3 (v3 3) nil3)) nil3))) nil3)))) (set3 2 (call3 sp_q30 (cons3 (v3 2) (cons3 (call3 sp_q36 (cons3 (v3 3) nil3)) nil3)))))) (ret3 (v3 1)))))
noncomputable def ze5 : List Str:=["deed"]
noncomputable def yo5 (sp_q17 sp_q35 sp_q39 : Sp3) : TS3 :=
 (seq3 (ifs3 (b3 (o3 eqR (o3 ixR (v3 0) (c3 (.int 1))) (c3 (.int 0)))) (ret3 (c3 .non)) next3) (seq3 (ifs3 (b3 (o3 eqR (o3 ixR (v3 0) (c3 (.int 0))) (c3 (.str "go")))) (ret3 (tup3 (cons3 (c3 (.int 0)) (cons3 (c3 (.int 0)) (cons3 (o3 ixR (v3 0) (c3 (.int 1))) (cons3 (c3 (.int 0)) nil3)))))) next3) (seq3 (ifs3 (b3 (o3 eqR (o3 ixR (v3 0) (c3 (.int 0))) (c3 (.str "times")))) (ret3 (call3 sp_q17 (cons3 (call3 sp_q39 (cons3 (o3 ixR (v3 0) (c3 (.int 2))) nil3)) (cons3 (call3 sp_q35 (cons3 (o3 ixR (v3 0) (c3 (.int 2))) nil3)) (cons3 (o3 ixR (v3 0) (c3 (.int 1))) nil3))))) next3) (ret3 (c3 .non)))))
noncomputable def zf5 : List Str:=["box", "part", "number", "whole", "doing"]
noncomputable def yp5 (sp_q15 sp_q18 sp_q34 sp_q37 : Sp3) : TS3 :=
 (seq3 (set3 3 (c3 .non)) (seq3 (for3 (is3 (call3 sp_q34 (cons3 (v3 1) (cons3 (v3 2) nil3)))) (gn3 4) (set3 3 (call3 sp_q18 (cons3 (v3 3) (cons3 (call3 sp_q15 (cons3 (call3 sp_q37 (cons3 (v3 1) (cons3 (v3 4) nil3))) (cons3 (v3 0) nil3))) nil3))))) (ret3 (v3 3))))
noncomputable def xe5 : List Str:=["part", "number"]
noncomputable def wn5 : TS3 :=
 (seq3 (ifs3 (b3 (o3 eqR (o3 ixR (v3 0) (c3 (.int 2))) (c3 (.int 0)))) (ret3 (lst3 (cons3 (c3 (.int 0)) (cons3 (o3 subR (v3 1) (c3 (.int 1))) nil3)))) next3) (ret3 (lrng3 (call3 min2R (cons3 (v3 1) (cons3 (c3 (.int 4)) nil3))))))
noncomputable def ym6 : List Str:=["one", "other", "least"]
noncomputable def zr6 : TS3 :=
 (seq3 (ifs3 (b3 (o3 (isNR false) (v3 0) (c3 .non))) (ret3 (v3 1)) next3) (seq3 (ifs3 (b3 (o3 (isNR false) (v3 1) (c3 .non))) (ret3 (v3 0)) next3) (seq3 (set3 2 (tup3 (cons3 (call3 min2R (cons3 (o3 ixR (v3 0) (c3 (.int 0))) (cons3 (o3 ixR (v3 1) (c3 (.int 0))) nil3))) (cons3 (call3 min2R (cons3 (o3 ixR (v3 0) (c3 (.int 1))) (cons3 (o3 ixR (v3 1) (c3 (.int 1))) nil3))) nil3)))) (ret3 (o3 addR (v3 2) (tup3 (cons3 (call3 maxR (cons3 (o3 ixR (v3 0) (c3 (.int 2))) (cons3 (o3 ixR (v3 1) (c3 (.int 2))) nil3))) (cons3 (call3 maxR (cons3 (o3 ixR (v3 0) (c3 (.int 3))) (cons3 (o3 ixR (v3 1) (c3 (.int 3))) nil3))) nil3))))))))
noncomputable def zm6 : List Str:=["pen", "box", "corner", "other", "least"]
noncomputable def wr6 (sp_q30 : Sp3) : TS3 :=
 (seq3 (ifs3 (b3 (o3 (isNR false) (v3 1) (c3 .non))) (ret3 (c3 .non)) next3) (seq3 (set3 2 (call3 sp_q30 (cons3 (v3 0) (cons3 (tup3 (cons3 (o3 ixR (v3 1) (c3 (.int 0))) (cons3 (o3 ixR (v3 1) (c3 (.int 1))) (cons3 (c3 (.int 0)) nil3)))) nil3)))) (seq3 (set3 3 (call3 sp_q30 (cons3 (v3 0) (cons3 (tup3 (cons3 (o3 ixR (v3 1) (c3 (.int 2))) (cons3 (o3 ixR (v3 1) (c3 (.int 3))) (cons3 (c3 (.int 0)) nil3)))) nil3)))) (seq3 (set3 4 (tup3 (cons3 (call3 min2R (cons3 (o3 ixR (v3 2) (c3 (.int 0))) (cons3 (o3 ixR (v3 3) (c3 (.int 0))) nil3))) (cons3 (call3 min2R (cons3 (o3 ixR (v3 2) (c3 (.int 1))) (cons3 (o3 ixR (v3 3) (c3 (.int 1))) nil3))) nil3)))) (ret3 (o3 addR (v3 4) (tup3 (cons3 (call3 maxR (cons3 (o3 ixR (v3 2) (c3 (.int 0))) (cons3 (o3 ixR (v3 3) (c3 (.int 0))) nil3))) (cons3 (call3 maxR (cons3 (o3 ixR (v3 2) (c3 (.int 1))) (cons3 (o3 ixR (v3 3) (c3 (.int 1))) nil3))) nil3)))))))))
noncomputable def zl6 : List Str:=["word", "stroke"]
noncomputable def wq6 (XE : XE3) (sp_Look___init__ sp_q20 sp_q21 : Sp3) (spx_q33 : XE3 -> Sp3) : TS3 :=
 (seq3 (drop3 (call3 sp_q21 (cons3 (v3 0) nil3))) (seq3 (drop3 (call3 sp_q20 (cons3 (v3 1) nil3))) (ret3 (call3 (spx_q33 XE) (cons3 (v3 0) (cons3 (c3 xn0) (cons3 (yz7 "Look" sp_Look___init__ (cons3 (v3 1) nil3)) nil3)))))))
noncomputable def xk6 : List Str:=["word", "pen", "look", "often", "here", "deed"]
noncomputable def yp6 (XE : XE3) (sp_q30 : Sp3) (spx_q31 : XE3 -> Sp3) (sp_q36 : Sp3) : TS3 :=
 (seq3 (set3 3 (c3 (.int 0))) (seq3 (set3 4 (v3 1)) (seq3 (for3 (is3 (v3 0)) (gn3 5) (seq3 (set3 3 (o3 addR (v3 3) (call3 (spx_q31 XE) (cons3 (v3 5) (cons3 (v3 4) (cons3 (v3 2) nil3)))))) (set3 4 (call3 sp_q30 (cons3 (v3 4) (cons3 (call3 sp_q36 (cons3 (v3 5) nil3)) nil3)))))) (ret3 (v3 3)))))
noncomputable def zk6 : List Str:=["deed", "pen", "look"]
noncomputable def wp6 (XE : XE3) (sp_Look_is_within sp_q15 sp_q24 : Sp3) (spx_q32 : XE3 -> Sp3) : TS3 :=
 (seq3 (ifs3 (b3 (o3 eqR (o3 ixR (v3 0) (c3 (.int 0))) (c3 (.str "times")))) (ret3 (call3 (spx_q32 XE) (cons3 (o3 ixR (v3 0) (c3 (.int 1))) (cons3 (o3 ixR (v3 0) (c3 (.int 2))) (cons3 (v3 1) (cons3 (v3 2) nil3)))))) next3) (ret3 (if3 (b3 (yz3 "Look" "is_within" sp_Look_is_within (v3 2) (cons3 (call3 sp_q15 (cons3 (v3 1) (cons3 (call3 sp_q24 (cons3 (v3 0) nil3)) nil3))) nil3))) (c3 (.int 1)) (c3 (.int 0)))))
noncomputable def yk6 : List Str:=["number", "word", "pen", "look", "part", "box", "often", "span", "doing", "start"]
noncomputable def yc1 (XE : XE3) (spx_Look_count_doing : XE3 -> Sp3) (sp_Look_is_within sp_q15 sp_q25 sp_q26 sp_q30 : Sp3) (spx_q33 : XE3 -> Sp3) (sp_q35 sp_q37 sp_q39 : Sp3) : TS3 :=
 (ret3 (v3 6))
noncomputable def zc1 (XE : XE3) (spx_Look_count_doing : XE3 -> Sp3) (sp_Look_is_within sp_q15 sp_q25 sp_q26 sp_q30 : Sp3) (spx_q33 : XE3 -> Sp3) (sp_q35 sp_q37 sp_q39 : Sp3) : TS3 :=
 (seq3 (for3 (irL3 (cons3 (o3 ixR (v3 7) (c3 (.int 0))) (cons3 (o3 ixR (v3 7) (c3 (.int 1))) nil3))) (gn3 8) (seq3 (set3 9 (call3 sp_q30 (cons3 (v3 2) (cons3 (call3 sp_q37 (cons3 (v3 4) (cons3 (v3 8) nil3))) nil3)))) (ifs3 (b3 (yz3 "Look" "is_within" sp_Look_is_within (v3 3) (cons3 (call3 sp_q15 (cons3 (v3 9) (cons3 (v3 5) nil3))) nil3))) (seq3 (drop3 (yz3 "Look" "count_doing" (spx_Look_count_doing XE) (v3 3) nil3)) (set3 6 (o3 addR (v3 6) (o3 mulR (call3 sp_q25 (cons3 (v3 8) (cons3 (v3 0) (cons3 (v3 4) nil3)))) (call3 (spx_q33 XE) (cons3 (v3 1) (cons3 (v3 9) (cons3 (v3 3) nil3)))))))) next3))) (yc1 XE spx_Look_count_doing sp_Look_is_within sp_q15 sp_q25 sp_q26 sp_q30 spx_q33 sp_q35 sp_q37 sp_q39))
noncomputable def wc1 (XE : XE3) (spx_Look_count_doing : XE3 -> Sp3) (sp_Look_is_within sp_q15 sp_q25 sp_q26 sp_q30 : Sp3) (spx_q33 : XE3 -> Sp3) (sp_q35 sp_q37 sp_q39 : Sp3) : TS3 :=
 (seq3 (set3 7 (call3 sp_q26 (cons3 (v3 0) (cons3 (v3 4) (cons3 (v3 2) (cons3 (v3 5) (cons3 (v3 3) nil3))))))) (zc1 XE spx_Look_count_doing sp_Look_is_within sp_q15 sp_q25 sp_q26 sp_q30 spx_q33 sp_q35 sp_q37 sp_q39))
noncomputable def xd1 (XE : XE3) (spx_Look_count_doing : XE3 -> Sp3) (sp_Look_is_within sp_q15 sp_q25 sp_q26 sp_q30 : Sp3) (spx_q33 : XE3 -> Sp3) (sp_q35 sp_q37 sp_q39 : Sp3) : TS3 :=
 (seq3 (set3 6 (c3 (.int 0))) (wc1 XE spx_Look_count_doing sp_Look_is_within sp_q15 sp_q25 sp_q26 sp_q30 spx_q33 sp_q35 sp_q37 sp_q39))
noncomputable def yd1 (XE : XE3) (spx_Look_count_doing : XE3 -> Sp3) (sp_Look_is_within sp_q15 sp_q25 sp_q26 sp_q30 : Sp3) (spx_q33 : XE3 -> Sp3) (sp_q35 sp_q37 sp_q39 : Sp3) : TS3 :=
 (seq3 (set3 5 (call3 sp_q39 (cons3 (v3 1) nil3))) (xd1 XE spx_Look_count_doing sp_Look_is_within sp_q15 sp_q25 sp_q26 sp_q30 spx_q33 sp_q35 sp_q37 sp_q39))
noncomputable def zp6 (XE : XE3) (spx_Look_count_doing : XE3 -> Sp3) (sp_Look_is_within sp_q15 sp_q25 sp_q26 sp_q30 : Sp3) (spx_q33 : XE3 -> Sp3) (sp_q35 sp_q37 sp_q39 : Sp3) : TS3 :=
 (seq3 (set3 4 (call3 sp_q35 (cons3 (v3 1) nil3))) (yd1 XE spx_Look_count_doing sp_Look_is_within sp_q15 sp_q25 sp_q26 sp_q30 spx_q33 sp_q35 sp_q37 sp_q39))
noncomputable def wl6 : List Str:=["number", "part", "pen", "box", "look", "first", "second", "x_span", "y_span"]
noncomputable def yg1 (sp_q15 sp_q30 sp_q38 : Sp3) : TS3 :=
 (ret3 (tup3 (cons3 (call3 maxR (cons3 (o3 ixR (v3 7) (c3 (.int 0))) (cons3 (o3 ixR (v3 8) (c3 (.int 0))) nil3))) (cons3 (call3 min2R (cons3 (o3 ixR (v3 7) (c3 (.int 1))) (cons3 (o3 ixR (v3 8) (c3 (.int 1))) nil3))) nil3))))
noncomputable def zg1 (sp_q15 sp_q30 sp_q38 : Sp3) : TS3 :=
 (seq3 (set3 8 (call3 sp_q38 (cons3 (v3 0) (cons3 (o3 ixR (v3 5) (c3 (.int 1))) (cons3 (o3 ixR (v3 5) (c3 (.int 3))) (cons3 (o3 subR (o3 ixR (v3 6) (c3 (.int 1))) (o3 ixR (v3 5) (c3 (.int 1)))) (cons3 (o3 ixR (fld3 (v3 4) "Look" "least") (c3 (.int 1))) (cons3 (o3 ixR (fld3 (v3 4) "Look" "greatest") (c3 (.int 1))) nil3)))))))) (yg1 sp_q15 sp_q30 sp_q38))
noncomputable def xt0 (sp_q15 sp_q30 sp_q38 : Sp3) : TS3 :=
 (seq3 (set3 7 (call3 sp_q38 (cons3 (v3 0) (cons3 (o3 ixR (v3 5) (c3 (.int 0))) (cons3 (o3 ixR (v3 5) (c3 (.int 2))) (cons3 (o3 subR (o3 ixR (v3 6) (c3 (.int 0))) (o3 ixR (v3 5) (c3 (.int 0)))) (cons3 (o3 ixR (fld3 (v3 4) "Look" "least") (c3 (.int 0))) (cons3 (o3 ixR (fld3 (v3 4) "Look" "greatest") (c3 (.int 0))) nil3)))))))) (zg1 sp_q15 sp_q30 sp_q38))
noncomputable def wg1 (sp_q15 sp_q30 sp_q38 : Sp3) : TS3 :=
 (seq3 (set3 6 (call3 sp_q15 (cons3 (call3 sp_q30 (cons3 (v3 2) (cons3 (v3 1) nil3))) (cons3 (v3 3) nil3)))) (xt0 sp_q15 sp_q30 sp_q38))
noncomputable def xh1 (sp_q15 sp_q30 sp_q38 : Sp3) : TS3 :=
 (seq3 (set3 5 (call3 sp_q15 (cons3 (v3 2) (cons3 (v3 3) nil3)))) (wg1 sp_q15 sp_q30 sp_q38))
noncomputable def ym0 (sp_q15 sp_q30 sp_q38 : Sp3) : TS3 :=
 (seq3 (ifs3 (b3 (o3 neR (o3 ixR (v3 1) (c3 (.int 2))) (c3 (.int 0)))) (ret3 (tup3 (cons3 (c3 (.int 0)) (cons3 (call3 min2R (cons3 (v3 0) (cons3 (c3 (.int 4)) nil3))) nil3)))) next3) (xh1 sp_q15 sp_q30 sp_q38))
noncomputable def yh1 (sp_q15 sp_q30 sp_q38 : Sp3) : TS3 :=
 (seq3 (ifs3 (b3 (o3 eqR (v3 1) (c3 xn0))) (ret3 (tup3 (cons3 (c3 (.int 0)) (cons3 (call3 min2R (cons3 (v3 0) (cons3 (c3 (.int 1)) nil3))) nil3)))) next3) (ym0 sp_q15 sp_q30 sp_q38))
noncomputable def xr6 (sp_q15 sp_q30 sp_q38 : Sp3) : TS3 :=
 (seq3 (ifs3 (b3 (o3 (isNR false) (v3 3) (c3 .non))) (ret3 (tup3 (cons3 (c3 (.int 0)) (cons3 (c3 (.int 0)) nil3)))) next3) (yh1 sp_q15 sp_q30 sp_q38))
noncomputable def zd5 : List Str:=["number", "low", "high", "shift", "least", "greatest", "first", "last"]
noncomputable def yn5 (sp_q38 : Sp3) : TS3 :=
 (seq3 (ifs3 (b3 (o3 ltR (v3 3) (c3 (.int 0)))) (ret3 (call3 sp_q38 (cons3 (v3 0) (cons3 (un3 negR (v3 2)) (cons3 (un3 negR (v3 1)) (cons3 (un3 negR (v3 3)) (cons3 (un3 negR (v3 5)) (cons3 (un3 negR (v3 4)) nil3)))))))) next3) (seq3 (ifs3 (b3 (o3 eqR (v3 3) (c3 (.int 0)))) (ret3 (if3 (and3 (b3 (o3 leR (v3 1) (v3 4))) (b3 (o3 leR (v3 5) (v3 2)))) (tup3 (cons3 (c3 (.int 0)) (cons3 (v3 0) nil3))) (tup3 (cons3 (c3 (.int 0)) (cons3 (c3 (.int 0)) nil3))))) next3) (seq3 (set3 6 (un3 negR (o3 fdivR (o3 subR (v3 2) (v3 5)) (v3 3)))) (seq3 (set3 7 (o3 fdivR (o3 subR (v3 4) (v3 1)) (v3 3))) (ret3 (tup3 (cons3 (call3 maxR (cons3 (c3 (.int 0)) (cons3 (v3 6) nil3))) (cons3 (call3 min2R (cons3 (v3 0) (cons3 (o3 addR (v3 7) (c3 (.int 1))) nil3))) nil3))))))))
noncomputable def ye5 : List Str:=["doing", "number", "part"]
noncomputable def xo5 : TS3 :=
 (seq3 (ifs3 (b3 (o3 eqR (v3 2) (c3 xn0))) (ret3 (v3 1)) next3) (seq3 (ifs3 (b3 (o3 neR (o3 ixR (v3 2) (c3 (.int 2))) (c3 (.int 0)))) (ret3 (o3 fdivR (o3 addR (o3 subR (v3 1) (v3 0)) (c3 (.int 3))) (c3 (.int 4)))) next3) (ret3 (c3 (.int 1)))))
noncomputable def wg5 : List Str:=["script", "k", "cell"]
noncomputable def zq5 : TS3 :=
 (seq3 (set3 2 (c3 (.int 0))) (seq3 (ifs3 (b3 (o3 ltR (v3 1) (call3 lenR (cons3 (v3 0) nil3)))) (set3 2 (o3 ixR (v3 0) (v3 1))) next3) (seq3 (ifs3 (b3 (o3 geR (v3 2) (o3 powR (c3 (.int 10)) (c3 (.int 18))))) (ret3 (lst3 (cons3 (o3 subR (v3 2) (o3 powR (c3 (.int 10)) (c3 (.int 18)))) (cons3 (c3 (.int 1)) nil3)))) next3) (ret3 (lst3 (cons3 (o3 modR (o3 addR (v3 2) (o3 mulR (c3 (.int 7919)) (v3 1))) (c3 (.int 2147483647))) (cons3 (c3 (.int 0)) nil3)))))))
noncomputable def zg5 : List Str:=["state", "many", "found", "mixed"]
noncomputable def yq5 : TS3 :=
 (seq3 (ifs3 (and3 (b3 (o3 eqR (o3 ixR (v3 0) (c3 (.int 1))) (c3 (.int 1)))) (b3 (o3 gtR (o3 ixR (v3 0) (c3 (.int 0))) (c3 (.int 0))))) (seq3 (set3 2 (o3 modR (o3 ixR (v3 0) (c3 (.int 0))) (v3 1))) (seq3 (asg3 (o3 fdivR (o3 ixR (v3 0) (c3 (.int 0))) (v3 1)) (sub3 (v3 0) (c3 (.int 0)))) (ret3 (v3 2)))) next3) (seq3 (asg3 (c3 (.int 0)) (sub3 (v3 0) (c3 (.int 1)))) (seq3 (asg3 (o3 modR (o3 addR (o3 mulR (o3 ixR (v3 0) (c3 (.int 0))) (c3 (.int 48271))) (c3 (.int 69621))) (c3 (.int 2147483647))) (sub3 (v3 0) (c3 (.int 0)))) (seq3 (set3 3 (o3 modR (o3 addR (o3 mulR (o3 ixR (v3 0) (c3 (.int 0))) (o3 ixR (v3 0) (c3 (.int 0)))) (o3 mulR (c3 (.int 16807)) (o3 ixR (v3 0) (c3 (.int 0))))) (c3 (.int 2147483629)))) (seq3 (set3 3 (o3 modR (o3 addR (o3 mulR (v3 3) (v3 3)) (o3 mulR (c3 (.int 39373)) (v3 3))) (c3 (.int 2147483587)))) (ret3 (o3 modR (o3 fdivR (v3 3) (c3 (.int 8))) (v3 1))))))))
noncomputable def xg5 : List Str:=["found"]
noncomputable def wp5 : TS3 :=
 (ret3 (andV3 (call3 isiR (cons3 (v3 0) (cons3 (c3 (.ty "int")) nil3))) (notV3 (call3 isiR (cons3 (v3 0) (cons3 (c3 (.ty "bool")) nil3))))))
noncomputable def N_q0 : List Str:=["state", "deep", "kind"]
noncomputable def t_q0 (sp_q1 sp_q11 : Sp3) : TS3 :=
 (seq3 (set3 2 (call3 sp_q11 (cons3 (v3 0) (cons3 (o3 addR (c3 (.int 4)) (call3 intR (cons3 (o3 gtR (v3 1) (c3 (.int 0))) nil3))) nil3)))) (seq3 (ifs3 (b3 (o3 eqR (v3 2) (c3 (.int 0)))) (ret3 (tup3 (cons3 (c3 (.str "turn")) (cons3 (o3 subR (call3 sp_q11 (cons3 (v3 0) (cons3 (c3 (.int 9)) nil3))) (c3 (.int 4))) nil3)))) next3) (seq3 (ifs3 (b3 (o3 eqR (v3 2) (c3 (.int 1)))) (ret3 (tup3 (cons3 (c3 (.str "jump")) (cons3 (o3 subR (call3 sp_q11 (cons3 (v3 0) (cons3 (c3 (.int 5)) nil3))) (c3 (.int 2))) nil3)))) next3) (seq3 (ifs3 (b3 (o3 ltR (v3 2) (c3 (.int 4)))) (ret3 (tup3 (cons3 (c3 (.str "go")) (cons3 (call3 sp_q11 (cons3 (v3 0) (cons3 (c3 (.int 3)) nil3))) nil3)))) next3) (ret3 (tup3 (cons3 (c3 (.str "times")) (cons3 (call3 sp_q11 (cons3 (v3 0) (cons3 (c3 (.int 4)) nil3))) (cons3 (call3 sp_q1 (cons3 (v3 0) (cons3 (o3 subR (v3 1) (c3 (.int 1))) (cons3 (call3 sp_q11 (cons3 (v3 0) (cons3 (c3 (.int 3)) nil3))) nil3)))) nil3)))))))))
noncomputable def N_q1 : List Str:=["state", "deep", "many"]
noncomputable def t_q1 (sp_q0 : Sp3) : TS3 :=
 (ret3 (call3 tupR (cons3 (comp3 [none,some 0,some 1] (ir3 (cons3 (v3 2) nil3)) (gn3 0) tt3 (call3 sp_q0 (cons3 (v3 1) (cons3 (v3 2) nil3)))) nil3)))
noncomputable def N_q7 : List Str:=["deeds", "found", "deed", "k"]
noncomputable def t_q7 (sp_q7 : Sp3) : TS3 :=
 (seq3 (set3 1 (lst3 nil3)) (seq3 (for3 (is3 (v3 0)) (gn3 2) (ifs3 (b3 (o3 eqR (o3 ixR (v3 2) (c3 (.int 0))) (c3 (.str "times")))) (for3 (ir3 (cons3 (o3 ixR (v3 2) (c3 (.int 1))) nil3)) (gn3 3) (drop3 (mt3 extR (v3 1) (cons3 (call3 sp_q7 (cons3 (o3 ixR (v3 2) (c3 (.int 2))) nil3)) nil3)))) (drop3 (mt3 appR (v3 1) (cons3 (v3 2) nil3))))) (ret3 (v3 1))))
noncomputable def N_q8 : List Str:=["deeds", "pen", "x", "y", "heading", "drawn", "kind", "number", "ahead", "k"]
noncomputable def t_q8 (sp_q7 : Sp3) : TS3 :=
 (seq3 (asg3 (v3 1) (gtup3 3 (gcons3 (gn3 2) (gcons3 (gn3 3) (gcons3 (gn3 4) gnil3))))) (seq3 (set3 5 (lst3 nil3)) (seq3 (for3 (is3 (call3 sp_q7 (cons3 (v3 0) nil3))) (gtup3 2 (gcons3 (gn3 6) (gcons3 (gn3 7) gnil3))) (seq3 (set3 8 (o3 ixR (lst3 (cons3 (tup3 (cons3 (c3 (.int 1)) (cons3 (c3 (.int 0)) nil3))) (cons3 (tup3 (cons3 (c3 (.int 0)) (cons3 (c3 (.int 1)) nil3))) (cons3 (tup3 (cons3 (un3 negR (c3 (.int 1))) (cons3 (c3 (.int 0)) nil3))) (cons3 (tup3 (cons3 (c3 (.int 0)) (cons3 (un3 negR (c3 (.int 1))) nil3))) nil3))))) (v3 4))) (ifs3 (b3 (o3 eqR (v3 6) (c3 (.str "turn")))) (set3 4 (o3 modR (o3 addR (v3 4) (v3 7)) (c3 (.int 4)))) (ifs3 (b3 (o3 eqR (v3 6) (c3 (.str "jump")))) (seq3 (set3 2 (o3 addR (v3 2) (o3 mulR (v3 7) (o3 ixR (v3 8) (c3 (.int 0)))))) (set3 3 (o3 addR (v3 3) (o3 mulR (v3 7) (o3 ixR (v3 8) (c3 (.int 1))))))) (for3 (ir3 (cons3 (v3 7) nil3)) (gn3 9) (seq3 (drop3 (mt3 appR (v3 5) (cons3 (tup3 (cons3 (o3 addR (v3 2) (call3 min2R (cons3 (c3 (.int 0)) (cons3 (o3 ixR (v3 8) (c3 (.int 0))) nil3)))) (cons3 (o3 addR (v3 3) (call3 min2R (cons3 (c3 (.int 0)) (cons3 (o3 ixR (v3 8) (c3 (.int 1))) nil3)))) (cons3 (o3 modR (v3 4) (c3 (.int 2))) nil3)))) nil3))) (seq3 (set3 2 (o3 addR (v3 2) (o3 ixR (v3 8) (c3 (.int 0))))) (set3 3 (o3 addR (v3 3) (o3 ixR (v3 8) (c3 (.int 1)))))))))))) (ret3 (tup3 (cons3 (v3 5) (cons3 (tup3 (cons3 (v3 2) (cons3 (v3 3) (cons3 (v3 4) nil3)))) nil3)))))))
noncomputable def N_q2 : List Str:=["drawn", "across", "along"]
noncomputable def t_q2 : TS3 :=
 (seq3 (ifs3 (b3 (o3 eqR (v3 0) (lst3 nil3))) (ret3 (c3 .non)) next3) (seq3 (set3 1 (o3 addR (comp3 [none,none,none] (is3 (v3 0)) (gtup3 3 (gcons3 (gn3 0) (gcons3 (gn3 1) (gcons3 (gn3 2) gnil3)))) tt3 (v3 0)) (comp3 [none,none,none] (is3 (v3 0)) (gtup3 3 (gcons3 (gn3 0) (gcons3 (gn3 1) (gcons3 (gn3 2) gnil3)))) tt3 (o3 subR (o3 addR (v3 0) (c3 (.int 1))) (v3 2))))) (seq3 (set3 2 (o3 addR (comp3 [none,none,none] (is3 (v3 0)) (gtup3 3 (gcons3 (gn3 0) (gcons3 (gn3 1) (gcons3 (gn3 2) gnil3)))) tt3 (v3 1)) (comp3 [none,none,none] (is3 (v3 0)) (gtup3 3 (gcons3 (gn3 0) (gcons3 (gn3 1) (gcons3 (gn3 2) gnil3)))) tt3 (o3 addR (v3 1) (v3 2))))) (ret3 (tup3 (cons3 (call3 mnR (cons3 (v3 1) nil3)) (cons3 (call3 mnR (cons3 (v3 2) nil3)) (cons3 (call3 mxR (cons3 (v3 1) nil3)) (cons3 (call3 mxR (cons3 (v3 2) nil3)) nil3)))))))))
noncomputable def N_q3 : List Str:=["found", "due"]
noncomputable def t_q3 (sp_q14 : Sp3) : TS3 :=
 (seq3 (ifs3 (or3 (b3 (o3 (isNR false) (v3 1) (c3 .non))) (b3 (o3 (isNR false) (v3 0) (c3 .non)))) (ret3 (andV3 (o3 (isNR false) (v3 0) (c3 .non)) (o3 (isNR false) (v3 1) (c3 .non)))) next3) (ret3 (andV3 (call3 isiR (cons3 (v3 0) (cons3 (c3 (.ty "tuple")) nil3))) (andV3 (o3 eqR (v3 0) (v3 1)) (call3 allR (cons3 (comp3 [none] (is3 (v3 0)) (gn3 0) tt3 (call3 sp_q14 (cons3 (v3 0) nil3))) nil3))))))
noncomputable def yg5 : List Str:=["e", "flags"]
noncomputable def xq5 : TS3 :=
 (seq3 (set3 1 (lst3 (cons3 (isx3 (v3 0) (subX "NoWord")) (cons3 (isx3 (v3 0) (subX "NoPicture")) (cons3 (isx3 (v3 0) (subX "NoRoom")) (cons3 (isx3 (v3 0) (subX "NoStep")) nil3)))))) (ret3 (o3 addR (v3 1) (lst3 (cons3 (isx3 (v3 0) (subX "NoNumber")) (cons3 (isx3 (v3 0) (subX "BadNote")) (cons3 (isx3 (v3 0) (subX "ValueError")) nil3)))))))
noncomputable def N_q5 : List Str:=["drawn", "x", "y"]
noncomputable def t_q5 : TS3 :=
 (ret3 (comp3 [none,some 1,some 2] (is3 (v3 0)) (gn3 0) tt3 (tup3 (cons3 (o3 addR (o3 ixR (v3 0) (c3 (.int 0))) (v3 1)) (cons3 (o3 addR (o3 ixR (v3 0) (c3 (.int 1))) (v3 2)) (cons3 (o3 ixR (v3 0) (c3 (.int 2))) nil3))))))
noncomputable def N_q4 : List Str:=["frames", "kept", "low", "high"]
noncomputable def t_q4 : TS3 :=
 (seq3 (set3 1 (comp3 [none] (is3 (v3 0)) (gn3 0) (b3 (o3 (isNR true) (v3 0) (c3 .non))) (v3 0))) (seq3 (ifs3 (b3 (o3 eqR (v3 1) (lst3 nil3))) (ret3 (c3 .non)) next3) (seq3 (set3 2 (comp3 [none,some 1] (ir3 (cons3 (c3 (.int 2)) nil3)) (gn3 0) tt3 (call3 mnR (cons3 (comp3 [none,some 0] (is3 (v3 1)) (gn3 0) tt3 (o3 ixR (v3 0) (v3 1))) nil3)))) (seq3 (set3 3 (comp3 [none,some 1] (irL3 (cons3 (c3 (.int 2)) (cons3 (c3 (.int 4)) nil3))) (gn3 0) tt3 (call3 mxR (cons3 (comp3 [none,some 0] (is3 (v3 1)) (gn3 0) tt3 (o3 ixR (v3 0) (v3 1))) nil3)))) (ret3 (tup3 (cons3 (o3 ixR (v3 2) (c3 (.int 0))) (cons3 (o3 ixR (v3 2) (c3 (.int 1))) (cons3 (o3 ixR (v3 3) (c3 (.int 0))) (cons3 (o3 ixR (v3 3) (c3 (.int 1))) nil3))))))))))
noncomputable def N_q9 : List Str:=["frame", "line", "shift", "times", "low", "high", "k", "least", "most"]
noncomputable def t_q9 : TS3 :=
 (seq3 (set3 4 (c3 (.int 0))) (seq3 (set3 5 (o3 subR (v3 3) (c3 (.int 1)))) (seq3 (for3 (ir3 (cons3 (c3 (.int 2)) nil3)) (gn3 6) (seq3 (set3 7 (o3 subR (o3 addR (o3 ixR (v3 1) (v3 6)) (o3 ixR (lst3 (cons3 (o3 subR (c3 (.int 1)) (o3 ixR (v3 1) (c3 (.int 2)))) (cons3 (o3 ixR (v3 1) (c3 (.int 2))) nil3))) (v3 6))) (o3 ixR (v3 0) (o3 addR (v3 6) (c3 (.int 2)))))) (seq3 (set3 8 (o3 subR (o3 ixR (v3 1) (v3 6)) (o3 ixR (v3 0) (v3 6)))) (seq3 (ifs3 (and3 (b3 (o3 eqR (o3 ixR (v3 2) (v3 6)) (c3 (.int 0)))) (not3 (b3 (ch3 leR leR (v3 7) (c3 (.int 0)) (v3 8))))) (ret3 (tup3 (cons3 (c3 (.int 0)) (cons3 (un3 negR (c3 (.int 1))) nil3)))) next3) (seq3 (ifs3 (b3 (o3 gtR (o3 ixR (v3 2) (v3 6)) (c3 (.int 0)))) (seq3 (set3 4 (call3 maxR (cons3 (v3 4) (cons3 (o3 subR (c3 (.int 0)) (o3 fdivR (o3 subR (c3 (.int 0)) (v3 7)) (o3 ixR (v3 2) (v3 6)))) nil3)))) (set3 5 (call3 min2R (cons3 (v3 5) (cons3 (o3 fdivR (v3 8) (o3 ixR (v3 2) (v3 6))) nil3))))) next3) (ifs3 (b3 (o3 ltR (o3 ixR (v3 2) (v3 6)) (c3 (.int 0)))) (seq3 (set3 4 (call3 maxR (cons3 (v3 4) (cons3 (o3 subR (c3 (.int 0)) (o3 fdivR (v3 8) (o3 subR (c3 (.int 0)) (o3 ixR (v3 2) (v3 6))))) nil3)))) (set3 5 (call3 min2R (cons3 (v3 5) (cons3 (o3 fdivR (o3 subR (c3 (.int 0)) (v3 7)) (o3 subR (c3 (.int 0)) (o3 ixR (v3 2) (v3 6)))) nil3))))) next3)))))) (ret3 (tup3 (cons3 (v3 4) (cons3 (v3 5) nil3)))))))
noncomputable def N_q6 : List Str:=["once", "shift", "times", "line", "total", "seen", "x", "y", "k"]
noncomputable def t_q6 : TS3 :=
 (seq3 (set3 4 (c3 (.int 0))) (seq3 (for3 (is3 (v3 0)) (gn3 5) (ifs3 (b3 (o3 eqR (o3 ixR (v3 5) (c3 (.int 2))) (o3 ixR (v3 3) (c3 (.int 2))))) (seq3 (set3 6 (o3 subR (o3 ixR (v3 3) (c3 (.int 0))) (o3 ixR (v3 5) (c3 (.int 0))))) (seq3 (set3 7 (o3 subR (o3 ixR (v3 3) (c3 (.int 1))) (o3 ixR (v3 5) (c3 (.int 1))))) (seq3 (set3 8 (un3 negR (c3 (.int 1)))) (seq3 (ifs3 (b3 (o3 neR (o3 ixR (v3 1) (c3 (.int 0))) (c3 (.int 0)))) (set3 8 (o3 fdvR (v3 6) (o3 ixR (v3 1) (c3 (.int 0))))) (ifs3 (b3 (o3 neR (o3 ixR (v3 1) (c3 (.int 1))) (c3 (.int 0)))) (set3 8 (o3 fdvR (v3 7) (o3 ixR (v3 1) (c3 (.int 1))))) (ifs3 (and3 (b3 (o3 eqR (v3 6) (c3 (.int 0)))) (b3 (o3 eqR (v3 7) (c3 (.int 0))))) (set3 4 (o3 addR (v3 4) (v3 2))) next3))) (ifs3 (and3 (b3 (o3 neR (v3 1) (tup3 (cons3 (c3 (.int 0)) (cons3 (c3 (.int 0)) nil3))))) (and3 (b3 (o3 eqR (tup3 (cons3 (o3 mulR (v3 8) (o3 ixR (v3 1) (c3 (.int 0)))) (cons3 (o3 mulR (v3 8) (o3 ixR (v3 1) (c3 (.int 1)))) nil3))) (tup3 (cons3 (v3 6) (cons3 (v3 7) nil3))))) (b3 (ch3 leR ltR (c3 (.int 0)) (v3 8) (v3 2))))) (set3 4 (o3 addR (v3 4) (c3 (.int 1)))) next3))))) next3)) (ret3 (v3 4))))
noncomputable def wm6 : List Str:=["deeds", "line", "found", "e"]
noncomputable def xs6 (sp_q13 : Sp3) (spx_q27 : XE3 -> Sp3) : TS3 :=
 (seq3 (set3 2 (c3 .non)) (seq3 (try3 3 spx_q27 (xu6 2) okX (cons3 (v3 0) (cons3 (v3 1) nil3)) (set3 2 (call3 sp_q13 (cons3 (v3 3) nil3)))) (ret3 (v3 2))))
noncomputable def xl6 : List Str:=["script", "state", "ahead", "part", "behind", "times", "first", "pen", "once", "there", "shift", "far", "last", "deeds", "due", "k", "line", "seen", "found", "span", "total"]
noncomputable def xm3 (sp_q1 sp_q2 sp_q3 sp_q4 sp_q5 sp_q6 sp_q8 sp_q9 sp_q10 sp_q11 sp_q12 sp_q14 sp_q16 : Sp3) : TS3 :=
 (ret3 (andV3 (call3 sp_q14 (cons3 (v3 18) nil3)) (o3 eqR (v3 18) (v3 20))))
noncomputable def xg2 (sp_q1 sp_q2 sp_q3 sp_q4 sp_q5 sp_q6 sp_q8 sp_q9 sp_q10 sp_q11 sp_q12 sp_q14 sp_q16 : Sp3) : TS3 :=
 (seq3 (set3 20 (o3 addR (o3 addR (mt3 cntR (v3 6) (cons3 (v3 16) nil3)) (mt3 cntR (v3 12) (cons3 (v3 16) nil3))) (call3 sp_q6 (cons3 (v3 8) (cons3 (v3 10) (cons3 (v3 5) (cons3 (v3 16) nil3))))))) (xm3 sp_q1 sp_q2 sp_q3 sp_q4 sp_q5 sp_q6 sp_q8 sp_q9 sp_q10 sp_q11 sp_q12 sp_q14 sp_q16))
noncomputable def yg2 (sp_q1 sp_q2 sp_q3 sp_q4 sp_q5 sp_q6 sp_q8 sp_q9 sp_q10 sp_q11 sp_q12 sp_q14 sp_q16 : Sp3) : TS3 :=
 (seq3 (ifs3 (and3 (b3 (o3 neR (v3 8) (lst3 nil3))) (b3 (o3 neR (v3 10) (tup3 (cons3 (c3 (.int 0)) (cons3 (c3 (.int 0)) nil3)))))) (seq3 (set3 19 (call3 sp_q9 (cons3 (call3 sp_q2 (cons3 (v3 8) nil3)) (cons3 (v3 16) (cons3 (v3 10) (cons3 (v3 5) nil3)))))) (ifs3 (b3 (o3 geR (o3 subR (o3 ixR (v3 19) (c3 (.int 1))) (o3 ixR (v3 19) (c3 (.int 0)))) (c3 (.int 1000)))) (ret3 (o3 eqR (v3 18) (lst3 (cons3 (c3 (.bl false)) (cons3 (c3 (.bl false)) (cons3 (c3 (.bl true)) (cons3 (c3 (.bl false)) (cons3 (c3 (.bl false)) (cons3 (c3 (.bl false)) (cons3 (c3 (.bl true)) nil3)))))))))) next3)) next3) (xg2 sp_q1 sp_q2 sp_q3 sp_q4 sp_q5 sp_q6 sp_q8 sp_q9 sp_q10 sp_q11 sp_q12 sp_q14 sp_q16))
noncomputable def zg2 (sp_q1 sp_q2 sp_q3 sp_q4 sp_q5 sp_q6 sp_q8 sp_q9 sp_q10 sp_q11 sp_q12 sp_q14 sp_q16 : Sp3) : TS3 :=
 (seq3 (set3 18 (call3 sp_q12 (cons3 (v3 13) (cons3 (v3 16) nil3)))) (yg2 sp_q1 sp_q2 sp_q3 sp_q4 sp_q5 sp_q6 sp_q8 sp_q9 sp_q10 sp_q11 sp_q12 sp_q14 sp_q16))
noncomputable def ym3 (sp_q1 sp_q2 sp_q3 sp_q4 sp_q5 sp_q6 sp_q8 sp_q9 sp_q10 sp_q11 sp_q12 sp_q14 sp_q16 : Sp3) : TS3 :=
 (seq3 (ifs3 (and3 (b3 (o3 neR (v3 8) (lst3 nil3))) (b3 (o3 gtR (call3 sp_q11 (cons3 (v3 1) (cons3 (c3 (.int 3)) nil3))) (c3 (.int 0))))) (seq3 (set3 17 (o3 ixR (v3 8) (call3 sp_q11 (cons3 (v3 1) (cons3 (call3 lenR (cons3 (v3 8) nil3)) nil3))))) (set3 16 (tup3 (cons3 (o3 addR (o3 ixR (v3 17) (c3 (.int 0))) (o3 mulR (v3 15) (o3 ixR (v3 10) (c3 (.int 0))))) (cons3 (o3 addR (o3 ixR (v3 17) (c3 (.int 1))) (o3 mulR (v3 15) (o3 ixR (v3 10) (c3 (.int 1))))) (cons3 (o3 ixR (v3 17) (c3 (.int 2))) nil3)))))) next3) (zg2 sp_q1 sp_q2 sp_q3 sp_q4 sp_q5 sp_q6 sp_q8 sp_q9 sp_q10 sp_q11 sp_q12 sp_q14 sp_q16))
noncomputable def zm3 (sp_q1 sp_q2 sp_q3 sp_q4 sp_q5 sp_q6 sp_q8 sp_q9 sp_q10 sp_q11 sp_q12 sp_q14 sp_q16 : Sp3) : TS3 :=
 (seq3 (set3 16 (tup3 (cons3 (o3 subR (o3 addR (o3 addR (o3 ixR (v3 7) (c3 (.int 0))) (o3 mulR (v3 15) (o3 ixR (v3 10) (c3 (.int 0))))) (call3 sp_q11 (cons3 (v3 1) (cons3 (c3 (.int 3)) nil3)))) (c3 (.int 1))) (cons3 (o3 addR (o3 ixR (v3 7) (c3 (.int 1))) (o3 mulR (v3 15) (o3 ixR (v3 10) (c3 (.int 1))))) (cons3 (call3 sp_q11 (cons3 (v3 1) (cons3 (c3 (.int 2)) nil3))) nil3))))) (ym3 sp_q1 sp_q2 sp_q3 sp_q4 sp_q5 sp_q6 sp_q8 sp_q9 sp_q10 sp_q11 sp_q12 sp_q14 sp_q16))
noncomputable def wg2 (sp_q1 sp_q2 sp_q3 sp_q4 sp_q5 sp_q6 sp_q8 sp_q9 sp_q10 sp_q11 sp_q12 sp_q14 sp_q16 : Sp3) : TS3 :=
 (seq3 (set3 15 (o3 ixR (lst3 (cons3 (c3 (.int 0)) (cons3 (o3 subR (v3 5) (c3 (.int 1))) (cons3 (o3 fdivR (v3 5) (c3 (.int 2))) (cons3 (call3 sp_q11 (cons3 (v3 1) (cons3 (c3 (.int 3)) nil3))) nil3))))) (call3 sp_q11 (cons3 (v3 1) (cons3 (c3 (.int 4)) nil3))))) (zm3 sp_q1 sp_q2 sp_q3 sp_q4 sp_q5 sp_q6 sp_q8 sp_q9 sp_q10 sp_q11 sp_q12 sp_q14 sp_q16))
noncomputable def wm3 (sp_q1 sp_q2 sp_q3 sp_q4 sp_q5 sp_q6 sp_q8 sp_q9 sp_q10 sp_q11 sp_q12 sp_q14 sp_q16 : Sp3) : TS3 :=
 (seq3 (ifs3 (not3 (b3 (call3 sp_q3 (cons3 (call3 sp_q16 (cons3 (v3 13) nil3)) (cons3 (v3 14) nil3))))) (ret3 (c3 (.bl false))) next3) (wg2 sp_q1 sp_q2 sp_q3 sp_q4 sp_q5 sp_q6 sp_q8 sp_q9 sp_q10 sp_q11 sp_q12 sp_q14 sp_q16))
noncomputable def xn3 (sp_q1 sp_q2 sp_q3 sp_q4 sp_q5 sp_q6 sp_q8 sp_q9 sp_q10 sp_q11 sp_q12 sp_q14 sp_q16 : Sp3) : TS3 :=
 (seq3 (set3 14 (call3 sp_q4 (cons3 (comp3 [none] (is3 (lst3 (cons3 (v3 6) (cons3 (v3 8) (cons3 (call3 sp_q5 (cons3 (v3 8) (cons3 (o3 ixR (v3 11) (c3 (.int 0))) (cons3 (o3 ixR (v3 11) (c3 (.int 1))) nil3)))) (cons3 (v3 12) nil3)))))) (gn3 0) tt3 (call3 sp_q2 (cons3 (v3 0) nil3))) nil3))) (wm3 sp_q1 sp_q2 sp_q3 sp_q4 sp_q5 sp_q6 sp_q8 sp_q9 sp_q10 sp_q11 sp_q12 sp_q14 sp_q16))
noncomputable def yn3 (sp_q1 sp_q2 sp_q3 sp_q4 sp_q5 sp_q6 sp_q8 sp_q9 sp_q10 sp_q11 sp_q12 sp_q14 sp_q16 : Sp3) : TS3 :=
 (seq3 (set3 13 (o3 addR (o3 addR (v3 2) (tup3 (cons3 (tup3 (cons3 (c3 (.str "times")) (cons3 (v3 5) (cons3 (v3 3) nil3)))) nil3))) (v3 4))) (xn3 sp_q1 sp_q2 sp_q3 sp_q4 sp_q5 sp_q6 sp_q8 sp_q9 sp_q10 sp_q11 sp_q12 sp_q14 sp_q16))
noncomputable def zn3 (sp_q1 sp_q2 sp_q3 sp_q4 sp_q5 sp_q6 sp_q8 sp_q9 sp_q10 sp_q11 sp_q12 sp_q14 sp_q16 : Sp3) : TS3 :=
 (seq3 (set3 12 (o3 ixR (call3 sp_q8 (cons3 (v3 4) (cons3 (tup3 (cons3 (o3 addR (o3 ixR (v3 7) (c3 (.int 0))) (o3 mulR (v3 5) (o3 ixR (v3 10) (c3 (.int 0))))) (cons3 (o3 addR (o3 ixR (v3 7) (c3 (.int 1))) (o3 mulR (v3 5) (o3 ixR (v3 10) (c3 (.int 1))))) (cons3 (o3 ixR (v3 7) (c3 (.int 2))) nil3)))) nil3))) (c3 (.int 0)))) (yn3 sp_q1 sp_q2 sp_q3 sp_q4 sp_q5 sp_q6 sp_q8 sp_q9 sp_q10 sp_q11 sp_q12 sp_q14 sp_q16))
noncomputable def zs2 (sp_q1 sp_q2 sp_q3 sp_q4 sp_q5 sp_q6 sp_q8 sp_q9 sp_q10 sp_q11 sp_q12 sp_q14 sp_q16 : Sp3) : TS3 :=
 (seq3 (set3 11 (tup3 (cons3 (o3 mulR (o3 subR (v3 5) (c3 (.int 1))) (o3 ixR (v3 10) (c3 (.int 0)))) (cons3 (o3 mulR (o3 subR (v3 5) (c3 (.int 1))) (o3 ixR (v3 10) (c3 (.int 1)))) nil3)))) (zn3 sp_q1 sp_q2 sp_q3 sp_q4 sp_q5 sp_q6 sp_q8 sp_q9 sp_q10 sp_q11 sp_q12 sp_q14 sp_q16))
noncomputable def wm4 (sp_q1 sp_q2 sp_q3 sp_q4 sp_q5 sp_q6 sp_q8 sp_q9 sp_q10 sp_q11 sp_q12 sp_q14 sp_q16 : Sp3) : TS3 :=
 (seq3 (set3 10 (tup3 (cons3 (o3 subR (o3 ixR (v3 9) (c3 (.int 0))) (o3 ixR (v3 7) (c3 (.int 0)))) (cons3 (o3 subR (o3 ixR (v3 9) (c3 (.int 1))) (o3 ixR (v3 7) (c3 (.int 1)))) nil3)))) (zs2 sp_q1 sp_q2 sp_q3 sp_q4 sp_q5 sp_q6 sp_q8 sp_q9 sp_q10 sp_q11 sp_q12 sp_q14 sp_q16))
noncomputable def xn4 (sp_q1 sp_q2 sp_q3 sp_q4 sp_q5 sp_q6 sp_q8 sp_q9 sp_q10 sp_q11 sp_q12 sp_q14 sp_q16 : Sp3) : TS3 :=
 (seq3 (asg3 (call3 sp_q8 (cons3 (v3 3) (cons3 (v3 7) nil3))) (gtup3 2 (gcons3 (gn3 8) (gcons3 (gn3 9) gnil3)))) (wm4 sp_q1 sp_q2 sp_q3 sp_q4 sp_q5 sp_q6 sp_q8 sp_q9 sp_q10 sp_q11 sp_q12 sp_q14 sp_q16))
noncomputable def yn4 (sp_q1 sp_q2 sp_q3 sp_q4 sp_q5 sp_q6 sp_q8 sp_q9 sp_q10 sp_q11 sp_q12 sp_q14 sp_q16 : Sp3) : TS3 :=
 (seq3 (asg3 (call3 sp_q8 (cons3 (v3 2) (cons3 (tup3 (cons3 (c3 (.int 0)) (cons3 (c3 (.int 0)) (cons3 (c3 (.int 0)) nil3)))) nil3))) (gtup3 2 (gcons3 (gn3 6) (gcons3 (gn3 7) gnil3)))) (xn4 sp_q1 sp_q2 sp_q3 sp_q4 sp_q5 sp_q6 sp_q8 sp_q9 sp_q10 sp_q11 sp_q12 sp_q14 sp_q16))
noncomputable def ws2 (sp_q1 sp_q2 sp_q3 sp_q4 sp_q5 sp_q6 sp_q8 sp_q9 sp_q10 sp_q11 sp_q12 sp_q14 sp_q16 : Sp3) : TS3 :=
 (seq3 (set3 5 (o3 addR (c3 (.int 1)) (call3 sp_q11 (cons3 (v3 1) (cons3 (o3 ixR (lst3 (cons3 (c3 (.int 5)) (cons3 (c3 (.int 2000)) (cons3 (o3 powR (c3 (.int 10)) (c3 (.int 9))) (cons3 (o3 subR (o3 powR (c3 (.int 10)) (c3 (.int 20))) (c3 (.int 1))) nil3))))) (call3 sp_q11 (cons3 (v3 1) (cons3 (c3 (.int 4)) nil3)))) nil3))))) (yn4 sp_q1 sp_q2 sp_q3 sp_q4 sp_q5 sp_q6 sp_q8 sp_q9 sp_q10 sp_q11 sp_q12 sp_q14 sp_q16))
noncomputable def zn4 (sp_q1 sp_q2 sp_q3 sp_q4 sp_q5 sp_q6 sp_q8 sp_q9 sp_q10 sp_q11 sp_q12 sp_q14 sp_q16 : Sp3) : TS3 :=
 (seq3 (set3 3 (o3 addR (v3 3) (tup3 (cons3 (tup3 (cons3 (c3 (.str "turn")) (cons3 (o3 subR (c3 (.int 0)) (o3 ixR (o3 ixR (call3 sp_q8 (cons3 (v3 3) (cons3 (tup3 (cons3 (c3 (.int 0)) (cons3 (c3 (.int 0)) (cons3 (c3 (.int 0)) nil3)))) nil3))) (c3 (.int 1))) (c3 (.int 2)))) nil3))) nil3)))) (ws2 sp_q1 sp_q2 sp_q3 sp_q4 sp_q5 sp_q6 sp_q8 sp_q9 sp_q10 sp_q11 sp_q12 sp_q14 sp_q16))
noncomputable def wn4 (sp_q1 sp_q2 sp_q3 sp_q4 sp_q5 sp_q6 sp_q8 sp_q9 sp_q10 sp_q11 sp_q12 sp_q14 sp_q16 : Sp3) : TS3 :=
 (seq3 (set3 4 (call3 sp_q1 (cons3 (v3 1) (cons3 (c3 (.int 0)) (cons3 (call3 sp_q11 (cons3 (v3 1) (cons3 (c3 (.int 3)) nil3))) nil3))))) (zn4 sp_q1 sp_q2 sp_q3 sp_q4 sp_q5 sp_q6 sp_q8 sp_q9 sp_q10 sp_q11 sp_q12 sp_q14 sp_q16))
noncomputable def xo4 (sp_q1 sp_q2 sp_q3 sp_q4 sp_q5 sp_q6 sp_q8 sp_q9 sp_q10 sp_q11 sp_q12 sp_q14 sp_q16 : Sp3) : TS3 :=
 (seq3 (set3 3 (call3 sp_q1 (cons3 (v3 1) (cons3 (c3 (.int 0)) (cons3 (o3 addR (c3 (.int 1)) (call3 sp_q11 (cons3 (v3 1) (cons3 (c3 (.int 3)) nil3)))) nil3))))) (wn4 sp_q1 sp_q2 sp_q3 sp_q4 sp_q5 sp_q6 sp_q8 sp_q9 sp_q10 sp_q11 sp_q12 sp_q14 sp_q16))
noncomputable def yo4 (sp_q1 sp_q2 sp_q3 sp_q4 sp_q5 sp_q6 sp_q8 sp_q9 sp_q10 sp_q11 sp_q12 sp_q14 sp_q16 : Sp3) : TS3 :=
 (seq3 (set3 2 (call3 sp_q1 (cons3 (v3 1) (cons3 (c3 (.int 0)) (cons3 (call3 sp_q11 (cons3 (v3 1) (cons3 (c3 (.int 3)) nil3))) nil3))))) (xo4 sp_q1 sp_q2 sp_q3 sp_q4 sp_q5 sp_q6 sp_q8 sp_q9 sp_q10 sp_q11 sp_q12 sp_q14 sp_q16))
noncomputable def yq6 (sp_q1 sp_q2 sp_q3 sp_q4 sp_q5 sp_q6 sp_q8 sp_q9 sp_q10 sp_q11 sp_q12 sp_q14 sp_q16 : Sp3) : TS3 :=
 (seq3 (set3 1 (call3 sp_q10 (cons3 (v3 0) (cons3 (c3 (.int 0)) nil3)))) (yo4 sp_q1 sp_q2 sp_q3 sp_q4 sp_q5 sp_q6 sp_q8 sp_q9 sp_q10 sp_q11 sp_q12 sp_q14 sp_q16))
noncomputable def zn0 : List Str:=["self", "stroke", "ends"]
noncomputable def xs0 (sp_q28 : Sp3) : TS3 :=
 (seq3 (set3 2 (call3 sp_q28 (cons3 (v3 1) nil3))) (seq3 (zo2 (v3 0) (o3 ixR (v3 2) (c3 (.int 0))) "Look" "least") (seq3 (zo2 (v3 0) (o3 ixR (v3 2) (c3 (.int 1))) "Look" "greatest") (zo2 (v3 0) (c3 wk0) "Look" "left"))))
noncomputable def xl0 : List Str:=["self", "box", "low"]
noncomputable def zp0 : TS3 :=
 (seq3 (ifs3 (b3 (o3 (isNR false) (v3 1) (c3 .non))) (ret3 (c3 (.bl false))) next3) (seq3 (set3 2 (andV3 (o3 leR (o3 ixR (v3 1) (c3 (.int 0))) (o3 ixR (fld3 (v3 0) "Look" "least") (c3 (.int 0)))) (o3 leR (o3 ixR (v3 1) (c3 (.int 1))) (o3 ixR (fld3 (v3 0) "Look" "least") (c3 (.int 1)))))) (ret3 (andV3 (v3 2) (andV3 (o3 leR (o3 ixR (fld3 (v3 0) "Look" "greatest") (c3 (.int 0))) (o3 ixR (v3 1) (c3 (.int 2)))) (o3 leR (o3 ixR (fld3 (v3 0) "Look" "greatest") (c3 (.int 1))) (o3 ixR (v3 1) (c3 (.int 3)))))))))
noncomputable def zj0 : List Str:=["self"]
noncomputable def zm0 (XE : XE3) : TS3 :=
 (seq3 (ifs3 (b3 (o3 eqR (fld3 (v3 0) "Look" "left") (c3 (.int 0)))) (ws3 XE "NoRoom" (cons3 (c3 (.str "too many doings would be looked at")) nil3)) next3) (zo2 (v3 0) (o3 subR (fld3 (v3 0) "Look" "left") (c3 (.int 1))) "Look" "left"))
end Pv
namespace Pv
open PySem Mw
theorem kn_go_jump : ((("go" : Str) = ("jump" : Str)) = False):=eq_false (by decide)
theorem kn_go_turn : ((("go" : Str) = ("turn" : Str)) = False):=eq_false (by decide)
theorem kn_go_times : ((("go" : Str) = ("times" : Str)) = False):=eq_false (by decide)
theorem kn_jump_go : ((("jump" : Str) = ("go" : Str)) = False):=eq_false (by decide)
theorem kn_jump_turn : ((("jump" : Str) = ("turn" : Str)) = False):=eq_false (by decide)
theorem kn_jump_times : ((("jump" : Str) = ("times" : Str)) = False):=eq_false (by decide)
theorem kn_turn_go : ((("turn" : Str) = ("go" : Str)) = False):=eq_false (by decide)
theorem kn_turn_jump : ((("turn" : Str) = ("jump" : Str)) = False):=eq_false (by decide)
theorem kn_turn_times : ((("turn" : Str) = ("times" : Str)) = False):=eq_false (by decide)
theorem kn_times_go : ((("times" : Str) = ("go" : Str)) = False):=eq_false (by decide)
theorem kn_times_jump : ((("times" : Str) = ("jump" : Str)) = False):=eq_false (by decide)
theorem kn_times_turn : ((("times" : Str) = ("turn" : Str)) = False):=eq_false (by decide)
theorem kp_go : (["go", "jump", "turn"] : List Str).contains "go" = true:=by decide
theorem kp_jump : (["go", "jump", "turn"] : List Str).contains "jump" = true:=by decide
theorem kp_turn : (["go", "jump", "turn"] : List Str).contains "turn" = true:=by decide
theorem kp_times : (["go", "jump", "turn"] : List Str).contains "times" = false:=by decide
theorem kz_go : (["go", "times"] : List Str).contains "go" = true:=by decide
theorem kz_jump : (["go", "times"] : List Str).contains "jump" = false:=by decide
theorem kz_turn : (["go", "times"] : List Str).contains "turn" = false:=by decide
theorem kz_times : (["go", "times"] : List Str).contains "times" = true:=by decide
theorem cst0 : ((0 : Nat) : Int) = 0:=rfl
theorem cst1 : ((1 : Nat) : Int) = 1:=rfl
theorem cst2 : ((2 : Nat) : Int) = 2:=rfl
theorem cst3 : ((3 : Nat) : Int) = 3:=rfl
local macro_rules | `(tactic| simp_arith [$xs,*] $[$l]?)=>`(tactic| simp only [$xs,*,Pv.seq3,Pv.next3,Pv.never3,Pv.brk3,Pv.cnt3,Pv.drop3,Pv.ret3,Pv.retN3,Pv.ifs3,Pv.gn3,Pv.gnil3,Pv.gcons3,Pv.gtup3,Pv.set3,Pv.asg3,Pv.par3,Pv.sub3,Pv.for3,Pv.is3,Pv.ir3,Pv.ir23,Pv.v3,Pv.c3,Pv.o3,Pv.un3,Pv.b3,Pv.and3,Pv.or3,Pv.not3,Pv.andV3,Pv.orV3,Pv.notV3,Pv.if3,Pv.nil3,Pv.cons3,Pv.tup3,Pv.lst3,Pv.call3,Pv.mt3,Pv.comp3,Pv.tt3,Pv.getI,List.set_cons_zero,List.set_cons_succ,Pv.int2,Pv.int20,Pv.subR,Pv.mulR,Pv.intR,Pv.sl3,Pv.np3,Pv.pt3,Pv.slR,Pv.modR,Pv.fdivR,Pv.powR,Pv.ltR,Pv.leR,Pv.gtR,Pv.geR,Pv.negR,Pv.addR,Pv.eqR_ii,Pv.eqR_ss,Pv.eqR_bb,Pv.eqR_is,Pv.neR_ii,Pv.neR_ss,Pv.neR_bb,Pv.inR,Pv.ixR,Pv.lenR,Pv.absR,Pv.tupR,Pv.sumR,Pv.tyN,Pv.isIn,Pv.isiR,Pv.appR,Pv.extR,Pv.smt3,Pv.joinR,Pv.splitR,Pv.startsR,Pv.pop3,Pv.lrev3,Pv.strR,Pv.start3,List.map_cons,List.map_nil,List.cons_append,List.nil_append,List.length_cons,List.length_nil,List.replicate,Pv.atI0,Pv.atI1,Pv.atI2,Nat.reduceAdd,Nat.reduceSub,Nat.zero_add,reduceIte,Pv.strs?,Bool.not_true,Bool.not_false,Bool.false_eq_true,if_false,if_true,decide_eq_true_eq,Bool.not_eq_true',decide_eq_false_iff_not,Pv.ixN0,Pv.ixN1,Pv.ixN2,true_and,and_true,Pv.cst0,Pv.cst1,Pv.cst2,Pv.cst3,Int.reduceEq,Option.bind_none,Option.bind_some,Pv.kn_go_jump,Pv.kn_go_turn,Pv.kn_go_times,Pv.kn_jump_go,Pv.kn_jump_turn,Pv.kn_jump_times,Pv.kn_turn_go,Pv.kn_turn_jump,Pv.kn_turn_times,Pv.kn_times_go,Pv.kn_times_jump,Pv.kn_times_turn,Pv.kp_go,Pv.kp_jump,Pv.kp_turn,Pv.kp_times,Pv.kz_go,Pv.kz_jump,Pv.kz_turn,Pv.kz_times] $[$l]?)
mutual
noncomputable def enc : Dd -> D
 | .go n=>.tup [.str "go",.int n]
 | .jump n=>.tup [.str "jump",.int n]
 | .turn n=>.tup [.str "turn",.int n]
 | .times n w=>.tup [.str "times",.int n,.tup (encs w)]
noncomputable def encs : List Dd -> List D
 | []=>[]
 | d :: r=>enc d :: encs r
end
noncomputable def ws5 : Sp3:=λ ds μ Q=>∃ (kind : Str) (n : Int),ds = [.str kind,.int n] /\ -G <= n /\ n <= G /\ ((kind = "go" \/ kind = "times") -> 0 <= n) /\ Q .non μ
theorem yl7 (ds : List D) (μ : Mu) (Q : VK3) (h : ws5 ds μ Q) : xp5 { nx:=λ _ μ'=>Q .non μ',rt:=Q } (start3 yf5 ds) μ:=by
 obtain ⟨kind,n,rfl,h1,h2,h3,q⟩:=h
 unfold G at h1 h2
 simp_arith [xp5,yf5]
 rw [if_neg (by omega)]
 split
 ·split
  ·next h5 =>
   have h6 : kind = "go" \/ kind = "times" := by simpa using h5
   have:=h3 h6
   omega
  ·exact q
 ·exact q
noncomputable def wu2 (j : Nat) : Sp3:=λ ds μ Q=>∃ (d : Dd) (k : Int),ds = [enc d,.int k] /\ okd d /\ dep d < j /\ k + dep d <= 4 /\ cnt d <= 30 /\ Q (.int (cnt d)) μ
noncomputable def za2 (j : Nat) : Sp3:=λ ds μ Q=>∃ (w : List Dd) (k : Int),ds = [.tup (encs w),.int k] /\ oks w /\ deps w < j /\ k + deps w <= 4 /\ cnts w <= 30 /\ Q (.int (cnts w)) μ
theorem yk7 (j : Nat) (ds : List D) (μ : Mu) (Q : VK3) (h : wu2 (j + 1) ds μ Q) : yr6 ws5 (za2 j) { nx:=λ _ μ'=>Q .non μ',rt:=Q } (start3 xm6 ds) μ:=by
 obtain ⟨d,k,rfl,h1,h2,h3,h4,q⟩:=h
 cases d
 case go n=>simp only [okd] at h1; exact ⟨_,n,rfl,by omega,by omega,λ _=>h1.1,q⟩
 case jump n=>simp only [okd] at h1; exact ⟨_,n,rfl,by omega,by omega,by simp only [Pv.kn_go_jump,Pv.kn_go_turn,Pv.kn_go_times,Pv.kn_jump_go,Pv.kn_jump_turn,Pv.kn_jump_times,Pv.kn_turn_go,Pv.kn_turn_jump,Pv.kn_turn_times,Pv.kn_times_go,Pv.kn_times_jump,Pv.kn_times_turn,Pv.kp_go,Pv.kp_jump,Pv.kp_turn,Pv.kp_times,Pv.kz_go,Pv.kz_jump,Pv.kz_turn,Pv.kz_times]; simp,q⟩
 case turn n=>simp only [okd] at h1; exact ⟨_,n,rfl,by omega,by omega,by simp only [Pv.kn_go_jump,Pv.kn_go_turn,Pv.kn_go_times,Pv.kn_jump_go,Pv.kn_jump_turn,Pv.kn_jump_times,Pv.kn_turn_go,Pv.kn_turn_jump,Pv.kn_turn_times,Pv.kn_times_go,Pv.kn_times_jump,Pv.kn_times_turn,Pv.kp_go,Pv.kp_jump,Pv.kp_turn,Pv.kp_times,Pv.kz_go,Pv.kz_jump,Pv.kz_turn,Pv.kz_times]; simp,q⟩
 case times n w =>
  simp only [okd,dep,cnt] at h1 h2 h3 h4 q
  refine ⟨_,n,rfl,by omega,by omega,λ _=>h1.1.1,w,k + 1,rfl,h1.2,by omega,by omega,by omega,?_⟩
  have e : ((1 + cnts w : Nat) : Int) = 1 + (cnts w : Int):=by omega
  rw [e] at q
  exact q
theorem zk7 (j : Nat) (ds : List D) (μ : Mu) (Q : VK3) (h : za2 j ds μ Q) : zo5 (wu2 j) { nx:=λ _ μ'=>Q .non μ',rt:=Q } (start3 we5 ds) μ:=by
 obtain ⟨w,k,rfl,h1,h2,h3,h4,q⟩:=h
 simp_arith [zo5,we5]
 rw [if_neg (by omega)]
 refine xp0 (λ l ρ μ'=>μ' = μ /\ ∃ (r : List Dd) (c : Nat) (dd : Option D),l = encs r /\ ρ = [some (.tup (encs w)),some (.int k),some (.int c),dd] /\ oks r /\ deps r <= deps w /\ c + cnts r = cnts w) ?_ (λ _ _ _ _=>trivial) ?_ ?_
 ·exact ⟨rfl,w,0,none,rfl,rfl,h1,Nat.le_refl _,by omega⟩
 ·rintro ρ μ' ⟨rfl,r,c,dd,e,rfl,_,_,e2⟩
  cases r with
  | nil =>
   simp only [cnts] at e2
   simp_arith [cst0]
   have e3 : c = cnts w:=by omega
   rw [e3]
   exact q
  | cons _ _=>simp [encs] at e
 ·rintro x rest ρ μ' ⟨rfl,r,c,dd,e,rfl,o,dp,e2⟩
  cases r with
  | nil=>simp [encs] at e
  | cons d r =>
   simp only [encs,List.cons.injEq] at e
   obtain ⟨rfl,rfl⟩:=e
   simp only [oks,deps,cnts] at o dp e2
   refine ⟨d,k,rfl,o.1,by omega,by omega,by omega,?_⟩
   simp_arith [cst0]
   rw [if_neg (by omega)]
   exact ⟨r,c + cnt d,some (enc d),rfl,by simp,o.2,by omega,by omega⟩
noncomputable def Wd (w : List Dd) : Prop:=oks w /\ deps w <= 4 /\ cnts w <= 30
noncomputable def xp4 : Sp3:=λ ds μ Q=>∃ w,ds = [.tup (encs w)] /\ Wd w /\ Q .non μ
theorem wk7 (ds : List D) (μ : Mu) (Q : VK3) (h : xp4 ds μ Q) : wo5 (za2 5) { nx:=λ _ μ'=>Q .non μ',rt:=Q } (start3 xf5 ds) μ:=by
 obtain ⟨w,rfl,⟨h1,h2,h3⟩,q⟩:=h
 simp_arith [wo5,xf5]
 exact ⟨w,0,rfl,h1,by omega,by omega,h3,q⟩
theorem yi0 : ∀ a,(encs a).length = a.length
 | []=>by simp [encs]
 | d :: r=>by simp only [encs,List.length_cons,yi0 r]
noncomputable def encP (p : Pen) : D:=.tup [.int p.1,.int p.2.1,.int p.2.2]
noncomputable def zq1 : Sp3:=λ ds μ Q=>∃ p q,ds = [encP p,encP q] /\ Hd p /\ Q (encP (led p q)) μ
theorem wp1 {h : Int} (hd : h = 0 \/ h = 1 \/ h = 2 \/ h = 3) : atI [D.tup [D.int 1,D.int 0],D.tup [D.int 0,D.int 1],D.tup [D.int (-1),D.int 0],D.tup [D.int 0,D.int (-1)]] h = some (.tup [.int (cs h),.int (sn h)]):=by
 rcases hd with rfl | rfl | rfl | rfl <;> rfl
theorem ze2 (h : Int) : -(2 ^ 64) < cs h /\ cs h < 2 ^ 64:=by unfold cs; split <;> (try split) <;> decide
theorem xb2 (h : Int) : -(2 ^ 64) < sn h /\ sn h < 2 ^ 64:=by unfold sn; split <;> (try split) <;> decide
theorem xf6 {l : List D} {i : Int} {d : D} {μ : Mu} {Q : VK3} (e : atI l i = some d) (h : Q d μ) : ixR (.tup l) (.int i) μ Q:=by
 unfold ixR
 simp only [e]
 exact h
theorem zi7 (ds : List D) (μ : Mu) (Q : VK3) (h : zq1 ds μ Q) : xq6 { nx:=λ _ μ'=>Q .non μ',rt:=Q } (start3 wk6 ds) μ:=by
 obtain ⟨p,q,rfl,hp,k⟩:=h
 have c1 : CMul q.1 (cs p.2.2):=.inl (.inr (ze2 _))
 have c2 : CMul q.2.1 (sn p.2.2):=.inl (.inr (xb2 _))
 have c3 : CMul q.1 (sn p.2.2):=.inl (.inr (xb2 _))
 have c4 : CMul q.2.1 (cs p.2.2):=.inl (.inr (ze2 _))
 have d1 : (0 : Int) < 4:=by decide
 have d2 : 3 <= sizeLine:=by decide
 show ixR yd2 (.int p.2.2) μ (λ d μ1=>_)
 refine xf6 (wp1 hp) ?_
 exact And.intro c1 (And.intro c2 (And.intro c3 (And.intro c4 (And.intro d1 (And.intro d2 k)))))
noncomputable def wo3 : Sp3:=λ ds μ Q=>∃ p n,ds = [encP p,.int n] /\ Hd p /\ 0 <= n /\ n <= G /\ p.1.natAbs < 2 ^ 1000 /\ p.2.1.natAbs < 2 ^ 1000 /\ Q (encP (rep p n)) μ
theorem wf8 {n : Int} (h0 : 0 <= n) (h1 : n <= G) : n.natAbs < Big :=
 wc6 h0 (Int.le_trans h1 (yf8 (c:=1) (e:=0) (Nat.le_refl _))) (by omega) (by omega)
theorem wg7 (ds : List D) (μ : Mu) (Q : VK3) (h : wo3 ds μ Q) : zn5 zq1 { nx:=λ _ μ'=>Q .non μ',rt:=Q } (start3 wd5 ds) μ:=by
 obtain ⟨p,n,rfl,hp,h0,h1,b1,b2,k⟩:=h
 simp_arith [zn5,wd5,encP]
 split
 ·next e =>
  refine ⟨.inr ⟨b1,wf8 h0 h1⟩,.inr ⟨b2,wf8 h0 h1⟩,by decide,?_⟩
  rw [rep,if_pos e] at k
  exact k
 ·next e =>
  have hm : 0 <= n % 4 /\ n % 4 < 4:=⟨by omega,by omega⟩
  refine ⟨by decide,by omega,?_⟩
  refine xp0 (λ l ρ μ'=>μ' = μ /\ ∃ (i : Nat) (dd : Option D),ρ = [some (encP p),some (.int n),some (encP (pw p i)),dd] /\ i + l.length = (n % 4).toNat) ?_ (λ _ _ _ _=>trivial) ?_ ?_
  ·refine ⟨rfl,0,none,rfl,?_⟩
   simp [rngD]
  ·rintro ρ μ' ⟨rfl,i,dd,rfl,e2⟩
   simp_arith [cst0]
   rw [rep,if_neg e] at k
   have e3 : i = (n % 4).toNat:=by simpa using e2
   rw [e3]
   exact k
  ·rintro x rest ρ μ' ⟨rfl,i,dd,rfl,e2⟩
   simp_arith [cst0]
   refine ⟨pw p i,p,rfl,yn1 p i,rfl,i + 1,some x,rfl,?_⟩
   rw [List.length_cons] at e2
   omega
noncomputable def spPb (j : Nat) : Sp3:=λ ds μ Q=>∃ w,ds = [.tup (encs w)] /\ deps w < j /\ deps w <= 5 /\ cnts w <= 60 /\ oks w /\ Q (encP (pb w)) μ
noncomputable def spPd (j : Nat) : Sp3:=λ ds μ Q=>∃ d,ds = [enc d] /\ dep d < j /\ dep d <= 5 /\ cnt d <= 60 /\ okd d /\ Q (encP (pd d)) μ
theorem xh7 (j : Nat) (ds : List D) (μ : Mu) (Q : VK3) (h : spPd (j + 1) ds μ Q) : wo6 (spPb j) wo3 { nx:=λ _ μ'=>Q .non μ',rt:=Q } (start3 zj6 ds) μ:=by
 obtain ⟨d,rfl,h1,h2,h2',h3,q⟩:=h
 cases d
 case go n=>exact And.intro (show 3 <= sizeLine by decide) q
 case jump n=>exact And.intro (show 3 <= sizeLine by decide) q
 case turn n=>exact And.intro (show (0 : Int) < 4 by decide) (And.intro (show 3 <= sizeLine by decide) q)
 case times n w =>
  simp only [okd,dep,cnt,pd] at h1 h2 h2' h3 q
  obtain ⟨b1,b2⟩:=zu3 (yu3 w h3.2) (by omega) (by omega)
  exact ⟨w,rfl,by omega,by omega,by omega,h3.2,pb w,n,rfl,wj0 w,h3.1.1,h3.1.2,b1,b2,q⟩
theorem yh7 (j : Nat) (ds : List D) (μ : Mu) (Q : VK3) (h : spPb j ds μ Q) : xp6 zq1 (spPd j) { nx:=λ _ μ'=>Q .non μ',rt:=Q } (start3 wj6 ds) μ:=by
 obtain ⟨w,rfl,h1,h2,h2',h3,q⟩:=h
 refine xp0 (λ l ρ μ'=>μ' = μ /\ ∃ (r : List Dd) (p : Pen) (dd : Option D),l = encs r /\ ρ = [some (.tup (encs w)),some (encP p),dd] /\ oks r /\ deps r <= deps w /\ cnts r <= cnts w /\ Hd p /\ led p (pb r) = pb w) ?_ (λ _ _ _ _=>trivial) ?_ ?_
 ·exact ⟨rfl,w,st,none,rfl,rfl,h3,Nat.le_refl _,Nat.le_refl _,wi1,yq1 (wj0 w)⟩
 ·rintro ρ μ' ⟨rfl,r,p,dd,e,rfl,_,_,_,hp,e2⟩
  cases r with
  | nil =>
   simp only [pb] at e2
   rw [wy0 hp] at e2
   simp_arith [cst0]
   rw [e2]
   exact q
  | cons _ _=>simp [encs] at e
 ·rintro x rest ρ μ' ⟨rfl,r,p,dd,e,rfl,o,dp,cn,hp,e2⟩
  cases r with
  | nil=>simp [encs] at e
  | cons d r =>
   simp only [encs,List.cons.injEq] at e
   obtain ⟨rfl,rfl⟩:=e
   simp only [oks,deps,cnts,pb] at o dp cn e2
   simp_arith [cst0]
   refine ⟨d,rfl,by omega,by omega,by omega,o.1,p,pd d,rfl,hp,rfl,r,led p (pd d),some (enc d),rfl,rfl,o.2,by omega,by omega,yn0 _ _,?_⟩
   rw [xz0 _ hp (zn1 d o.1)]
   exact e2
theorem atI3 {α : Type} {a b c d : α} {r : List α} : atI (a :: b :: c :: d :: r) 3 = some d:=by
 unfold atI ixN; rw [if_pos (by decide),if_pos (by simp only [List.length_cons]; omega)]; rfl
noncomputable def encB : Option Bx -> D
 | none=>.non
 | some b=>.tup [.int b.1,.int b.2.1,.int b.2.2.1,.int b.2.2.2]
noncomputable def yp4 : Sp3:=λ ds μ Q=>∃ a b,ds = [encB a,encB b] /\ Q (encB (bor a b)) μ
theorem zl7 (ds : List D) (μ : Mu) (Q : VK3) (h : yp4 ds μ Q) : zr6 { nx:=λ _ μ'=>Q .non μ',rt:=Q } (start3 ym6 ds) μ:=by
 obtain ⟨a,b,rfl,q⟩:=h
 cases a with
 | none=>exact q
 | some a =>
  cases b with
  | none=>exact q
  | some b=>exact ⟨(show 2 <= sizeLine by decide),(show 2 <= sizeLine by decide),(show 2 + 2 <= sizeLine by decide),q⟩
noncomputable def wa2 : Sp3:=λ ds μ Q=>∃ p b,ds = [encP p,encB b] /\ Hd p /\ Q (encB (bfr p b)) μ
theorem ym7 (ds : List D) (μ : Mu) (Q : VK3) (h : wa2 ds μ Q) : wr6 zq1 { nx:=λ _ μ'=>Q .non μ',rt:=Q } (start3 zm6 ds) μ:=by
 obtain ⟨p,b,rfl,hp,q⟩:=h
 cases b with
 | none=>exact q
 | some b=>exact ⟨(show 3 <= sizeLine by decide),p,(b.1,b.2.1,0),rfl,hp,(show 3 <= sizeLine by decide),p,(b.2.2.1,b.2.2.2,0),rfl,hp,(show 2 <= sizeLine by decide),(show 2 <= sizeLine by decide),(show 2 + 2 <= sizeLine by decide),q⟩
noncomputable def zs5 : Sp3:=λ ds μ Q=>∃ p n,ds = [encP p,.int n] /\ 0 < n /\ n <= G /\ ∀ r,μ r = none -> Q (.ref r) (updM μ r (.lst ((outer p n).map D.int)))
theorem zh7 (ds : List D) (μ : Mu) (Q : VK3) (h : zs5 ds μ Q) : wn5 { nx:=λ _ μ'=>Q .non μ',rt:=Q } (start3 xe5 ds) μ:=by
 obtain ⟨p,n,rfl,h0,h1,q⟩:=h
 simp_arith [wn5,xe5,encP,Pv.min2R,Pv.maxR,Pv.mnR_ii,Pv.mnR_pp,Pv.mxR_ii,Pv.lrng3,Pv.isNR,Pv.isN,Pv.ch3]
 split
 ·next e =>
  refine ⟨by decide,λ r hr=>?_⟩
  have:=q r hr
  rw [outer,if_pos e] at this
  exact this
 ·next e =>
  have hb : (if 4 < n then 4 else n) = mn n 4:=rfl
  rw [hb]
  have:=xl1 n 4
  refine ⟨⟨⟨by omega,by omega⟩,by omega⟩,λ r hr=>?_⟩
  have:=q r hr
  rw [outer,if_neg e,List.map_map] at this
  exact this
noncomputable def xq3 : Sp3:=λ ds μ Q=>∃ b p n,ds = [encB b,encP p,.int n] /\ Hd p /\ 0 < n /\ n <= G /\ p.1.natAbs < 2 ^ 1000 /\ p.2.1.natAbs < 2 ^ 1000 /\ ∀ μ',Ext μ μ' -> Q (encB (brs b p none (outer p n))) μ'
theorem xu4 {p : Pen} {n : Int} (h : 0 < n) : ∀ k ∈ outer p n,0 <= k /\ k <= n:=by
 unfold outer
 intro k hk
 split at hk
 ·simp only [List.mem_cons,List.not_mem_nil,or_false] at hk; omega
 ·obtain ⟨i,hi,rfl⟩:=List.mem_map.mp hk
  have:=List.mem_range.mp hi
  have:=xl1 n 4
  omega
theorem wl7 (ds : List D) (μ : Mu) (Q : VK3) (h : xq3 ds μ Q) : yp5 wa2 yp4 zs5 wo3 { nx:=λ _ μ'=>Q .non μ',rt:=Q } (start3 zf5 ds) μ:=by
 obtain ⟨b,p,n,rfl,hp,h0,h1,b1,b2,q⟩:=h
 simp_arith [yp5,zf5]
 refine ⟨p,n,rfl,h0,h1,λ r hr=>?_⟩
 simp_arith [wb0]
 refine xp0 (λ l ρ μ'=>μ' = updM μ r (.lst ((outer p n).map D.int)) /\ ∃ (ks : List Int) (o : Option Bx) (dd : Option D),l = ks.map D.int /\ ρ = [some (encB b),some (encP p),some (.int n),some (encB o),dd] /\ (∀ k ∈ ks,0 <= k /\ k <= n) /\ brs b p o ks = brs b p none (outer p n)) ?_ ?_ ?_ ?_
 ·exact ⟨rfl,outer p n,none,none,rfl,rfl,xu4 h0,rfl⟩
 ·rintro l ρ μ' ⟨rfl,_⟩
  exact wb0
 ·rintro ρ μ' ⟨rfl,ks,o,dd,e,rfl,_,e2⟩
  cases ks with
  | nil =>
   simp_arith [cst0]
   have e3 : o = brs b p none (outer p n):=e2
   rw [e3]
   exact q _ (Ext.new hr)
  | cons _ _=>simp at e
 ·rintro x rest ρ μ' ⟨rfl,ks,o,dd,e,rfl,hk,e2⟩
  cases ks with
  | nil=>simp at e
  | cons k ks =>
   simp only [List.map_cons,List.cons.injEq] at e
   obtain ⟨rfl,rfl⟩:=e
   have:=hk k (List.mem_cons_self ..)
   simp_arith [cst0]
   refine ⟨p,k,rfl,hp,this.1,by omega,b1,b2,rep p k,b,rfl,xk5 hp this.1,o,bfr (rep p k) b,rfl,rfl,ks,_,_,rfl,rfl,λ x hx=>hk x (List.mem_cons_of_mem _ hx),e2⟩
noncomputable def spWb (j : Nat) : Sp3:=λ ds μ Q=>∃ w,ds = [.tup (encs w)] /\ deps w < j /\ deps w <= 4 /\ cnts w <= 60 /\ oks w /\ ∀ μ',Ext μ μ' -> Q (encB (bxa w none st)) μ'
noncomputable def spDb (j : Nat) : Sp3:=λ ds μ Q=>∃ d,ds = [enc d] /\ dep d < j /\ dep d <= 4 /\ cnt d <= 60 /\ okd d /\ ∀ μ',Ext μ μ' -> Q (encB (bxd d)) μ'
theorem xk7 (j : Nat) (ds : List D) (μ : Mu) (Q : VK3) (h : spDb (j + 1) ds μ Q) : yo5 xq3 (spPb 5) (spWb j) { nx:=λ _ μ'=>Q .non μ',rt:=Q } (start3 ze5 ds) μ:=by
 obtain ⟨d,rfl,h1,h2,h2',h3,q⟩:=h
 cases d <;> simp_arith [yo5,ze5,enc]
 case go n =>
  have:=q μ (Ext.refl _)
  simp only [bxd] at this
  split
  ·next e=>rw [if_pos e] at this; exact this
  ·next e=>rw [if_neg e] at this; exact ⟨by decide,this⟩
 case jump n =>
  have:=q μ (Ext.refl _)
  simp only [bxd] at this
  split <;> exact this
 case turn n =>
  have:=q μ (Ext.refl _)
  simp only [bxd] at this
  split <;> exact this
 case times n w =>
  simp only [okd,dep,cnt,bxd] at h1 h2 h2' h3 q
  split
  ·next e=>have:=q μ (Ext.refl _); rw [if_pos e] at this; exact this
  ·next e =>
   obtain ⟨b1,b2⟩:=zu3 (yu3 w h3.2) (by omega) (by omega)
   refine ⟨w,rfl,by omega,by omega,by omega,h3.2,λ μ1 e1=>⟨w,rfl,by omega,by omega,by omega,h3.2,_,pb w,n,rfl,wj0 w,by omega,h3.1.2,b1,b2,λ μ2 e2=>?_⟩⟩
   have:=q μ2 (e1.trans e2)
   rw [if_neg e] at this
   exact this
theorem yg7 (j : Nat) (ds : List D) (μ : Mu) (Q : VK3) (h : spWb j ds μ Q) : xn5 wa2 yp4 (spDb j) zq1 (spPd 5) { nx:=λ _ μ'=>Q .non μ',rt:=Q } (start3 yd5 ds) μ:=by
 obtain ⟨w,rfl,h1,h2,h2',h3,q⟩:=h
 simp_arith [xn5,yd5]
 refine xp0 (λ l ρ μ'=>Ext μ μ' /\ ∃ (r : List Dd) (o : Option Bx) (p : Pen) (dd : Option D),l = encs r /\ ρ = [some (.tup (encs w)),some (encB o),some (encP p),dd] /\ oks r /\ deps r <= deps w /\ cnts r <= cnts w /\ Hd p /\ bxa r o p = bxa w none st) ?_ (λ _ _ _ _=>trivial) ?_ ?_
 ·exact ⟨Ext.refl _,w,none,st,none,rfl,rfl,h3,Nat.le_refl _,Nat.le_refl _,wi1,rfl⟩
 ·rintro ρ μ' ⟨ex,r,o,p,dd,e,rfl,_,_,_,_,e2⟩
  cases r with
  | nil =>
   simp only [bxa] at e2
   simp_arith [cst0]
   rw [e2]
   exact q _ ex
  | cons _ _=>simp [encs] at e
 ·rintro x rest ρ μ' ⟨ex,r,o,p,dd,e,rfl,ok,dp,cn,hp,e2⟩
  cases r with
  | nil=>simp [encs] at e
  | cons d r =>
   simp only [encs,List.cons.injEq] at e
   obtain ⟨rfl,rfl⟩:=e
   simp only [oks,deps,cnts,bxa] at ok dp cn e2
   simp_arith [cst0]
   refine ⟨d,rfl,by omega,by omega,by omega,ok.1,λ μ1 e1=>⟨p,bxd d,rfl,hp,o,bfr p (bxd d),rfl,?_⟩⟩
   exact ⟨d,rfl,by omega,by omega,by omega,ok.1,p,pd d,rfl,hp,ex.trans e1,r,_,_,_,rfl,rfl,ok.2,by omega,by omega,yn0 _ _,e2⟩
noncomputable def ww0 : Sp3:=λ ds μ Q=>∃ w,ds = [.tup (encs w)] /\ Wd w /\ ∀ μ',Ext μ μ' -> Q (encB (bxa w none st)) μ'
theorem xm7 (ds : List D) (μ : Mu) (Q : VK3) (h : ww0 ds μ Q) : zp5 xp4 (spWb 5) { nx:=λ _ μ'=>Q .non μ',rt:=Q } (start3 wf5 ds) μ:=by
 obtain ⟨w,rfl,⟨h1,h2,h3⟩,q⟩:=h
 simp_arith [zp5,wf5]
 exact ⟨w,rfl,⟨h1,h2,h3⟩,w,rfl,by omega,by omega,by omega,h1,q⟩
noncomputable def gx (s : Stk) : Int:=s.1 + 1 - s.2.2
noncomputable def gy (s : Stk) : Int:=s.2.1 + s.2.2
noncomputable def encS (s : Stk) : D:=.tup [.int s.1,.int s.2.1,.int s.2.2]
noncomputable def wy (s : Stk) : Prop:=s.2.2 = 0 \/ s.2.2 = 1
theorem xm4 {μ : Mu} {p : Addr} {a b : MO} : updM (updM μ p a) p b = updM μ p b:=by
 funext q
 by_cases h : q = p
 ·subst h; rw [wb0,wb0]
 ·rw [ye0 h,ye0 h,ye0 h]
noncomputable def eFs (a b c : D) : List (Str × D):=[("least",a),("greatest",b),("left",c)]
noncomputable def xf1 (s : Stk) (n : Int) : MO:=.ins "Look" (eFs (.tup [.int s.1,.int s.2.1]) (.tup [.int (gx s),.int (gy s)]) (.int n))
theorem lkL {a b c : D} : (eFs a b c).lookup ("least" : Str) = some a:=rfl
theorem lkG {a b c : D} : (eFs a b c).lookup ("greatest" : Str) = some b:=by
 rfl
theorem lkF {a b c : D} : (eFs a b c).lookup ("left" : Str) = some c:=by rfl
theorem put1 {a : D} : putD "least" a [] = ([("least",a)] : List (Str × D)):=rfl
theorem put2 {a b : D} : putD "greatest" b [("least",a)] = ([("least",a),("greatest",b)] : List (Str × D)):=by rfl
theorem put3 {a b c : D} : putD "left" c [("least",a),("greatest",b)] = eFs a b c:=by rfl
theorem put4 {a b c d : D} : putD "left" d (eFs a b c) = eFs a b d:=by rfl
noncomputable def zp3 : Sp3:=λ ds μ Q=>∃ s,ds = [encS s] /\ wy s /\ Q (.tup [.tup [.int s.1,.int s.2.1],.tup [.int (gx s),.int (gy s)]]) μ
theorem xj7 (ds : List D) (μ : Mu) (Q : VK3) (h : zp3 ds μ Q) : zq6 { nx:=λ _ μ'=>Q .non μ',rt:=Q } (start3 yl6 ds) μ:=by
 obtain ⟨⟨x,y,w⟩,rfl,hw,q⟩:=h
 rcases hw with e | e
 ·dsimp only at e; subst e
  simp only [gx,gy,Int.sub_zero,Int.add_zero] at q
  exact ⟨(show 2 <= sizeLine by decide),(show 2 <= sizeLine by decide),(show 2 <= sizeLine by decide),q⟩
 ·dsimp only at e; subst e
  simp only [gx,gy,Int.add_sub_cancel] at q
  exact ⟨(show 2 <= sizeLine by decide),(show 2 <= sizeLine by decide),(show 2 <= sizeLine by decide),q⟩
noncomputable def wp3 : Sp3:=λ ds μ Q=>∃ s,ds = [encS s] /\ wy s /\ Q .non μ
noncomputable def inb (s : Stk) : Option Bx -> Bool
 | none=>false
 | some b=>decide (b.1 <= s.1) && (decide (b.2.1 <= s.2.1) && (decide (gx s <= b.2.2.1) && decide (gy s <= b.2.2.2)))
noncomputable def yp3 : Sp3:=λ ds μ Q=>∃ p s,ds = [.ref p,encS s] /\ wy s /\ μ p = some (.ins "Look" []) /\ Q .non (updM μ p (xf1 s 1000))
theorem xn1 (ds : List D) (μ : Mu) (Q : VK3) (h : yp3 ds μ Q) : xs0 zp3 { nx:=λ _ μ'=>Q .non μ',rt:=Q } (start3 zn0 ds) μ:=by
 obtain ⟨p,s,rfl,hw,hm,q⟩:=h
 simp_arith [xs0,zn0,wk0]
 refine ⟨s,rfl,hw,?_⟩
 simp_arith [zo2,hm,wb0,xm4,put1,put2,put3]
 exact ⟨(by decide : 0 < 1000),(by decide : 1 < 1000),(by decide : 2 < 1000),q⟩
noncomputable def wo4 : Sp3:=λ ds μ Q=>∃ p s n b,ds = [.ref p,encB b] /\ μ p = some (xf1 s n) /\ Q (.bl (inb s b)) μ
theorem zk1 (ds : List D) (μ : Mu) (Q : VK3) (h : wo4 ds μ Q) : zp0 { nx:=λ _ μ'=>Q .non μ',rt:=Q } (start3 xl0 ds) μ:=by
 obtain ⟨p,s,n,b,rfl,hm,q⟩:=h
 cases b with
 | none=>exact q
 | some b =>
  simp_arith [zp0,xl0,encB,fld3,hm,xf1,lkL,lkG,atI3,Pv.min2R,Pv.maxR,Pv.mnR_ii,Pv.mnR_pp,Pv.mxR_ii,Pv.lrng3,Pv.isNR,Pv.isN,Pv.ch3]
  simp only [inb] at q
  split
  ·next h1 =>
   split
   ·next h2 =>
    split
    ·next h3=>rw [decide_eq_true h1,decide_eq_true h2,decide_eq_true h3] at q; exact q
    ·next h3=>rw [decide_eq_true h1,decide_eq_true h2,decide_eq_false h3] at q; exact q
   ·next h2=>rw [decide_eq_true h1,decide_eq_false h2] at q; exact q
  ·next h1=>rw [decide_eq_false h1] at q; exact q
noncomputable def xs5 (XE : XE3) : Sp3:=λ ds μ Q=>∃ p s n,ds = [.ref p] /\ μ p = some (xf1 s n) /\ (n = 0 -> XE "NoRoom" μ) /\ (n ≠ 0 -> Q .non (updM μ p (xf1 s (n - 1))))
theorem ze1 (XE : XE3) (ds : List D) (μ : Mu) (Q : VK3) (h : xs5 XE ds μ Q) : zm0 XE { nx:=λ _ μ'=>Q .non μ',rt:=Q } (start3 zj0 ds) μ:=by
 obtain ⟨p,s,n,rfl,hm,h0,q⟩:=h
 simp_arith [zm0,zj0,fld3,zo2,ws3,hm,xf1,lkF,put4]
 by_cases z : n = 0
 ·rw [if_pos z]
  exact ⟨by decide,h0 z⟩
 ·rw [if_neg z]
  exact ⟨(by decide : 3 < 1000),q z⟩
noncomputable def spn0 (number low high shift least greatest : Int) : Int × Int :=
 if shift = 0 then (if low <= least /\ greatest <= high then (0,number) else (0,0))
 else (if -((high - greatest) / shift) > 0 then -((high - greatest) / shift) else 0,if (least - low) / shift + 1 < number then (least - low) / shift + 1 else number)
noncomputable def spn (number low high shift least greatest : Int) : Int × Int :=
 if shift < 0 then spn0 number (-high) (-low) (-shift) (-greatest) (-least) else spn0 number low high shift least greatest
noncomputable def encI (p : Int × Int) : D:=.tup [.int p.1,.int p.2]
noncomputable def ww1 (j : Nat) : Sp3:=λ ds μ Q=>∃ n lo hi sh le gr,ds = [.int n,.int lo,.int hi,.int sh,.int le,.int gr] /\ (if sh < 0 then 2 <= j else 1 <= j) /\ (-(2 ^ 80) < sh /\ sh < 2 ^ 80) /\ Q (encI (spn n lo hi sh le gr)) μ
theorem zg7 (j : Nat) (ds : List D) (μ : Mu) (Q : VK3) (h : ww1 (j + 1) ds μ Q) : yn5 (ww1 j) { nx:=λ _ μ'=>Q .non μ',rt:=Q } (start3 zd5 ds) μ:=by
 obtain ⟨n,lo,hi,sh,le,gr,rfl,hj,hb,q⟩:=h
 simp_arith [yn5,zd5,Pv.min2R,Pv.maxR,Pv.mnR_ii,Pv.mnR_pp,Pv.mxR_ii,Pv.lrng3,Pv.isNR,Pv.isN,Pv.ch3]
 by_cases h0 : sh < 0
 ·rw [if_pos h0] at hj ⊢
  refine ⟨n,-hi,-lo,-sh,-gr,-le,rfl,?_,⟨by omega,by omega⟩,?_⟩
  ·rw [if_neg (by omega)]; omega
  ·rw [spn,if_neg (by omega)]
   rw [spn,if_pos h0] at q
   exact q
 ·rw [spn,if_neg h0] at q
  rw [if_neg h0]
  unfold spn0 at q
  by_cases h1 : sh = 0
  ·rw [if_pos h1] at q ⊢
   by_cases h2 : lo <= le
   ·rw [if_pos h2]
    by_cases h3 : gr <= hi
    ·rw [if_pos ⟨h2,h3⟩] at q; rw [if_pos h3]; exact ⟨by decide,q⟩
    ·rw [if_neg (λ h=>h3 h.2)] at q; rw [if_neg h3]; exact ⟨by decide,q⟩
   ·rw [if_neg (λ h=>h2 h.1)] at q; rw [if_neg h2]; exact ⟨by decide,q⟩
  ·rw [if_neg h1] at q ⊢
   have a : 0 < sh:=by omega
   exact ⟨⟨a,by omega⟩,⟨a,by omega⟩,by decide,q⟩
theorem zk2 {p : Pen} {μ : Mu} {Q : VK3} : eqR (.tup [.int p.1,.int p.2.1,.int p.2.2]) (.tup [.int 0,.int 0,.int 0]) μ Q = Q (.bl (decide (p = st))) μ:=by
 rw [zl1 (p:=.tuple [.int p.1,.int p.2.1,.int p.2.2]) (q:=.tuple [.int 0,.int 0,.int 0]) rfl (by simp only [datM,dat,dats]) (by simp only [datM,dat,dats]) (by simp [PyData.depth,PyData.depthAll]) (by simp [PyData.depth,PyData.depthAll])]
 congr 2
 obtain ⟨x,y,w⟩:=p
 rw [Bool.eq_iff_iff]
 simp [PyData.eqv,PyData.eqvAll,st,Prod.mk.injEq]
noncomputable def xp3 : Sp3:=λ ds μ Q=>∃ d n p,ds = [.int d,.int n,encP p] /\ Q (.int (if p = st then n else if p.2.2 = 0 then 1 else (n - d + 3) / 4)) μ
theorem wj7 (ds : List D) (μ : Mu) (Q : VK3) (h : xp3 ds μ Q) : xo5 { nx:=λ _ μ'=>Q .non μ',rt:=Q } (start3 ye5 ds) μ:=by
 obtain ⟨d,n,p,rfl,q⟩:=h
 simp_arith [xo5,ye5,encP,xn0]
 rw [zk2]
 by_cases h : p = st
 ·rw [if_pos h] at q
  simp only [h,decide_true,if_true]
  exact q
 ·rw [if_neg h] at q
  simp only [h,decide_false,Bool.false_eq_true,if_false]
  by_cases h2 : p.2.2 = 0
  ·rw [if_pos h2] at q; rw [if_neg (by simp [h2])]; exact q
  ·rw [if_neg h2] at q; rw [if_pos h2]; exact ⟨by decide,q⟩
noncomputable def lo1 (a b : Int) : Int:=if b < a then b else a
noncomputable def hi1 (a b : Int) : Int:=if b > a then b else a
noncomputable def ask (n : Int) (part pen : Pen) (box : Option Bx) (s : Stk) : Int × Int :=
 if box = none then (0,0) else if part = st then (0,lo1 n 1) else if part.2.2 ≠ 0 then (0,lo1 n 4)
 else match bfr pen box,bfr (led pen part) box with
  | some f,some g=>(hi1 (spn n f.1 f.2.2.1 (g.1 - f.1) s.1 (gx s)).1 (spn n f.2.1 f.2.2.2 (g.2.1 - f.2.1) s.2.1 (gy s)).1,lo1 (spn n f.1 f.2.2.1 (g.1 - f.1) s.1 (gx s)).2 (spn n f.2.1 f.2.2.2 (g.2.1 - f.2.1) s.2.1 (gy s)).2)
  | _,_=>(0,0)
noncomputable def bdd (p : Pen) : Prop:=(-(2 ^ 80) < p.1 /\ p.1 < 2 ^ 80) /\ -(2 ^ 80) < p.2.1 /\ p.2.1 < 2 ^ 80
theorem yy7 (x y a b : Int) : mn (y + a) (y + b) - mn (x + a) (x + b) = y - x:=by unfold mn; split <;> split <;> omega
theorem wj4 {pen part : Pen} {b f g : Bx} (h1 : Hd pen) (h4 : part.2.2 = 0) (hb : bdd part) (e1 : bfr pen (some b) = some f) (e2 : bfr (led pen part) (some b) = some g) :
    (-(2 ^ 80) < g.1 - f.1 /\ g.1 - f.1 < 2 ^ 80) /\ -(2 ^ 80) < g.2.1 - f.2.1 /\ g.2.1 - f.2.1 < 2 ^ 80:=by
 cases e1
 cases e2
 have e3 : (led pen part).2.2 = pen.2.2:=by
  show (pen.2.2 + part.2.2) % 4 = _
  rcases h1 with h | h | h | h <;> rw [h,h4] <;> rfl
 have a1 : ∀ c d : Int,(led (led pen part) (c,d,0)).1 = (led pen part).1 + (c * cs pen.2.2 - d * sn pen.2.2):=λ c d=>by
  show (led pen part).1 + c * cs (led pen part).2.2 - d * sn (led pen part).2.2 = _
  rw [e3,Int.add_sub_assoc]
 have a2 : ∀ c d : Int,(led pen (c,d,0)).1 = pen.1 + (c * cs pen.2.2 - d * sn pen.2.2):=λ c d=>Int.add_sub_assoc _ _ _
 have a3 : ∀ c d : Int,(led (led pen part) (c,d,0)).2.1 = (led pen part).2.1 + (c * sn pen.2.2 + d * cs pen.2.2):=λ c d=>by
  show (led pen part).2.1 + c * sn (led pen part).2.2 + d * cs (led pen part).2.2 = _
  rw [e3,Int.add_assoc]
 have a4 : ∀ c d : Int,(led pen (c,d,0)).2.1 = pen.2.1 + (c * sn pen.2.2 + d * cs pen.2.2):=λ c d=>Int.add_assoc _ _ _
 have d1 : (led pen part).1 - pen.1 = part.1 * cs pen.2.2 - part.2.1 * sn pen.2.2:=by
  show pen.1 + part.1 * cs pen.2.2 - part.2.1 * sn pen.2.2 - pen.1 = _
  omega
 have d2 : (led pen part).2.1 - pen.2.1 = part.1 * sn pen.2.2 + part.2.1 * cs pen.2.2:=by
  show pen.2.1 + part.1 * sn pen.2.2 + part.2.1 * cs pen.2.2 - pen.2.1 = _
  omega
 dsimp only
 rw [a1,a1,a2,a2,a3,a3,a4,a4,yy7,yy7,d1,d2]
 unfold bdd at hb
 rcases h1 with h | h | h | h <;> rw [h] <;> simp only [cs,sn] <;> simp <;> omega
noncomputable def xt5 : Sp3:=λ ds μ Q=>∃ n part pen box p s left,ds = [.int n,encP part,encP pen,encB box,.ref p] /\ Hd part /\ Hd pen /\ bdd part /\ μ p = some (xf1 s left) /\ Q (encI (ask n part pen box s)) μ
theorem xl7 (ds : List D) (μ : Mu) (Q : VK3) (h : wp3 ds μ Q) : zm4 { nx:=λ _ μ'=>Q .non μ',rt:=Q } (start3 yl4 ds) μ:=by
 obtain ⟨⟨x,y,w⟩,rfl,hw,q⟩:=h
 rcases hw with e | e
 ·dsimp only at e; subst e
  simp_arith [zm4,yl4,encS,xj2]
  simp [inD,datM,dat,dats,PyData.eqv,PyData.depth,PyData.depthAll]
  exact q
 ·dsimp only at e; subst e
  simp_arith [zm4,yl4,encS,xj2]
  simp [inD,datM,dat,dats,PyData.eqv,PyData.depth,PyData.depthAll]
  exact q
theorem yd8 {p : Pen} : (PyData.tuple [.int p.1,.int p.2.1,.int p.2.2]).eqv (PyData.tuple [.int 0,.int 0,.int 0]) = decide (p = st):=by
 obtain ⟨x,y,w⟩:=p
 rw [Bool.eq_iff_iff]
 simp [PyData.eqv,PyData.eqvAll,st,Prod.mk.injEq]
theorem zj7 (ds : List D) (μ : Mu) (Q : VK3) (h : xt5 ds μ Q) : xr6 wa2 zq1 (ww1 2) { nx:=λ _ μ'=>Q .non μ',rt:=Q } (start3 wl6 ds) μ:=by
 obtain ⟨n,part,pen,box,p,s,left,rfl,h1,h2,hb,hm,q⟩:=h
 cases box with
 | none=>exact And.intro (show 2 <= sizeLine by decide) q
 | some b =>
  unfold ask at q
  rw [if_neg (by intro h; cases h)] at q
  show eqR (.tup [.int part.1,.int part.2.1,.int part.2.2]) (.tup [.int 0,.int 0,.int 0]) μ (λ d μ1=>_)
  rw [zk2,yd8]
  by_cases h3 : part = st
  ·rw [if_pos h3] at q
   rw [if_pos (decide_eq_true h3)]
   exact And.intro (show 2 <= sizeLine by decide) q
  ·rw [if_neg h3] at q
   rw [if_neg (by rw [decide_eq_false h3]; decide)]
   show ym0 wa2 zq1 (ww1 2) _ [some (.int n),some (encP part),some (encP pen),some (encB (some b)),some (.ref p),none,none,none,none] μ
   simp_arith [ym0,encP]
   by_cases h4 : part.2.2 = 0
   ·rw [if_neg (by simp [h4])] at q
    rw [if_neg (by simp [h4])]
    obtain ⟨f,e1⟩ : ∃ f,bfr pen (some b) = some f:=⟨_,rfl⟩
    obtain ⟨g,e2⟩ : ∃ g,bfr (led pen part) (some b) = some g:=⟨_,rfl⟩
    have sx:=wj4 h2 h4 hb e1 e2
    rw [e1,e2] at q
    refine ⟨pen,some b,rfl,h2,pen,part,rfl,h2,led pen part,some b,rfl,yn0 _ _,?_⟩
    rw [e1,e2]
    show xt0 wa2 zq1 (ww1 2) _ [some (.int n),some (encP part),some (encP pen),some (encB (some b)),some (.ref p),some (encB (some f)),some (encB (some g)),none,none] μ
    conv=>whnf
    rw [hm]
    refine ⟨rfl,?_⟩
    conv=>whnf
    rw [hm]
    refine ⟨rfl,n,f.1,f.2.2.1,g.1 - f.1,s.1,gx s,rfl,by split <;> decide,sx.1,?_⟩
    conv=>whnf
    rw [hm]
    refine ⟨rfl,?_⟩
    conv=>whnf
    rw [hm]
    refine ⟨rfl,n,f.2.1,f.2.2.2,g.2.1 - f.2.1,s.2.1,gy s,rfl,by split <;> decide,sx.2,?_⟩
    exact And.intro (show 2 <= sizeLine by decide) q
   ·rw [if_pos h4] at q; rw [if_pos h4]; exact ⟨by decide,q⟩
noncomputable def lk (n : Int) (part : Pen) (i : Int) : Int:=if part = st then n else if part.2.2 = 0 then 1 else (n - i + 3) / 4
noncomputable def rngI (a : Int × Int) : List Int:=(List.range (a.2 - a.1).toNat).map λ i=>a.1 + (i : Nat)
theorem yf7 (a : Int × Int) : rngD a.1 (a.2 - a.1).toNat = (rngI a).map D.int:=by simp [rngD,rngI]
mutual
inductive OW : List Dd -> Pen -> Stk -> Int -> Nat -> Prop where
 | nil {pen : Pen} {s : Stk} : OW [] pen s 0 0
 | cons {d : Dd} {r : List Dd} {pen : Pen} {s : Stk} {c c' : Int} {k k' : Nat} : OD d pen s c k -> OW r (led pen (pd d)) s c' k' -> OW (d :: r) pen s (c + c') (k + k')
inductive OD : Dd -> Pen -> Stk -> Int -> Nat -> Prop where
 | one {d : Dd} {pen : Pen} {s : Stk} : dep d = 0 -> OD d pen s (if inb s (bfr pen (bxd d)) = true then 1 else 0) 0
 | times {n : Int} {w : List Dd} {pen : Pen} {s : Stk} {c : Int} {k : Nat} : bdd (pb w) -> OL (rngI (ask n (pb w) pen (bxa w none st) s)) n w pen s c k -> OD (.times n w) pen s c k
inductive OL : List Int -> Int -> List Dd -> Pen -> Stk -> Int -> Nat -> Prop where
 | nil {n : Int} {w : List Dd} {pen : Pen} {s : Stk} : OL [] n w pen s 0 0
 | out {i n : Int} {l : List Int} {w : List Dd} {pen : Pen} {s : Stk} {c : Int} {k : Nat} : inb s (bfr (led pen (rep (pb w) i)) (bxa w none st)) = false -> 0 <= i -> i <= G -> OL l n w pen s c k -> OL (i :: l) n w pen s c k
 | inn {i n : Int} {l : List Int} {w : List Dd} {pen : Pen} {s : Stk} {c c1 : Int} {k k1 : Nat} : inb s (bfr (led pen (rep (pb w) i)) (bxa w none st)) = true -> 0 <= i -> i <= G -> OW w (led pen (rep (pb w) i)) s c1 k1 -> -(2 ^ 64) < c1 -> c1 < 2 ^ 64 -> OL l n w pen s c k -> OL (i :: l) n w pen s (lk n (pb w) i * c1 + c) (1 + k1 + k)
end
noncomputable def spOt (j : Nat) (XE : XE3) : Sp3:=λ ds μ Q=>∃ n w pen p s left c k,ds = [.int n,.tup (encs w),encP pen,.ref p] /\ deps w + 1 < j /\ deps w <= 3 /\ cnts w <= 60 /\ oks w /\ 0 <= n /\ n <= G /\ Hd pen /\ bdd (pb w) /\ μ p = some (xf1 s left) /\ OL (rngI (ask n (pb w) pen (bxa w none st) s)) n w pen s c k /\ 0 <= left /\ (left < (k : Int) -> ∀ μ',ExtB p μ μ' -> XE "NoRoom" μ') /\ ((k : Int) <= left -> ∀ μ',ExtB p μ μ' -> μ' p = some (xf1 s (left - k)) -> Q (.int c) μ')
noncomputable def spOd (j : Nat) (XE : XE3) : Sp3:=λ ds μ Q=>∃ d pen p s left c k,ds = [enc d,encP pen,.ref p] /\ dep d < j /\ dep d <= 4 /\ cnt d <= 60 /\ okd d /\ Hd pen /\ μ p = some (xf1 s left) /\ OD d pen s c k /\ 0 <= left /\ (left < (k : Int) -> ∀ μ',ExtB p μ μ' -> XE "NoRoom" μ') /\ ((k : Int) <= left -> ∀ μ',ExtB p μ μ' -> μ' p = some (xf1 s (left - k)) -> Q (.int c) μ')
noncomputable def spOw (j : Nat) (XE : XE3) : Sp3:=λ ds μ Q=>∃ w pen p s left c k,ds = [.tup (encs w),encP pen,.ref p] /\ deps w < j /\ deps w <= 4 /\ cnts w <= 60 /\ oks w /\ Hd pen /\ μ p = some (xf1 s left) /\ OW w pen s c k /\ 0 <= left /\ (left < (k : Int) -> ∀ μ',ExtB p μ μ' -> XE "NoRoom" μ') /\ ((k : Int) <= left -> ∀ μ',ExtB p μ μ' -> μ' p = some (xf1 s (left - k)) -> Q (.int c) μ')
theorem yi7 (j : Nat) (XE : XE3) (ds : List D) (μ : Mu) (Q : VK3) (h : spOd j XE ds μ Q) : wp6 XE wo4 wa2 (spDb 5) (spOt j) { nx:=λ _ μ'=>Q .non μ',rt:=Q } (start3 zk6 ds) μ:=by
 obtain ⟨d,pen,p,s,left,c,k,rfl,h1,h2,h3,h4,hp,hm,ho,hk,qx,q⟩:=h
 cases ho with
 | times hb ol =>
  rename_i n w
  simp only [okd,dep,cnt] at h1 h2 h3 h4
  exact ⟨n,w,pen,p,s,left,c,k,rfl,by omega,by omega,by omega,h4.2,h4.1.1,h4.1.2,hp,hb,hm,ol,hk,qx,q⟩
 | one hd =>
  have fin : ∀ μ1,Ext μ μ1 -> (if inb s (bfr pen (bxd d)) = true then Q (.int 1) μ1 else Q (.int 0) μ1):=λ μ1 e1=>by
   have q1:=q (by omega) μ1 (e1.b p) (by rw [e1 _ _ hm]; simp)
   split
   ·next hi=>rw [if_pos hi] at q1; exact q1
   ·next hi=>rw [if_neg hi] at q1; exact q1
  have db : spDb 5 [enc d] μ (λ v μ1=>∃ b,v = encB b /\ b = bxd d /\ Ext μ μ1):=⟨d,rfl,by omega,by omega,h3,h4,λ μ1 e1=>⟨_,rfl,rfl,e1⟩⟩
  cases d with
  | times n w=>simp only [dep] at hd; omega
  | _ =>
   conv=>whnf
   rw [hm]
   refine ⟨⟨rfl,rfl⟩,_,rfl,by omega,by omega,h3,h4,λ μ1 e1=>⟨pen,_,rfl,hp,p,s,left,_,rfl,e1 _ _ hm,?_⟩⟩
   exact fin μ1 e1
noncomputable def WOw (w : List Dd) (pen : Pen) (p : Addr) (s : Stk) (left c : Int) (k : Nat) (μ : Mu) : List D -> St3 -> Mu -> Prop:=λ l ρ μ'=>∃ (r : List Dd) (pen' : Pen) (c0 c1 : Int) (k0 k1 : Nat) (dd : Option D),l = encs r /\ ρ = [some (.tup (encs w)),some (encP pen),some (.ref p),some (.int c0),some (encP pen'),dd] /\ oks r /\ deps r <= deps w /\ cnts r <= cnts w /\ Hd pen' /\ ExtB p μ μ' /\ μ' p = some (xf1 s (left - k0)) /\ OW r pen' s c1 k1 /\ c0 + c1 = c /\ k0 + k1 = k /\ (k0 : Int) <= left
theorem wh7 (j : Nat) (XE : XE3) (ds : List D) (μ : Mu) (Q : VK3) (h : spOw j XE ds μ Q) : yp6 XE zq1 (spOd j) (spPd 5) { nx:=λ _ μ'=>Q .non μ',rt:=Q } (start3 xk6 ds) μ:=by
 obtain ⟨w,pen,p,s,left,c,k,rfl,h1,h2,h3,h4,hp,hm,ho,hk,qx,q⟩:=h
 refine xp0 (WOw w pen p s left c k μ) ?_ (λ _ _ _ _=>trivial) ?_ ?_
 ·exact ⟨w,pen,0,c,0,k,none,rfl,rfl,h4,Nat.le_refl _,Nat.le_refl _,hp,ExtB.refl _ _,by rw [hm]; simp,ho,by omega,by omega,by omega⟩
 ·rintro ρ μ' ⟨r,pen',c0,c1,k0,k1,dd,e,rfl,_,_,_,_,ex,hm',o1,e1,e2,e9⟩
  cases r with
  | cons _ _=>simp [encs] at e
  | nil =>
   cases o1
   have e3 : c0 = c:=by omega
   have e4 : k0 = k:=by omega
   subst e3 e4
   exact q e9 μ' ex hm'
 ·rintro x rest ρ μ' ⟨r,pen',c0,c1,k0,k1,dd,e,rfl,ok,dp,cn,hp',ex,hm',o1,e1,e2,e9⟩
  cases r with
  | nil=>simp [encs] at e
  | cons d r =>
   simp only [encs,List.cons.injEq] at e
   obtain ⟨rfl,rfl⟩:=e
   simp only [oks,deps,cnts] at ok dp cn
   cases o1 with
   | cons od ow =>
    rename_i ca cb ka kb
    refine ⟨d,pen',p,s,left - k0,ca,ka,rfl,by omega,by omega,by omega,ok.1,hp',hm',od,by omega,λ hh μ1 x1=>qx (by omega) μ1 (ex.trans x1),λ hh μ1 x1 x2=>?_⟩
    refine ⟨d,rfl,by omega,by omega,by omega,ok.1,pen',pd d,rfl,hp',?_⟩
    refine ⟨r,led pen' (pd d),c0 + ca,cb,k0 + ka,kb,_,rfl,rfl,ok.2,by omega,by omega,yn0 _ _,ex.trans x1,?_,ow,by omega,by omega,by omega⟩
    rw [x2]
    congr 2
    omega
noncomputable def WOt (n : Int) (w : List Dd) (pen : Pen) (p : Addr) (s : Stk) (left c : Int) (k : Nat) (μ : Mu) : List D -> St3 -> Mu -> Prop:=λ l ρ μ'=>∃ (is : List Int) (c0 c1 : Int) (k0 k1 : Nat) (dd ss : Option D),l = is.map D.int /\ ρ = [some (.int n),some (.tup (encs w)),some (encP pen),some (.ref p),some (encP (pb w)),some (encB (bxa w none st)),some (.int c0),some (encI (ask n (pb w) pen (bxa w none st) s)),dd,ss] /\ ExtB p μ μ' /\ μ' p = some (xf1 s (left - k0)) /\ OL is n w pen s c1 k1 /\ c0 + c1 = c /\ k0 + k1 = k /\ (k0 : Int) <= left
theorem xi7 (j : Nat) (XE : XE3) (ds : List D) (μ : Mu) (Q : VK3) (h : spOt (j + 1) XE ds μ Q) : zp6 XE xs5 wo4 wa2 xp3 xt5 zq1 (spOw j) (spPb 5) wo3 (spWb 5) { nx:=λ _ μ'=>Q .non μ',rt:=Q } (start3 yk6 ds) μ:=by
 obtain ⟨n,w,pen,p,s,left,c,k,rfl,h1,h2,h3,h4,n0,n1,hp,hb,hm,ho,hk,qx,q⟩:=h
 obtain ⟨b1,b2⟩:=zu3 (yu3 w h4) (by omega) (by omega)
 refine ⟨w,rfl,by omega,by omega,by omega,h4,w,rfl,by omega,by omega,by omega,h4,λ μ1 e1=>⟨n,pb w,pen,bxa w none st,p,s,left,rfl,wj0 w,hp,hb,e1 _ _ hm,?_⟩⟩
 refine xp0 (WOt n w pen p s left c k μ) ?_ (λ _ _ _ _=>trivial) ?_ ?_
 ·exact ⟨_,0,c,0,k,none,none,yf7 _,rfl,e1.b p,by rw [e1 _ _ hm]; simp,ho,by omega,by omega,by omega⟩
 ·rintro ρ μ' ⟨is,c0,c1,k0,k1,dd,ss,e,rfl,ex,hm',o1,e1,e2,e9⟩
  cases is with
  | cons _ _=>simp at e
  | nil =>
   cases o1
   have e3 : c0 = c:=by omega
   have e4 : k0 = k:=by omega
   subst e3 e4
   exact q e9 μ' ex hm'
 ·rintro x rest ρ μ' ⟨is,c0,c1,k0,k1,dd,ss,e,rfl,ex,hm',o1,e1,e2,e9⟩
  cases is with
  | nil=>simp at e
  | cons i is =>
   simp only [List.map_cons,List.cons.injEq] at e
   obtain ⟨rfl,rfl⟩:=e
   cases o1 with
   | out hi i0 i1 ol =>
    refine ⟨pb w,i,rfl,wj0 w,i0,i1,b1,b2,pen,rep (pb w) i,rfl,hp,?_⟩
    conv=>whnf
    rw [hm']
    refine ⟨⟨rfl,rfl⟩,led pen (rep (pb w) i),bxa w none st,rfl,yn0 _ _,p,s,left - k0,_,rfl,hm',?_⟩
    rw [hi]
    exact ⟨is,c0,c1,k0,k1,_,_,rfl,rfl,ex,hm',ol,e1,e2,e9⟩
   | inn hi i0 i1 ow l1 l2 ol =>
    rename_i cb ca kb ka
    refine ⟨pb w,i,rfl,wj0 w,i0,i1,b1,b2,pen,rep (pb w) i,rfl,hp,?_⟩
    conv=>whnf
    rw [hm']
    refine ⟨⟨rfl,rfl⟩,led pen (rep (pb w) i),bxa w none st,rfl,yn0 _ _,p,s,left - k0,_,rfl,hm',?_⟩
    rw [hi]
    conv=>whnf
    rw [hm']
    refine ⟨⟨rfl,rfl⟩,p,s,left - k0,rfl,hm',λ z=>qx (by omega) _ ex,λ z=>?_⟩
    refine ⟨i,n,pb w,rfl,w,led pen (rep (pb w) i),p,s,left - k0 - 1,ca,ka,rfl,by omega,by omega,by omega,h4,yn0 _ _,wb0,ow,by omega,λ hh μ2 x1=>qx (by omega) μ2 ((ex.trans ExtB.upd).trans x1),λ hh μ2 x1 x2=>?_⟩
    refine ⟨.inl (.inr ⟨l1,l2⟩),is,c0 + lk n (pb w) i * ca,cb,k0 + (1 + ka),kb,_,_,rfl,rfl,(ex.trans ExtB.upd).trans x1,?_,ol,by omega,by omega,by omega⟩
    rw [x2]
    congr 2
    omega
noncomputable def spDo (XE : XE3) : Sp3:=λ ds μ Q=>∃ w s c k,ds = [.tup (encs w),encS s] /\ Wd w /\ wy s /\ OW w st s c k /\ (1000 < k -> ∀ μ',Ext μ μ' -> XE "NoRoom" μ') /\ (k <= 1000 -> ∀ μ',Ext μ μ' -> Q (.int c) μ')
theorem yj7 (XE : XE3) (ds : List D) (μ : Mu) (Q : VK3) (h : spDo XE ds μ Q) : wq6 XE yp3 wp3 xp4 (spOw 5) { nx:=λ _ μ'=>Q .non μ',rt:=Q } (start3 zl6 ds) μ:=by
 obtain ⟨w,s,c,k,rfl,hw,hs,ho,qx,q⟩:=h
 obtain ⟨w1,w2,w3⟩:=hw
 have el : ∀ {p : Addr} {o o' : MO} {μ' : Mu},μ p = none -> ExtB p (updM (updM μ p o) p o') μ' -> Ext μ μ':=λ {p o o' μ'} hp x1 a oo ha=>by
  have hap : a ≠ p:=yg0 ha hp
  exact x1 a oo hap (by rw [ye0 hap,ye0 hap]; exact ha)
 exact ⟨w,rfl,⟨w1,w2,w3⟩,s,rfl,hs,λ p hp=>⟨p,s,rfl,hs,wb0,rfl,w,st,p,s,1000,c,k,rfl,by omega,by omega,by omega,w1,wi1,wb0,ho,by decide,λ hh μ' x1=>qx (by omega) μ' (el hp x1),λ hh μ' x1 x2=>q (by omega) μ' (el hp x1)⟩⟩
theorem inb_iff {s : Stk} {b : Bx} : inb s (some b) = true ↔ Inb b s:=by
 simp only [inb,Bool.and_eq_true,decide_eq_true_eq]
 exact Iff.rfl
theorem zz3 {l : List Stk} {o : Option Bx} {s : Stk} (h : IsBox l o) (hs : s ∈ l) : inb s o = true:=by
 cases o with
 | none=>have e : l = []:=h; rw [e] at hs; cases hs
 | some b=>exact inb_iff.mpr (h.1 s hs)
noncomputable def Cn (l : List Stk) (pen p : Pen) (s : Stk) (i : Nat) : Nat:=(l.map (mvS (led pen (pw p i)))).count s
theorem yl5 {l : List Stk} {o : Option Bx} {pen p : Pen} {s : Stk} {i : Nat} (hw : wys l) (h : IsBox l o) (hn : Cn l pen p s i ≠ 0) : inb s (bfr (led pen (pw p i)) o) = true:=by
 refine zz3 (IsBox.fr (yn0 _ _) hw h) ?_
 exact List.count_pos_iff.mp (Nat.pos_of_ne_zero hn)
theorem zh6 {l : List Stk} {o : Option Bx} {pen p : Pen} {s : Stk} {i : Nat} (hw : wys l) (h : IsBox l o) (hn : inb s (bfr (led pen (pw p i)) o) = false) : Cn l pen p s i = 0:=by
 rcases Nat.eq_zero_or_pos (Cn l pen p s i) with z | z
 ·exact z
 ·have:=yl5 hw h (Nat.pos_iff_ne_zero.mp z)
  rw [hn] at this
  cases this
noncomputable def Sn (f : Nat -> Nat) : Nat -> Nat
 | 0=>0
 | n + 1=>Sn f n + f n
theorem xy0 (l : List Stk) {pen p : Pen} (hp : Hd pen) (s : Stk) : ∀ n,((tms l p n).map (mvS pen)).count s = Sn (Cn l pen p s) n
 | 0=>by simp [ys2,Sn]
 | n + 1=>by
  rw [zz1,List.map_append,List.count_append,xy0 l hp s n,<- yl0 hp (yn1 _ _)]
  rfl
noncomputable def sumL (f : Int -> Int) : List Int -> Int
 | []=>0
 | i :: r=>f i + sumL f r
theorem xt2 (f : Int -> Int) : ∀ a b,sumL f (a ++ b) = sumL f a + sumL f b
 | [],b=>by simp [sumL]
 | i :: r,b=>by simp only [List.cons_append,sumL,xt2 f r b,Int.add_assoc]
theorem wj1 {f g : Int -> Int} : ∀ {l : List Int},(∀ i ∈ l,f i = g i) -> sumL f l = sumL g l
 | [],_=>rfl
 | i :: r,h=>by simp only [sumL]; rw [h i (List.mem_cons_self ..),wj1 λ j hj=>h j (List.mem_cons_of_mem _ hj)]
theorem zf2 (f : Nat -> Nat) (n : Nat) : ∀ m,(∀ i,n <= i -> i < n + m -> f i = 0) -> Sn f (n + m) = Sn f n
 | 0,_=>rfl
 | m + 1,h=>by
  show Sn f (n + m) + f (n + m) = _
  rw [zf2 f n m λ i a b=>h i a (by omega),h (n + m) (by omega) (by omega)]
  rfl
theorem xo3 (f : Nat -> Nat) (A : Nat) : ∀ m,sumL (λ i=>(f i.toNat : Int)) ((List.range m).map λ i=>(A : Int) + (i : Nat)) = (Sn f (A + m) : Int) - Sn f A
 | 0=>by simp [sumL]
 | m + 1=>by
  rw [List.range_succ,List.map_append,xt2,xo3 f A m]
  show _ + ((f ((A : Int) + (m : Nat)).toNat : Int) + 0) = ((Sn f (A + m) + f (A + m) : Nat) : Int) - _
  rw [show ((A : Int) + (m : Nat)).toNat = A + m by omega]
  omega
theorem xr5 (f : Nat -> Nat) {a b n : Int} (ha : 0 <= a) (hb : b <= n) (hn : 0 <= n) (hz : ∀ i : Nat,(i : Int) < n -> ¬ (a <= i /\ (i : Int) < b) -> f i = 0) : sumL (λ i=>(f i.toNat : Int)) (rngI (a,b)) = (Sn f n.toNat : Int):=by
 have z0 : ∀ m : Nat,(m : Int) <= a -> (m : Int) <= n -> Sn f m = 0:=λ m h h'=>by
  have:=zf2 f 0 m λ i _ hi=>hz i (by omega) (by omega)
  rw [Nat.zero_add] at this
  rw [this]; rfl
 unfold rngI
 dsimp only
 by_cases c : a <= b
 ·have e : (λ i : Nat=>a + (i : Int)) = λ i : Nat=>((a.toNat : Nat) : Int) + (i : Int):=by
    funext i; omega
  have r:=xo3 f a.toNat (b - a).toNat
  rw [show (List.range (b - a).toNat).map (λ i : Nat=>a + (i : Int)) = (List.range (b - a).toNat).map (λ i : Nat=>((a.toNat : Nat) : Int) + (i : Int)) from congrArg (λ g=>List.map g _) e,r,z0 a.toNat (by omega) (by omega)]
  have t:=zf2 f (a.toNat + (b - a).toNat) (n.toNat - (a.toNat + (b - a).toNat)) λ i h1 h2=>hz i (by omega) (by omega)
  rw [show a.toNat + (b - a).toNat + (n.toNat - (a.toNat + (b - a).toNat)) = n.toNat by omega] at t
  rw [t]
  omega
 ·rw [show (b - a).toNat = 0 by omega]
  have t:=zf2 f 0 n.toNat λ i _ h2=>hz i (by omega) (by omega)
  rw [Nat.zero_add] at t
  rw [t]
  rfl
theorem zu2 {n low high sh least greatest : Int} {i : Int} (hs : 0 <= sh) (h1 : low + i * sh <= least) (h2 : greatest <= high + i * sh) (h0 : 0 <= i) (hi : i < n) : (spn0 n low high sh least greatest).1 <= i /\ i < (spn0 n low high sh least greatest).2:=by
 unfold spn0
 by_cases c : sh = 0
 ·subst c
  rw [if_pos rfl,if_pos (by omega)]
  exact ⟨h0,hi⟩
 ·rw [if_neg c]
  have sp : 0 < sh:=by omega
  have a1 : i <= (least - low) / sh:=(Int.le_ediv_iff_mul_le sp).mpr (by omega)
  have a2 : -i <= (high - greatest) / sh:=(Int.le_ediv_iff_mul_le sp).mpr (by rw [Int.neg_mul]; omega)
  dsimp only
  constructor
  ·split <;> omega
  ·split <;> omega
theorem wz1 {n low high sh least greatest : Int} {i : Int} (h1 : low + i * sh <= least) (h2 : greatest <= high + i * sh) (h0 : 0 <= i) (hi : i < n) : (spn n low high sh least greatest).1 <= i /\ i < (spn n low high sh least greatest).2:=by
 unfold spn
 by_cases c : sh < 0
 ·rw [if_pos c]
  exact zu2 (by omega) (by rw [Int.mul_neg]; omega) (by rw [Int.mul_neg]; omega) h0 hi
 ·rw [if_neg c]
  exact zu2 (by omega) h1 h2 h0 hi
theorem ys5 {n low high sh least greatest : Int} (hn : 0 <= n) : 0 <= (spn0 n low high sh least greatest).1 /\ (spn0 n low high sh least greatest).2 <= n:=by
 unfold spn0
 split
 ·split
  ·exact ⟨Int.le_refl _,Int.le_refl _⟩
  ·exact ⟨Int.le_refl _,hn⟩
 ·dsimp only
  constructor <;> split <;> omega
theorem xu2 {n low high sh least greatest : Int} (hn : 0 <= n) : 0 <= (spn n low high sh least greatest).1 /\ (spn n low high sh least greatest).2 <= n:=by
 unfold spn
 split <;> exact ys5 hn
theorem yj5 (x a b : Int) : mn (x + a) (x + b) = x + mn a b:=by unfold mn; split <;> split <;> omega
theorem wi5 (x a b : Int) : mx (x + a) (x + b) = x + mx a b:=by unfold mx; split <;> split <;> omega
noncomputable def dX (pen p : Pen) : Int:=p.1 * cs pen.2.2 - p.2.1 * sn pen.2.2
noncomputable def dY (pen p : Pen) : Int:=p.1 * sn pen.2.2 + p.2.1 * cs pen.2.2
theorem zp1 {pen p : Pen} (h1 : Hd pen) (h4 : p.2.2 = 0) (i : Int) {b f : Bx} (e : bfr pen (some b) = some f) : bfr (led pen (p.1 * i,p.2.1 * i,0)) (some b) = some (f.1 + i * dX pen p,f.2.1 + i * dY pen p,f.2.2.1 + i * dX pen p,f.2.2.2 + i * dY pen p):=by
 cases e
 have e3 : (led pen (p.1 * i,p.2.1 * i,0)).2.2 = pen.2.2:=by
  show (pen.2.2 + 0) % 4 = _
  rcases h1 with h | h | h | h <;> rw [h] <;> rfl
 have a1 : ∀ c d : Int,(led (led pen (p.1 * i,p.2.1 * i,0)) (c,d,0)).1 = i * dX pen p + (led pen (c,d,0)).1:=λ c d=>by
  show (led pen (p.1 * i,p.2.1 * i,0)).1 + c * cs (led pen (p.1 * i,p.2.1 * i,0)).2.2 - d * sn (led pen (p.1 * i,p.2.1 * i,0)).2.2 = i * dX pen p + (pen.1 + c * cs pen.2.2 - d * sn pen.2.2)
  rw [e3]
  show pen.1 + p.1 * i * cs pen.2.2 - p.2.1 * i * sn pen.2.2 + c * cs pen.2.2 - d * sn pen.2.2 = _
  unfold dX
  grind
 have a2 : ∀ c d : Int,(led (led pen (p.1 * i,p.2.1 * i,0)) (c,d,0)).2.1 = i * dY pen p + (led pen (c,d,0)).2.1:=λ c d=>by
  show (led pen (p.1 * i,p.2.1 * i,0)).2.1 + c * sn (led pen (p.1 * i,p.2.1 * i,0)).2.2 + d * cs (led pen (p.1 * i,p.2.1 * i,0)).2.2 = i * dY pen p + (pen.2.1 + c * sn pen.2.2 + d * cs pen.2.2)
  rw [e3]
  show pen.2.1 + p.1 * i * sn pen.2.2 + p.2.1 * i * cs pen.2.2 + c * sn pen.2.2 + d * cs pen.2.2 = _
  unfold dY
  grind
 unfold bfr
 dsimp only
 rw [a1,a1,a2,a2,yj5,yj5,wi5,wi5]
 refine congrArg some (Prod.ext ?_ (Prod.ext ?_ (Prod.ext ?_ ?_))) <;> exact Int.add_comm _ _
theorem wo7 (i : Nat) : pw st i = st:=by
 induction i with
 | zero=>rfl
 | succ i ih=>show led (pw st i) st = st; rw [ih]; exact wy0 wi1
theorem wt0 {f : Nat -> Nat} {c : Nat} (h : ∀ i,f i = c) : ∀ n,Sn f n = n * c
 | 0=>by simp [Sn]
 | n + 1=>by rw [Sn,wt0 h n,h,Nat.succ_mul]
theorem wk4 {f : Nat -> Nat} (h : ∀ i,f i = f (i % 4)) : ∀ n,Sn f n = (n + 3) / 4 * f 0 + (n + 2) / 4 * f 1 + (n + 1) / 4 * f 2 + n / 4 * f 3
 | 0=>by simp [Sn]
 | n + 1=>by
  rw [Sn,wk4 h n,h n]
  have r:=Nat.div_add_mod n 4
  have r4:=Nat.mod_lt n (show 0 < 4 by decide)
  generalize hm : n / 4 = m at r
  generalize hr : n % 4 = q at r r4
  have : q = 0 \/ q = 1 \/ q = 2 \/ q = 3:=by omega
  rcases this with rfl | rfl | rfl | rfl
  ·rw [show (n + 1 + 3) / 4 = m + 1 by omega,show (n + 1 + 2) / 4 = m by omega,show (n + 1 + 1) / 4 = m by omega,show (n + 1) / 4 = m by omega]; simp only [Nat.add_mul,Nat.one_mul]; omega
  ·rw [show (n + 1 + 3) / 4 = m + 1 by omega,show (n + 1 + 2) / 4 = m + 1 by omega,show (n + 1 + 1) / 4 = m by omega,show (n + 1) / 4 = m by omega]; simp only [Nat.add_mul,Nat.one_mul]; omega
  ·rw [show (n + 1 + 3) / 4 = m + 1 by omega,show (n + 1 + 2) / 4 = m + 1 by omega,show (n + 1 + 1) / 4 = m + 1 by omega,show (n + 1) / 4 = m by omega]; simp only [Nat.add_mul,Nat.one_mul]; omega
  ·rw [show (n + 1 + 3) / 4 = m + 1 by omega,show (n + 1 + 2) / 4 = m + 1 by omega,show (n + 1 + 1) / 4 = m + 1 by omega,show (n + 1) / 4 = m + 1 by omega]; simp only [Nat.add_mul,Nat.one_mul]; omega
theorem wc2 {a : Int × Int} {i : Int} (h : i ∈ rngI a) : a.1 <= i /\ i < a.2:=by
 unfold rngI at h
 obtain ⟨k,hk,rfl⟩:=List.mem_map.mp h
 rw [List.mem_range] at hk
 omega
theorem xd2 (a : Int × Int) : (rngI a).length = (a.2 - a.1).toNat:=by simp [rngI]
theorem zl5 {n : Int} {p pen : Pen} {o : Option Bx} {s : Stk} (hn : 0 <= n) : 0 <= (ask n p pen o s).1 /\ (ask n p pen o s).2 <= n:=by
 unfold ask
 split
 ·exact ⟨Int.le_refl _,hn⟩
 split
 ·exact ⟨Int.le_refl _,by show lo1 n 1 <= n; unfold lo1; split <;> omega⟩
 split
 ·exact ⟨Int.le_refl _,by show lo1 n 4 <= n; unfold lo1; split <;> omega⟩
 split
 ·rename_i f g _ _
  have a1:=@xu2 n f.1 f.2.2.1 (g.1 - f.1) s.1 (gx s) hn
  have a2:=@xu2 n f.2.1 f.2.2.2 (g.2.1 - f.2.1) s.2.1 (gy s) hn
  dsimp only [hi1,lo1]
  constructor <;> split <;> omega
 ·exact ⟨Int.le_refl _,hn⟩
theorem zr2 {l : List Stk} {o : Option Bx} {pen p : Pen} {s : Stk} {n : Int} (hp : Hd pen) (hq : Hd p) (hw : wys l) (hb : IsBox l o) (hn : 0 <= n) :
    sumL (λ i=>lk n p i * (Cn l pen p s i.toNat : Nat)) (rngI (ask n p pen o s)) = (Sn (Cn l pen p s) n.toNat : Nat):=by
 by_cases c0 : o = none
 ·subst c0
  have e : l = []:=hb
  subst e
  have z : ∀ i,Cn [] pen p s i = 0:=λ i=>by simp [Cn]
  rw [show ask n p pen none s = (0,0) by simp [ask],wt0 z]
  simp [rngI,sumL]
 by_cases c1 : p = st
 ·subst c1
  have z : ∀ i,Cn l pen st s i = Cn l pen st s 0:=λ i=>by unfold Cn; rw [wo7,wo7]
  rw [wt0 z,show ask n st pen o s = (0,lo1 n 1) by unfold ask; rw [if_neg c0,if_pos rfl]]
  by_cases c : n = 0
  ·subst c
   show (0 : Int) = ((0 * _ : Nat) : Int)
   rw [Nat.zero_mul]; rfl
  ·rw [show lo1 n 1 = 1 by unfold lo1; split <;> omega,show rngI (0,1) = [0] from rfl]
   show lk n st 0 * ((Cn l pen st s 0 : Nat) : Int) + 0 = _
   rw [show lk n st 0 = n from if_pos rfl,Int.natCast_mul,Int.toNat_of_nonneg hn,Int.add_zero]
 by_cases c2 : p.2.2 = 0
 ·cases o with
  | none=>exact absurd rfl c0
  | some b =>
   obtain ⟨f,ef⟩ : ∃ f,bfr pen (some b) = some f:=⟨_,rfl⟩
   have eg : bfr (led pen p) (some b) = some (f.1 + dX pen p,f.2.1 + dY pen p,f.2.2.1 + dX pen p,f.2.2.2 + dY pen p):=by
    have:=zp1 hp c2 1 ef
    rw [Int.mul_one,Int.mul_one,show ((p.1,p.2.1,0) : Pen) = p by rw [<- c2]] at this
    simp only [Int.one_mul] at this
    exact this
   have ea : ask n p pen (some b) s = (hi1 (spn n f.1 f.2.2.1 (dX pen p) s.1 (gx s)).1 (spn n f.2.1 f.2.2.2 (dY pen p) s.2.1 (gy s)).1,lo1 (spn n f.1 f.2.2.1 (dX pen p) s.1 (gx s)).2 (spn n f.2.1 f.2.2.2 (dY pen p) s.2.1 (gy s)).2):=by
    unfold ask
    rw [if_neg c0,if_neg c1,if_neg (λ h=>h c2),ef,eg]
    dsimp only
    rw [show f.1 + dX pen p - f.1 = dX pen p by omega,show f.2.1 + dY pen p - f.2.1 = dY pen p by omega]
   rw [ea]
   have a1:=@xu2 n f.1 f.2.2.1 (dX pen p) s.1 (gx s) hn
   have a2:=@xu2 n f.2.1 f.2.2.2 (dY pen p) s.2.1 (gy s) hn
   rw [wj1 (g:=λ i=>((Cn l pen p s i.toNat : Nat) : Int)) λ i _=>by unfold lk; rw [if_neg c1,if_pos c2,Int.one_mul]]
   refine xr5 _ ?_ ?_ hn ?_
   ·unfold hi1; split <;> omega
   ·unfold lo1; split <;> omega
   ·intro i hi hni
    refine Decidable.byContradiction λ hc=>hni ?_
    have q:=yl5 hw hb hc
    rw [wk1 c2 i,zp1 hp c2 i ef] at q
    obtain ⟨q1,q2,q3,q4⟩:=inb_iff.mp q
    have u:=wz1 (n:=n) (i:=i) (greatest:=gx s) q1 q3 (by omega) hi
    have v:=wz1 (n:=n) (i:=i) (greatest:=gy s) q2 q4 (by omega) hi
    unfold hi1 lo1
    constructor <;> split <;> omega
 ·have z : ∀ i,Cn l pen p s i = Cn l pen p s (i % 4):=λ i=>by unfold Cn; rw [yt3 hq c2 i]
  have lkv : ∀ i,lk n p i = (n - i + 3) / 4:=λ i=>by unfold lk; rw [if_neg c1,if_neg c2]
  rw [wk4 z,show ask n p pen o s = (0,lo1 n 4) by unfold ask; rw [if_neg c0,if_neg c1,if_pos c2]]
  rw [wj1 (g:=λ i=>(n - i + 3) / 4 * ((Cn l pen p s i.toNat : Nat) : Int)) λ i _=>by rw [lkv]]
  clear lkv z
  generalize Cn l pen p s = C
  obtain ⟨m,rfl⟩:=Int.eq_ofNat_of_zero_le hn
  rw [Int.toNat_natCast]
  rcases m with _ | _ | _ | _ | m
  ·rw [show rngI (0,lo1 ((0 : Nat) : Int) 4) = [] from rfl]
   simp [sumL]
  ·rw [show rngI (0,lo1 ((0 + 1 : Nat) : Int) 4) = [0] from rfl]
   simp [sumL]
  ·rw [show rngI (0,lo1 ((0 + 1 + 1 : Nat) : Int) 4) = [0,1] from rfl]
   simp [sumL]
  ·rw [show rngI (0,lo1 ((0 + 1 + 1 + 1 : Nat) : Int) 4) = [0,1,2] from rfl]
   simp [sumL]
   omega
  ·rw [show lo1 ((m + 1 + 1 + 1 + 1 : Nat) : Int) 4 = 4 by unfold lo1; split <;> omega,show rngI (0,4) = [0,1,2,3] from rfl]
   simp only [sumL]
   rw [show (((m + 1 + 1 + 1 + 1 : Nat) : Int) - 0 + 3) / 4 = (((m + 1 + 1 + 1 + 1 + 3) / 4 : Nat) : Int) by omega,show (((m + 1 + 1 + 1 + 1 : Nat) : Int) - 1 + 3) / 4 = (((m + 1 + 1 + 1 + 1 + 2) / 4 : Nat) : Int) by omega,show (((m + 1 + 1 + 1 + 1 : Nat) : Int) - 2 + 3) / 4 = (((m + 1 + 1 + 1 + 1 + 1) / 4 : Nat) : Int) by omega,show (((m + 1 + 1 + 1 + 1 : Nat) : Int) - 3 + 3) / 4 = (((m + 1 + 1 + 1 + 1) / 4 : Nat) : Int) by omega]
   rw [show (0 : Int).toNat = 0 from rfl,show (1 : Int).toNat = 1 from rfl,show (2 : Int).toNat = 2 from rfl,show (3 : Int).toNat = 3 from rfl]
   simp only [<- Int.natCast_mul]
   omega
mutual
noncomputable def Bd : Dd -> Nat
 | .times n w=>n.toNat * (1 + Bs w)
 | _=>0
noncomputable def Bs : List Dd -> Nat
 | []=>0
 | d :: r=>Bd d + Bs r
end
mutual
noncomputable def gd : Dd -> Prop
 | .times _ w=>bdd (pb w) /\ (xd0 w).length < 2 ^ 64 /\ gds w
 | _=>True
noncomputable def gds : List Dd -> Prop
 | []=>True
 | d :: r=>gd d /\ gds r
end
theorem zx3 {w : List Dd} {n : Int} {pen : Pen} {s : Stk} {K : Nat} (ow : ∀ pen,Hd pen -> ∃ k,k <= K /\ OW w pen s ((((xd0 w).map (mvS pen)).count s : Nat) : Int) k) (hw : oks w) (hl : (xd0 w).length < 2 ^ 64) :
    ∀ is : List Int,(∀ i ∈ is,0 <= i /\ i <= G) -> ∃ k,k <= is.length * (1 + K) /\ OL is n w pen s (sumL (λ i=>lk n (pb w) i * ((Cn (xd0 w) pen (pb w) s i.toNat : Nat) : Int)) is) k
 | [],_=>⟨0,by simp,.nil⟩
 | i :: r,h=>by
  obtain ⟨k,hk,o⟩:=zx3 (n:=n) (pen:=pen) ow hw hl r λ j hj=>h j (List.mem_cons_of_mem _ hj)
  obtain ⟨h0,h1⟩:=h i (List.mem_cons_self ..)
  have e : rep (pb w) i = pw (pb w) i.toNat:=yr1 (wj0 w) h0
  have len : (i :: r).length * (1 + K) = r.length * (1 + K) + (1 + K):=by rw [List.length_cons,Nat.succ_mul]
  by_cases c : inb s (bfr (led pen (rep (pb w) i)) (bxa w none st)) = true
  ·obtain ⟨k1,hk1,o1⟩:=ow (led pen (rep (pb w) i)) (yn0 _ _)
   have lc : Cn (xd0 w) pen (pb w) s i.toNat <= (xd0 w).length:=by
    unfold Cn
    have:=List.count_le_length (a:=s) (l:=(xd0 w).map (mvS (led pen (pw (pb w) i.toNat))))
    rw [List.length_map] at this
    exact this
   refine ⟨1 + k1 + k,by rw [len]; omega,?_⟩
   refine OL.inn c h0 h1 ?_ (by omega) (by omega) o
   have o2:=o1
   rw [e] at o2 ⊢
   exact o2
  ·have c' : inb s (bfr (led pen (rep (pb w) i)) (bxa w none st)) = false:=by simpa using c
   have z : Cn (xd0 w) pen (pb w) s i.toNat = 0:=zh6 (xi0 w) (wx0 w hw) (by rw [<- e]; exact c')
   refine ⟨k,by rw [len]; omega,?_⟩
   have o2:=OL.out c' h0 h1 o
   simp only [sumL,z,Int.natCast_zero,Int.mul_zero,Int.zero_add]
   exact o2
theorem xf8 {x y h n : Int} (hn : 0 < n) (hp : h = 0 \/ h = 1 \/ h = 2 \/ h = 3) : bfr (x,y,h) (some (0,0,n,0)) = if h = 0 then some (x,y,x + n,y) else if h = 1 then some (x,y,x,y + n) else if h = 2 then some (x - n,y,x,y) else some (x,y - n,x,y):=by
 rcases hp with rfl | rfl | rfl | rfl
 ·have a : ¬ x + n < x:=by omega
  have b : x < x + n:=by omega
  simp [bfr,led,cs,sn,mn,mx,a,b]
 ·have a : ¬ y + n < y:=by omega
  have b : y < y + n:=by omega
  simp [bfr,led,cs,sn,mn,mx,a,b]
 ·have a : x + -n < x:=by omega
  have b : ¬ x < x + -n:=by omega
  simp [bfr,led,cs,sn,mn,mx,a,b,Int.sub_eq_add_neg]
 ·have a : y + -n < y:=by omega
  have b : ¬ y < y + -n:=by omega
  simp [bfr,led,cs,sn,mn,mx,a,b,Int.sub_eq_add_neg]
theorem yz4 {pen : Pen} (hp : Hd pen) {s : Stk} (hs : wy s) {n : Int} (hn : 0 <= n) (hG : n <= G) : ((((strk (.go n)).map (mvS pen)).count s : Nat) : Int) = if inb s (bfr pen (bxd (.go n))) = true then 1 else 0:=by
 have hb:=xj4 (.go n) ⟨hn,hG⟩
 by_cases c : n = 0
 ·subst c
  simp [strk,bxd,bfr,inb]
 have bx : bxd (.go n) = some (0,0,n,0):=by simp only [bxd]; rw [if_neg c]
 have iff : s ∈ (strk (.go n)).map (mvS pen) ↔ inb s (bfr pen (bxd (.go n))) = true:=by
  refine ⟨λ h=>zz3 (IsBox.fr hp (xz1 _) hb) h,λ h=>?_⟩
  rw [bx] at h
  simp only [strk]
  rw [List.map_map]
  obtain ⟨x,y,k⟩:=pen
  obtain ⟨a,b,w⟩:=s
  unfold Hd at hp
  dsimp only at hp
  rw [xf8 (by omega) hp] at h
  rcases hp with rfl | rfl | rfl | rfl
  ·obtain ⟨q1,q2,q3,q4⟩:=inb_iff.mp h
   dsimp only at q1 q2 q3 q4
   rcases hs with e | e <;> dsimp only at e <;> subst e
   ·exact List.mem_map.mpr ⟨(a - x).toNat,List.mem_range.mpr (by omega),by simp [mvS]; omega⟩
   ·omega
  ·obtain ⟨q1,q2,q3,q4⟩:=inb_iff.mp h
   dsimp only at q1 q2 q3 q4
   rcases hs with e | e <;> dsimp only at e <;> subst e
   ·omega
   ·exact List.mem_map.mpr ⟨(b - y).toNat,List.mem_range.mpr (by omega),by simp [mvS]; omega⟩
  ·obtain ⟨q1,q2,q3,q4⟩:=inb_iff.mp h
   dsimp only at q1 q2 q3 q4
   rcases hs with e | e <;> dsimp only at e <;> subst e
   ·exact List.mem_map.mpr ⟨(x - 1 - a).toNat,List.mem_range.mpr (by omega),by simp [mvS]; omega⟩
   ·omega
  ·obtain ⟨q1,q2,q3,q4⟩:=inb_iff.mp h
   dsimp only at q1 q2 q3 q4
   rcases hs with e | e <;> dsimp only at e <;> subst e
   ·omega
   ·exact List.mem_map.mpr ⟨(y - 1 - b).toNat,List.mem_range.mpr (by omega),by simp [mvS]; omega⟩
 have nd : ((strk (.go n)).map (mvS pen)).Nodup:=by
  simp only [strk]
  rw [List.map_map]
  refine List.pairwise_map.mpr (List.nodup_range.imp λ {i j} h e=>h ?_)
  obtain ⟨x,y,k⟩:=pen
  unfold Hd at hp
  dsimp only at hp
  rcases hp with rfl | rfl | rfl | rfl <;> simp [mvS] at e <;> omega
 by_cases m : s ∈ (strk (.go n)).map (mvS pen)
 ·rw [if_pos (iff.mp m),nd.count,if_pos m]; rfl
 ·rw [if_neg (λ h=>m (iff.mpr h)),List.count_eq_zero.mpr m]; rfl
mutual
theorem od : ∀ d,okd d -> gd d -> ∀ (pen : Pen) (s : Stk),Hd pen -> wy s -> ∃ k,k <= Bd d /\ OD d pen s ((((strk d).map (mvS pen)).count s : Nat) : Int) k
 | .go n,h,_,pen,s,hp,hs=>⟨0,Nat.zero_le _,by rw [yz4 hp hs h.1 h.2]; exact OD.one (by simp only [dep])⟩
 | .jump n,_,_,pen,s,_,_=>⟨0,Nat.zero_le _,by
     have:=OD.one (d:=.jump n) (pen:=pen) (s:=s) (by simp only [dep])
     simpa [bxd,bfr,inb,strk] using this⟩
 | .turn n,_,_,pen,s,_,_=>⟨0,Nat.zero_le _,by
     have:=OD.one (d:=.turn n) (pen:=pen) (s:=s) (by simp only [dep])
     simpa [bxd,bfr,inb,strk] using this⟩
 | .times n w,h,g,pen,s,hp,hs=>by
  simp only [okd] at h
  simp only [gd] at g
  have ai:=@zl5 n (pb w) pen (bxa w none st) s h.1.1
  obtain ⟨k,hk,o⟩:=zx3 (n:=n) (pen:=pen) (s:=s) (K:=Bs w) (λ pen' hp'=>ow w h.2 g.2.2 pen' s hp' hs) h.2 g.2.1 (rngI (ask n (pb w) pen (bxa w none st) s)) λ i hi=>by
   have:=wc2 hi
   omega
  rw [zr2 hp (wj0 w) (xi0 w) (wx0 w h.2) h.1.1] at o
  refine ⟨k,?_,?_⟩
  ·simp only [Bd]
   refine Nat.le_trans hk (Nat.mul_le_mul_right _ ?_)
   rw [xd2]
   omega
  ·simp only [strk]
   rw [xy0 _ hp]
   exact OD.times g.1 o
theorem ow : ∀ w,oks w -> gds w -> ∀ (pen : Pen) (s : Stk),Hd pen -> wy s -> ∃ k,k <= Bs w /\ OW w pen s ((((xd0 w).map (mvS pen)).count s : Nat) : Int) k
 | [],_,_,pen,s,_,_=>⟨0,Nat.zero_le _,by simp only [xd0,List.map_nil,List.count_nil]; exact OW.nil⟩
 | d :: r,h,g,pen,s,hp,hs=>by
  simp only [oks] at h
  simp only [gds] at g
  obtain ⟨k1,b1,o1⟩:=od d h.1 g.1 pen s hp hs
  obtain ⟨k2,b2,o2⟩:=ow r h.2 g.2 (led pen (pd d)) s (yn0 _ _) hs
  refine ⟨k1 + k2,by simp only [Bs]; omega,?_⟩
  simp only [xd0,List.map_append,List.count_append,Int.natCast_add]
  rw [<- yl0 hp (zn1 d h.1)]
  exact OW.cons o1 o2
end
mutual
noncomputable def sq : Dd -> Prop
 | .go n=>0 <= n /\ n <= 2
 | .jump n=>-2 <= n /\ n <= 2
 | .turn n=>-4 <= n /\ n <= 4
 | .times n w=>(0 <= n /\ n <= 3) /\ w.length <= 2 /\ sqs w
noncomputable def sqs : List Dd -> Prop
 | []=>True
 | d :: r=>sq d /\ sqs r
end
theorem xk1 : ∀ a b,sqs (a ++ b) ↔ sqs a /\ sqs b
 | [],b=>by simp [sqs]
 | d :: r,b=>by simp only [List.cons_append,sqs,xk1 r b,and_assoc]
theorem zx0 : ∀ a b,encs (a ++ b) = encs a ++ encs b
 | [],b=>by simp [encs]
 | d :: r,b=>by simp only [List.cons_append,encs,zx0 r b]
theorem wl3 (l : List Stk) (p : Pen) : ∀ n,(tms l p n).length = n * l.length
 | 0=>by simp [ys2]
 | n + 1=>by rw [zz1,List.length_append,wl3 l p n,List.length_map,Nat.add_mul]; omega
theorem xy2 {α : Type} (l : List α) : ∀ n,(List.replicate n l).flatten.length = n * l.length
 | 0=>by simp
 | n + 1=>by rw [List.replicate_succ,List.flatten_cons,List.length_append,xy2 l n,Nat.add_mul]; omega
theorem xi1 {a b : Nat} (h : a <= b) : 6 ^ a <= 6 ^ b:=Nat.pow_le_pow_right (by decide) h
theorem yz1 {a b : Nat} (h : a <= b) : 2 ^ a <= 2 ^ b:=Nat.pow_le_pow_right (by decide) h
mutual
theorem zt6 : ∀ d,sq d -> okd d /\ (strk d).length <= 2 * 6 ^ dep d /\ (ro d).length <= 6 ^ dep d /\ cnt d + 1 <= 2 * 2 ^ dep d
 | .go n,h=>by
  simp only [sq] at h
  simp only [okd,G,strk,ro,dep,cnt,List.length_map,List.length_range,List.length_cons,List.length_nil]
  omega
 | .jump n,h=>by
  simp only [sq] at h
  simp only [okd,G,strk,ro,dep,cnt,List.length_cons,List.length_nil]
  omega
 | .turn n,h=>by
  simp only [sq] at h
  simp only [okd,G,strk,ro,dep,cnt,List.length_cons,List.length_nil]
  omega
 | .times n w,h=>by
  simp only [sq] at h
  obtain ⟨h1,h2,h3⟩:=h
  obtain ⟨a1,a2,a3,a4⟩:=wm0 w h3
  simp only [okd,G,strk,ro,dep,cnt]
  rw [wl3,xy2,Nat.add_comm 1 (deps w),Nat.pow_succ,Nat.pow_succ]
  have b1 : w.length * (2 * 6 ^ deps w) <= 2 * (2 * 6 ^ deps w):=Nat.mul_le_mul_right _ h2
  have b2 : w.length * 6 ^ deps w <= 2 * 6 ^ deps w:=Nat.mul_le_mul_right _ h2
  have b3 : w.length * (2 * 2 ^ deps w) <= 2 * (2 * 2 ^ deps w):=Nat.mul_le_mul_right _ h2
  have c1 : n.toNat * (xd0 w).length <= 3 * (2 * (2 * 6 ^ deps w)):=Nat.mul_le_mul (by omega) (Nat.le_trans a2 b1)
  have c2 : n.toNat * (ros w).length <= 3 * (2 * 6 ^ deps w):=Nat.mul_le_mul (by omega) (Nat.le_trans a3 b2)
  have c3 : w.length = 0 \/ w.length = 1 \/ w.length = 2:=by omega
  have c4 : 1 <= 2 ^ deps w:=Nat.pow_pos (by decide)
  refine ⟨⟨by omega,a1⟩,by omega,by omega,?_⟩
  rcases c3 with e | e | e <;> rw [e] at a4 <;> omega
theorem wm0 : ∀ w,sqs w -> oks w /\ (xd0 w).length <= w.length * (2 * 6 ^ deps w) /\ (ros w).length <= w.length * 6 ^ deps w /\ cnts w + w.length <= w.length * (2 * 2 ^ deps w)
 | [],h=>by simp [oks,xd0,ros,cnts]
 | d :: r,h=>by
  simp only [sqs] at h
  obtain ⟨a1,a2,a3,a4⟩:=zt6 d h.1
  obtain ⟨b1,b2,b3,b4⟩:=wm0 r h.2
  simp only [oks,xd0,ros,cnts,deps,List.length_append,List.length_map,List.length_cons,Nat.add_mul,Nat.one_mul]
  have c1 : 6 ^ dep d <= 6 ^ max (dep d) (deps r):=xi1 (by omega)
  have c2 : 6 ^ deps r <= 6 ^ max (dep d) (deps r):=xi1 (by omega)
  have c3 : 2 ^ dep d <= 2 ^ max (dep d) (deps r):=yz1 (by omega)
  have c4 : 2 ^ deps r <= 2 ^ max (dep d) (deps r):=yz1 (by omega)
  have e1 : r.length * (2 * 6 ^ deps r) <= r.length * (2 * 6 ^ max (dep d) (deps r)):=Nat.mul_le_mul_left _ (by omega)
  have e2 : r.length * 6 ^ deps r <= r.length * 6 ^ max (dep d) (deps r):=Nat.mul_le_mul_left _ c2
  have e3 : r.length * (2 * 2 ^ deps r) <= r.length * (2 * 2 ^ max (dep d) (deps r)):=Nat.mul_le_mul_left _ (by omega)
  exact ⟨⟨a1,b1⟩,by omega,by omega,by omega⟩
end
theorem wr5 {w : List Dd} (h : sqs w) (hd : deps w <= 2) (hl : w.length <= 4) : Wd w /\ (xd0 w).length <= 288 /\ (ros w).length <= 144:=by
 obtain ⟨a1,a2,a3,a4⟩:=wm0 w h
 have c2 : 6 ^ deps w <= 6 ^ 2:=xi1 hd
 have c4 : 2 ^ deps w <= 2 ^ 2:=yz1 hd
 have b1 : w.length * (2 * 6 ^ deps w) <= 4 * (2 * 6 ^ 2):=Nat.mul_le_mul hl (by omega)
 have b2 : w.length * 6 ^ deps w <= 4 * 6 ^ 2:=Nat.mul_le_mul hl c2
 have b3 : w.length * (2 * 2 ^ deps w) <= w.length * (2 * 2 ^ 2):=Nat.mul_le_mul_left _ (by omega)
 refine ⟨⟨a1,by omega,?_⟩,by omega,by omega⟩
 omega
noncomputable def wq0 : Sp3:=λ ds μ Q=>∃ (ns : List Int) (k : Int),ds = [.fls (ns.map D.int),.int k] /\ 0 <= k /\ ∀ a b p,0 <= a -> μ p = none -> Q (.ref p) (updM μ p (.lst [.int a,.int b]))
theorem zn7 (ds : List D) (μ : Mu) (Q : VK3) (h : wq0 ds μ Q) : zq5 { nx:=λ _ μ'=>Q .non μ',rt:=Q } (start3 wg5 ds) μ:=by
 obtain ⟨ns,k,rfl,hk,q⟩:=h
 have e : ((10 : Int) ^ (18 : Int).toNat) = 1000000000000000000:=by decide
 have c : CPow 10 18:=⟨by decide,by decide,by decide⟩
 simp_arith [zq5,wg5,c,e]
 have key : ∀ i : Int,(if 1000000000000000000 <= i then 2 <= sizeLine /\ ∀ p,μ p = none -> Q (.ref p) (updM μ p (.lst [.int (i - 1000000000000000000),.int 1]))
     else CMul 7919 k /\ (0 : Int) < 2147483647 /\ 2 <= sizeLine /\ ∀ p,μ p = none -> Q (.ref p) (updM μ p (.lst [.int ((i + 7919 * k) % 2147483647),.int 0]))):=by
  intro i
  split
  ·exact ⟨by decide,λ p hp=>q _ _ p (by omega) hp⟩
  ·exact ⟨.inl (.inl (by decide)),by decide,by decide,λ p hp=>q _ _ p (Int.emod_nonneg _ (by decide)) hp⟩
 split
 ·next h1 =>
  obtain ⟨d,hd,e⟩:=yz2 (l:=ns.map D.int) hk h1
  obtain ⟨i,_,rfl⟩:=List.mem_map.mp hd
  simp_arith [e]
  exact key i
 ·exact key 0
noncomputable def xb1 : Sp3:=λ ds μ Q=>∃ (p : Addr) (m a b : Int),ds = [.ref p,.int m] /\ 0 < m /\ m < 2 ^ 80 /\ μ p = some (.lst [.int a,.int b]) /\ 0 <= a ∧
 ∀ r a' b',0 <= r -> r < m -> 0 <= a' -> Q (.int r) (updM μ p (.lst [.int a',.int b']))
theorem yn7 (ds : List D) (μ : Mu) (Q : VK3) (h : xb1 ds μ Q) : yq5 { nx:=λ _ μ'=>Q .non μ',rt:=Q } (start3 zg5 ds) μ:=by
 obtain ⟨p,m,a,b,rfl,h1,h2,h3,h4,q⟩:=h
 simp_arith [yq5,zg5,h3]
 have main : CMul a 48271 /\ (0 : Int) < 2147483647 /\ (∀ c : Int,c = (a * 48271 + 69621) % 2147483647 -> CMul c c /\ CMul 16807 c /\ (0 : Int) < 2147483629 /\ ∀ e : Int,e = (c * c + 16807 * c) % 2147483629 -> CMul e e /\ CMul 39373 e /\ (0 : Int) < 2147483587 /\ ((0 : Int) < 8 /\ (8 : Int) < 2 ^ 120) /\ 0 < m ∧
     Q (.int ((e * e + 39373 * e) % 2147483587 / 8 % m)) (updM μ p (.lst [.int c,.int 0]))):=by
  refine ⟨.inl (.inr (by decide)),by decide,λ c hc=>?_⟩
  have n1 : 0 <= c:=by rw [hc]; exact Int.emod_nonneg _ (by decide)
  have n2 : c < 2147483647:=by rw [hc]; exact Int.emod_lt_of_pos _ (by decide)
  refine ⟨.inl (.inl (by omega)),.inl (.inl (by decide)),by decide,λ e he=>?_⟩
  have n3 : 0 <= e:=by rw [he]; exact Int.emod_nonneg _ (by decide)
  have n4 : e < 2147483629:=by rw [he]; exact Int.emod_lt_of_pos _ (by decide)
  exact ⟨.inl (.inl (by omega)),.inl (.inl (by decide)),by decide,⟨by decide,by decide⟩,h1,q _ _ _ (Int.emod_nonneg _ (by omega)) (Int.emod_lt_of_pos _ h1) n1⟩
 obtain ⟨m1,m2,m3⟩:=main
 obtain ⟨m4,m5,m6,m7⟩:=m3 _ rfl
 obtain ⟨m8,m9,m10,m11,m12,m13⟩:=m7 _ rfl
 split
 ·split
  ·refine ⟨h1,⟨h1,by omega⟩,?_⟩
   exact q _ _ _ (Int.emod_nonneg _ (by omega)) (Int.emod_lt_of_pos _ h1) (Int.ediv_nonneg h4 (by omega))
  ·simp_arith [wb0,wr0]
   exact ⟨m1,m2,m4,m5,m6,m8,m9,m10,m11,m12,m13⟩
 ·simp_arith [wb0,wr0]
  exact ⟨m1,m2,m4,m5,m6,m8,m9,m10,m11,m12,m13⟩
noncomputable def xv1 (j : Nat) : Sp3:=λ ds μ Q=>∃ (p : Addr) (deep m : Int),ds = [.ref p,.int deep,.int m] /\ deep < j /\ 0 <= deep /\ 0 <= m /\ m <= 1000 /\ ∃ a b,μ p = some (.lst [.int a,.int b]) /\ 0 <= a ∧
 ∀ w a' b' μ',ExtB p μ μ' -> μ' p = some (.lst [.int a',.int b']) -> 0 <= a' -> sqs w -> (deps w : Int) <= deep -> (w.length : Int) = m -> Q (.tup (encs w)) μ'
noncomputable def spLd (j : Nat) : Sp3:=λ ds μ Q=>∃ (p : Addr) (deep : Int),ds = [.ref p,.int deep] /\ deep < j /\ 0 <= deep /\ ∃ a b,μ p = some (.lst [.int a,.int b]) /\ 0 <= a ∧
 ∀ d a' b' μ',ExtB p μ μ' -> μ' p = some (.lst [.int a',.int b']) -> 0 <= a' -> sq d -> (dep d : Int) <= deep -> Q (enc d) μ'
theorem zo8 (j : Nat) (ds : List D) (μ : Mu) (Q : VK3) (h : spLd (j + 1) ds μ Q) : t_q0 (xv1 j) xb1 { nx:=λ _ μ'=>Q .non μ',rt:=Q } (start3 N_q0 ds) μ:=by
 obtain ⟨p,deep,rfl,h1,h2,a,b,h3,h4,q⟩:=h
 simp_arith [t_q0,N_q0]
 refine ⟨p,_,a,b,rfl,by split <;> omega,by split <;> omega,h3,h4,λ k a1 b1 k1 k2 k3=>?_⟩
 have ex : ∀ o,ExtB p μ (updM μ p o):=λ o=>ExtB.upd
 simp_arith [cst0]
 split
 ·refine ⟨p,9,a1,b1,rfl,by decide,by decide,wb0,k3,λ n a2 b2 n1 n2 n3=>?_⟩
  simp_arith [wr0]
  exact ⟨by decide,q (.turn (n - 4)) a2 b2 _ (ex _) wb0 n3 (by simp only [sq]; omega) (by simp only [dep]; omega)⟩
 ·split
  ·refine ⟨p,5,a1,b1,rfl,by decide,by decide,wb0,k3,λ n a2 b2 n1 n2 n3=>?_⟩
   simp_arith [wr0]
   exact ⟨by decide,q (.jump (n - 2)) a2 b2 _ (ex _) wb0 n3 (by simp only [sq]; omega) (by simp only [dep]; omega)⟩
  ·split
   ·refine ⟨p,3,a1,b1,rfl,by decide,by decide,wb0,k3,λ n a2 b2 n1 n2 n3=>?_⟩
    simp_arith [wr0]
    exact ⟨by decide,q (.go n) a2 b2 _ (ex _) wb0 n3 (by simp only [sq]; omega) (by simp only [dep]; omega)⟩
   ·next g1 g2 g3 =>
    have hd : 0 < deep:=by
     by_cases hd : 0 < deep
     ·exact hd
     ·simp [hd] at k2; omega
    refine ⟨p,4,a1,b1,rfl,by decide,by decide,wb0,k3,λ n a2 b2 n1 n2 n3=>?_⟩
    simp_arith [wr0]
    refine ⟨p,3,a2,b2,rfl,by decide,by decide,wb0,n3,λ m a3 b3 x1 x2 x3=>?_⟩
    simp_arith [wr0]
    refine ⟨p,deep - 1,m,rfl,by omega,by omega,x1,by omega,a3,b3,wb0,x3,λ w a4 b4 μ4 y1 y2 y3 y4 y5 y6=>?_⟩
    exact ⟨by decide,q (.times n w) a4 b4 μ4 ((ex _).trans y1) y2 y3 (by simp only [sq]; exact ⟨by omega,by omega,y4⟩) (by simp only [dep]; omega)⟩
theorem yo8 (j : Nat) (ds : List D) (μ : Mu) (Q : VK3) (h : xv1 j ds μ Q) : t_q1 (spLd j) { nx:=λ _ μ'=>Q .non μ',rt:=Q } (start3 N_q1 ds) μ:=by
 obtain ⟨p,deep,m,rfl,h1,h2,m0,m1,a,b,h3,h4,q⟩:=h
 have hz : (100000 : Nat) < sizeLine:=by decide
 simp_arith [t_q1,N_q1]
 refine ⟨⟨by omega,by omega⟩,λ r hr=>?_⟩
 have hpr : p ≠ r:=yg0 h3 hr
 refine ⟨λ l ys ρ μ'=>ExtB p μ μ' /\ μ' r = some (.lst ys) /\ (∃ a b,μ' p = some (.lst [.int a,.int b]) /\ 0 <= a) /\ (∃ o,ρ = [o,some (.ref p),some (.int deep)]) /\ ∃ w,ys = encs w /\ sqs w /\ (deps w : Int) <= deep /\ (l.length : Int) + w.length = m,?_,?_,?_,?_⟩
 ·refine ⟨λ c o hc hq=>by rw [ye0 (yg0 hq hr)]; exact hq,wb0,⟨a,b,by rw [ye0 hpr]; exact h3,h4⟩,⟨_,rfl⟩,[],by simp only [encs],by simp only [sqs],by simp only [deps]; omega,?_⟩
  simp only [rngD,List.length_map,List.length_range,List.length_nil]
  omega
 ·rintro l ys ρ μ' ⟨_,e,_⟩
  exact ⟨trivial,e⟩
 ·rintro ys ρ μ' ⟨ex,e,⟨a',b',e2,e3⟩,_,w,rfl,w1,w2,w3⟩
  simp_arith [e]
  exact q w a' b' μ' ex e2 e3 w1 w2 (by simpa using w3)
 ·rintro x l ys ρ μ' ⟨ex,e,⟨a',b',e2,e3⟩,⟨o,rfl⟩,w,rfl,w1,w2,w3⟩
  rw [List.length_cons] at w3
  refine ⟨by rw [yi0]; omega,?_⟩
  simp_arith [cst0]
  refine ⟨p,deep,rfl,h1,h2,a',b',e2,e3,λ d a2 b2 μ2 y1 y2 y3 y4 y5=>?_⟩
  have er : μ2 r = some (.lst (encs w)):=y1 r _ (Ne.symm hpr) e
  refine ⟨er,λ c o hc hq=>?_,wb0,⟨a2,b2,by rw [ye0 hpr]; exact y2,y3⟩,⟨_,rfl⟩,w ++ [d],?_,?_,?_,?_⟩
  ·rw [ye0 (yg0 hq hr)]; exact y1 c o hc (ex c o hc hq)
  ·rw [zx0]; simp only [encs]
  ·rw [xk1]; simp only [sqs]; exact ⟨w1,y4,trivial⟩
  ·rw [ys0]; simp only [deps]; omega
  ·rw [List.length_append]; simp only [List.length_cons,List.length_nil]; omega
mutual
noncomputable def t9 : Dd -> Prop
 | .times n w=>n <= 9 /\ t9s w
 | _=>True
noncomputable def t9s : List Dd -> Prop
 | []=>True
 | d :: r=>t9 d /\ t9s r
end
mutual
theorem xi8 : ∀ d,sq d -> t9 d
 | .go n,h=>by simp only [t9]
 | .jump n,h=>by simp only [t9]
 | .turn n,h=>by simp only [t9]
 | .times n w,h=>by simp only [sq] at h; simp only [t9]; exact ⟨by omega,zw1 w h.2.2⟩
theorem zw1 : ∀ w,sqs w -> t9s w
 | [],_=>by simp only [t9s]
 | d :: r,h=>by simp only [sqs] at h; simp only [t9s]; exact ⟨xi8 d h.1,zw1 r h.2⟩
end
noncomputable def spRo (j : Nat) : Sp3:=λ ds μ Q=>∃ w,ds = [.tup (encs w)] /\ deps w < j /\ (ros w).length <= 1000 /\ oks w /\ t9s w /\ ∀ p μ',Ext μ μ' -> μ p = none -> μ' p = some (.lst (encs (ros w))) -> Q (.ref p) μ'
noncomputable def WRo (w : List Dd) (f : Addr) (μ : Mu) (l : List D) (ρ : St3) (μ' : Mu) : Prop:=∃ (r acc : List Dd) (a b : Option D),l = encs r /\ ρ = [some (.tup (encs w)),some (.ref f),a,b] /\ Ext μ μ' /\ μ' f = some (.lst (encs acc)) ∧
 acc ++ ros r = ros w /\ deps r <= deps w /\ oks r /\ t9s r
theorem wm8 (j : Nat) (ds : List D) (μ : Mu) (Q : VK3) (h : spRo (j + 1) ds μ Q) : t_q7 (spRo j) { nx:=λ _ μ'=>Q .non μ',rt:=Q } (start3 N_q7 ds) μ:=by
 obtain ⟨w,rfl,h1,h2,h3,h4,q⟩:=h
 have hz : (100000 : Nat) < sizeLine:=by decide
 simp_arith [t_q7,N_q7]
 refine ⟨by decide,λ f hf=>?_⟩
 refine xp0 (WRo w f μ) ?_ (λ _ _ _ _=>trivial) ?_ ?_
 ·exact ⟨w,[],none,none,rfl,rfl,Ext.new hf,by rw [wb0]; simp [encs],by simp,Nat.le_refl _,h3,h4⟩
 ·rintro ρ μ' ⟨r,acc,a,b,e,rfl,ex,ef,ea,_⟩
  cases r with
  | nil =>
   simp only [ros,List.append_nil] at ea
   simp_arith [cst0]
   rw [ea] at ef
   exact q f μ' ex hf ef
  | cons _ _=>simp [encs] at e
 ·rintro x rest ρ μ' ⟨r,acc,a,b,e,rfl,ex,ef,ea,r1,r3,r4⟩
  cases r with
  | nil=>simp [encs] at e
  | cons d r =>
   simp only [encs,List.cons.injEq] at e
   obtain ⟨rfl,rfl⟩:=e
   simp only [deps,oks,t9s,ros] at r1 r3 r4 ea
   have hlen:=congrArg List.length ea
   simp only [List.length_append] at hlen
   have plain : ∀ (d' : Dd),d' = d -> ro d = [d'] -> WRo w f μ (encs r) [some (.tup (encs w)),some (.ref f),some (enc d),b] (updM μ' f (.lst (encs acc ++ [enc d]))):=λ d' hd hu=>by
    refine ⟨r,acc ++ [d'],_,_,rfl,rfl,λ g o hg=>?_,?_,?_,by omega,r3.2,r4.2⟩
    ·rw [ye0 (yg0 hg hf)]; exact ex g o hg
    ·rw [wb0,zx0,hd]; simp only [encs]
    ·rw [<- ea,hu]; simp
   cases d <;> simp_arith [enc,ef]
   case go n=>exact ⟨by rw [yi0]; omega,plain _ rfl (by simp only [ro])⟩
   case jump n=>exact ⟨by rw [yi0]; omega,plain _ rfl (by simp only [ro])⟩
   case turn n=>exact ⟨by rw [yi0]; omega,plain _ rfl (by simp only [ro])⟩
   case times n v =>
    simp only [okd,dep,t9] at r1 r3 r4
    have eu : ro (.times n v) = (List.replicate n.toNat (ros v)).flatten:=by simp only [ro]
    rw [eu,xy2] at hlen
    refine ⟨⟨by omega,by omega⟩,?_⟩
    refine xp0 (λ l2 ρ2 μ3=>∃ (i : Nat) (kk : Option D),ρ2 = [some (.tup (encs w)),some (.ref f),some (enc (.times n v)),kk] /\ Ext μ μ3 /\ μ3 f = some (.lst (encs (acc ++ (List.replicate i (ros v)).flatten))) /\ i + l2.length = n.toNat) ?_ (λ _ _ _ _=>trivial) ?_ ?_
    ·exact ⟨0,b,by simp only [enc],ex,by rw [ef]; simp,by simp [rngD]⟩
    ·rintro ρ2 μ3 ⟨i,kk,rfl,e1,e3,e5⟩
     have hi : i = n.toNat:=by simpa using e5
     rw [hi,<- eu] at e3
     exact ⟨r,acc ++ ro (.times n v),_,_,rfl,rfl,e1,e3,by rw [<- ea]; simp,by omega,r3.2,r4.2⟩
    ·rintro y rest2 ρ2 μ3 ⟨i,kk,rfl,e1,e3,e5⟩
     rw [List.length_cons] at e5
     simp_arith [enc,e3]
     have hz2 : (i + 1) * (ros v).length <= n.toNat * (ros v).length:=Nat.mul_le_mul_right _ (by omega)
     rw [Nat.add_mul] at hz2
     refine ⟨v,rfl,by omega,by omega,r3.1.2,r4.1.2,λ g μ4 ex4 hg eg=>?_⟩
     have e6:=ex4 _ _ e3
     simp_arith [e6,eg,yi0]
     refine ⟨?_,i + 1,some y,by simp only [enc],λ c o hc=>?_,?_,by omega⟩
     ·rw [List.length_append,xy2]; omega
     ·rw [ye0 (yg0 hc hf)]; exact ex4 _ _ (e1 _ _ hc)
     ·rw [wb0,<- zx0,List.append_assoc,List.replicate_succ']; simp
theorem zr5 {c : Pen} (h : Hd c) (i : Nat) : encS (mvS c ((i : Int),0,0)) = .tup [.int (c.1 + cs c.2.2 * i + (if cs c.2.2 < 0 then cs c.2.2 else 0)),.int (c.2.1 + sn c.2.2 * i + (if sn c.2.2 < 0 then sn c.2.2 else 0)),.int (c.2.2 % 4 % 2)]:=by
 obtain ⟨x,y,k⟩:=c
 unfold Hd at h
 dsimp only at h
 rcases h with rfl | rfl | rfl | rfl <;> simp [encS,mvS,cs,sn] <;> omega
theorem ya4 {p : Pen} (n : Int) (h : Hd p) : led p (n,0,0) = (p.1 + n * cs p.2.2,p.2.1 + n * sn p.2.2,p.2.2):=by
 obtain ⟨x,y,k⟩:=p
 unfold Hd at h
 dsimp only at h
 rcases h with rfl | rfl | rfl | rfl <;> simp [led,cs,sn]
theorem ze6 (p : Pen) (n : Int) : led p (0,0,n % 4) = (p.1,p.2.1,(p.2.2 + n) % 4):=by
 obtain ⟨x,y,k⟩:=p
 simp [led]
noncomputable def ya2 : Sp3:=λ ds μ Q=>∃ w p,ds = [.tup (encs w),encP p] /\ Hd p /\ deps w <= 5 /\ (ros w).length <= 1000 /\ (xd0 w).length <= 1000 /\ oks w /\ t9s w ∧
 ∀ f μ',Ext μ μ' -> μ f = none -> μ' f = some (.lst (((xd0 w).map (mvS p)).map encS)) -> Q (.tup [.ref f,encP (led p (pb w))]) μ'
noncomputable def WRun (w : List Dd) (p : Pen) (f g : Addr) (μ : Mu) (l : List D) (ρ : St3) (μ' : Mu) : Prop:=Ext μ μ' /\ μ' g = some (.lst (encs (ros w))) /\ ∃ (r pre : List Dd) (c : Pen) (o1 o2 o3 o4 : Option D),l = encs r /\ pre ++ r = ros w /\ c = led p (pb pre) ∧
 ρ = [some (.tup (encs w)),some (encP p),some (.int c.1),some (.int c.2.1),some (.int c.2.2),some (.ref f),o1,o2,o3,o4] /\ μ' f = some (.lst (((xd0 pre).map (mvS p)).map encS))
theorem xq1 {w : List Dd} {p : Pen} {f g : Addr} {μ μ2 : Mu} {r pre : List Dd} {d : Dd} (hp : Hd p) (ho : oks (pre ++ d :: r)) (e : pre ++ d :: r = ros w) (ex : Ext μ μ2) (eg : μ2 g = some (.lst (encs (ros w))))
    (ef : μ2 f = some (.lst (((xd0 pre).map (mvS p)).map encS ++ ((strk d).map (mvS (led p (pb pre)))).map encS))) {x y k : Int} (hc : led (led p (pb pre)) (pd d) = (x,y,k)) (o1 o2 o3 o4 : Option D) :
    WRun w p f g μ (encs r) [some (.tup (encs w)),some (encP p),some (.int x),some (.int y),some (.int k),some (.ref f),o1,o2,o3,o4] μ2:=by
 have ho1:=(wl0 _ _).mp ho
 simp only [oks] at ho1
 have e1 : led p (pb (pre ++ [d])) = (x,y,k):=by
  rw [zv0 _ _ ho1.1,<- hc]
  simp only [pb]
  rw [wy0 (zn1 d ho1.2.1),xz0 _ hp (wj0 _)]
 refine ⟨ex,eg,r,pre ++ [d],(x,y,k),o1,o2,o3,o4,rfl,by rw [<- e]; simp,e1.symm,rfl,?_⟩
 rw [ef,xk0 _ _ ho1.1]
 simp only [xd0,List.map_nil,List.append_nil,List.map_append]
 rw [yl0 hp (wj0 _)]
theorem zm8 (ds : List D) (μ : Mu) (Q : VK3) (h : ya2 ds μ Q) : t_q8 (spRo 6) { nx:=λ _ μ'=>Q .non μ',rt:=Q } (start3 N_q8 ds) μ:=by
 obtain ⟨w,p,rfl,hp,h1,h2,h2',h3,h4,q⟩:=h
 have hz : (100000 : Nat) < sizeLine:=by decide
 obtain ⟨a1,a2,a3⟩:=xr3 w h3
 have apl:=wq1 w
 simp_arith [t_q8,N_q8,encP]
 refine ⟨by decide,λ f hf=>?_⟩
 refine ⟨w,rfl,by omega,h2,h3,h4,λ g μ1 ex1 hg eg=>?_⟩
 have hgf : f ≠ g:=yg0 wb0 hg
 simp_arith [eg]
 refine xp0 (WRun w p f g μ) ?_ ?_ ?_ ?_
 ·refine ⟨(Ext.new hf).trans ex1,eg,ros w,[],p,none,none,none,none,rfl,rfl,by simp only [pb]; exact (wy0 hp).symm,rfl,?_⟩
  rw [ex1 f _ wb0]; simp [xd0]
 ·rintro l ρ μ' ⟨_,e,_⟩
  exact e
 ·rintro ρ μ' ⟨ex,_,r,pre,c,o1,o2,o3,o4,e,epr,ec,rfl,ef⟩
  cases r with
  | nil =>
   rw [List.append_nil] at epr
   subst epr
   rw [a3] at ef
   simp_arith [cst0]
   refine ⟨by decide,by decide,?_⟩
   have:=q f μ' ex hf ef
   rw [<- a2,<- ec] at this
   exact this
  | cons _ _=>simp [encs] at e
 ·rintro x rest ρ μ' ⟨ex,eg',r,pre,c,o1,o2,o3,o4,e,epr,ec,rfl,ef⟩
  cases r with
  | nil=>simp [encs] at e
  | cons d r =>
   simp only [encs,List.cons.injEq] at e
   obtain ⟨rfl,rfl⟩:=e
   have hc : Hd c:=by rw [ec]; exact yn0 _ _
   have ho : oks (pre ++ d :: r):=by rw [epr]; exact a1
   have hslen : (xd0 pre).length + (strk d).length <= 1000:=by
    have e0 : (xd0 (ros w)).length <= 1000:=by rw [a3]; exact h2'
    rw [<- epr,xk0 _ _ ((wl0 _ _).mp ho).1] at e0
    simp only [xd0,List.length_append,List.length_map] at e0
    omega
   have fresh : ∀ (t : Addr) (o : MO),μ' t = none -> Ext μ (updM μ' t o) /\ updM μ' t o g = some (.lst (encs (ros w))) /\ updM μ' t o f = some (.lst (((xd0 pre).map (mvS p)).map encS)):=λ t o ht=>by
    refine ⟨λ c' o' h'=>?_,?_,?_⟩
    ·have z:=ex c' o' h'; rw [ye0 (yg0 z ht)]; exact z
    ·rw [ye0 (yg0 eg' ht)]; exact eg'
    ·rw [ye0 (yg0 ef ht)]; exact ef
   obtain ⟨m,hm⟩:=apl d (by rw [<- epr]; simp)
   rcases hm with rfl | rfl | rfl
   ·-- go
    simp_arith [enc]
    refine ⟨by decide,by decide,by decide,by decide,by decide,λ t ht=>?_⟩
    obtain ⟨f1,f2,f3⟩:=fresh t (.lst [.tup [.int 1,.int 0],.tup [.int 0,.int 1],.tup [.int (-1),.int 0],.tup [.int 0,.int (-1)]]) ht
    simp_arith [wb0,wp1 hc]
    have hm0 : 0 <= m:=by
     have:=((wl0 _ _).mp ho).2
     simp only [oks,okd] at this
     exact this.1.1
    simp only [strk,List.length_map,List.length_range] at hslen
    refine ⟨⟨by omega,by omega⟩,?_⟩
    generalize hν : updM μ' t _ = ν at f1 f2 f3 ⊢
    refine xp0 (λ l2 ρ2 μ3=>Ext μ μ3 /\ μ3 g = some (.lst (encs (ros w))) /\ ∃ (i : Nat) (kk : Option D),i + l2.length = m.toNat ∧
     ρ2 = [some (.tup (encs w)),some (encP p),some (.int (c.1 + cs c.2.2 * i)),some (.int (c.2.1 + sn c.2.2 * i)),some (.int c.2.2),some (.ref f),some (.str "go"),some (.int m),some (.tup [.int (cs c.2.2),.int (sn c.2.2)]),kk] ∧
     μ3 f = some (.lst (((xd0 pre).map (mvS p)).map encS ++ ((List.range i).map λ (k : Nat)=>encS (mvS c ((k : Int),0,0)))))) ?_ (λ _ _ _ _=>trivial) ?_ ?_
    ·exact ⟨f1,f2,0,o4,by simp [rngD],by simp [encP],by rw [f3]; simp⟩
    ·rintro ρ2 μ3 ⟨e1,e2,i,kk,e3,rfl,e4⟩
     have hi : i = m.toNat:=by simpa using e3
     have hi2 : ((i : Nat) : Int) = m:=by omega
     refine xq1 hp ho epr e1 e2 ?_ (x:=c.1 + cs c.2.2 * i) (y:=c.2.1 + sn c.2.2 * i) (k:=c.2.2) ?_ _ _ _ _
     ·rw [e4,hi,<- ec]; simp only [strk,List.map_map]; rfl
     ·rw [<- ec]; simp only [pd]; rw [ya4 m hc,hi2,Int.mul_comm m,Int.mul_comm m]
    ·rintro y rest2 ρ2 μ3 ⟨e1,e2,i,kk,e3,rfl,e4⟩
     rw [List.length_cons] at e3
     simp_arith [e4,Pv.min2R,Pv.maxR,Pv.mnR_ii,Pv.mnR_pp,Pv.mxR_ii,Pv.lrng3,Pv.isNR,Pv.isN,Pv.ch3]
     refine ⟨by decide,?_⟩
     have hl : (((xd0 pre).map (mvS p)).map encS ++ ((List.range i).map λ (k : Nat)=>encS (mvS c ((k : Int),0,0)))).length < sizeLine:=by
      simp only [List.length_append,List.length_map,List.length_range]; omega
     refine ⟨by decide,hl,?_⟩
     refine ⟨λ c' o' h'=>?_,?_,i + 1,some y,by omega,?_,?_⟩
     ·have z:=e1 c' o' h'; rw [ye0 (yg0 h' hf)]; exact z
     ·rw [ye0 (Ne.symm hgf)]; exact e2
     ·have w1 : c.1 + cs c.2.2 * (i : Int) + cs c.2.2 = c.1 + cs c.2.2 * ((i + 1 : Nat) : Int):=by rw [show ((i + 1 : Nat) : Int) = (i : Int) + 1 by omega,Int.mul_add]; omega
      have w2 : c.2.1 + sn c.2.2 * (i : Int) + sn c.2.2 = c.2.1 + sn c.2.2 * ((i + 1 : Nat) : Int):=by rw [show ((i + 1 : Nat) : Int) = (i : Int) + 1 by omega,Int.mul_add]; omega
      rw [w1,w2]
     ·rw [wb0,List.range_succ,List.map_append,List.append_assoc]
      simp only [List.map_cons,List.map_nil]
      rw [zr5 hc]
      have w3 : c.2.2 % 4 % 2 = c.2.2 % 2:=by omega
      rw [w3]
   ·-- jump
    simp_arith [enc]
    refine ⟨by decide,by decide,by decide,by decide,by decide,λ t ht=>?_⟩
    obtain ⟨f1,f2,f3⟩:=fresh t (.lst [.tup [.int 1,.int 0],.tup [.int 0,.int 1],.tup [.int (-1),.int 0],.tup [.int 0,.int (-1)]]) ht
    simp_arith [wb0,wp1 hc]
    refine ⟨.inl (.inr (ze2 _)),.inl (.inr (xb2 _)),?_⟩
    refine xq1 hp ho epr f1 f2 ?_ ?_ _ _ _ _
    ·rw [f3]; simp [strk]
    ·rw [<- ec]; simp only [pd]; rw [ya4 m hc]
   ·-- turn
    simp_arith [enc]
    refine ⟨by decide,by decide,by decide,by decide,by decide,λ t ht=>?_⟩
    obtain ⟨f1,f2,f3⟩:=fresh t (.lst [.tup [.int 1,.int 0],.tup [.int 0,.int 1],.tup [.int (-1),.int 0],.tup [.int 0,.int (-1)]]) ht
    simp_arith [wb0,wp1 hc]
    refine ⟨by decide,?_⟩
    refine xq1 hp ho epr f1 f2 ?_ ?_ _ _ _ _
    ·rw [f3]; simp [strk]
    ·rw [<- ec]; simp only [pd]; rw [ze6]
noncomputable def xu0 : Sp3:=λ ds μ Q=>∃ i : Int,ds = [.int i] /\ Q (.bl true) μ
theorem zm7 (ds : List D) (μ : Mu) (Q : VK3) (h : xu0 ds μ Q) : wp5 { nx:=λ _ μ'=>Q .non μ',rt:=Q } (start3 xg5 ds) μ:=by
 obtain ⟨i,rfl,q⟩:=h
 simp_arith [wp5,xg5]
 simp [q]
theorem zo1 {S : Mu -> Prop} {p : Addr} {te : TE3} {Q : VK3} {μ : Mu} {o1 o2 o3 : Option D} (L : List Stk) (f : Stk -> D) (hp : μ p = none) (hl : L.length <= sizeLine) (hS : ∀ μ',Ext μ μ' -> S μ')
    (hx : ∀ s ∈ L,∀ μ' R,Ext μ μ' -> R (f s) μ' -> te [some (.int s.1),some (.int s.2.1),some (.int s.2.2)] μ' R) (hQ : ∀ μ',Ext μ μ' -> μ' p = some (.lst (L.map f)) -> Q (.ref p) μ') :
    wk3 S p (gtup3 3 (gcons3 (gn3 0) (gcons3 (gn3 1) (gcons3 (gn3 2) gnil3)))) tt3 te Q (L.map encS) [o1,o2,o3] (updM μ p (.lst [])):=by
 refine ⟨λ r ys ρ μ'=>Ext μ μ' /\ μ' p = some (.lst ys) /\ (∃ a b c,ρ = [a,b,c]) /\ ∃ A R,A ++ R = L /\ r = R.map encS /\ ys = A.map f,?_,?_,?_,?_⟩
 ·exact ⟨Ext.new hp,wb0,⟨_,_,_,rfl⟩,[],L,rfl,rfl,rfl⟩
 ·rintro r ys ρ μ' ⟨h1,h2,_⟩
  exact ⟨hS _ h1,h2⟩
 ·rintro ys ρ μ' ⟨h1,h2,_,A,R,e,e2,rfl⟩
  cases R with
  | nil=>rw [List.append_nil] at e; subst e; exact hQ _ h1 h2
  | cons _ _=>simp at e2
 ·rintro x r ys ρ μ' ⟨h1,h2,⟨a,b,c,rfl⟩,A,R,e,e2,rfl⟩
  cases R with
  | nil=>simp at e2
  | cons s R =>
   simp only [List.map_cons,List.cons.injEq] at e2
   obtain ⟨rfl,rfl⟩:=e2
   refine ⟨by rw [List.length_map]; rw [<- e,List.length_append,List.length_cons] at hl; omega,?_⟩
   simp_arith [encS]
   refine hx s (by rw [<- e]; simp) μ' _ h1 ⟨h2,λ b u hb=>?_,wb0,⟨_,_,_,rfl⟩,A ++ [s],R,by simp [<- e],rfl,by simp⟩
   rw [ye0 (yg0 hb hp)]
   exact h1 _ _ hb
noncomputable def pS (s : Stk) : PyData:=.tuple [.int s.1,.int s.2.1,.int s.2.2]
theorem zy2 : ∀ L : List Stk,dats (L.map encS) = some (L.map pS)
 | []=>rfl
 | s :: r=>by simp only [List.map_cons,dats,encS,dat,zy2 r,pS]
theorem wk2 : ∀ L : List Stk,PyData.depthAll (L.map pS) <= 2
 | []=>by simp [PyData.depthAll]
 | s :: r=>by
  have:=wk2 r
  simp only [List.map_cons,PyData.depthAll,pS,PyData.depth] at this ⊢
  omega
theorem yk3 (L : List Stk) : (PyData.list (L.map pS)).depth <= 64:=by
 have:=wk2 L
 simp only [PyData.depth]
 omega
theorem ya5 (L : List Stk) : PyData.eqv (.list (L.map pS)) (.list []) = decide (L = []):=by
 cases L with
 | nil=>simp [PyData.eqv,PyData.eqvAll]
 | cons d r=>simp [PyData.eqv,PyData.eqvAll]
theorem zc4 {L : List Stk} (hw : wys L) {m1 m2 M1 M2 : Int} (a1 : m1 ∈ L.map (λ (s : Stk)=>s.1) ++ L.map (λ (s : Stk)=>s.1 + 1 - s.2.2)) (a2 : ∀ a,a ∈ L.map (λ (s : Stk)=>s.1) ++ L.map (λ (s : Stk)=>s.1 + 1 - s.2.2) -> m1 <= a)
    (b1 : m2 ∈ L.map (λ (s : Stk)=>s.2.1) ++ L.map (λ (s : Stk)=>s.2.1 + s.2.2)) (b2 : ∀ a,a ∈ L.map (λ (s : Stk)=>s.2.1) ++ L.map (λ (s : Stk)=>s.2.1 + s.2.2) -> m2 <= a)
    (c1 : M1 ∈ L.map (λ (s : Stk)=>s.1) ++ L.map (λ (s : Stk)=>s.1 + 1 - s.2.2)) (c2 : ∀ a,a ∈ L.map (λ (s : Stk)=>s.1) ++ L.map (λ (s : Stk)=>s.1 + 1 - s.2.2) -> a <= M1)
    (d1 : M2 ∈ L.map (λ (s : Stk)=>s.2.1) ++ L.map (λ (s : Stk)=>s.2.1 + s.2.2)) (d2 : ∀ a,a ∈ L.map (λ (s : Stk)=>s.2.1) ++ L.map (λ (s : Stk)=>s.2.1 + s.2.2) -> a <= M2) : IsBox L (some (m1,m2,M1,M2)):=by
 have lo : ∀ {g : Stk -> Int} {h : Stk -> Int} {s},s ∈ L -> g s ∈ L.map g ++ L.map h:=λ hs=>List.mem_append_left _ (List.mem_map.mpr ⟨_,hs,rfl⟩)
 have hi : ∀ {g : Stk -> Int} {h : Stk -> Int} {s},s ∈ L -> h s ∈ L.map g ++ L.map h:=λ hs=>List.mem_append_right _ (List.mem_map.mpr ⟨_,hs,rfl⟩)
 refine ⟨λ s hs=>?_,?_,?_,?_,?_⟩
 ·exact ⟨a2 _ (lo hs),b2 _ (lo hs),c2 _ (hi hs),d2 _ (hi hs)⟩
 ·rcases List.mem_append.mp a1 with h | h
  ·obtain ⟨s,hs,e⟩:=List.mem_map.mp h
   exact ⟨s,hs,e⟩
  ·obtain ⟨s,hs,e⟩:=List.mem_map.mp h
   have:=a2 _ (lo hs); have:=hw s hs; unfold Mw.wy at this
   exact ⟨s,hs,by dsimp only at *; omega⟩
 ·rcases List.mem_append.mp b1 with h | h
  ·obtain ⟨s,hs,e⟩:=List.mem_map.mp h
   exact ⟨s,hs,e⟩
  ·obtain ⟨s,hs,e⟩:=List.mem_map.mp h
   have:=b2 _ (lo hs); have:=hw s hs; unfold Mw.wy at this
   exact ⟨s,hs,by dsimp only at *; omega⟩
 ·rcases List.mem_append.mp c1 with h | h
  ·obtain ⟨s,hs,e⟩:=List.mem_map.mp h
   have:=c2 _ (hi hs); have:=hw s hs; unfold Mw.wy at this
   exact ⟨s,hs,by dsimp only at *; omega⟩
  ·obtain ⟨s,hs,e⟩:=List.mem_map.mp h
   exact ⟨s,hs,e⟩
 ·rcases List.mem_append.mp d1 with h | h
  ·obtain ⟨s,hs,e⟩:=List.mem_map.mp h
   have:=d2 _ (hi hs); have:=hw s hs; unfold Mw.wy at this
   exact ⟨s,hs,by dsimp only at *; omega⟩
  ·obtain ⟨s,hs,e⟩:=List.mem_map.mp h
   exact ⟨s,hs,e⟩
noncomputable def yu0 : Sp3:=λ ds μ Q=>∃ f L,ds = [.ref f] /\ μ f = some (.lst (L.map encS)) /\ L.length <= 1000 /\ wys L /\ ∀ o μ',Ext μ μ' -> IsBox L o -> Q (encB o) μ'
theorem xo8 (ds : List D) (μ : Mu) (Q : VK3) (h : yu0 ds μ Q) : t_q2 { nx:=λ _ μ'=>Q .non μ',rt:=Q } (start3 N_q2 ds) μ:=by
 obtain ⟨f,L,rfl,ef,hl,hw,q⟩:=h
 have hz : (100000 : Nat) < sizeLine:=by decide
 simp_arith [t_q2,N_q2]
 refine ⟨by decide,λ t ht=>?_⟩
 have ef1 : updM μ t (.lst []) f = some (.lst (L.map encS)):=by rw [ye0 (yg0 ef ht)]; exact ef
 have d1 : datM (updM μ t (.lst [])) (.ref f) = some (.list (L.map pS)):=by simp only [datM,ef1,zy2]
 have d2 : datM (updM μ t (.lst [])) (.ref t) = some (.list []):=by simp only [datM,wb0,dats]
 rw [zl1 rfl d1 d2 (yk3 L) (by simp [PyData.depth,PyData.depthAll]),ya5]
 simp_arith [ef1]
 have ex0 : Ext μ (updM μ t (.lst [])):=Ext.new ht
 split
 ·next e=>exact q none _ ex0 e
 ·next e =>
  generalize hν : updM μ t (.lst []) = ν at ef1 ex0
  have hne : 0 < L.length:=List.length_pos_iff.mpr e
  intro r1 hr1
  refine zo1 L (λ (s : Stk)=>.int s.1) hr1 (by omega) (λ _ h=>h _ _ ef1) (λ s _ μ' R _ k=>by simp_arith [cst0]; exact k) λ μ1 x1 y1=>?_
  have ef2:=x1 _ _ ef1
  simp_arith [ef2]
  intro r2 hr2
  refine zo1 L (λ (s : Stk)=>.int (s.1 + 1 - s.2.2)) hr2 (by omega) (λ _ h=>h _ _ ef2) (λ s _ μ' R _ k=>by simp_arith [cst0]; exact k) λ μ2 x2 y2=>?_
  have ef3:=x2 _ _ ef2
  have y1':=x2 _ _ y1
  simp_arith [y1',y2,List.length_map]
  refine ⟨by omega,λ r3 hr3=>?_⟩
  have x3 : Ext μ2 (updM μ2 r3 (.lst (L.map (λ (s : Stk)=>.int s.1) ++ L.map (λ (s : Stk)=>.int (s.1 + 1 - s.2.2))))):=Ext.new hr3
  have y3 : updM μ2 r3 (.lst (L.map (λ (s : Stk)=>D.int s.1) ++ L.map (λ (s : Stk)=>D.int (s.1 + 1 - s.2.2)))) r3 = some (.lst (L.map (λ (s : Stk)=>D.int s.1) ++ L.map (λ (s : Stk)=>D.int (s.1 + 1 - s.2.2)))):=wb0
  generalize updM μ2 r3 _ = μ3 at x3 y3 ⊢
  have ef4:=x3 _ _ ef3
  simp_arith [ef4]
  intro r4 hr4
  refine zo1 L (λ (s : Stk)=>.int s.2.1) hr4 (by omega) (λ _ h=>h _ _ ef4) (λ s _ μ' R _ k=>by simp_arith [cst0]; exact k) λ μ4 x4 y4=>?_
  have ef5:=x4 _ _ ef4
  simp_arith [ef5]
  intro r5 hr5
  refine zo1 L (λ (s : Stk)=>.int (s.2.1 + s.2.2)) hr5 (by omega) (λ _ h=>h _ _ ef5) (λ s _ μ' R _ k=>by simp_arith [cst0]; exact k) λ μ5 x5 y5=>?_
  have y4':=x5 _ _ y4
  simp_arith [y4',y5,List.length_map]
  refine ⟨by omega,λ r6 hr6=>?_⟩
  have x6 : Ext μ5 (updM μ5 r6 (.lst (L.map (λ (s : Stk)=>.int s.2.1) ++ L.map (λ (s : Stk)=>.int (s.2.1 + s.2.2))))):=Ext.new hr6
  have y6 : updM μ5 r6 (.lst (L.map (λ (s : Stk)=>D.int s.2.1) ++ L.map (λ (s : Stk)=>D.int (s.2.1 + s.2.2)))) r6 = some (.lst (L.map (λ (s : Stk)=>D.int s.2.1) ++ L.map (λ (s : Stk)=>D.int (s.2.1 + s.2.2)))):=wb0
  generalize updM μ5 r6 _ = μ6 at x6 y6 ⊢
  have y3':=x6 _ _ (x5 _ _ (x4 _ _ y3))
  have n1 : L.map (λ (s : Stk)=>D.int s.1) ++ L.map (λ (s : Stk)=>D.int (s.1 + 1 - s.2.2)) = (L.map (λ (s : Stk)=>s.1) ++ L.map (λ (s : Stk)=>s.1 + 1 - s.2.2)).map D.int:=by rw [List.map_append,List.map_map,List.map_map]; rfl
  have n2 : L.map (λ (s : Stk)=>D.int s.2.1) ++ L.map (λ (s : Stk)=>D.int (s.2.1 + s.2.2)) = (L.map (λ (s : Stk)=>s.2.1) ++ L.map (λ (s : Stk)=>s.2.1 + s.2.2)).map D.int:=by rw [List.map_append,List.map_map,List.map_map]; rfl
  rw [n1] at y3'
  rw [n2] at y6
  have p1 : 0 < (L.map (λ (s : Stk)=>s.1) ++ L.map (λ (s : Stk)=>s.1 + 1 - s.2.2)).length:=by simp only [List.length_append,List.length_map]; omega
  have p2 : 0 < (L.map (λ (s : Stk)=>s.2.1) ++ L.map (λ (s : Stk)=>s.2.1 + s.2.2)).length:=by simp only [List.length_append,List.length_map]; omega
  refine wd6 y3' ⟨p1,λ m1 a1 a2=>wd6 y6 ⟨p2,λ m2 b1 b2=>xd6 y3' ⟨p1,λ M1 c1 c2=>xd6 y6 ⟨p2,λ M2 e1 e2=>⟨by decide,?_⟩⟩⟩⟩⟩
  exact q (some (m1,m2,M1,M2)) μ6 (ex0.trans (x1.trans (x2.trans (x3.trans (x4.trans (x5.trans x6)))))) (zc4 hw a1 a2 b1 b2 c1 c2 e1 e2)
noncomputable def zw0 : Sp3:=λ ds μ Q=>∃ o,ds = [encB o,encB o] /\ ∀ μ',Ext μ μ' -> Q (.bl true) μ'
theorem wn8 (ds : List D) (μ : Mu) (Q : VK3) (h : zw0 ds μ Q) : t_q3 xu0 { nx:=λ _ μ'=>Q .non μ',rt:=Q } (start3 N_q3 ds) μ:=by
 obtain ⟨o,rfl,q⟩:=h
 cases o with
 | none =>
  simp_arith [t_q3,N_q3,encB,Pv.min2R,Pv.maxR,Pv.mnR_ii,Pv.mnR_pp,Pv.mxR_ii,Pv.lrng3,Pv.isNR,Pv.isN,Pv.ch3]
  exact q μ (Ext.refl _)
 | some b =>
  have dd : datM μ (.tup [.int b.1,.int b.2.1,.int b.2.2.1,.int b.2.2.2]) = some (.tuple [.int b.1,.int b.2.1,.int b.2.2.1,.int b.2.2.2]):=by simp only [datM,dat,dats]
  have dp : (PyData.tuple [.int b.1,.int b.2.1,.int b.2.2.1,.int b.2.2.2]).depth <= 64:=by simp [PyData.depth,PyData.depthAll]
  have ee : ∀ Q : VK3,eqR (.tup [.int b.1,.int b.2.1,.int b.2.2.1,.int b.2.2.2]) (.tup [.int b.1,.int b.2.1,.int b.2.2.1,.int b.2.2.2]) μ Q = Q (.bl true) μ:=λ Q=>by
   rw [zl1 rfl dd dd dp dp]; simp [PyData.eqv,PyData.eqvAll]
  simp_arith [t_q3,N_q3,encB,ee,Pv.min2R,Pv.maxR,Pv.mnR_ii,Pv.mnR_pp,Pv.mxR_ii,Pv.lrng3,Pv.isNR,Pv.isN,Pv.ch3]
  intro r hr
  refine ya1 (λ _=>.bl true) hr (show 4 <= sizeLine by decide) (λ _ _=>trivial) ?_ ?_
  ·intro x hx μ' R ex k
   simp only [List.mem_cons,List.not_mem_nil,or_false] at hx
   rcases hx with rfl | rfl | rfl | rfl <;> simp_arith [cst0] <;> exact ⟨_,rfl,k _ (Ext.refl _)⟩
  ·intro μ' ex e
   simp_arith [cst0] at e
   simp_arith [Pv.allR,e,Pv.bls?]
   simp [q μ' ex]
theorem z2 : 2 <= sizeLine:=by decide
theorem z3 : 3 <= sizeLine:=by decide
noncomputable def mvd (x y : Int) (s : Stk) : Stk:=(s.1 + x,s.2.1 + y,s.2.2)
noncomputable def mvD (x y : Int) (d : D) : D:=match d with
 | .tup [.int a,.int b,.int c]=>.tup [.int (a + x),.int (b + y),.int c]
 | _=>.non
theorem zd6 (x y : Int) (L : List Stk) : (L.map encS).map (mvD x y) = (L.map (mvd x y)).map encS:=by
 rw [List.map_map,List.map_map]
 rfl
noncomputable def yw0 : Sp3:=λ ds μ Q=>∃ (f : Addr) (L : List Stk) (x y : Int),ds = [.ref f,.int x,.int y] /\ μ f = some (.lst (L.map encS)) /\ L.length <= 1000 /\ ∀ g μ',Ext μ μ' -> μ' g = some (.lst ((L.map (mvd x y)).map encS)) -> Q (.ref g) μ'
theorem yn8 (ds : List D) (μ : Mu) (Q : VK3) (h : yw0 ds μ Q) : t_q5 { nx:=λ _ μ'=>Q .non μ',rt:=Q } (start3 N_q5 ds) μ:=by
 obtain ⟨f,L,x,y,rfl,hf,hl,q⟩:=h
 have hz : (1000 : Nat) < sizeLine:=by decide
 conv=>whnf
 rw [hf]
 intro g hg
 refine ya1 (rest:=[some (.int x),some (.int y)]) (mvD x y) hg (by rw [List.length_map]; omega) (λ μ' e=>e _ _ hf) ?_ ?_
 ·intro d hd μ' R ex k
  obtain ⟨s,_,rfl⟩:=List.mem_map.mp hd
  exact ⟨z3,k μ' (Ext.refl _)⟩
 ·intro μ' ex e
  rw [zd6] at e
  exact q g μ' ex e
noncomputable def BLr : List D:=[.bl false,.bl false,.bl true,.bl false,.bl false,.bl false,.bl true]
theorem sx1 : subX "NoWord" "NoRoom" = some false:=by decide
theorem sx2 : subX "NoPicture" "NoRoom" = some false:=by decide
theorem sx3 : subX "NoRoom" "NoRoom" = some true:=by decide
theorem sx4 : subX "NoStep" "NoRoom" = some false:=by decide
theorem sx5 : subX "NoNumber" "NoRoom" = some false:=by decide
theorem sx6 : subX "BadNote" "NoRoom" = some false:=by decide
theorem sx7 : subX "ValueError" "NoRoom" = some true:=by decide
theorem yr5 {cls c : Str} {b : Bool} (h : subX cls c = some b) : c ∈ xnames:=by
 unfold subX at h
 split at h
 ·next e=>simpa using e
 ·cases h
noncomputable def spMk : Sp3:=λ ds μ Q=>ds = [.exc "NoRoom"] /\ ∀ p μ',Ext μ μ' -> μ' p = some (.lst BLr) -> Q (.ref p) μ'
theorem wm7 (ds : List D) (μ : Mu) (Q : VK3) (h : spMk ds μ Q) : xq5 { nx:=λ _ μ'=>Q .non μ',rt:=Q } (start3 yg5 ds) μ:=by
 obtain ⟨rfl,q⟩:=h
 simp_arith [xq5,yg5,isx3,sx1,sx2,sx3,sx4,sx5,sx6,sx7]
 refine ⟨by decide,λ p hp=>⟨by decide,λ r hr=>?_⟩⟩
 have hpr : p ≠ r:=yg0 wb0 hr
 simp_arith [ye0 hpr,wb0]
 refine ⟨by decide,λ t ht=>q t _ (λ c o hc=>?_) wb0⟩
 have z1 : updM μ p (.lst [.bl false,.bl false,.bl true,.bl false]) c = some o:=by rw [ye0 (yg0 hc hp)]; exact hc
 have z2:=(Ext.new (o:=.lst [.bl false,.bl false,.bl true]) hr) c o z1
 rw [ye0 (yg0 z2 ht)]; exact z2
noncomputable def zh1 : Sp3:=λ ds μ Q=>∃ w s c k,ds = [.tup (encs w),encS s] /\ Wd w /\ wy s /\ OW w st s c k /\ (1000 < k -> ∀ p μ',Ext μ μ' -> μ' p = some (.lst BLr) -> Q (.ref p) μ') /\ (k <= 1000 -> ∀ μ',Ext μ μ' -> Q (.int c) μ')
theorem xn7 (ds : List D) (μ : Mu) (Q : VK3) (h : zh1 ds μ Q) : xs6 spMk spDo { nx:=λ _ μ'=>Q .non μ',rt:=Q } (start3 wm6 ds) μ:=by
 obtain ⟨w,s,c,k,rfl,hw,hs,o,q1,q2⟩:=h
 exact ⟨w,s,c,k,rfl,hw,hs,o,λ hh μ1 e1=>⟨by decide,rfl,λ p μ' ex ep=>q1 hh p μ' (e1.trans ex) ep⟩,q2⟩
noncomputable def ofk (sx sy x y : Int) : Int:=if sx ≠ 0 then x.fdiv sx else if sy ≠ 0 then y.fdiv sy else -1
noncomputable def of2 (sx sy n k x y : Int) : Int:=if (¬ (sx = 0 /\ sy = 0)) /\ (k * sx = x /\ k * sy = y) /\ 0 <= k /\ k < n then 1 else 0
noncomputable def of1 (sx sy n : Int) (l s : Stk) : Int:=if s.2.2 = l.2.2 then (if (sx = 0 /\ sy = 0) /\ l.1 - s.1 = 0 /\ l.2.1 - s.2.1 = 0 then n else 0) + of2 sx sy n (ofk sx sy (l.1 - s.1) (l.2.1 - s.2.1)) (l.1 - s.1) (l.2.1 - s.2.1) else 0
noncomputable def ofs (sx sy n : Int) (l : Stk) : List Stk -> Int
 | []=>0
 | s :: r=>of1 sx sy n l s + ofs sx sy n l r
theorem zx7 (a b : Int) (c d : Int) (μ : Mu) (K : VK3) : neR (.tup [.int a,.int b]) (.tup [.int c,.int d]) μ K = K (.bl (!decide (a = c /\ b = d))) μ:=by
 rw [zy3 (p:=.tuple [.int a,.int b]) (q:=.tuple [.int c,.int d]) rfl (by simp only [datM,dat,dats]) (by simp only [datM,dat,dats]) (by simp [PyData.depth,PyData.depthAll]) (by simp [PyData.depth,PyData.depthAll])]
 congr 2
 rw [Bool.eq_iff_iff]
 simp [PyData.eqv,PyData.eqvAll]
theorem yv8 (a b : Int) (c d : Int) (μ : Mu) (K : VK3) : eqR (.tup [.int a,.int b]) (.tup [.int c,.int d]) μ K = K (.bl (decide (a = c /\ b = d))) μ:=by
 rw [zl1 (p:=.tuple [.int a,.int b]) (q:=.tuple [.int c,.int d]) rfl (by simp only [datM,dat,dats]) (by simp only [datM,dat,dats]) (by simp [PyData.depth,PyData.depthAll]) (by simp [PyData.depth,PyData.depthAll])]
 congr 2
 rw [Bool.eq_iff_iff]
 simp [PyData.eqv,PyData.eqvAll]
noncomputable def yu8 : TS3:=(ifs3 (and3 (b3 (o3 neR (v3 1) (tup3 (cons3 (c3 (.int 0)) (cons3 (c3 (.int 0)) nil3))))) (and3 (b3 (o3 eqR (tup3 (cons3 (o3 mulR (v3 8) (o3 ixR (v3 1) (c3 (.int 0)))) (cons3 (o3 mulR (v3 8) (o3 ixR (v3 1) (c3 (.int 1)))) nil3))) (tup3 (cons3 (v3 6) (cons3 (v3 7) nil3))))) (b3 (ch3 leR ltR (c3 (.int 0)) (v3 8) (v3 2))))) (set3 4 (o3 addR (v3 4) (c3 (.int 1)))) next3)
theorem wx3 {D' : Ends3} {w0 w3' w5 : Option D} {sx sy n tot x y k : Int} {μ : Mu} (hx : -(2 ^ 64) < sx /\ sx < 2 ^ 64) (hy : -(2 ^ 64) < sy /\ sy < 2 ^ 64) (q : ∀ tot',tot' = tot + of2 sx sy n k x y -> D'.nx [w0,some (.tup [.int sx,.int sy]),some (.int n),w3',some (.int tot'),w5,some (.int x),some (.int y),some (.int k)] μ) :
    yu8 D' [w0,some (.tup [.int sx,.int sy]),some (.int n),w3',some (.int tot),w5,some (.int x),some (.int y),some (.int k)] μ:=by
 have no : ¬ ((¬ (sx = 0 /\ sy = 0)) /\ (k * sx = x /\ k * sy = y) /\ 0 <= k /\ k < n) -> D'.nx [w0,some (.tup [.int sx,.int sy]),some (.int n),w3',some (.int tot),w5,some (.int x),some (.int y),some (.int k)] μ:=λ h=>q tot (by unfold of2; rw [if_neg h]; omega)
 refine ⟨z2,?_⟩
 show neR (.tup [.int sx,.int sy]) (.tup [.int 0,.int 0]) μ _
 rw [zx7]
 by_cases c0 : sx = 0 /\ sy = 0
 ·rw [decide_eq_true c0]
  exact no λ h=>h.1 c0
 rw [decide_eq_false c0]
 refine ⟨.inl (.inr hx),.inl (.inr hy),z2,z2,?_⟩
 show eqR (.tup [.int (k * sx),.int (k * sy)]) (.tup [.int x,.int y]) μ _
 rw [yv8]
 by_cases c1 : k * sx = x /\ k * sy = y
 ·rw [decide_eq_true c1]
  by_cases c2 : 0 <= k
  ·by_cases c3' : k < n
   ·have:=q (tot + 1) (by unfold of2; rw [if_pos ⟨c0,c1,c2,c3'⟩])
    simp only [ch3,leR,ltR,int20,Pv.b3,Pv.c3,Pv.v3,getI,decide_eq_true c2,decide_eq_true c3',if_true]
    exact this
   ·have:=no λ h=>c3' h.2.2.2
    simp only [ch3,leR,ltR,int20,Pv.b3,Pv.c3,Pv.v3,getI,decide_eq_true c2,decide_eq_false c3',if_true]
    exact this
  ·have:=no λ h=>c2 h.2.2.1
   simp only [ch3,leR,ltR,int20,Pv.b3,Pv.c3,Pv.v3,getI,decide_eq_false c2]
   exact this
 ·rw [decide_eq_false c1]
  exact no λ h=>c1 h.2.1
noncomputable def xw0 : Sp3:=λ ds μ Q=>∃ (f : Addr) (L : List Stk) (sx sy n : Int) (l : Stk),ds = [.ref f,.tup [.int sx,.int sy],.int n,encS l] /\ μ f = some (.lst (L.map encS)) /\ (sx.natAbs < 1073741824 /\ sy.natAbs < 1073741824) /\ Q (.int (ofs sx sy n l L)) μ
noncomputable def WOf (f : Addr) (L : List Stk) (sx sy n : Int) (l : Stk) (μ : Mu) (li : List D) (ρ : St3) (μ' : Mu) : Prop:=μ' = μ /\ ∃ (r : List Stk) (tot : Int) (a5 a6 a7 a8 : Option D),li = r.map encS /\ ρ = [some (.ref f),some (.tup [.int sx,.int sy]),some (.int n),some (encS l),some (.int tot),a5,a6,a7,a8] /\ tot + ofs sx sy n l r = ofs sx sy n l L
theorem xn8 (ds : List D) (μ : Mu) (Q : VK3) (h : xw0 ds μ Q) : t_q6 { nx:=λ _ μ'=>Q .non μ',rt:=Q } (start3 N_q6 ds) μ:=by
 obtain ⟨f,L,sx,sy,n,l,rfl,hf,⟨hx,hy⟩,q⟩:=h
 conv=>whnf
 rw [hf]
 refine xp0 (WOf f L sx sy n l μ) ?_ ?_ ?_ ?_
 ·exact ⟨rfl,L,0,none,none,none,none,rfl,rfl,by omega⟩
 ·rintro li ρ μ' ⟨rfl,_⟩
  exact hf
 ·rintro ρ μ' ⟨rfl,r,tot,a5,a6,a7,a8,e,rfl,e2⟩
  cases r with
  | cons _ _=>simp at e
  | nil =>
   simp only [ofs,Int.add_zero] at e2
   subst e2
   exact q
 ·rintro z rest ρ μ' ⟨rfl,r,tot,a5,a6,a7,a8,e,rfl,e2⟩
  cases r with
  | nil=>simp at e
  | cons s r =>
   simp only [List.map_cons,List.cons.injEq] at e
   obtain ⟨rfl,rfl⟩:=e
   simp only [ofs] at e2
   have nx : ∀ tot',tot' = tot + of1 sx sy n l s -> ∀ a5 a6 a7 a8 : Option D,WOf f L sx sy n l μ' (r.map encS) [some (.ref f),some (.tup [.int sx,.int sy]),some (.int n),some (encS l),some (.int tot'),a5,a6,a7,a8] μ':=λ tot' h a5 a6 a7 a8=>⟨rfl,r,tot',a5,a6,a7,a8,rfl,rfl,by omega⟩
   by_cases c0 : s.2.2 = l.2.2
   ·show if (decide (s.2.2 = l.2.2)) = true then _ else _
    rw [if_pos (decide_eq_true c0)]
    have o1 : of1 sx sy n l s = (if (sx = 0 /\ sy = 0) /\ l.1 - s.1 = 0 /\ l.2.1 - s.2.1 = 0 then n else 0) + of2 sx sy n (ofk sx sy (l.1 - s.1) (l.2.1 - s.2.1)) (l.1 - s.1) (l.2.1 - s.2.1):=by unfold of1; rw [if_pos c0]
    by_cases c1 : sx = 0
    ·show if (!decide (sx = (0 : Int))) = true then _ else _
     rw [decide_eq_true c1]
     by_cases c2 : sy = 0
     ·show if (!decide (sy = (0 : Int))) = true then _ else _
      rw [decide_eq_true c2]
      have ek : ofk sx sy (l.1 - s.1) (l.2.1 - s.2.1) = -1:=by unfold ofk; rw [if_neg (λ h=>h c1),if_neg (λ h=>h c2)]
      rw [ek] at o1
      by_cases d1 : l.1 - s.1 = 0
      ·show if (decide (l.1 - s.1 = (0 : Int))) = true then _ else _
       rw [if_pos (decide_eq_true d1)]
       by_cases d2 : l.2.1 - s.2.1 = 0
       ·show if (decide (l.2.1 - s.2.1 = (0 : Int))) = true then _ else _
        rw [if_pos (decide_eq_true d2)]
        rw [if_pos ⟨⟨c1,c2⟩,d1,d2⟩] at o1
        exact wx3 (tot:=tot + n) (x:=l.1 - s.1) (y:=l.2.1 - s.2.1) (k:=-1) ⟨by omega,by omega⟩ ⟨by omega,by omega⟩ λ tot' h=>nx tot' (by omega) _ _ _ _
       ·show if (decide (l.2.1 - s.2.1 = (0 : Int))) = true then _ else _
        rw [if_neg (λ e=>d2 (of_decide_eq_true e))]
        rw [if_neg (λ h=>d2 h.2.2)] at o1
        exact wx3 (tot:=tot) (x:=l.1 - s.1) (y:=l.2.1 - s.2.1) (k:=-1) ⟨by omega,by omega⟩ ⟨by omega,by omega⟩ λ tot' h=>nx tot' (by omega) _ _ _ _
      ·show if (decide (l.1 - s.1 = (0 : Int))) = true then _ else _
       rw [if_neg (λ e=>d1 (of_decide_eq_true e))]
       rw [if_neg (λ h=>d1 h.2.1)] at o1
       exact wx3 (tot:=tot) (x:=l.1 - s.1) (y:=l.2.1 - s.2.1) (k:=-1) ⟨by omega,by omega⟩ ⟨by omega,by omega⟩ λ tot' h=>nx tot' (by omega) _ _ _ _
     ·show if (!decide (sy = (0 : Int))) = true then _ else _
      rw [decide_eq_false c2]
      rw [if_neg (λ h=>c2 h.1.2)] at o1
      have ek : ofk sx sy (l.1 - s.1) (l.2.1 - s.2.1) = (l.2.1 - s.2.1).fdiv sy:=by unfold ofk; rw [if_neg (λ h=>h c1),if_pos c2]
      rw [ek] at o1
      refine ⟨⟨c2,hy⟩,?_⟩
      exact wx3 (tot:=tot) (x:=l.1 - s.1) (y:=l.2.1 - s.2.1) (k:=(l.2.1 - s.2.1).fdiv sy) ⟨by omega,by omega⟩ ⟨by omega,by omega⟩ λ tot' h=>nx tot' (by omega) _ _ _ _
    ·show if (!decide (sx = (0 : Int))) = true then _ else _
     rw [decide_eq_false c1]
     rw [if_neg (λ h=>c1 h.1.1)] at o1
     have ek : ofk sx sy (l.1 - s.1) (l.2.1 - s.2.1) = (l.1 - s.1).fdiv sx:=by unfold ofk; rw [if_pos c1]
     rw [ek] at o1
     refine ⟨⟨c1,hx⟩,?_⟩
     exact wx3 (tot:=tot) (x:=l.1 - s.1) (y:=l.2.1 - s.2.1) (k:=(l.1 - s.1).fdiv sx) ⟨by omega,by omega⟩ ⟨by omega,by omega⟩ λ tot' h=>nx tot' (by omega) _ _ _ _
   ·show if (decide (s.2.2 = l.2.2)) = true then _ else _
    rw [if_neg (λ e=>c0 (of_decide_eq_true e))]
    exact nx tot (by unfold of1; rw [if_neg c0]; omega) _ _ _ _
theorem xb4 {p : Addr} {l : List D} {i : Int} {d : D} {μ : Mu} {K : VK3} (h : μ p = some (.lst l)) (e : atI l i = some d) (k : K d μ) : ixR (.ref p) (.int i) μ K:=by
 unfold ixR
 simp only [h,e]
 exact k
noncomputable def sp1 (least most sh lo hi : Int) : Option (Int × Int):=if sh = 0 then (if least <= 0 /\ 0 <= most then some (lo,hi) else none) else if 0 < sh then some (hi1 lo (0 - (0 - least) / sh),lo1 hi (most / sh)) else some (hi1 lo (0 - most / (0 - sh)),lo1 hi ((0 - least) / (0 - sh)))
noncomputable def yr0 (b : Bx) (l : Stk) (sx sy n : Int) : Int × Int:=match sp1 (l.1 + (1 - l.2.2) - b.2.2.1) (l.1 - b.1) sx 0 (n - 1) with
 | none=>(0,-1)
 | some p=>match sp1 (l.2.1 + l.2.2 - b.2.2.2) (l.2.1 - b.2.1) sy p.1 p.2 with
  | none=>(0,-1)
  | some r=>r
noncomputable def spb : TS3:=(seq3 (set3 7 (o3 subR (o3 addR (o3 ixR (v3 1) (v3 6)) (o3 ixR (lst3 (cons3 (o3 subR (c3 (.int 1)) (o3 ixR (v3 1) (c3 (.int 2)))) (cons3 (o3 ixR (v3 1) (c3 (.int 2))) nil3))) (v3 6))) (o3 ixR (v3 0) (o3 addR (v3 6) (c3 (.int 2)))))) (seq3 (set3 8 (o3 subR (o3 ixR (v3 1) (v3 6)) (o3 ixR (v3 0) (v3 6)))) (seq3 (ifs3 (and3 (b3 (o3 eqR (o3 ixR (v3 2) (v3 6)) (c3 (.int 0)))) (not3 (b3 (ch3 leR leR (v3 7) (c3 (.int 0)) (v3 8))))) (ret3 (tup3 (cons3 (c3 (.int 0)) (cons3 (un3 negR (c3 (.int 1))) nil3)))) next3) (seq3 (ifs3 (b3 (o3 gtR (o3 ixR (v3 2) (v3 6)) (c3 (.int 0)))) (seq3 (set3 4 (call3 maxR (cons3 (v3 4) (cons3 (o3 subR (c3 (.int 0)) (o3 fdivR (o3 subR (c3 (.int 0)) (v3 7)) (o3 ixR (v3 2) (v3 6)))) nil3)))) (set3 5 (call3 min2R (cons3 (v3 5) (cons3 (o3 fdivR (v3 8) (o3 ixR (v3 2) (v3 6))) nil3))))) next3) (ifs3 (b3 (o3 ltR (o3 ixR (v3 2) (v3 6)) (c3 (.int 0)))) (seq3 (set3 4 (call3 maxR (cons3 (v3 4) (cons3 (o3 subR (c3 (.int 0)) (o3 fdivR (v3 8) (o3 subR (c3 (.int 0)) (o3 ixR (v3 2) (v3 6))))) nil3)))) (set3 5 (call3 min2R (cons3 (v3 5) (cons3 (o3 fdivR (o3 subR (c3 (.int 0)) (v3 7)) (o3 subR (c3 (.int 0)) (o3 ixR (v3 2) (v3 6)))) nil3))))) next3)))))
theorem ch_t {ρ : St3} {i j : Nat} {a b c : Int} {μ : Mu} {K : Bool -> Mu -> Prop} (h1 : getI ρ i = some (.int a)) (h2 : getI ρ j = some (.int c)) (k : K (!decide (a <= b /\ b <= c)) μ) : not3 (b3 (ch3 leR leR (v3 i) (c3 (.int b)) (v3 j))) ρ μ K:=by
 unfold not3 b3 ch3 v3 c3
 rw [h1]
 by_cases c1 : a <= b
 ·have e : decide (a <= b /\ b <= c) = decide (b <= c):=by simp [c1]
  rw [e] at k
  simp only [leR,int20,decide_eq_true c1,h2]
  exact k
 ·simp only [leR,int20,decide_eq_false c1]
  have e : decide (a <= b /\ b <= c) = false:=decide_eq_false λ h=>c1 h.1
  rw [e] at k
  exact k
theorem yh5 {D' : Ends3} {b : Bx} {l : Stk} {sx sy n lo hi k lk wk fh fl sh : Int} {a7 a8 : Option D} {μ : Mu} (e1 : atI [D.int l.1,D.int l.2.1,D.int l.2.2] k = some (.int lk)) (e2 : atI [D.int (1 - l.2.2),D.int l.2.2] k = some (.int wk)) (e3 : atI [D.int b.1,D.int b.2.1,D.int b.2.2.1,D.int b.2.2.2] (k + 2) = some (.int fh))
    (e4 : atI [D.int b.1,D.int b.2.1,D.int b.2.2.1,D.int b.2.2.2] k = some (.int fl)) (e5 : atI [D.int sx,D.int sy] k = some (.int sh)) (hs : sh.natAbs < 2 ^ 100)
    (q1 : ∀ μ',Ext μ μ' -> sp1 (lk + wk - fh) (lk - fl) sh lo hi = none -> D'.rt (.tup [.int 0,.int (-1)]) μ')
    (q2 : ∀ μ' p,Ext μ μ' -> sp1 (lk + wk - fh) (lk - fl) sh lo hi = some p -> ∀ a7 a8 : Option D,D'.nx [some (encB (some b)),some (encS l),some (.tup [.int sx,.int sy]),some (.int n),some (.int p.1),some (.int p.2),some (.int k),a7,a8] μ') :
    spb D' [some (encB (some b)),some (encS l),some (.tup [.int sx,.int sy]),some (.int n),some (.int lo),some (.int hi),some (.int k),a7,a8] μ:=by
 conv=>whnf
 rw [e1]
 refine ⟨z2,λ t ht=>?_⟩
 have x1:=Ext.new (o:=.lst [D.int (1 - l.2.2),D.int l.2.2]) ht
 have m1 : updM μ t (.lst [D.int (1 - l.2.2),D.int l.2.2]) t = some (.lst [D.int (1 - l.2.2),D.int l.2.2]):=wb0
 have q1:=q1 _ x1
 have q2:=λ p=>q2 _ p x1
 generalize updM μ t (.lst [D.int (1 - l.2.2),D.int l.2.2]) = μ1 at q1 q2 m1
 conv=>whnf
 rw [m1]
 conv=>whnf
 rw [e2]
 conv=>whnf
 rw [e3]
 conv=>whnf
 rw [e1]
 conv=>whnf
 rw [e4]
 conv=>whnf
 rw [e5]
 by_cases c0 : sh = 0
 ·show if (decide (sh = (0 : Int))) = true then _ else _
  rw [if_pos (decide_eq_true c0)]
  refine ch_t (a:=lk + wk - fh) (c:=lk - fl) rfl rfl ?_
  by_cases c2 : lk + wk - fh <= 0 /\ 0 <= lk - fl
  ·rw [decide_eq_true c2]
   have e:=q2 (lo,hi) (by unfold sp1; rw [if_pos c0,if_pos c2])
   conv=>whnf
   rw [e5]
   show if (decide ((0 : Int) < sh)) = true then _ else _
   rw [if_neg (λ e=>by have:=of_decide_eq_true e; omega)]
   conv=>whnf
   rw [e5]
   show if (decide (sh < (0 : Int))) = true then _ else _
   rw [if_neg (λ e=>by have:=of_decide_eq_true e; omega)]
   exact e _ _
  ·rw [decide_eq_false c2]
   exact And.intro z2 (q1 (by unfold sp1; rw [if_pos c0,if_neg c2]))
 ·show if (decide (sh = (0 : Int))) = true then _ else _
  rw [if_neg (λ e=>c0 (of_decide_eq_true e))]
  conv=>whnf
  rw [e5]
  by_cases c : 0 < sh
  ·show if (decide ((0 : Int) < sh)) = true then _ else _
   rw [if_pos (decide_eq_true c)]
   have e:=q2 _ (by unfold sp1; rw [if_neg c0,if_pos c])
   conv=>whnf
   rw [e5]
   refine ⟨⟨c,by omega⟩,?_⟩
   conv=>whnf
   rw [e5]
   refine ⟨⟨c,by omega⟩,?_⟩
   conv=>whnf
   rw [e5]
   show if (decide (sh < (0 : Int))) = true then _ else _
   rw [if_neg (λ e=>by have:=of_decide_eq_true e; omega)]
   exact e _ _
  ·show if (decide ((0 : Int) < sh)) = true then _ else _
   rw [if_neg (λ e=>c (of_decide_eq_true e))]
   have e:=q2 _ (by unfold sp1; rw [if_neg c0,if_neg c])
   conv=>whnf
   rw [e5]
   show if (decide (sh < (0 : Int))) = true then _ else _
   rw [if_pos (decide_eq_true (by omega))]
   conv=>whnf
   rw [e5]
   refine ⟨⟨by omega,by omega⟩,?_⟩
   conv=>whnf
   rw [e5]
   refine ⟨⟨by omega,by omega⟩,?_⟩
   exact e _ _
noncomputable def xa2 : Sp3:=λ ds μ Q=>∃ (b : Bx) (l : Stk) (sx sy n : Int),ds = [encB (some b),encS l,.tup [.int sx,.int sy],.int n] /\ (sx.natAbs < 1073741824 /\ sy.natAbs < 1073741824) /\ ∀ μ',Ext μ μ' -> Q (encI (yr0 b l sx sy n)) μ'
noncomputable def WSp (b : Bx) (l : Stk) (sx sy n : Int) (μ : Mu) (li : List D) (ρ : St3) (μ' : Mu) : Prop:=Ext μ μ' /\ ∃ (lo hi : Int) (a6 a7 a8 : Option D),ρ = [some (encB (some b)),some (encS l),some (.tup [.int sx,.int sy]),some (.int n),some (.int lo),some (.int hi),a6,a7,a8] ∧
 ((li = [.int 0,.int 1] /\ lo = 0 /\ hi = n - 1) \/ (li = [.int 1] /\ sp1 (l.1 + (1 - l.2.2) - b.2.2.1) (l.1 - b.1) sx 0 (n - 1) = some (lo,hi)) \/ (li = [] /\ yr0 b l sx sy n = (lo,hi)))
theorem ym8 (ds : List D) (μ : Mu) (Q : VK3) (h : xa2 ds μ Q) : t_q9 { nx:=λ _ μ'=>Q .non μ',rt:=Q } (start3 N_q9 ds) μ:=by
 obtain ⟨b,l,sx,sy,n,rfl,⟨hx,hy⟩,q⟩:=h
 refine ⟨⟨by decide,by decide⟩,?_⟩
 refine xp0 (WSp b l sx sy n μ) ?_ (λ _ _ _ _=>trivial) ?_ ?_
 ·exact ⟨Ext.refl _,0,n - 1,none,none,none,rfl,.inl ⟨rfl,rfl,rfl⟩⟩
 ·rintro ρ μ' ⟨ex,lo,hi,a6,a7,a8,rfl,⟨e,_⟩ | ⟨e,_⟩ | ⟨_,e⟩⟩
  ·cases e
  ·cases e
  ·have:=q μ' ex
   rw [e] at this
   exact ⟨z2,this⟩
 ·rintro z rest ρ μ' ⟨ex,lo,hi,a6,a7,a8,rfl,⟨e,rfl,rfl⟩ | ⟨e,e9⟩ | ⟨e,_⟩⟩
  ·cases e
   refine yh5 (b:=b) (l:=l) (k:=0) (lk:=l.1) (wk:=1 - l.2.2) (fh:=b.2.2.1) (fl:=b.1) (sh:=sx) atI0 atI0 rfl atI0 atI0 (by omega) (λ μ1 x1 e1=>?_) (λ μ1 p x1 e1 a7 a8=>?_)
   ·have:=q μ1 (ex.trans x1)
    rw [show yr0 b l sx sy n = (0,-1) by unfold yr0; rw [e1]] at this
    exact this
   ·exact ⟨ex.trans x1,p.1,p.2,_,a7,a8,rfl,.inr (.inl ⟨rfl,e1⟩)⟩
  ·cases e
   refine yh5 (b:=b) (l:=l) (k:=1) (lk:=l.2.1) (wk:=l.2.2) (fh:=b.2.2.2) (fl:=b.2.1) (sh:=sy) atI1 atI1 rfl atI1 atI1 (by omega) (λ μ1 x1 e1=>?_) (λ μ1 p x1 e1 a7 a8=>?_)
   ·have:=q μ1 (ex.trans x1)
    rw [show yr0 b l sx sy n = (0,-1) by unfold yr0; rw [e9]; dsimp only; rw [e1]] at this
    exact this
   ·exact ⟨ex.trans x1,p.1,p.2,_,a7,a8,rfl,.inr (.inr ⟨rfl,by unfold yr0; rw [e9]; dsimp only; rw [e1]⟩)⟩
  ·cases e
theorem yb5 {S : Mu -> Prop} {p : Addr} {tc : TT3} {Q : VK3} {l : List D} {o : Option D} {rest : St3} {μ : Mu} (f : D -> Bool) (hp : μ p = none) (hl : l.length <= sizeLine) (hS : ∀ μ',Ext μ μ' -> S μ')
    (hx : ∀ x ∈ l,∀ μ' R,Ext μ μ' -> R (f x) μ' -> tc (some x :: rest) μ' R) (hQ : ∀ μ',Ext μ μ' -> μ' p = some (.lst (l.filter f)) -> Q (.ref p) μ') : wk3 S p (gn3 0) tc (v3 0) Q l (o :: rest) (updM μ p (.lst [])):=by
 refine ⟨λ r ys ρ μ'=>Ext μ μ' /\ μ' p = some (.lst ys) /\ (∃ o',ρ = o' :: rest) /\ ∃ a,a ++ r = l /\ ys = a.filter f,?_,?_,?_,?_⟩
 ·exact ⟨Ext.new hp,wb0,⟨o,rfl⟩,[],rfl,rfl⟩
 ·rintro r ys ρ μ' ⟨h1,h2,_⟩
  exact ⟨hS _ h1,h2⟩
 ·rintro ys ρ μ' ⟨h1,h2,_,a,e,rfl⟩
  rw [List.append_nil] at e
  subst e
  exact hQ _ h1 h2
 ·rintro x r ys ρ μ' ⟨h1,h2,⟨o',rfl⟩,a,e,rfl⟩
  refine ⟨?_,?_⟩
  ·have h3:=congrArg List.length e
   rw [List.length_append,List.length_cons] at h3
   have:=List.length_filter_le f a
   omega
  ·refine hx x (by rw [<- e]; simp) μ' _ h1 ?_
   have e2 : (a ++ [x]) ++ r = l:=by rw [<- e]; simp
   cases c : f x with
   | true =>
    refine ⟨h2,λ b v hb=>?_,wb0,⟨_,rfl⟩,a ++ [x],e2,?_⟩
    ·rw [ye0 (yg0 hb hp)]
     exact h1 b v hb
    ·rw [List.filter_append]
     simp [c]
   | false =>
    refine ⟨h1,h2,⟨_,rfl⟩,a ++ [x],e2,?_⟩
    rw [List.filter_append]
    simp [c]
noncomputable def bk (k : Int) (b : Bx) : Int:=if k = 0 then b.1 else if k = 1 then b.2.1 else if k = 2 then b.2.2.1 else b.2.2.2
noncomputable def Jn (os : List (Option Bx)) : Option Bx -> Prop
 | none=>∀ x ∈ os,x = none
 | some b=>(∀ c,some c ∈ os -> b.1 <= c.1 /\ b.2.1 <= c.2.1 /\ c.2.2.1 <= b.2.2.1 /\ c.2.2.2 <= b.2.2.2) /\ (∃ c,some c ∈ os /\ c.1 = b.1) /\ (∃ c,some c ∈ os /\ c.2.1 = b.2.1) /\ (∃ c,some c ∈ os /\ c.2.2.1 = b.2.2.1) /\ ∃ c,some c ∈ os /\ c.2.2.2 = b.2.2.2
noncomputable def mnl : List Int -> Int
 | []=>0
 | [a]=>a
 | a :: b :: r=>mn a (mnl (b :: r))
noncomputable def mxl : List Int -> Int
 | []=>0
 | [a]=>a
 | a :: b :: r=>mx a (mxl (b :: r))
theorem zc2 : ∀ l : List Int,0 < l.length -> mnl l ∈ l /\ ∀ a ∈ l,mnl l <= a
 | [],h=>by simp at h
 | [a],_=>by simp [mnl]
 | a :: b :: r,_=>by
  obtain ⟨h1,h2⟩:=zc2 (b :: r) (by simp)
  obtain ⟨s1,s2,s3⟩:=xl1 a (mnl (b :: r))
  simp only [mnl]
  refine ⟨?_,λ x hx=>?_⟩
  ·rcases s3 with e | e
   ·rw [e]; exact List.mem_cons_self ..
   ·rw [e]; exact List.mem_cons_of_mem _ h1
  ·rcases List.mem_cons.mp hx with rfl | hx
   ·exact s1
   ·exact Int.le_trans s2 (h2 x hx)
theorem yc2 : ∀ l : List Int,0 < l.length -> mxl l ∈ l /\ ∀ a ∈ l,a <= mxl l
 | [],h=>by simp at h
 | [a],_=>by simp [mxl]
 | a :: b :: r,_=>by
  obtain ⟨h1,h2⟩:=yc2 (b :: r) (by simp)
  obtain ⟨s1,s2,s3⟩:=xp2 a (mxl (b :: r))
  simp only [mxl]
  refine ⟨?_,λ x hx=>?_⟩
  ·rcases s3 with e | e
   ·rw [e]; exact List.mem_cons_self ..
   ·rw [e]; exact List.mem_cons_of_mem _ h1
  ·rcases List.mem_cons.mp hx with rfl | hx
   ·exact s1
   ·exact Int.le_trans (h2 x hx) s2
theorem xj5 {p : Addr} {ns : List Int} {μ : Mu} {Q : VK3} (h : μ p = some (.lst (ns.map D.int))) (h0 : 0 < ns.length) (k : Q (.int (mnl ns)) μ) : mnR [.ref p] μ Q:=by
 refine wd6 h ⟨h0,λ m m1 m2=>?_⟩
 obtain ⟨s1,s2⟩:=zc2 ns h0
 have : m = mnl ns:=by have:=m2 _ s1; have:=s2 _ m1; omega
 rw [this]; exact k
theorem zi5 {p : Addr} {ns : List Int} {μ : Mu} {Q : VK3} (h : μ p = some (.lst (ns.map D.int))) (h0 : 0 < ns.length) (k : Q (.int (mxl ns)) μ) : mxR [.ref p] μ Q:=by
 refine xd6 h ⟨h0,λ m m1 m2=>?_⟩
 obtain ⟨s1,s2⟩:=yc2 ns h0
 have : m = mxl ns:=by have:=m2 _ s1; have:=s2 _ m1; omega
 rw [this]; exact k
noncomputable def tpB (b : Bx) : D:=.tup [.int b.1,.int b.2.1,.int b.2.2.1,.int b.2.2.2]
noncomputable def pB (b : Bx) : PyData:=.tuple [.int b.1,.int b.2.1,.int b.2.2.1,.int b.2.2.2]
noncomputable def kep : List (Option Bx) -> List Bx
 | []=>[]
 | none :: r=>kep r
 | some b :: r=>b :: kep r
theorem kep_mem {b : Bx} : ∀ {os : List (Option Bx)},b ∈ kep os ↔ some b ∈ os
 | []=>by simp [kep]
 | none :: r=>by simp [kep,kep_mem (os:=r)]
 | some c :: r=>by simp [kep,kep_mem (os:=r)]
theorem xq2 : ∀ os : List (Option Bx),(os.map encB).filter (λ d=>!isN d) = (kep os).map tpB
 | []=>rfl
 | none :: r=>by
  have:=xq2 r
  simp only [List.map_cons,List.filter_cons,kep]
  rw [if_neg (by decide)]
  exact this
 | some c :: r=>by
  have:=xq2 r
  simp only [List.map_cons,List.filter_cons,kep]
  rw [if_pos (by rfl)]
  rw [this]; rfl
theorem wp2 : ∀ os : List (Option Bx),(kep os).length <= os.length
 | []=>Nat.le_refl _
 | none :: r=>Nat.le_succ_of_le (wp2 r)
 | some c :: r=>Nat.succ_le_succ (wp2 r)
theorem xl5 : ∀ L : List Bx,dats (L.map tpB) = some (L.map pB)
 | []=>rfl
 | s :: r=>by simp only [List.map_cons,dats,tpB,dat,xl5 r,pB]
theorem we4 : ∀ L : List Bx,PyData.depthAll (L.map pB) <= 2
 | []=>by simp [PyData.depthAll]
 | s :: r=>by
  have:=we4 r
  simp only [List.map_cons,PyData.depthAll,pB,PyData.depth] at this ⊢
  omega
theorem xe4 {f g : Addr} {L : List Bx} {μ : Mu} {K : VK3} {b : Bool} (h1 : μ f = some (.lst (L.map tpB))) (h2 : μ g = some (.lst [])) (hb : b = decide (L = [])) (k : K (.bl b) μ) : eqR (.ref f) (.ref g) μ K:=by
 have z1 : datM μ (.ref f) = some (.list (L.map pB)):=by simp only [datM,h1,xl5]
 have z2 : datM μ (.ref g) = some (.list []):=by simp only [datM,h2,dats]
 have dp : (PyData.list (L.map pB)).depth <= 64:=by
  have:=we4 L
  simp only [PyData.depth]
  omega
 rw [zl1 rfl z1 z2 dp (by simp [PyData.depth,PyData.depthAll])]
 subst hb
 have e : PyData.eqv (.list (L.map pB)) (.list []) = decide (L = []):=by
  cases L <;> simp [PyData.eqv,PyData.eqvAll]
 rw [e]
 exact k
noncomputable def jxB (k : Int) (d : D) : D:=match d with
 | .tup [a,b,c,e]=>if k = 0 then a else if k = 1 then b else if k = 2 then c else e
 | _=>.non
theorem we6 (k : Int) (L : List Bx) : (L.map tpB).map (jxB k) = (L.map (bk k)).map D.int:=by
 rw [List.map_map,List.map_map]
 refine List.map_congr_left λ b _=>?_
 show (if k = 0 then D.int b.1 else if k = 1 then D.int b.2.1 else if k = 2 then D.int b.2.2.1 else D.int b.2.2.2) = D.int (bk k b)
 unfold bk
 split
 ·rfl
 split
 ·rfl
 split <;> rfl
theorem xb8 {k : Int} (h0 : 0 <= k) (h4 : k < 4) (b : Bx) : atI [D.int b.1,D.int b.2.1,D.int b.2.2.1,D.int b.2.2.2] k = some (jxB k (tpB b)):=by
 have : k = 0 \/ k = 1 \/ k = 2 \/ k = 3:=by omega
 rcases this with rfl | rfl | rfl | rfl <;> rfl
theorem wa4 {l : List D} {i : Int} {d : D} {μ : Mu} {K : VK3} (e : atI l i = some d) (k : K d μ) : ixR (.tup l) (.int i) μ K:=by
 unfold ixR
 simp only [e]
 exact k
noncomputable def inn : TE3:=(comp3 [none,some 0] (is3 (v3 1)) (gn3 0) tt3 (o3 ixR (v3 0) (v3 1)))
theorem zx2 {k : Int} (h0 : 0 <= k) (h4 : k < 4) {f : Addr} {L : List Bx} (hl : L.length <= 1000) {μ : Mu} {R : VK3} (hf : μ f = some (.lst (L.map tpB))) (q : ∀ g μ',Ext μ μ' -> μ' g = some (.lst ((L.map (bk k)).map D.int)) -> R (.ref g) μ') : inn [some (.int k),some (.ref f)] μ R:=by
 have hz : (1000 : Nat) < sizeLine:=by decide
 unfold inn comp3 is3 v3
 show (match μ f with | some (.lst l)=>_ | _=>False)
 rw [hf]
 intro g hg
 refine ya1 (rest:=[some (.int k)]) (jxB k) hg (by rw [List.length_map]; omega) (λ μ' e=>e _ _ hf) ?_ ?_
 ·intro d hd μ' R' ex kk
  obtain ⟨b,_,rfl⟩:=List.mem_map.mp hd
  exact wa4 (xb8 h0 h4 b) (kk μ' (Ext.refl _))
 ·intro μ' ex e
  rw [we6] at e
  exact q g μ' ex e
noncomputable def fMn (L : List Bx) (d : D) : D:=match d with
 | .int k=>.int (mnl (L.map (bk k)))
 | _=>.non
noncomputable def fMx (L : List Bx) (d : D) : D:=match d with
 | .int k=>.int (mxl (L.map (bk k)))
 | _=>.non
theorem zz7 {f p : Addr} {L : List Bx} (hl : L.length <= 1000) (h0 : 0 < L.length) {μ : Mu} {Q : VK3} {o : Option D} (hp : μ p = none) (hf : μ f = some (.lst (L.map tpB))) (q : ∀ μ',Ext μ μ' -> μ' p = some (.lst [.int (mnl (L.map (bk 0))),.int (mnl (L.map (bk 1)))]) -> Q (.ref p) μ') :
    wk3 (λ _=>True) p (gn3 0) tt3 (call3 mnR (cons3 inn nil3)) Q (rngD 0 (2 : Int).toNat) (o :: [some (.ref f)]) (updM μ p (.lst [])):=by
 refine ya1 (rest:=[some (.ref f)]) (fMn L) hp (show 2 <= sizeLine by decide) (λ _ _=>trivial) ?_ ?_
 ·intro d hd μ' R ex k
  have hd : d = .int 0 \/ d = .int 1:=by
   have : rngD 0 (2 : Int).toNat = [.int 0,.int 1]:=rfl
   rw [this] at hd
   simpa using hd
  rcases hd with rfl | rfl
  ·exact zx2 (k:=0) (by decide) (by decide) hl (ex _ _ hf) λ g μ2 x2 e2=>xj5 e2 (by rw [List.length_map]; exact h0) (k μ2 x2)
  ·exact zx2 (k:=1) (by decide) (by decide) hl (ex _ _ hf) λ g μ2 x2 e2=>xj5 e2 (by rw [List.length_map]; exact h0) (k μ2 x2)
 ·intro μ' ex e
  exact q μ' ex e
theorem zf6 {f p : Addr} {L : List Bx} (hl : L.length <= 1000) (h0 : 0 < L.length) {μ : Mu} {Q : VK3} {o : Option D} (hp : μ p = none) (hf : μ f = some (.lst (L.map tpB))) (q : ∀ μ',Ext μ μ' -> μ' p = some (.lst [.int (mxl (L.map (bk 2))),.int (mxl (L.map (bk 3)))]) -> Q (.ref p) μ') :
    wk3 (λ _=>True) p (gn3 0) tt3 (call3 mxR (cons3 inn nil3)) Q (rngD 2 ((4 : Int) - 2).toNat) (o :: [some (.ref f)]) (updM μ p (.lst [])):=by
 refine ya1 (rest:=[some (.ref f)]) (fMx L) hp (show 2 <= sizeLine by decide) (λ _ _=>trivial) ?_ ?_
 ·intro d hd μ' R ex k
  have hd : d = .int 2 \/ d = .int 3:=by
   have : rngD 2 ((4 : Int) - 2).toNat = [.int 2,.int 3]:=rfl
   rw [this] at hd
   simpa using hd
  rcases hd with rfl | rfl
  ·exact zx2 (k:=2) (by decide) (by decide) hl (ex _ _ hf) λ g μ2 x2 e2=>zi5 e2 (by rw [List.length_map]; exact h0) (k μ2 x2)
  ·exact zx2 (k:=3) (by decide) (by decide) hl (ex _ _ hf) λ g μ2 x2 e2=>zi5 e2 (by rw [List.length_map]; exact h0) (k μ2 x2)
 ·intro μ' ex e
  exact q μ' ex e
theorem yb8 {os : List (Option Bx)} (h0 : 0 < (kep os).length) : Jn os (some (mnl ((kep os).map (bk 0)),mnl ((kep os).map (bk 1)),mxl ((kep os).map (bk 2)),mxl ((kep os).map (bk 3)))):=by
 have l : ∀ k,0 < ((kep os).map (bk k)).length:=λ k=>by rw [List.length_map]; exact h0
 have a:=λ k=>zc2 _ (l k)
 have b:=λ k=>yc2 _ (l k)
 have m : ∀ {c : Bx} (k : Int),some c ∈ os -> bk k c ∈ (kep os).map (bk k):=λ k h=>List.mem_map.mpr ⟨_,kep_mem.mpr h,rfl⟩
 refine ⟨λ c hc=>⟨(a 0).2 _ (m 0 hc),(a 1).2 _ (m 1 hc),(b 2).2 _ (m 2 hc),(b 3).2 _ (m 3 hc)⟩,?_,?_,?_,?_⟩
 ·obtain ⟨c,hc,e⟩:=List.mem_map.mp (a 0).1; exact ⟨c,kep_mem.mp hc,e⟩
 ·obtain ⟨c,hc,e⟩:=List.mem_map.mp (a 1).1; exact ⟨c,kep_mem.mp hc,e⟩
 ·obtain ⟨c,hc,e⟩:=List.mem_map.mp (b 2).1; exact ⟨c,kep_mem.mp hc,e⟩
 ·obtain ⟨c,hc,e⟩:=List.mem_map.mp (b 3).1; exact ⟨c,kep_mem.mp hc,e⟩
noncomputable def wh1 : Sp3:=λ ds μ Q=>∃ (f : Addr) (os : List (Option Bx)),ds = [.ref f] /\ μ f = some (.lst (os.map encB)) /\ os.length <= 100 /\ ∀ o μ',Ext μ μ' -> Jn os o -> Q (encB o) μ'
theorem zn8 (ds : List D) (μ : Mu) (Q : VK3) (h : wh1 ds μ Q) : t_q4 { nx:=λ _ μ'=>Q .non μ',rt:=Q } (start3 N_q4 ds) μ:=by
 obtain ⟨f,os,rfl,hf,hl,q⟩:=h
 have hz : (1000 : Nat) < sizeLine:=by decide
 have kl:=wp2 os
 conv=>whnf
 rw [hf]
 intro p hp
 refine yb5 (rest:=[]) (λ d=>!isN d) hp (by rw [List.length_map]; omega) (λ μ' e=>e _ _ hf) ?_ ?_
 ·intro d hd μ' R ex k
  exact k
 ·intro μ1 x1 e1
  rw [xq2] at e1
  refine ⟨Nat.zero_le _,λ t ht=>?_⟩
  have e2 : updM μ1 t (.lst []) p = some (.lst ((kep os).map tpB)):=by rw [ye0 (yg0 e1 ht)]; exact e1
  have t2 : updM μ1 t (.lst []) t = some (.lst []):=wb0
  have x2:=x1.trans (Ext.new (o:=.lst []) ht)
  generalize updM μ1 t (.lst []) = μ2 at e2 t2 x2
  by_cases c : kep os = []
  ·refine xe4 (b:=true) e2 t2 (by simp [c]) ?_
   refine q none μ2 x2 λ o ho=>?_
   cases o with
   | none=>rfl
   | some b=>have:=kep_mem.mpr ho; rw [c] at this; cases this
  ·refine xe4 (b:=false) e2 t2 (by simp [c]) ?_
   have h0 : 0 < (kep os).length:=List.length_pos_iff.mpr c
   refine ⟨⟨by decide,by decide⟩,λ g hg=>?_⟩
   refine zz7 (by omega) h0 hg e2 λ μ3 x3 e3=>?_
   intro g2 hg2
   refine zf6 (by omega) h0 hg2 (x3 _ _ e2) λ μ4 x4 e4=>?_
   have e3':=x4 _ _ e3
   conv=>whnf
   rw [e3']
   conv=>whnf
   rw [e3']
   conv=>whnf
   rw [e4]
   conv=>whnf
   rw [e4]
   refine ⟨show 4 <= sizeLine by decide,?_⟩
   exact q (some _) μ4 (x2.trans (x3.trans x4)) (yb8 h0)
mutual
theorem yi8 : ∀ d,sq d -> pm (pd d) <= 2 * 6 ^ dep d
 | .go n,h=>by
  simp only [sq] at h
  simp only [pd,dep,Int.pow_zero]
  rw [xs1]
  dsimp only
  omega
 | .jump n,h=>by
  simp only [sq] at h
  simp only [pd,dep,Int.pow_zero]
  rw [xs1]
  dsimp only
  omega
 | .turn n,h=>by
  simp only [pd,dep,Int.pow_zero]
  rw [xs1]
  dsimp only
  omega
 | .times n w,h=>by
  simp only [sq] at h
  obtain ⟨h1,h2,h3⟩:=h
  have i:=zt2 w h3
  simp only [pd,dep]
  rw [yr1 (wj0 w) h1.1,Nat.add_comm 1 (deps w),Int.pow_succ]
  have x0 : (0 : Int) <= 6 ^ deps w:=Int.pow_nonneg (by decide)
  generalize (6 : Int) ^ deps w = x at i x0
  have j : (w.length : Int) * (2 * x) <= 2 * (2 * x):=Int.mul_le_mul_of_nonneg_right (by omega) (by omega)
  have k:=yy5 (Int.le_trans i j) n.toNat
  have l : (n.toNat : Int) * (2 * (2 * x)) <= 3 * (2 * (2 * x)):=Int.mul_le_mul_of_nonneg_right (by omega) (by omega)
  omega
theorem zt2 : ∀ w,sqs w -> pm (pb w) <= w.length * (2 * 6 ^ deps w)
 | [],_=>by simp only [pb,List.length_nil,Int.natCast_zero,Int.zero_mul]; decide
 | d :: r,h=>by
  simp only [sqs] at h
  have a:=yi8 d h.1
  have b:=zt2 r h.2
  have c:=xu3 (zn1 d (zt6 d h.1).1) a b
  simp only [pb,deps,List.length_cons]
  have m1 : (6 : Int) ^ dep d <= 6 ^ max (dep d) (deps r):=by
   have:=xi1 (show dep d <= max (dep d) (deps r) by omega)
   exact_mod_cast this
  have m2 : (6 : Int) ^ deps r <= 6 ^ max (dep d) (deps r):=by
   have:=xi1 (show deps r <= max (dep d) (deps r) by omega)
   exact_mod_cast this
  generalize (6 : Int) ^ max (dep d) (deps r) = z at m1 m2
  generalize (6 : Int) ^ dep d = x at m1 a c
  generalize (6 : Int) ^ deps r = y at m2 b c
  have e : (r.length : Int) * (2 * y) <= r.length * (2 * z):=Int.mul_le_mul_of_nonneg_left (by omega) (by omega)
  rw [Int.natCast_add,Int.add_mul]
  omega
end
theorem zr7 {p : Pen} (h : pm p <= 1000) : bdd p:=by
 rw [xs1] at h
 unfold bdd
 omega
theorem yt5 {e : Nat} (h : e <= 2) : (6 : Int) ^ e <= 36:=by
 have : e = 0 \/ e = 1 \/ e = 2:=by omega
 rcases this with rfl | rfl | rfl <;> decide
theorem yo3 {w : List Dd} (h : sqs w) (hd : deps w <= 2) (hl : w.length <= 4) : bdd (pb w):=by
 have a:=zt2 w h
 have b:=yt5 hd
 have x0 : (0 : Int) <= 6 ^ deps w:=Int.pow_nonneg (by decide)
 generalize (6 : Int) ^ deps w = x at a b x0
 have j : (w.length : Int) * (2 * x) <= 4 * (2 * x):=Int.mul_le_mul_of_nonneg_right (by omega) (by omega)
 exact zr7 (by omega)
mutual
theorem zi8 : ∀ d,sq d -> dep d <= 3 -> gd d
 | .go n,_,_=>by simp only [gd]
 | .jump n,_,_=>by simp only [gd]
 | .turn n,_,_=>by simp only [gd]
 | .times n w,h,e=>by
  simp only [sq] at h
  simp only [dep] at e
  simp only [gd]
  have t:=(wr5 h.2.2 (by omega) (by omega)).2.1
  exact ⟨yo3 h.2.2 (by omega) (by omega),by omega,wt2 w h.2.2 (by omega)⟩
theorem wt2 : ∀ w,sqs w -> deps w <= 3 -> gds w
 | [],_,_=>by simp only [gds]
 | d :: r,h,e=>by
  simp only [sqs] at h
  simp only [deps] at e
  simp only [gds]
  exact ⟨zi8 d h.1 (by omega),wt2 r h.2 (by omega)⟩
end
theorem hd_h {P : Pen} (h : Hd P) : P.2.2 % 4 = P.2.2:=by
 rcases h with h | h | h | h <;> rw [h] <;> rfl
theorem wj5 {P p : Pen} (h : Hd P) (i : Int) : led P (p.1 * i,p.2.1 * i,0) = (P.1 + i * dX P p,P.2.1 + i * dY P p,P.2.2):=by
 have e3 : (P.2.2 + 0) % 4 = P.2.2:=by rw [Int.add_zero]; exact hd_h h
 unfold led dX dY
 dsimp only
 rw [e3]
 refine Prod.ext ?_ (Prod.ext ?_ rfl)
 ·dsimp only; grind
 ·dsimp only; grind
theorem xy7 (P : Pen) (a b : Int) (s : Stk) : mvS (P.1 + a,P.2.1 + b,P.2.2) s = mvd a b (mvS P s):=by
 unfold mvS mvd
 dsimp only
 split
 ·refine Prod.ext ?_ (Prod.ext ?_ rfl) <;> dsimp only <;> omega
 split
 ·refine Prod.ext ?_ (Prod.ext ?_ rfl) <;> dsimp only <;> omega
 split
 ·refine Prod.ext ?_ (Prod.ext ?_ rfl) <;> dsimp only <;> omega
 ·refine Prod.ext ?_ (Prod.ext ?_ rfl) <;> dsimp only <;> omega
theorem mv_i {P p : Pen} (h : Hd P) (h0 : p.2.2 = 0) (i : Nat) (l : List Stk) : l.map (mvS (led P (pw p i))) = (l.map (mvS P)).map (mvd (i * dX P p) (i * dY P p)):=by
 rw [wk1 h0,wj5 h,List.map_map]
 refine List.map_congr_left λ s _=>xy7 P _ _ s
theorem dxy {P p : Pen} : (led P p).1 - P.1 = dX P p /\ (led P p).2.1 - P.2.1 = dY P p:=by
 unfold led dX dY
 dsimp only
 omega
theorem ye4 {P p : Pen} (h : Hd P) {z : Int} (hp : pm p <= z) : (-z <= dX P p /\ dX P p <= z) /\ -z <= dY P p /\ dY P p <= z:=by
 rw [xs1] at hp
 unfold dX dY
 rcases h with h | h | h | h <;> rw [h] <;> simp [cs,sn] <;> omega
theorem yy2 {P p : Pen} (h : Hd P) (h0 : p.2.2 = 0) : (dX P p = 0 /\ dY P p = 0) ↔ p = st:=by
 constructor
 ·intro ⟨a,b⟩
  unfold dX dY at *
  obtain ⟨x,y,k⟩:=p
  dsimp only at h0 a b
  subst h0
  rcases h with h | h | h | h <;> rw [h] at a b <;> simp [cs,sn] at a b
  ·rw [a,b]; rfl
  ·rw [a,b]; rfl
  ·rw [a,b]; rfl
  ·rw [a,b]; rfl
 ·intro e
  subst e
  simp [dX,dY,st]
theorem yu2 {n low high sh least greatest : Int} {i : Int} (hs : 0 <= sh) (h : (spn0 n low high sh least greatest).1 <= i /\ i < (spn0 n low high sh least greatest).2) : (0 <= i /\ i < n) /\ low + i * sh <= least /\ greatest <= high + i * sh:=by
 unfold spn0 at h
 by_cases c : sh = 0
 ·subst c
  rw [if_pos rfl] at h
  split at h
  ·next e=>dsimp only at h; omega
  ·dsimp only at h; omega
 ·rw [if_neg c] at h
  have sp : 0 < sh:=by omega
  dsimp only at h
  have a1 : i <= (least - low) / sh:=by
   have:=h.2
   split at this <;> omega
  have a2 : -i <= (high - greatest) / sh:=by
   have:=h.1
   split at this <;> omega
  have b1:=(Int.le_ediv_iff_mul_le sp).mp a1
  have b2:=(Int.le_ediv_iff_mul_le sp).mp a2
  rw [Int.neg_mul] at b2
  refine ⟨⟨?_,?_⟩,by omega,by omega⟩
  ·have:=h.1
   split at this <;> omega
  ·have:=h.2
   split at this <;> omega
theorem zo3 {n low high sh least greatest : Int} {i : Int} (h : (spn n low high sh least greatest).1 <= i /\ i < (spn n low high sh least greatest).2) : (0 <= i /\ i < n) /\ low + i * sh <= least /\ greatest <= high + i * sh:=by
 unfold spn at h
 by_cases c : sh < 0
 ·rw [if_pos c] at h
  obtain ⟨a,b,d⟩:=yu2 (by omega) h
  rw [Int.mul_neg] at b d
  exact ⟨a,by omega,by omega⟩
 ·rw [if_neg c] at h
  exact yu2 (by omega) h
theorem yq3 {least most sh lo hi i : Int} : (∃ p,sp1 least most sh lo hi = some p /\ p.1 <= i /\ i <= p.2) ↔ (lo <= i /\ i <= hi) /\ least <= i * sh /\ i * sh <= most:=by
 unfold sp1
 by_cases c : sh = 0
 ·subst c
  rw [if_pos rfl,Int.mul_zero]
  by_cases d : least <= 0 /\ 0 <= most
  ·rw [if_pos d]
   constructor
   ·rintro ⟨p,e,h1,h2⟩
    cases e
    exact ⟨⟨h1,h2⟩,d⟩
   ·rintro ⟨h,_⟩
    exact ⟨_,rfl,h⟩
  ·rw [if_neg d]
   constructor
   ·rintro ⟨p,e,_⟩
    cases e
   ·rintro ⟨_,h⟩
    exact absurd h d
 ·rw [if_neg c]
  by_cases d : 0 < sh
  ·rw [if_pos d]
   have a1 : (0 - (0 - least) / sh <= i) ↔ least <= i * sh:=by
    rw [show (0 - (0 - least) / sh <= i) ↔ -i <= (0 - least) / sh from ⟨λ h=>by omega,λ h=>by omega⟩,Int.le_ediv_iff_mul_le d,Int.neg_mul]
    omega
   have a2 : (i <= most / sh) ↔ i * sh <= most:=Int.le_ediv_iff_mul_le d
   generalize (0 - least) / sh = u at a1 ⊢
   generalize most / sh = v at a2 ⊢
   rw [<- a1,<- a2]
   constructor
   ·rintro ⟨p,e,h1,h2⟩
    cases e
    dsimp only [hi1,lo1] at h1 h2
    refine ⟨⟨?_,?_⟩,?_,?_⟩
    ·split at h1 <;> omega
    ·split at h2 <;> omega
    ·split at h1 <;> omega
    ·split at h2 <;> omega
   ·rintro ⟨⟨h1,h2⟩,h3,h4⟩
    refine ⟨_,rfl,?_,?_⟩
    ·dsimp only [hi1]; split <;> omega
    ·dsimp only [lo1]; split <;> omega
  ·rw [if_neg d]
   have d' : 0 < 0 - sh:=by omega
   have a1 : (0 - most / (0 - sh) <= i) ↔ i * sh <= most:=by
    rw [show (0 - most / (0 - sh) <= i) ↔ -i <= most / (0 - sh) from ⟨λ h=>by omega,λ h=>by omega⟩,Int.le_ediv_iff_mul_le d',show -i * (0 - sh) = i * sh by grind]
   have a2 : (i <= (0 - least) / (0 - sh)) ↔ least <= i * sh:=by
    rw [Int.le_ediv_iff_mul_le d',show i * (0 - sh) = -(i * sh) by grind]
    omega
   generalize most / (0 - sh) = u at a1 ⊢
   generalize (0 - least) / (0 - sh) = v at a2 ⊢
   rw [<- a1,<- a2]
   constructor
   ·rintro ⟨p,e,h1,h2⟩
    cases e
    dsimp only [hi1,lo1] at h1 h2
    refine ⟨⟨?_,?_⟩,?_,?_⟩
    ·split at h1 <;> omega
    ·split at h2 <;> omega
    ·split at h2 <;> omega
    ·split at h1 <;> omega
   ·rintro ⟨⟨h1,h2⟩,h3,h4⟩
    refine ⟨_,rfl,?_,?_⟩
    ·dsimp only [hi1]; split <;> omega
    ·dsimp only [lo1]; split <;> omega
theorem wz3 {f : Bx} {l : Stk} {sx sy n i : Int} : ((yr0 f l sx sy n).1 <= i /\ i <= (yr0 f l sx sy n).2) ↔ (0 <= i /\ i < n) /\ (f.1 + i * sx <= l.1 /\ gx l <= f.2.2.1 + i * sx) /\ f.2.1 + i * sy <= l.2.1 /\ gy l <= f.2.2.2 + i * sy:=by
 have A:=@yq3 (l.1 + (1 - l.2.2) - f.2.2.1) (l.1 - f.1) sx 0 (n - 1) i
 unfold gx gy yr0
 cases e1 : sp1 (l.1 + (1 - l.2.2) - f.2.2.1) (l.1 - f.1) sx 0 (n - 1) with
 | none =>
  rw [e1] at A
  dsimp only
  constructor
  ·intro h; omega
  ·rintro ⟨h1,⟨h2,h3⟩,h4⟩
   obtain ⟨p,e,_⟩:=A.mpr ⟨by omega,by omega,by omega⟩
   cases e
 | some p =>
  rw [e1] at A
  dsimp only
  have A' : (p.1 <= i /\ i <= p.2) ↔ (0 <= i /\ i <= n - 1) /\ l.1 + (1 - l.2.2) - f.2.2.1 <= i * sx /\ i * sx <= l.1 - f.1:=by
   rw [<- A]
   constructor
   ·intro h; exact ⟨p,rfl,h⟩
   ·rintro ⟨_,e,h⟩; cases e; exact h
  have B:=@yq3 (l.2.1 + l.2.2 - f.2.2.2) (l.2.1 - f.2.1) sy p.1 p.2 i
  cases e2 : sp1 (l.2.1 + l.2.2 - f.2.2.2) (l.2.1 - f.2.1) sy p.1 p.2 with
  | none =>
   rw [e2] at B
   dsimp only
   constructor
   ·intro h; omega
   ·rintro ⟨h1,⟨h2,h3⟩,h4,h5⟩
    obtain ⟨p,e,_⟩:=B.mpr ⟨A'.mpr ⟨by omega,by omega,by omega⟩,by omega,by omega⟩
    cases e
  | some r =>
   rw [e2] at B
   dsimp only
   constructor
   ·intro h
    obtain ⟨b1,b2,b3⟩:=B.mp ⟨r,rfl,h⟩
    obtain ⟨a1,a2,a3⟩:=A'.mp b1
    exact ⟨by omega,⟨by omega,by omega⟩,by omega,by omega⟩
   ·rintro ⟨h1,⟨h2,h3⟩,h4,h5⟩
    obtain ⟨r',e,h⟩:=B.mpr ⟨A'.mpr ⟨by omega,by omega,by omega⟩,by omega,by omega⟩
    cases e
    exact h
theorem xl3 {a b lo hi : Int} (h : ∀ i,(a <= i /\ i < b) ↔ (lo <= i /\ i <= hi)) : 1000 < b - a ↔ 1000 <= hi - lo:=by
 constructor
 ·intro c
  have h1:=(h a).mp ⟨by omega,by omega⟩
  have h2:=(h (b - 1)).mp ⟨by omega,by omega⟩
  omega
 ·intro c
  have h1:=(h lo).mpr ⟨by omega,by omega⟩
  have h2:=(h hi).mpr ⟨by omega,by omega⟩
  omega
theorem xd5 {n : Int} {p P : Pen} {b f : Bx} {s : Stk} (hp : Hd P) (c1 : p ≠ st) (c2 : p.2.2 = 0) (ef : bfr P (some b) = some f) : ask n p P (some b) s = (hi1 (spn n f.1 f.2.2.1 (dX P p) s.1 (gx s)).1 (spn n f.2.1 f.2.2.2 (dY P p) s.2.1 (gy s)).1,lo1 (spn n f.1 f.2.2.1 (dX P p) s.1 (gx s)).2 (spn n f.2.1 f.2.2.2 (dY P p) s.2.1 (gy s)).2):=by
 have eg : bfr (led P p) (some b) = some (f.1 + dX P p,f.2.1 + dY P p,f.2.2.1 + dX P p,f.2.2.2 + dY P p):=by
  have:=zp1 hp c2 1 ef
  rw [Int.mul_one,Int.mul_one,show ((p.1,p.2.1,0) : Pen) = p by rw [<- c2]] at this
  simp only [Int.one_mul] at this
  exact this
 unfold ask
 rw [if_neg (by intro h; cases h),if_neg c1,if_neg (λ h=>h c2),ef,eg]
 dsimp only
 rw [show f.1 + dX P p - f.1 = dX P p by omega,show f.2.1 + dY P p - f.2.1 = dY P p by omega]
theorem zk4 {n : Int} {p P : Pen} {b f : Bx} {s : Stk} {i : Int} (hp : Hd P) (c1 : p ≠ st) (c2 : p.2.2 = 0) (ef : bfr P (some b) = some f) : ((ask n p P (some b) s).1 <= i /\ i < (ask n p P (some b) s).2) ↔ (0 <= i /\ i < n) /\ (f.1 + i * dX P p <= s.1 /\ gx s <= f.2.2.1 + i * dX P p) /\ f.2.1 + i * dY P p <= s.2.1 /\ gy s <= f.2.2.2 + i * dY P p:=by
 rw [xd5 hp c1 c2 ef]
 have A:=@zo3 n f.1 f.2.2.1 (dX P p) s.1 (gx s) i
 have B:=@zo3 n f.2.1 f.2.2.2 (dY P p) s.2.1 (gy s) i
 have A':=@wz1 n f.1 f.2.2.1 (dX P p) s.1 (gx s) i
 have B':=@wz1 n f.2.1 f.2.2.2 (dY P p) s.2.1 (gy s) i
 generalize spn n f.1 f.2.2.1 (dX P p) s.1 (gx s) = u at A A'
 generalize spn n f.2.1 f.2.2.2 (dY P p) s.2.1 (gy s) = v at B B'
 dsimp only [hi1,lo1]
 constructor
 ·rintro ⟨h1,h2⟩
  obtain ⟨a1,a2⟩:=A ⟨by split at h1 <;> omega,by split at h2 <;> omega⟩
  obtain ⟨_,b2⟩:=B ⟨by split at h1 <;> omega,by split at h2 <;> omega⟩
  exact ⟨a1,a2,b2⟩
 ·rintro ⟨h1,h2,h3⟩
  have a:=A' h2.1 h2.2 h1.1 h1.2
  have b:=B' h3.1 h3.2 h1.1 h1.2
  exact ⟨by split <;> omega,by split <;> omega⟩
theorem ow0 {w : List Dd} (h : sqs w) (hd : deps w = 0) {pen : Pen} {s : Stk} (hp : Hd pen) (hs : wy s) : OW w pen s ((((xd0 w).map (mvS pen)).count s : Nat) : Int) 0:=by
 obtain ⟨k,hk,o⟩:=ow w (wm0 w h).1 (wt2 w h (by omega)) pen s hp hs
 have z : ∀ w : List Dd,deps w = 0 -> Bs w = 0:=by
  intro w
  induction w with
  | nil=>intro _; rfl
  | cons d r ih =>
   intro e
   simp only [deps] at e
   simp only [Bs]
   rw [ih (by omega)]
   cases d with
   | times n w=>simp only [dep] at e; omega
   | _=>rfl
 rw [z w hd] at hk
 rw [show k = 0 by omega] at o
 exact o
theorem yx7 {w : List Dd} {n : Int} {pen : Pen} {s : Stk} (ow : ∀ pen,Hd pen -> OW w pen s ((((xd0 w).map (mvS pen)).count s : Nat) : Int) 0) (hl : (xd0 w).length < 2 ^ 64) :
    ∀ is : List Int,(∀ i ∈ is,0 <= i /\ i <= G) -> (∀ i ∈ is,inb s (bfr (led pen (rep (pb w) i)) (bxa w none st)) = true) -> OL is n w pen s (sumL (λ i=>lk n (pb w) i * ((Cn (xd0 w) pen (pb w) s i.toNat : Nat) : Int)) is) is.length
 | [],_,_=>.nil
 | i :: r,h,hi=>by
  have o:=yx7 (n:=n) (pen:=pen) ow hl r (λ j hj=>h j (List.mem_cons_of_mem _ hj)) (λ j hj=>hi j (List.mem_cons_of_mem _ hj))
  obtain ⟨h0,h1⟩:=h i (List.mem_cons_self ..)
  have e : rep (pb w) i = pw (pb w) i.toNat:=yr1 (wj0 w) h0
  have o1:=ow (led pen (rep (pb w) i)) (yn0 _ _)
  have lc : Cn (xd0 w) pen (pb w) s i.toNat <= (xd0 w).length:=by
   unfold Cn
   have:=List.count_le_length (a:=s) (l:=(xd0 w).map (mvS (led pen (pw (pb w) i.toNat))))
   rw [List.length_map] at this
   exact this
  have z : (i :: r).length = 1 + 0 + r.length:=by rw [List.length_cons]; omega
  rw [z]
  refine OL.inn (hi i (List.mem_cons_self ..)) h0 h1 ?_ (by omega) (by omega) o
  rw [e] at o1 ⊢
  exact o1
theorem wu4 {w : List Dd} {n : Int} {P : Pen} {s : Stk} (h : sqs w) (hd : deps w = 0) (hl : w.length <= 4) (h0 : (pb w).2.2 = 0) (n0 : 0 <= n) (n1 : n <= G) (hp : Hd P) (hs : wy s) : ∃ k,OD (.times n w) P s ((((strk (.times n w)).map (mvS P)).count s : Nat) : Int) k ∧
    ((xd0 w = [] \/ pb w = st) -> k <= 1) /\ ∀ f,IsBox ((xd0 w).map (mvS P)) (some f) -> pb w ≠ st -> (1000 < k ↔ 1000 <= (yr0 f s (dX P (pb w)) (dY P (pb w)) n).2 - (yr0 f s (dX P (pb w)) (dY P (pb w)) n).1):=by
 obtain ⟨a1,a2,a3,a4⟩:=wm0 w h
 have gw:=wt2 w h (by omega)
 have bw:=yo3 h (by omega) hl
 have ll : (xd0 w).length < 2 ^ 64:=by rw [hd] at a2; omega
 have bx:=wx0 w a1
 by_cases e : xd0 w = []
 ·have s0 : strk (.times n w) = []:=by simp only [strk]; rw [e]; unfold tms; simp
  have e2 : bxa w none st = none:=by
   have b0 : IsBox (xd0 w) none:=e
   exact bx.unique b0
  refine ⟨0,?_,λ _=>by omega,λ f hf=>?_⟩
  ·rw [s0,List.map_nil,List.count_nil]
   refine OD.times bw ?_
   rw [e2,show ask n (pb w) P none s = (0,0) by simp [ask]]
   exact OL.nil
  ·rw [e,List.map_nil] at hf
   exact absurd rfl hf.2.ne
 obtain ⟨b,eb⟩ : ∃ b,bxa w none st = some b:=by
  cases z : bxa w none st with
  | none=>rw [z] at bx; exact absurd bx e
  | some b=>exact ⟨b,rfl⟩
 by_cases c1 : pb w = st
 ·obtain ⟨k,hk,o⟩:=zx3 (w:=w) (n:=n) (pen:=P) (s:=s) (K:=0) (λ pen hp'=>⟨0,Nat.le_refl _,ow0 h hd hp' hs⟩) a1 ll (rngI (ask n (pb w) P (bxa w none st) s)) λ i hi=>by
    have:=wc2 hi
    have:=@zl5 n (pb w) P (bxa w none st) s n0
    omega
  refine ⟨k,?_,λ _=>?_,λ f _ h=>absurd c1 h⟩
  ·have:=OD.times bw o
   rw [zr2 hp (wj0 w) (xi0 w) bx n0] at this
   simp only [strk]
   rw [xy0 _ hp]
   exact this
  ·rw [xd2,c1,show ask n st P (bxa w none st) s = (0,lo1 n 1) by unfold ask; rw [if_neg (by rw [eb]; intro h; cases h),if_pos rfl]] at hk
   have : lo1 n 1 <= 1:=by unfold lo1; split <;> omega
   dsimp only at hk
   omega
 ·obtain ⟨f,ef⟩ : ∃ f,bfr P (some b) = some f:=⟨_,rfl⟩
  have mem : ∀ i,i ∈ rngI (ask n (pb w) P (bxa w none st) s) -> (0 <= i /\ i < n) /\ inb s (bfr (led P (rep (pb w) i)) (bxa w none st)) = true:=λ i hi=>by
   have m:=wc2 hi
   rw [eb] at m ⊢
   obtain ⟨m1,m2,m3⟩:=(zk4 hp c1 h0 ef).mp m
   refine ⟨m1,?_⟩
   rw [show rep (pb w) i = ((pb w).1 * i,(pb w).2.1 * i,0) by unfold rep; rw [if_pos h0],zp1 hp h0 i ef]
   exact inb_iff.mpr ⟨m2.1,m3.1,m2.2,m3.2⟩
  have o:=yx7 (w:=w) (n:=n) (pen:=P) (s:=s) (λ pen hp'=>ow0 h hd hp' hs) ll (rngI (ask n (pb w) P (bxa w none st) s)) (λ i hi=>by have:=(mem i hi).1; omega) (λ i hi=>(mem i hi).2)
  refine ⟨(rngI (ask n (pb w) P (bxa w none st) s)).length,?_,?_,λ f' hf' _=>?_⟩
  ·have:=OD.times bw o
   rw [zr2 hp (wj0 w) (xi0 w) bx n0] at this
   simp only [strk]
   rw [xy0 _ hp]
   exact this
  ·rintro (z | z)
   ·exact absurd z e
   ·exact absurd z c1
  ·have ff : f' = f:=by
     have:=hf'.unique (IsBox.fr hp (xi0 w) bx)
     rw [eb,ef] at this
     cases this; rfl
   subst ff
   rw [xd2,eb]
   have:=xl3 (a:=(ask n (pb w) P (some b) s).1) (b:=(ask n (pb w) P (some b) s).2) (lo:=(yr0 f' s (dX P (pb w)) (dY P (pb w)) n).1) (hi:=(yr0 f' s (dX P (pb w)) (dY P (pb w)) n).2) λ i=>by
    rw [zk4 hp c1 h0 ef,wz3]
   rw [<- this]
   omega
theorem xm5 (f g : Nat -> Nat) : ∀ n,Sn (λ i=>f i + g i) n = Sn f n + Sn g n
 | 0=>rfl
 | n + 1=>by simp only [Sn,xm5 f g n]; omega
theorem zz2 {f g : Nat -> Nat} : ∀ n,(∀ i,i < n -> f i = g i) -> Sn f n = Sn g n
 | 0,_=>rfl
 | n + 1,h=>by simp only [Sn]; rw [zz2 n λ i hi=>h i (by omega),h n (by omega)]
theorem wl5 {f : Nat -> Nat} (k : Nat) (h : ∀ i,i ≠ k -> f i = 0) : ∀ n,Sn f n = if k < n then f k else 0
 | 0=>by simp [Sn]
 | n + 1=>by
  simp only [Sn]
  rw [wl5 k h n]
  by_cases c : n = k
  ·subst c
   rw [if_neg (by omega),if_pos (by omega)]; omega
  ·rw [h n c]
   by_cases d : k < n
   ·rw [if_pos d,if_pos (by omega)]
    rfl
   ·rw [if_neg d,if_neg (by omega)]
noncomputable def hit (sx sy : Int) (l t : Stk) (i : Nat) : Nat:=if mvd (i * sx) (i * sy) t = l then 1 else 0
theorem hit_iff {sx sy : Int} {l t : Stk} {i : Nat} : mvd (i * sx) (i * sy) t = l ↔ t.2.2 = l.2.2 /\ i * sx = l.1 - t.1 /\ i * sy = l.2.1 - t.2.1:=by
 obtain ⟨a,b,c⟩:=t
 obtain ⟨d,e,f⟩:=l
 simp only [mvd,Prod.mk.injEq]
 constructor
 ·rintro ⟨h1,h2,h3⟩; exact ⟨h3,by omega,by omega⟩
 ·rintro ⟨h1,h2,h3⟩; exact ⟨by omega,by omega,h1⟩
theorem yc6 (sx sy : Int) (n : Int) (n0 : 0 <= n) (l t : Stk) : of1 sx sy n l t = (Sn (hit sx sy l t) n.toNat : Nat):=by
 unfold of1
 by_cases c : t.2.2 = l.2.2
 ·rw [if_pos c]
  by_cases z : sx = 0 /\ sy = 0
  ·obtain ⟨rfl,rfl⟩:=z
   rw [show of2 0 0 n (ofk 0 0 (l.1 - t.1) (l.2.1 - t.2.1)) (l.1 - t.1) (l.2.1 - t.2.1) = 0 by unfold of2; rw [if_neg (λ h=>h.1 ⟨rfl,rfl⟩)],Int.add_zero]
   by_cases d : l.1 - t.1 = 0 /\ l.2.1 - t.2.1 = 0
   ·rw [if_pos ⟨⟨rfl,rfl⟩,d⟩]
    rw [wt0 (c:=1) λ i=>by unfold hit; rw [if_pos (hit_iff.mpr ⟨c,by rw [Int.mul_zero]; omega,by rw [Int.mul_zero]; omega⟩)]]
    omega
   ·rw [if_neg (λ h=>d h.2)]
    rw [wt0 (c:=0) λ i=>by
     unfold hit
     rw [if_neg]
     intro h
     have:=hit_iff.mp h
     rw [Int.mul_zero] at this
     omega]
    rfl
  ·rw [if_neg (λ h=>z h.1),Int.zero_add]
   have uniq : ∀ i : Int,i * sx = l.1 - t.1 -> i * sy = l.2.1 - t.2.1 -> i = ofk sx sy (l.1 - t.1) (l.2.1 - t.2.1):=λ i h1 h2=>by
    unfold ofk
    by_cases d : sx = 0
    ·have d2 : sy ≠ 0:=λ h=>z ⟨d,h⟩
     rw [if_neg (λ h=>h d),if_pos d2,<- h2,Int.mul_fdiv_cancel i d2]
    ·rw [if_pos d,<- h1,Int.mul_fdiv_cancel i d]
   generalize ofk sx sy (l.1 - t.1) (l.2.1 - t.2.1) = k at uniq
   unfold of2
   by_cases d : (¬ (sx = 0 /\ sy = 0)) /\ (k * sx = l.1 - t.1 /\ k * sy = l.2.1 - t.2.1) /\ 0 <= k /\ k < n
   ·rw [if_pos d]
    have kk : ((k.toNat : Nat) : Int) = k:=by omega
    rw [wl5 k.toNat λ i hi=>by
     unfold hit
     rw [if_neg]
     intro h
     have h':=hit_iff.mp h
     have:=uniq i h'.2.1 h'.2.2
     omega]
    rw [if_pos (by omega)]
    unfold hit
    rw [if_pos (hit_iff.mpr ⟨c,by rw [kk]; exact d.2.1.1,by rw [kk]; exact d.2.1.2⟩)]
    rfl
   ·rw [if_neg d]
    have : Sn (hit sx sy l t) n.toNat = Sn (λ _=>0) n.toNat:=zz2 _ λ i hi=>by
     unfold hit
     rw [if_neg]
     intro h
     have h':=hit_iff.mp h
     have e:=uniq i h'.2.1 h'.2.2
     refine d ⟨z,?_,by omega,by omega⟩
     rw [<- e]
     exact h'.2
    rw [this,wt0 (c:=0) λ _=>rfl]
    rfl
 ·rw [if_neg c]
  rw [wt0 (c:=0) λ i=>by
   unfold hit
   rw [if_neg]
   intro h
   exact c (hit_iff.mp h).1]
  rfl
theorem xy3 (sx sy : Int) (n : Int) (n0 : 0 <= n) (l : Stk) : ∀ L : List Stk,ofs sx sy n l L = (Sn (λ i=>(L.map (mvd (i * sx) (i * sy))).count l) n.toNat : Nat)
 | []=>by
  rw [wt0 (c:=0) λ i=>by simp]
  rfl
 | t :: r=>by
  simp only [ofs]
  rw [yc6 sx sy n n0,xy3 sx sy n n0 l r]
  have : (λ i : Nat=>((t :: r).map (mvd (i * sx) (i * sy))).count l) = λ i=>hit sx sy l t i + (r.map (mvd (i * sx) (i * sy))).count l:=by
   funext i
   rw [List.map_cons,List.count_cons]
   unfold hit
   by_cases c : mvd (i * sx) (i * sy) t = l
   ·rw [if_pos c,if_pos (by simpa using c)]; omega
   ·rw [if_neg c,if_neg (by simpa using c)]; omega
  rw [this,xm5]
  omega
theorem zb8 {Ls : List (List Stk)} {os : List (Option Bx)} {o : Option Bx} (H1 : ∀ o ∈ os,∃ L ∈ Ls,IsBox L o) (H2 : ∀ L ∈ Ls,∃ o ∈ os,IsBox L o) (j : Jn os o) : IsBox Ls.flatten o:=by
 cases o with
 | none =>
  show Ls.flatten = []
  rw [List.flatten_eq_nil_iff]
  intro L hL
  obtain ⟨o,ho,b⟩:=H2 L hL
  rw [j o ho] at b
  exact b
 | some b =>
  obtain ⟨j0,⟨c1,m1,e1⟩,⟨c2,m2,e2⟩,⟨c3',m3,e3⟩,⟨c4,m4,e4⟩⟩:=j
  refine ⟨λ s hs=>?_,?_,?_,?_,?_⟩
  ·obtain ⟨L,hL,hs⟩:=List.mem_flatten.mp hs
   obtain ⟨o,ho,bo⟩:=H2 L hL
   cases o with
   | none=>rw [show L = [] from bo] at hs; cases hs
   | some c =>
    have i:=bo.1 s hs
    have k:=j0 c ho
    unfold Inb at i ⊢
    omega
  ·obtain ⟨L,hL,bL⟩:=H1 _ m1
   obtain ⟨s,hs,e⟩:=bL.2.1
   exact ⟨s,List.mem_flatten.mpr ⟨L,hL,hs⟩,by omega⟩
  ·obtain ⟨L,hL,bL⟩:=H1 _ m2
   obtain ⟨s,hs,e⟩:=bL.2.2.1
   exact ⟨s,List.mem_flatten.mpr ⟨L,hL,hs⟩,by omega⟩
  ·obtain ⟨L,hL,bL⟩:=H1 _ m3
   obtain ⟨s,hs,e⟩:=bL.2.2.2.1
   exact ⟨s,List.mem_flatten.mpr ⟨L,hL,hs⟩,by omega⟩
  ·obtain ⟨L,hL,bL⟩:=H1 _ m4
   obtain ⟨s,hs,e⟩:=bL.2.2.2.2
   exact ⟨s,List.mem_flatten.mpr ⟨L,hL,hs⟩,by omega⟩
theorem betw {a : Int} {k m : Int} (h0 : 0 <= k) (h : k <= m) : (0 <= k * a /\ k * a <= m * a) \/ (m * a <= k * a /\ k * a <= 0):=by
 rcases Int.le_total 0 a with c | c
 ·exact .inl ⟨Int.mul_nonneg h0 c,Int.mul_le_mul_of_nonneg_right h c⟩
 ·exact .inr ⟨Int.mul_le_mul_of_nonpos_right h c,Int.mul_nonpos_of_nonneg_of_nonpos h0 c⟩
theorem zo6 {l : List Stk} {P p : Pen} (hp : Hd P) (h0 : p.2.2 = 0) (n : Nat) (s : Stk) : s ∈ (tms l p n).map (mvS P) ↔ ∃ k : Nat,k < n /\ s ∈ (l.map (mvS P)).map (mvd (k * dX P p) (k * dY P p)):=by
 unfold tms
 constructor
 ·intro h
  obtain ⟨t,ht,rfl⟩:=List.mem_map.mp h
  obtain ⟨k,hk,ht⟩:=List.mem_flatMap.mp ht
  refine ⟨k,List.mem_range.mp hk,?_⟩
  rw [<- mv_i hp h0,yl0 hp (yn1 _ _)]
  exact List.mem_map.mpr ⟨t,ht,rfl⟩
 ·rintro ⟨k,hk,h⟩
  rw [<- mv_i hp h0,yl0 hp (yn1 _ _)] at h
  obtain ⟨t,ht,rfl⟩:=List.mem_map.mp h
  exact List.mem_map.mpr ⟨t,List.mem_flatMap.mpr ⟨k,List.mem_range.mpr hk,ht⟩,rfl⟩
theorem hull {A B l : List Stk} {P p : Pen} {n : Int} {o : Option Bx} (hp : Hd P) (h0 : p.2.2 = 0) (n0 : 0 < n) (h : IsBox [A,l.map (mvS P),(l.map (mvS P)).map (mvd ((n - 1) * dX P p) ((n - 1) * dY P p)),B].flatten o) : IsBox (A ++ (tms l p n.toNat).map (mvS P) ++ B) o:=by
 have key:=@zo6 l P p hp h0 n.toNat
 generalize (tms l p n.toNat).map (mvS P) = T at key
 generalize l.map (mvS P) = O at h key
 simp only [List.flatten_cons,List.flatten_nil,List.append_nil] at h
 have nn : (((n - 1).toNat : Nat) : Int) = n - 1:=by omega
 have mv0 : O.map (mvd (((0 : Nat) : Int) * dX P p) (((0 : Nat) : Int) * dY P p)) = O:=by
  have : mvd (((0 : Nat) : Int) * dX P p) (((0 : Nat) : Int) * dY P p) = id:=by
   funext s
   obtain ⟨a,b,c⟩:=s
   simp [mvd]
  rw [this,List.map_id]
 cases o with
 | none =>
  obtain ⟨e1,e2⟩:=List.append_eq_nil_iff.mp (show A ++ (O ++ (O.map (mvd ((n - 1) * dX P p) ((n - 1) * dY P p)) ++ B)) = [] from h)
  obtain ⟨e3,e4⟩:=List.append_eq_nil_iff.mp e2
  obtain ⟨e5,e6⟩:=List.append_eq_nil_iff.mp e4
  show A ++ T ++ B = []
  have eT : T = []:=by
   cases T with
   | nil=>rfl
   | cons s r =>
    obtain ⟨k,_,h⟩:=(key s).mp (List.mem_cons_self ..)
    rw [e3] at h
    cases h
  rw [e1,eT,e6]; rfl
 | some b =>
  obtain ⟨i1,t1⟩:=h
  refine ⟨λ s hs=>?_,t1.mono λ s hs=>?_⟩
  ·rcases List.mem_append.mp hs with hs | hs
   ·rcases List.mem_append.mp hs with hs | hs
    ·exact i1 s (List.mem_append_left _ hs)
    ·obtain ⟨k,hk,hs⟩:=(key s).mp hs
     obtain ⟨t,ht,rfl⟩:=List.mem_map.mp hs
     have a1:=i1 t (List.mem_append_right _ (List.mem_append_left _ ht))
     have a2:=i1 _ (List.mem_append_right _ (List.mem_append_right _ (List.mem_append_left _ (List.mem_map.mpr ⟨t,ht,rfl⟩))))
     have b1:=betw (a:=dX P p) (k:=k) (m:=n - 1) (by omega) (by omega)
     have b2:=betw (a:=dY P p) (k:=k) (m:=n - 1) (by omega) (by omega)
     simp only [mvd,Inb] at a1 a2 ⊢
     omega
   ·exact i1 s (List.mem_append_right _ (List.mem_append_right _ (List.mem_append_right _ hs)))
  ·rcases List.mem_append.mp hs with hs | hs
   ·exact List.mem_append_left _ (List.mem_append_left _ hs)
   rcases List.mem_append.mp hs with hs | hs
   ·exact List.mem_append_left _ (List.mem_append_right _ ((key s).mpr ⟨0,by omega,by rw [mv0]; exact hs⟩))
   rcases List.mem_append.mp hs with hs | hs
   ·exact List.mem_append_left _ (List.mem_append_right _ ((key s).mpr ⟨(n - 1).toNat,by omega,by rw [nn]; exact hs⟩))
   ·exact List.mem_append_right _ hs
noncomputable def pT (s : Stk) : PyData:=.tuple [.int s.1,.int s.2.1,.int s.2.2]
theorem wy2 : ∀ L : List Stk,dats (L.map encS) = some (L.map pT)
 | []=>rfl
 | t :: r=>by simp only [List.map_cons,dats,encS,dat,wy2 r,pT]
theorem ze4 : ∀ L : List Stk,PyData.depthAll (L.map pT) <= 2
 | []=>by simp [PyData.depthAll]
 | t :: r=>by
  have:=ze4 r
  simp only [List.map_cons,PyData.depthAll,pT,PyData.depth]
  omega
theorem ye2 (L : List Stk) : (PyData.list (L.map pT)).depth <= 64:=by
 have:=ze4 L
 simp only [PyData.depth]
 omega
theorem xf4 (s : Stk) : (pT s).depth <= 64:=by simp [pT,PyData.depth,PyData.depthAll]
theorem zd8 (s t : Stk) : PyData.eqv (pT s) (pT t) = decide (s = t):=by
 obtain ⟨a,b,c⟩:=s
 obtain ⟨d,e,f⟩:=t
 have q : ∀ x y : Int,(x == y) = decide (x = y):=λ x y=>by by_cases h : x = y <;> simp [h]
 simp [pT,PyData.eqv,PyData.eqvAll,Bool.and_assoc,q]
theorem cntP (L : List Stk) (s : Stk) : ((L.map pT).countP λ e=>PyData.eqv e (pT s)) = L.count s:=by
 rw [List.countP_map]
 unfold List.count
 apply List.countP_congr
 intro x _
 simp [zd8]
theorem ww2 {f q : Addr} {L : List Stk} {b : Bool} {μ : Mu} {K : VK3} (h1 : μ f = some (.lst (L.map encS))) (h2 : μ q = some (.lst [])) (hb : b = !decide (L = [])) (k : K (.bl b) μ) : neR (.ref f) (.ref q) μ K:=by
 have z1 : datM μ (.ref f) = some (.list (L.map pT)):=by simp only [datM,h1,wy2]
 have z2 : datM μ (.ref q) = some (.list []):=by simp only [datM,h2,dats]
 rw [zy3 rfl z1 z2 (ye2 L) (by simp [PyData.depth,PyData.depthAll])]
 subst hb
 have e : PyData.eqv (.list (L.map pT)) (.list []) = decide (L = []):=by
  cases L <;> simp [PyData.eqv,PyData.eqvAll]
 rw [e]
 exact k
theorem z1 : 1 <= sizeLine:=by decide
theorem z4 : 4 <= sizeLine:=by decide
theorem z7 : 7 <= sizeLine:=by decide
theorem cp9 : CPow 10 9:=⟨by decide,by decide,by decide⟩
theorem cp20 : CPow 10 20:=⟨by decide,by decide,by decide⟩
noncomputable def bx1 (s : Stk) : Bx:=(s.1,s.2.1,s.1 + 1 - s.2.2,s.2.1 + s.2.2)
theorem zi6 (s : Stk) : IsBox [s] (some (bx1 s)):=by
 refine ⟨λ t ht=>?_,⟨s,List.mem_singleton.mpr rfl,rfl⟩,⟨s,List.mem_singleton.mpr rfl,rfl⟩,⟨s,List.mem_singleton.mpr rfl,rfl⟩,⟨s,List.mem_singleton.mpr rfl,rfl⟩⟩
 rw [List.mem_singleton.mp ht]
 exact ⟨Int.le_refl _,Int.le_refl _,Int.le_refl _,Int.le_refl _⟩
noncomputable def bxl : List Stk -> Option Bx
 | []=>none
 | s :: r=>bor (some (bx1 s)) (bxl r)
theorem xg1 : ∀ l,IsBox l (bxl l)
 | []=>rfl
 | s :: r=>(zi6 s).or (xg1 r)
noncomputable def decS (d : D) : Stk:=match d with
 | .tup [.int a,.int b,.int c]=>(a,b,c)
 | _=>(0,0,0)
theorem za5 (l : List Stk) : (l.map encS).map decS = l:=by
 rw [List.map_map]
 have : decS ∘ encS = id:=by funext s; rfl
 rw [this,List.map_id]
noncomputable def fB (μ : Mu) (d : D) : D:=match d with
 | .ref a=>match μ a with
  | some (.lst l)=>encB (bxl (l.map decS))
  | _=>.non
 | _=>.non
theorem zd4 {μ : Mu} {a : Addr} {l : List Stk} (h : μ a = some (.lst (l.map encS))) : fB μ (.ref a) = encB (bxl l):=by
 show (match μ a with | some (.lst l)=>encB (bxl (l.map decS)) | _=>.non) = _
 rw [h]
 dsimp only
 rw [za5]
theorem ww3 {s : Stk} : ∀ (a : List Dd) {b : List Dd} {pen : Pen} {c c' : Int} {k k' : Nat},oks a -> Hd pen -> OW a pen s c k -> OW b (led pen (pb a)) s c' k' -> OW (a ++ b) pen s (c + c') (k + k')
 | [],b,pen,c,c',k,k',_,hp,o,o'=>by
  cases o
  simp only [pb] at o'
  rw [wy0 hp] at o'
  rw [Int.zero_add,Nat.zero_add]
  exact o'
 | d :: a,b,pen,c,c',k,k',h,hp,o,o'=>by
  simp only [oks] at h
  cases o with
  | cons od ow =>
   simp only [pb] at o'
   rw [<- xz0 _ hp (zn1 d h.1)] at o'
   have:=OW.cons od (ww3 a h.2 (yn0 _ _) ow o')
   rw [<- Int.add_assoc,<- Nat.add_assoc] at this
   exact this
structure Gs (w1 w w2 : List Dd) (n : Int) : Prop where
 s1 : sqs w1
 s : sqs w
 s2 : sqs w2
 d1 : deps w1 = 0
 d : deps w = 0
 d2 : deps w2 = 0
 l1 : w1.length <= 2
 l : w.length <= 4
 l2 : w2.length <= 2
 h0 : (pb w).2.2 = 0
 n0 : 0 < n
 n1 : n <= G
noncomputable def Wo (w1 w w2 : List Dd) (n : Int) : List Dd:=w1 ++ [.times n w] ++ w2
section
variable {w1 w w2 : List Dd} {n : Int} (H : Gs w1 w w2 n)
include H
theorem Gs.kt : okd (.times n w):=⟨⟨Int.le_of_lt H.n0,H.n1⟩,(wm0 w H.s).1⟩
theorem Gs.k1 : oks (w1 ++ [.times n w]):=(wl0 _ _).mpr ⟨(wm0 w1 H.s1).1,H.kt,trivial⟩
theorem Gs.pt : pb (w1 ++ [.times n w]) = led (pb w1) (pw (pb w) n.toNat):=by
 rw [zv0 _ _ (wm0 w1 H.s1).1]
 simp only [pb,pd]
 rw [yr1 (wj0 w) (Int.le_of_lt H.n0),wy0 (yn1 _ _)]
theorem Gs.sk : xd0 (Wo w1 w w2 n) = xd0 w1 ++ (tms (xd0 w) (pb w) n.toNat).map (mvS (pb w1)) ++ (xd0 w2).map (mvS (led (pb w1) (pw (pb w) n.toNat))):=by
 unfold Wo
 rw [xk0 _ _ H.k1,xk0 _ _ (wm0 w1 H.s1).1,H.pt]
 simp only [xd0,strk,List.map_nil,List.append_nil]
theorem Gs.wd : Wd (Wo w1 w w2 n):=by
 obtain ⟨a1,a2,a3,a4⟩:=wm0 w1 H.s1
 obtain ⟨b1,b2,b3,b4⟩:=wm0 w H.s
 obtain ⟨c1,c2,c3,c4⟩:=wm0 w2 H.s2
 have e1:=H.d1
 have e:=H.d
 have e2:=H.d2
 rw [e1] at a4
 rw [e] at b4
 rw [e2] at c4
 have l1:=H.l1
 have l:=H.l
 have l2:=H.l2
 refine ⟨(wl0 _ _).mpr ⟨H.k1,c1⟩,?_,?_⟩
 ·unfold Wo
  rw [ys0,ys0]
  simp only [deps,dep]
  omega
 ·unfold Wo
  rw [yf1,yf1]
  simp only [cnts,cnt]
  omega
theorem Gs.oo {s : Stk} (hs : wy s) : ∃ k,OW (Wo w1 w w2 n) st s ((((xd0 w1).count s : Nat) : Int) + (((xd0 w2).map (mvS (led (pb w1) (pw (pb w) n.toNat)))).count s : Nat) + ofs (dX (pb w1) (pb w)) (dY (pb w1) (pb w)) n s ((xd0 w).map (mvS (pb w1)))) k ∧
    ((xd0 w = [] \/ pb w = st) -> k <= 1) /\ ∀ f,IsBox ((xd0 w).map (mvS (pb w1))) (some f) -> pb w ≠ st -> (1000 < k ↔ 1000 <= (yr0 f s (dX (pb w1) (pb w)) (dY (pb w1) (pb w)) n).2 - (yr0 f s (dX (pb w1) (pb w)) (dY (pb w1) (pb w)) n).1):=by
 obtain ⟨k,o,k1,k2⟩:=wu4 (s:=s) H.s H.d H.l H.h0 (Int.le_of_lt H.n0) H.n1 (wj0 w1) hs
 refine ⟨k,?_,k1,k2⟩
 have o1:=ow0 H.s1 H.d1 wi1 hs
 have o3':=ow0 (pen:=led (pb w1) (pw (pb w) n.toNat)) H.s2 H.d2 (yn0 _ _) hs
 have o2 : OW [.times n w] (led st (pb w1)) s _ (k + 0):=OW.cons (r:=[]) (by rw [yq1 (wj0 w1)]; exact o) OW.nil
 have a1:=ww3 w1 (wm0 w1 H.s1).1 wi1 o1 o2
 have a2:=ww3 (w1 ++ [.times n w]) (b:=w2) H.k1 wi1 a1 (by rw [H.pt,yq1 (yn0 _ _)]; exact o3')
 rw [wv0] at a2
 simp only [strk] at a2
 rw [xy0 _ (wj0 w1)] at a2
 have e : (ofs (dX (pb w1) (pb w)) (dY (pb w1) (pb w)) n s ((xd0 w).map (mvS (pb w1)))) = ((Sn (Cn (xd0 w) (pb w1) (pb w) s) n.toNat : Nat) : Int):=by
  rw [xy3 _ _ _ (Int.le_of_lt H.n0)]
  congr 2
  funext i
  unfold Cn
  rw [mv_i (wj0 w1) H.h0]
 rw [show (0 + (k + 0) + 0) = k by omega] at a2
 rw [e,show ∀ a b c : Int,a + b + c = a + (c + 0) + b from λ a b c=>by omega]
 exact a2
theorem Gs.box {o : Option Bx} (j : Jn [bxl (xd0 w1),bxl ((xd0 w).map (mvS (pb w1))),bxl (((xd0 w).map (mvS (pb w1))).map (mvd ((n - 1) * dX (pb w1) (pb w)) ((n - 1) * dY (pb w1) (pb w)))),bxl ((xd0 w2).map (mvS (led (pb w1) (pw (pb w) n.toNat))))] o) : bxa (Wo w1 w w2 n) none st = o:=by
 have b0 : IsBox [xd0 w1,(xd0 w).map (mvS (pb w1)),((xd0 w).map (mvS (pb w1))).map (mvd ((n - 1) * dX (pb w1) (pb w)) ((n - 1) * dY (pb w1) (pb w))),(xd0 w2).map (mvS (led (pb w1) (pw (pb w) n.toNat)))].flatten o:=by
  refine zb8 ?_ ?_ j
  ·intro o ho
   simp only [List.mem_cons,List.not_mem_nil,or_false] at ho
   rcases ho with rfl | rfl | rfl | rfl
   ·exact ⟨_,by simp,xg1 _⟩
   ·exact ⟨_,by simp,xg1 _⟩
   ·exact ⟨((xd0 w).map (mvS (pb w1))).map (mvd ((n - 1) * dX (pb w1) (pb w)) ((n - 1) * dY (pb w1) (pb w))),List.mem_cons_of_mem _ (List.mem_cons_of_mem _ (List.mem_cons_self ..)),xg1 _⟩
   ·exact ⟨_,by simp,xg1 _⟩
  ·intro L hL
   refine ⟨bxl L,?_,xg1 L⟩
   simp only [List.mem_cons,List.not_mem_nil,or_false] at hL
   rcases hL with rfl | rfl | rfl | rfl
   ·exact List.mem_cons_self ..
   ·exact List.mem_cons_of_mem _ (List.mem_cons_self ..)
   ·exact List.mem_cons_of_mem _ (List.mem_cons_of_mem _ (List.mem_cons_self ..))
   ·exact List.mem_cons_of_mem _ (List.mem_cons_of_mem _ (List.mem_cons_of_mem _ (List.mem_cons_self ..)))
 have b1:=hull (wj0 w1) H.h0 H.n0 b0
 rw [<- H.sk] at b1
 exact (wx0 _ H.wd.1).unique b1
theorem Gs.small : ((dX (pb w1) (pb w)).natAbs < 1073741824 /\ (dY (pb w1) (pb w)).natAbs < 1073741824):=by
 have a:=zt2 w H.s
 rw [H.d] at a
 have l:=H.l
 have:=ye4 (P:=pb w1) (wj0 w1) (p:=pb w) (z:=8) (by omega)
 omega
theorem Gs.len : (xd0 w).length <= 8:=by
 have a:=(wm0 w H.s).2.1
 rw [H.d] at a
 have l:=H.l
 omega
end
noncomputable def zo4 : Sp3:=λ ds μ Q=>∃ ns : List Int,ds = [.fls (ns.map D.int)] /\ ns.length <= 63 /\ ∀ μ',Q (.bl true) μ'
section
variable {Q : VK3} (q : ∀ μ',Q (.bl true) μ') {w1 w w2 : List Dd} {n : Int} (H : Gs w1 w w2 n)
include q H
theorem l19 {f1 f2 f3 : Addr} {s : Stk} {c : Int} {o0 o1 o2 o4 o7 o9 o11 o13 o14 o15 o17 o19 o20 ox : Option D} {μ : Mu} {L1 L4 : List Stk} (e1 : μ f1 = some (.lst (L1.map encS))) (e2 : μ f2 = some (.lst (((xd0 w).map (mvS (pb w1))).map encS))) (e3 : μ f3 = some (.lst (L4.map encS)))
    (hc : c = ((L1.count s : Nat) : Int) + (L4.count s : Nat) + ofs (dX (pb w1) (pb w)) (dY (pb w1) (pb w)) n s ((xd0 w).map (mvS (pb w1)))) :
    xg2 (xv1 3) yu0 zw0 wh1 yw0 xw0 ya2 xa2 wq0 xb1 zh1 xu0 ww0 { nx:=λ _ μ'=>Q .non μ',rt:=Q } [o0,o1,o2,ox,o4,some (.int n),some (.ref f1),o7,some (.ref f2),o9,some (.tup [.int (dX (pb w1) (pb w)),.int (dY (pb w1) (pb w))]),o11,some (.ref f3),o13,o14,o15,some (encS s),o17,some (.int c),o19,o20] μ:=by
 have y1 : datM μ (.ref f1) = some (.list (L1.map pT)):=by simp only [datM,e1,wy2]
 have y3 : datM μ (.ref f3) = some (.list (L4.map pT)):=by simp only [datM,e3,wy2]
 have y2 : datM μ (encS s) = some (pT s):=by simp only [encS,datM,dat,dats,pT]
 conv=>whnf
 rw [e1]
 conv=>whnf
 rw [y1,y2]
 refine ⟨⟨ye2 _,xf4 s⟩,?_⟩
 rw [cntP]
 conv=>whnf
 rw [e3]
 conv=>whnf
 rw [y3,y2]
 refine ⟨⟨ye2 _,xf4 s⟩,?_⟩
 rw [cntP]
 refine ⟨f2,(xd0 w).map (mvS (pb w1)),_,_,n,s,rfl,e2,H.small,?_⟩
 refine ⟨c,rfl,?_⟩
 rw [<- hc]
 show Q (.bl (decide (c = c))) μ
 rw [decide_eq_true rfl]
 exact q μ
theorem l18 {f1 f2 f3 : Addr} {s : Stk} {c : Int} {k : Nat} {fd : D} {o0 o1 o2 o4 o7 o9 o11 o13 o14 o15 o17 o20 ox : Option D} {μ : Mu} {L1 L4 : List Stk} (e1 : μ f1 = some (.lst (L1.map encS))) (e2 : μ f2 = some (.lst (((xd0 w).map (mvS (pb w1))).map encS))) (e3 : μ f3 = some (.lst (L4.map encS)))
    (hc : c = ((L1.count s : Nat) : Int) + (L4.count s : Nat) + ofs (dX (pb w1) (pb w)) (dY (pb w1) (pb w)) n s ((xd0 w).map (mvS (pb w1))))
    (k1 : (xd0 w = [] \/ pb w = st) -> k <= 1) (k2 : ∀ f,IsBox ((xd0 w).map (mvS (pb w1))) (some f) -> pb w ≠ st -> (1000 < k ↔ 1000 <= (yr0 f s (dX (pb w1) (pb w)) (dY (pb w1) (pb w)) n).2 - (yr0 f s (dX (pb w1) (pb w)) (dY (pb w1) (pb w)) n).1))
    (hf : (1000 < k /\ ∃ p,fd = .ref p /\ μ p = some (.lst BLr)) \/ (k <= 1000 /\ fd = .int c)) :
    yg2 (xv1 3) yu0 zw0 wh1 yw0 xw0 ya2 xa2 wq0 xb1 zh1 xu0 ww0 { nx:=λ _ μ'=>Q .non μ',rt:=Q } [o0,o1,o2,ox,o4,some (.int n),some (.ref f1),o7,some (.ref f2),o9,some (.tup [.int (dX (pb w1) (pb w)),.int (dY (pb w1) (pb w))]),o11,some (.ref f3),o13,o14,o15,some (encS s),o17,some fd,none,o20] μ:=by
 refine ⟨Nat.zero_le _,λ g hg=>?_⟩
 have x:=Ext.new (o:=.lst []) hg
 have e1':=x _ _ e1
 have e2':=x _ _ e2
 have e3':=x _ _ e3
 have hg' : updM μ g (.lst []) g = some (.lst []):=wb0
 replace hf : (1000 < k /\ ∃ p,fd = .ref p /\ updM μ g (.lst []) p = some (.lst BLr)) \/ (k <= 1000 /\ fd = .int c):=by
  rcases hf with ⟨a,p,b,d⟩ | h
  ·exact .inl ⟨a,p,b,x _ _ d⟩
  ·exact .inr h
 clear e1 e2 e3 x hg
 generalize updM μ g (.lst []) = ν at e1' e2' e3' hg' hf
 by_cases c0 : xd0 w = []
 ·refine ww2 (b:=false) e2' hg' (by simp [c0]) ?_
  rcases hf with ⟨h,_⟩ | ⟨_,rfl⟩
  ·have:=k1 (.inl c0); omega
  ·exact l19 q H e1' e2' e3' hc
 refine ww2 (b:=true) e2' hg' (by simp [c0]) ?_
 refine ⟨z2,?_⟩
 show neR (.tup [.int (dX (pb w1) (pb w)),.int (dY (pb w1) (pb w))]) (.tup [.int 0,.int 0]) ν _
 rw [zx7]
 by_cases c1 : pb w = st
 ·rw [decide_eq_true ((yy2 (wj0 w1) H.h0).mpr c1)]
  rcases hf with ⟨h,_⟩ | ⟨_,rfl⟩
  ·have:=k1 (.inr c1); omega
  ·exact l19 q H e1' e2' e3' hc
 rw [decide_eq_false (λ h=>c1 ((yy2 (wj0 w1) H.h0).mp h))]
 refine ⟨f2,(xd0 w).map (mvS (pb w1)),rfl,e2',by rw [List.length_map]; have:=H.len; omega,xc1 (xi0 w),λ o μ1 x1 bo=>?_⟩
 obtain ⟨f,rfl⟩ : ∃ f,o = some f:=by
  cases o with
  | none=>exact absurd (by simpa using (show (xd0 w).map (mvS (pb w1)) = [] from bo)) c0
  | some f=>exact ⟨f,rfl⟩
 have k3:=k2 f bo c1
 refine ⟨f,s,_,_,n,rfl,H.small,λ μ2 x2=>?_⟩
 have x3:=x1.trans x2
 by_cases cc : 1000 <= (yr0 f s (dX (pb w1) (pb w)) (dY (pb w1) (pb w)) n).2 - (yr0 f s (dX (pb w1) (pb w)) (dY (pb w1) (pb w)) n).1
 ·show if (decide ((1000 : Int) <= (yr0 f s (dX (pb w1) (pb w)) (dY (pb w1) (pb w)) n).2 - (yr0 f s (dX (pb w1) (pb w)) (dY (pb w1) (pb w)) n).1)) = true then _ else _
  rw [if_pos (decide_eq_true cc)]
  rcases hf with ⟨_,p,rfl,ep⟩ | ⟨h,_⟩
  ·refine ⟨z7,λ t ht=>?_⟩
   have ep2:=(Ext.new (o:=.lst BLr) ht) _ _ (x3 _ _ ep)
   have et : updM μ2 t (.lst BLr) t = some (.lst BLr):=wb0
   show eqR (.ref p) (.ref t) (updM μ2 t (.lst BLr)) Q
   generalize updM μ2 t (.lst BLr) = μ3 at ep2 et
   have y1 : datM μ3 (.ref p) = some (.list [.bool false,.bool false,.bool true,.bool false,.bool false,.bool false,.bool true]):=by simp only [datM,ep2,BLr,dats,dat]
   have y2 : datM μ3 (.ref t) = some (.list [.bool false,.bool false,.bool true,.bool false,.bool false,.bool false,.bool true]):=by simp only [datM,et,BLr,dats,dat]
   rw [zl1 rfl y1 y2 (by simp [PyData.depth,PyData.depthAll]) (by simp [PyData.depth,PyData.depthAll])]
   rw [show PyData.eqv (.list [.bool false,.bool false,.bool true,.bool false,.bool false,.bool false,.bool true]) (.list [.bool false,.bool false,.bool true,.bool false,.bool false,.bool false,.bool true]) = true by simp [PyData.eqv,PyData.eqvAll]]
   exact q μ3
  ·have:=k3.mpr cc; omega
 ·show if (decide ((1000 : Int) <= (yr0 f s (dX (pb w1) (pb w)) (dY (pb w1) (pb w)) n).2 - (yr0 f s (dX (pb w1) (pb w)) (dY (pb w1) (pb w)) n).1)) = true then _ else _
  rw [if_neg (λ h=>cc (of_decide_eq_true h))]
  rcases hf with ⟨h,_⟩ | ⟨_,rfl⟩
  ·exact absurd (k3.mp h) cc
  ·exact l19 q H (x3 _ _ e1') (x3 _ _ e2') (x3 _ _ e3') hc
theorem l17 {f1 f2 f3 : Addr} {s : Stk} (hs : wy s) {o0 o1 o2 o4 o7 o9 o11 o14 o15 o17 o20 ox : Option D} {μ : Mu} (e1 : μ f1 = some (.lst ((xd0 w1).map encS))) (e2 : μ f2 = some (.lst (((xd0 w).map (mvS (pb w1))).map encS))) (e3 : μ f3 = some (.lst (((xd0 w2).map (mvS (led (pb w1) (pw (pb w) n.toNat)))).map encS))) :
    zg2 (xv1 3) yu0 zw0 wh1 yw0 xw0 ya2 xa2 wq0 xb1 zh1 xu0 ww0 { nx:=λ _ μ'=>Q .non μ',rt:=Q } [o0,o1,o2,ox,o4,some (.int n),some (.ref f1),o7,some (.ref f2),o9,some (.tup [.int (dX (pb w1) (pb w)),.int (dY (pb w1) (pb w))]),o11,some (.ref f3),some (.tup (encs (Wo w1 w w2 n))),o14,o15,some (encS s),o17,none,none,o20] μ:=by
 obtain ⟨k,o,k1,k2⟩:=H.oo hs
 exact ⟨_,s,_,k,rfl,H.wd,hs,o,λ hh p μ1 x1 ep=>l18 q H (x1 _ _ e1) (x1 _ _ e2) (x1 _ _ e3) rfl k1 k2 (.inl ⟨hh,p,rfl,ep⟩),λ hh μ1 x1=>l18 q H (x1 _ _ e1) (x1 _ _ e2) (x1 _ _ e3) rfl k1 k2 (.inr ⟨hh,rfl⟩)⟩
theorem l14 {p f1 f2 f3 : Addr} {a b : Int} {o0 o2 o4 o9 o11 o14 o20 ox : Option D} {μ : Mu} (hp : μ p = some (.lst [.int a,.int b])) (a0 : 0 <= a) (p1 : p ≠ f1) (p2 : p ≠ f2) (p3 : p ≠ f3) (e1 : μ f1 = some (.lst ((xd0 w1).map encS))) (e2 : μ f2 = some (.lst (((xd0 w).map (mvS (pb w1))).map encS))) (e3 : μ f3 = some (.lst (((xd0 w2).map (mvS (led (pb w1) (pw (pb w) n.toNat)))).map encS))) :
    wg2 (xv1 3) yu0 zw0 wh1 yw0 xw0 ya2 xa2 wq0 xb1 zh1 xu0 ww0 { nx:=λ _ μ'=>Q .non μ',rt:=Q } [o0,some (.ref p),o2,ox,o4,some (.int n),some (.ref f1),some (encP (pb w1)),some (.ref f2),o9,some (.tup [.int (dX (pb w1) (pb w)),.int (dY (pb w1) (pb w))]),o11,some (.ref f3),some (.tup (encs (Wo w1 w w2 n))),o14,none,none,none,none,none,o20] μ:=by
 have sm:=H.small
 have mx' : -(2 ^ 64) < dX (pb w1) (pb w) /\ dX (pb w1) (pb w) < 2 ^ 64:=by omega
 have my' : -(2 ^ 64) < dY (pb w1) (pb w) /\ dY (pb w1) (pb w) < 2 ^ 64:=by omega
 refine ⟨⟨by decide,by decide⟩,?_⟩
 refine ⟨p,3,a,b,rfl,by decide,by decide,hp,a0,λ v a1 b1 v0 v1 a1n=>?_⟩
 have up : ∀ {μ : Mu} {o : MO},(μ f1 = some (.lst ((xd0 w1).map encS)) /\ μ f2 = some (.lst (((xd0 w).map (mvS (pb w1))).map encS)) /\ μ f3 = some (.lst (((xd0 w2).map (mvS (led (pb w1) (pw (pb w) n.toNat)))).map encS))) -> (updM μ p o f1 = some (.lst ((xd0 w1).map encS)) /\ updM μ p o f2 = some (.lst (((xd0 w).map (mvS (pb w1))).map encS)) /\ updM μ p o f3 = some (.lst (((xd0 w2).map (mvS (led (pb w1) (pw (pb w) n.toNat)))).map encS))):=λ h=>by
  rw [ye0 (Ne.symm p1),ye0 (Ne.symm p2),ye0 (Ne.symm p3)]; exact h
 have un : ∀ {μ : Mu} {o : MO} {t : Addr},μ t = none -> (μ f1 = some (.lst ((xd0 w1).map encS)) /\ μ f2 = some (.lst (((xd0 w).map (mvS (pb w1))).map encS)) /\ μ f3 = some (.lst (((xd0 w2).map (mvS (led (pb w1) (pw (pb w) n.toNat)))).map encS))) -> (updM μ t o f1 = some (.lst ((xd0 w1).map encS)) /\ updM μ t o f2 = some (.lst (((xd0 w).map (mvS (pb w1))).map encS)) /\ updM μ t o f3 = some (.lst (((xd0 w2).map (mvS (led (pb w1) (pw (pb w) n.toNat)))).map encS))):=λ ht h=>by
  rw [ye0 (yg0 h.1 ht),ye0 (yg0 h.2.1 ht),ye0 (yg0 h.2.2 ht)]; exact h
 have E1:=up (o:=.lst [.int a1,.int b1]) ⟨e1,e2,e3⟩
 have P1 : updM μ p (.lst [.int a1,.int b1]) p = some (.lst [.int a1,.int b1]):=wb0
 generalize updM μ p (.lst [.int a1,.int b1]) = μ1 at E1 P1
 refine ⟨z4,λ t ht=>?_⟩
 have E2:=un (o:=.lst [.int 0,.int (n - 1),.int (n / 2),.int v]) ht E1
 have pt : p ≠ t:=yg0 P1 ht
 have P2 : updM μ1 t (.lst [.int 0,.int (n - 1),.int (n / 2),.int v]) p = some (.lst [.int a1,.int b1]):=by rw [ye0 pt]; exact P1
 have T2 : updM μ1 t (.lst [.int 0,.int (n - 1),.int (n / 2),.int v]) t = some (.lst [.int 0,.int (n - 1),.int (n / 2),.int v]):=wb0
 generalize updM μ1 t (.lst [.int 0,.int (n - 1),.int (n / 2),.int v]) = μ2 at E2 P2 T2
 refine ⟨p,4,a1,b1,rfl,by decide,by decide,P2,a1n,λ i a2 b2 i0 i1 a2n=>?_⟩
 obtain ⟨d,hd,ed⟩:=yz2 (l:=[D.int 0,D.int (n - 1),D.int (n / 2),D.int v]) (i:=i) i0 i1
 obtain ⟨k,rfl⟩ : ∃ k : Int,d = .int k:=by
  simp only [List.mem_cons,List.not_mem_nil,or_false] at hd
  rcases hd with rfl | rfl | rfl | rfl <;> exact ⟨_,rfl⟩
 refine xb4 (by rw [ye0 (Ne.symm pt)]; exact T2) ed ?_
 have E3:=up (o:=.lst [.int a2,.int b2]) E2
 have P3 : updM μ2 p (.lst [.int a2,.int b2]) p = some (.lst [.int a2,.int b2]):=wb0
 generalize updM μ2 p (.lst [.int a2,.int b2]) = μ3 at E3 P3
 refine ⟨.inl (.inr mx'),p,3,a2,b2,rfl,by decide,by decide,P3,a2n,λ u a3 b3 u0 u1 a3n=>?_⟩
 have E4:=up (o:=.lst [.int a3,.int b3]) E3
 have P4 : updM μ3 p (.lst [.int a3,.int b3]) p = some (.lst [.int a3,.int b3]):=wb0
 generalize updM μ3 p (.lst [.int a3,.int b3]) = μ4 at E4 P4
 refine ⟨.inl (.inr my'),p,2,a3,b3,rfl,by decide,by decide,P4,a3n,λ y a4 b4 y0 y1 a4n=>?_⟩
 have E5:=up (o:=.lst [.int a4,.int b4]) E4
 have P5 : updM μ4 p (.lst [.int a4,.int b4]) p = some (.lst [.int a4,.int b4]):=wb0
 generalize updM μ4 p (.lst [.int a4,.int b4]) = μ5 at E5 P5
 refine ⟨z3,?_⟩
 have hy : wy ((pb w1).1 + k * dX (pb w1) (pb w) + u - 1,(pb w1).2.1 + k * dY (pb w1) (pb w),y):=by show y = 0 \/ y = 1; omega
 refine ⟨Nat.zero_le _,λ g hg=>?_⟩
 have E6:=un (o:=.lst []) hg E5
 have P6 : updM μ5 g (.lst []) p = some (.lst [.int a4,.int b4]):=by rw [ye0 (yg0 P5 hg)]; exact P5
 have G6 : updM μ5 g (.lst []) g = some (.lst []):=wb0
 generalize updM μ5 g (.lst []) = μ6 at E6 P6 G6
 by_cases c0 : xd0 w = []
 ·refine ww2 (b:=false) E6.2.1 G6 (by simp [c0]) ?_
  exact l17 q H (s:=((pb w1).1 + k * dX (pb w1) (pb w) + u - 1,(pb w1).2.1 + k * dY (pb w1) (pb w),y)) hy E6.1 E6.2.1 E6.2.2
 refine ww2 (b:=true) E6.2.1 G6 (by simp [c0]) ?_
 refine ⟨p,3,a4,b4,rfl,by decide,by decide,P6,a4n,λ x a5 b5 x0 x1 a5n=>?_⟩
 have E7:=up (o:=.lst [.int a5,.int b5]) E6
 have P7 : updM μ6 p (.lst [.int a5,.int b5]) p = some (.lst [.int a5,.int b5]):=wb0
 generalize updM μ6 p (.lst [.int a5,.int b5]) = μ7 at E7 P7
 by_cases cv : 0 < x
 ·show if (decide (0 < x)) = true then _ else _
  rw [if_pos (decide_eq_true cv)]
  have E7':=E7.2.1
  conv=>whnf
  rw [E7']
  have lp : 0 < (xd0 w).length:=List.length_pos_iff.mpr c0
  have ll:=H.len
  refine ⟨p,_,a5,b5,rfl,by rw [List.length_map,List.length_map]; omega,by rw [List.length_map,List.length_map]; omega,P7,a5n,λ j a6 b6 j0 j1 a6n=>?_⟩
  obtain ⟨d,hd,ej⟩:=yz2 (l:=((xd0 w).map (mvS (pb w1))).map encS) j0 j1
  obtain ⟨t',ht',rfl⟩:=List.mem_map.mp hd
  have ws:=xc1 (p:=pb w1) (xi0 w) t' ht'
  have E8:=up (o:=.lst [.int a6,.int b6]) E7
  generalize updM μ7 p (.lst [.int a6,.int b6]) = μ8 at E8
  refine xb4 E8.2.1 ej ?_
  refine ⟨.inl (.inr mx'),.inl (.inr my'),z3,?_⟩
  exact l17 q H (s:=(t'.1 + k * dX (pb w1) (pb w),t'.2.1 + k * dY (pb w1) (pb w),t'.2.2)) ws E8.1 E8.2.1 E8.2.2
 ·show if (decide (0 < x)) = true then _ else _
  rw [if_neg (λ h=>cv (of_decide_eq_true h))]
  exact l17 q H (s:=((pb w1).1 + k * dX (pb w1) (pb w) + u - 1,(pb w1).2.1 + k * dY (pb w1) (pb w),y)) hy E7.1 E7.2.1 E7.2.2
theorem l9 {p f1 f2 : Addr} {a b : Int} {o0 o9 : Option D} {sx sy : Int} (ex : sx = dX (pb w1) (pb w)) (ey : sy = dY (pb w1) (pb w)) {μ : Mu} (hp : μ p = some (.lst [.int a,.int b])) (a0 : 0 <= a) (p1 : p ≠ f1) (p2 : p ≠ f2) (e1 : μ f1 = some (.lst ((xd0 w1).map encS))) (e2 : μ f2 = some (.lst (((xd0 w).map (mvS (pb w1))).map encS))) :
    zs2 (xv1 3) yu0 zw0 wh1 yw0 xw0 ya2 xa2 wq0 xb1 zh1 xu0 ww0 { nx:=λ _ μ'=>Q .non μ',rt:=Q } [o0,some (.ref p),some (.tup (encs w1)),some (.tup (encs w)),some (.tup (encs w2)),some (.int n),some (.ref f1),some (encP (pb w1)),some (.ref f2),o9,some (.tup [.int sx,.int sy]),none,none,none,none,none,none,none,none,none,none] μ:=by
 subst ex ey
 have hz : (1000 : Nat) < sizeLine:=by decide
 have sm:=H.small
 have mx' : -(2 ^ 64) < dX (pb w1) (pb w) /\ dX (pb w1) (pb w) < 2 ^ 64:=by omega
 have my' : -(2 ^ 64) < dY (pb w1) (pb w) /\ dY (pb w1) (pb w) < 2 ^ 64:=by omega
 refine ⟨.inl (.inr mx'),.inl (.inr my'),z2,?_⟩
 refine ⟨.inl (.inr mx'),.inl (.inr my'),z3,?_⟩
 obtain ⟨c1,c2,c3',c4⟩:=wm0 w2 H.s2
 obtain ⟨d1,d2,d3,d4⟩:=wm0 w1 H.s1
 rw [H.d2] at c2 c3'
 have l2:=H.l2
 have l1:=H.l1
 have l:=H.l
 have ll:=H.len
 have eP : ((pb w1).1 + n * dX (pb w1) (pb w),(pb w1).2.1 + n * dY (pb w1) (pb w),(pb w1).2.2) = led (pb w1) (pw (pb w) n.toNat):=by
  rw [wk1 H.h0,wj5 (wj0 w1),Int.toNat_of_nonneg (Int.le_of_lt H.n0)]
 refine ⟨w2,((pb w1).1 + n * dX (pb w1) (pb w),(pb w1).2.1 + n * dY (pb w1) (pb w),(pb w1).2.2),rfl,wj0 w1,by rw [H.d2]; omega,by omega,by omega,c1,zw1 w2 H.s2,λ f3 μ1 x1 hf3 e3=>?_⟩
 rw [eP] at e3
 have e1:=x1 _ _ e1
 have e2:=x1 _ _ e2
 have p3 : p ≠ f3:=yg0 hp hf3
 have hp:=x1 _ _ hp
 refine ⟨z3,z1,by rw [yi0]; show w1.length + 1 <= sizeLine; omega,by rw [List.length_append,yi0,yi0]; show w1.length + 1 + w2.length <= sizeLine; omega,?_⟩
 have eW : encs w1 ++ [.tup [.str "times",.int n,.tup (encs w)]] ++ encs w2 = encs (Wo w1 w w2 n):=by
  unfold Wo
  rw [zx0,zx0]
  rfl
 rw [eW]
 refine ⟨f2,(xd0 w).map (mvS (pb w1)),_,_,rfl,e2,by rw [List.length_map]; omega,λ g μ2 x2 eg=>?_⟩
 have e1:=x2 _ _ e1
 have e2:=x2 _ _ e2
 have e3:=x2 _ _ e3
 have hp:=x2 _ _ hp
 refine ⟨z4,λ t ht=>?_⟩
 have x3:=Ext.new (o:=.lst [.ref f1,.ref f2,.ref g,.ref f3]) ht
 have e1:=x3 _ _ e1
 have e2:=x3 _ _ e2
 have e3:=x3 _ _ e3
 have eg:=x3 _ _ eg
 have hp:=x3 _ _ hp
 have et : updM μ2 t (.lst [.ref f1,.ref f2,.ref g,.ref f3]) t = some (.lst [.ref f1,.ref f2,.ref g,.ref f3]):=wb0
 generalize updM μ2 t (.lst [.ref f1,.ref f2,.ref g,.ref f3]) = μ3 at e1 e2 e3 eg hp et
 conv=>whnf
 rw [et]
 intro r hr
 refine ya1 (rest:=[]) (fB μ3) hr (show 4 <= sizeLine by decide) (λ μ' e=>e _ _ et) ?_ ?_
 ·intro d hd μ' R ex k
  simp only [List.mem_cons,List.not_mem_nil,or_false] at hd
  have one : ∀ (a : Addr) (L : List Stk),μ3 a = some (.lst (L.map encS)) -> L.length <= 1000 -> wys L -> (∀ μ2,Ext μ' μ2 -> R (fB μ3 (.ref a)) μ2) -> yu0 [.ref a] μ' R:=λ a L ea hl hw kk=>by
   rw [zd4 ea] at kk
   exact ⟨a,L,rfl,ex _ _ ea,hl,hw,λ o μ2 x2 bo=>by rw [bo.unique (xg1 L)]; exact kk μ2 x2⟩
  have sl1 : (xd0 w1).length <= 1000:=by rw [H.d1] at d2; omega
  have wm : wys (((xd0 w).map (mvS (pb w1))).map (mvd ((n - 1) * dX (pb w1) (pb w)) ((n - 1) * dY (pb w1) (pb w)))):=λ s hs=>by
   obtain ⟨t,ht,rfl⟩:=List.mem_map.mp hs
   exact xc1 (p:=pb w1) (xi0 w) t ht
  rcases hd with rfl | rfl | rfl | rfl
  ·exact one f1 _ e1 sl1 (xi0 w1) k
  ·exact one f2 _ e2 (by rw [List.length_map]; omega) (xc1 (xi0 w)) k
  ·exact one g _ eg (by rw [List.length_map,List.length_map]; omega) wm k
  ·exact one f3 _ e3 (by rw [List.length_map]; omega) (xc1 (xi0 w2)) k
 ·intro μ4 x4 e4
  have em : List.map (fB μ3) [.ref f1,.ref f2,.ref g,.ref f3] = [bxl (xd0 w1),bxl ((xd0 w).map (mvS (pb w1))),bxl (((xd0 w).map (mvS (pb w1))).map (mvd ((n - 1) * dX (pb w1) (pb w)) ((n - 1) * dY (pb w1) (pb w)))),bxl ((xd0 w2).map (mvS (led (pb w1) (pw (pb w) n.toNat))))].map encB:=by
   simp only [List.map_cons,List.map_nil]
   rw [zd4 e1,zd4 e2,zd4 eg,zd4 e3]
  rw [em] at e4
  refine ⟨r,_,rfl,e4,by simp,λ o μ5 x5 jn=>?_⟩
  have be:=H.box jn
  refine ⟨Wo w1 w w2 n,rfl,H.wd,λ μ6 x6=>?_⟩
  rw [be]
  refine ⟨o,rfl,λ μ7 x7=>?_⟩
  have x8:=x4.trans (x5.trans (x6.trans x7))
  exact l14 q H (x8 _ _ hp) a0 p1 p2 p3 (x8 _ _ e1) (x8 _ _ e2) (x8 _ _ e3)
end
theorem wr8 {i : Int} (h0 : 0 <= i) (h1 : i < 4) : ∃ M : Int,atI [D.int 5,D.int 2000,D.int (10 ^ (9 : Int).toNat),D.int (10 ^ (20 : Int).toNat - 1)] i = some (.int M) /\ 0 < M /\ M <= 99999999999999999999:=by
 obtain ⟨d,hd,e⟩:=yz2 (l:=[D.int 5,D.int 2000,D.int (10 ^ (9 : Int).toNat),D.int (10 ^ (20 : Int).toNat - 1)]) (i:=i) h0 h1
 simp only [List.mem_cons,List.not_mem_nil,or_false] at hd
 rcases hd with rfl | rfl | rfl | rfl
 ·exact ⟨_,e,by decide,by decide⟩
 ·exact ⟨_,e,by decide,by decide⟩
 ·exact ⟨_,e,by decide,by decide⟩
 ·exact ⟨_,e,by decide,by decide⟩
theorem turned (w : List Dd) (h : oks w) : (pb (w ++ [.turn (0 - (led st (pb w)).2.2)])).2.2 = 0:=by
 rw [yq1 (wj0 w),zv0 _ _ h]
 have hp:=wj0 w
 generalize pb w = p at hp
 show (p.2.2 + ((0 - p.2.2) % 4 + 0) % 4) % 4 = 0
 rcases hp with h | h | h | h <;> rw [h] <;> decide
theorem l5 {Q : VK3} (q : ∀ μ',Q (.bl true) μ') {w1 w w2 : List Dd} (H0 : ∀ n,0 < n -> n <= G -> Gs w1 w w2 n) {p : Addr} {a6 b6 : Int} {o0 : Option D} {μ4 : Mu} (p4 : μ4 p = some (.lst [.int a6,.int b6])) (u3 : 0 <= a6) :
    ws2 (xv1 3) yu0 zw0 wh1 yw0 xw0 ya2 xa2 wq0 xb1 zh1 xu0 ww0 { nx:=λ _ μ'=>Q .non μ',rt:=Q } [o0,some (.ref p),some (.tup (encs w1)),some (.tup (encs w)),some (.tup (encs w2)),none,none,none,none,none,none,none,none,none,none,none,none,none,none,none,none] μ4:=by
 refine ⟨cp9,cp20,z4,λ t ht=>?_⟩
 have pt : p ≠ t:=yg0 p4 ht
 refine ⟨p,4,a6,b6,rfl,by decide,by decide,by rw [ye0 pt]; exact p4,u3,λ i a7 b7 i0 i1 a7n=>?_⟩
 obtain ⟨M,eM,M0,M1⟩:=wr8 i0 i1
 refine xb4 (by rw [ye0 (Ne.symm pt),wb0]) eM ?_
 refine ⟨p,M,a7,b7,rfl,M0,by omega,wb0,a7n,λ one a8 b8 o0 o1 a8n=>?_⟩
 have p8 : updM (updM (updM μ4 t (.lst [D.int 5,D.int 2000,D.int (10 ^ (9 : Int).toNat),D.int (10 ^ (20 : Int).toNat - 1)])) p (.lst [.int a7,.int b7])) p (.lst [.int a8,.int b8]) p = some (.lst [.int a8,.int b8]):=wb0
 generalize updM (updM (updM μ4 t (.lst [D.int 5,D.int 2000,D.int (10 ^ (9 : Int).toNat),D.int (10 ^ (20 : Int).toNat - 1)])) p (.lst [.int a7,.int b7])) p (.lst [.int a8,.int b8]) = μ8 at p8
 have H : Gs w1 w w2 (1 + one):=H0 _ (by omega) (by unfold G; omega)
 have x4:=H.s1
 have sw:=H.s
 have dw:=H.d
 have lw:=H.l
 obtain ⟨d1,d2,d3,d4⟩:=wm0 w1 x4
 obtain ⟨g1,g2,g3,g4⟩:=wm0 w sw
 rw [H.d1] at d2 d3
 rw [dw] at g2 g3
 have l1:=H.l1
 refine ⟨z3,w1,st,rfl,wi1,by rw [H.d1]; omega,by omega,by omega,d1,zw1 w1 x4,λ f1 μ9 v2 hf1 e1=>⟨rfl,?_⟩⟩
 rw [wv0] at e1
 have p1 : p ≠ f1:=yg0 p8 hf1
 have p9:=v2 _ _ p8
 rw [yq1 (wj0 w1)]
 refine ⟨w,pb w1,rfl,wj0 w1,by rw [dw]; omega,by omega,by omega,g1,zw1 w sw,λ f2 μ10 v3' hf2 e2=>⟨rfl,?_⟩⟩
 have p2 : p ≠ f2:=yg0 p9 hf2
 have p10:=v3' _ _ p9
 have e1:=v3' _ _ e1
 exact ⟨z2,l9 q H dxy.1 dxy.2 p10 a8n p1 p2 e1 e2⟩
theorem wi7 (ds : List D) (μ : Mu) (Q : VK3) (h : zo4 ds μ Q) : yq6 (xv1 3) yu0 zw0 wh1 yw0 xw0 ya2 xa2 wq0 xb1 zh1 xu0 ww0 { nx:=λ _ μ'=>Q .non μ',rt:=Q } (start3 xl6 ds) μ:=by
 obtain ⟨ns,rfl,hl,q⟩:=h
 have hz : (1000 : Nat) < sizeLine:=by decide
 refine ⟨ns,0,rfl,by decide,λ a b p ha hp=>?_⟩
 refine ⟨p,3,a,b,rfl,by decide,by decide,wb0,ha,λ m a1 b1 m1 m2 a1n=>?_⟩
 refine ⟨p,0,m,rfl,by decide,by decide,m1,by omega,a1,b1,wb0,a1n,λ w1 a2 b2 μ1 x1 x2 x3 x4 x5 x6=>?_⟩
 refine ⟨p,3,a2,b2,rfl,by decide,by decide,x2,x3,λ m' a3 b3 m3 m4 a3n=>?_⟩
 refine ⟨p,0,1 + m',rfl,by decide,by decide,by omega,by omega,a3,b3,wb0,a3n,λ w0 a4 b4 μ2 y1 y2 y3 y4 y5 y6=>?_⟩
 refine ⟨p,3,a4,b4,rfl,by decide,by decide,y2,y3,λ m'' a5 b5 m5 m6 a5n=>?_⟩
 refine ⟨p,0,m'',rfl,by decide,by decide,m5,by omega,a5,b5,wb0,a5n,λ w2 a6 b6 μ3 u1 u2 u3 u4 u5 u6=>?_⟩
 obtain ⟨c1,c2,c3',c4⟩:=wm0 w0 y4
 have d0 : deps w0 = 0:=by omega
 rw [d0] at c2 c3'
 refine ⟨z3,w0,st,rfl,wi1,by omega,by omega,by omega,c1,zw1 w0 y4,λ f0 μ4 v1 _ _=>?_⟩
 have p4:=v1 _ _ u2
 refine ⟨z2,z1,by rw [yi0]; show w0.length + 1 <= sizeLine; omega,?_⟩
 have eW : encs w0 ++ [.tup [.str "turn",.int (0 - (led st (pb w0)).2.2)]] = encs (w0 ++ [Dd.turn (0 - (led st (pb w0)).2.2)]):=by
  rw [zx0]
  rfl
 rw [eW]
 have hh:=turned w0 c1
 have sw : sqs (w0 ++ [Dd.turn (0 - (led st (pb w0)).2.2)]):=by
  rw [xk1]
  simp only [sqs,sq]
  have:=yn0 st (pb w0)
  unfold Hd at this
  exact ⟨y4,by omega,trivial⟩
 have dw : deps (w0 ++ [Dd.turn (0 - (led st (pb w0)).2.2)]) = 0:=by
  rw [ys0]
  simp only [deps,dep]
  omega
 have lw : (w0 ++ [Dd.turn (0 - (led st (pb w0)).2.2)]).length <= 4:=by
  rw [List.length_append]
  simp only [List.length_cons,List.length_nil]
  omega
 generalize w0 ++ [Dd.turn (0 - (led st (pb w0)).2.2)] = w at hh sw dw lw
 exact l5 q (λ n n0 n1=>⟨x4,sw,u4,by omega,dw,by omega,by omega,lw,by omega,hh,n0,n1⟩) p4 u3
end Pv
namespace Pv
open PySem PySem.Spec PyProof.Rows L2
section
variable {P : Program} {w : World} {K : Fg} {mg : Str -> Option Value} {base : Heap}
theorem yw6 : FnScope xf5 ["word"] (wa0 we3):=⟨rfl,rfl,rfl,by decide +kernel,rfl,by decide +kernel,by decide +kernel⟩
theorem yc7 {k : Nat} {f : Addr} {cdv : Value} {A : Around} {outer : List Env} {s : Shared} {H : Hp} {E : XK} {sp_q22 : Sp3} {k_q22 : Nat} (c_q22 : Cal P w K mg base k_q22 "checked_count" ["word", "depth"] sp_q22) (l_q22 : k_q22 <= k) (hr : Room k (A.deeper (envOfC "check_word" (wa0 we3) s.heap.objs.size f cdv))) :
    RSs (cxOf CX0 P w K mg base xf5 "check_word" (wa0 we3) f cdv A outer s H E).nox (yd0 we3) (wo5 sp_q22) :=
 (zb0 (wu0 (yc0 (c_q22.mono l_q22) hr (xa0 (ya0 0) (xa0 za0 yb0)))))
theorem sc_q22 : FnScope we5 ["word", "depth"] (wa0 ze3):=⟨rfl,rfl,rfl,by decide +kernel,rfl,by decide +kernel,by decide +kernel⟩
theorem xc7 {k : Nat} {f : Addr} {cdv : Value} {A : Around} {outer : List Env} {s : Shared} {H : Hp} {E : XK} {sp_q23 : Sp3} {k_q23 : Nat} (c_q23 : Cal P w K mg base k_q23 "checked_deed_count" ["deed", "depth"] sp_q23) (l_q23 : k_q23 <= k) (z_isinstance : mg "isinstance" = none) (z_tuple : mg "tuple" = none) (g_MOST_DEEDS : Gd K mg "MOST_DEEDS" zz0) (g_MOST_DEEP : Gd K mg "MOST_DEEP" we1) (hr : Room k (A.deeper (envOfC "checked_count" (wa0 ze3) s.heap.objs.size f cdv))) :
    RSs (cxOf CX0 P w K mg base we5 "checked_count" (wa0 ze3) f cdv A outer s H E).nox (yd0 ze3) (zo5 sp_q23) :=
 (xb0 (wg0 (yh2 (xx1 (xe0 xi3 z_isinstance wi0 (xa0 (ya0 0) (xa0 (wh3 z_tuple yp1) yb0))))) (zb0 xr0) wd0) (xb0 (wg0 (ze0 q_gt (ya0 1) (re_g g_MOST_DEEP)) (zb0 xr0) wd0) (xb0 (wc0 (i:=2) sc_q22.nd za0) (xb0 (xv0 PassesOwn.never rfl (wn0 (ya0 0)) (we0 (i:=3) sc_q22.nd) (xb0 (wc0 (i:=2) sc_q22.nd (zc0 yh0 (ya0 2) (yc0 (c_q23.mono l_q23) hr (xa0 (ya0 3) (xa0 (ya0 1) yb0))))) (zb0 (wg0 (ze0 q_gt (ya0 2) (re_g g_MOST_DEEDS)) (zb0 xr0) wd0)))) (zb0 (zd0 (ya0 2)))))))
theorem xw6 : FnScope xm6 ["deed", "depth"] (wa0 ye3):=⟨rfl,rfl,rfl,by decide +kernel,rfl,by decide +kernel,by decide +kernel⟩
theorem wb7 {k : Nat} {f : Addr} {cdv : Value} {A : Around} {outer : List Env} {s : Shared} {H : Hp} {E : XK} {sp_q19 : Sp3} {k_q19 : Nat} (c_q19 : Cal P w K mg base k_q19 "check_number" ["kind", "number"] sp_q19) (l_q19 : k_q19 <= k) {sp_q22 : Sp3} {k_q22 : Nat} (c_q22 : Cal P w K mg base k_q22 "checked_count" ["word", "depth"] sp_q22) (l_q22 : k_q22 <= k) (z_isinstance : mg "isinstance" = none) (z_len : mg "len" = none) (z_tuple : mg "tuple" = none) (g_PLAIN_KINDS : Gd K mg "PLAIN_KINDS" yx0) (hr : Room k (A.deeper (envOfC "checked_deed_count" (wa0 ye3) s.heap.objs.size f cdv))) :
    RSs (cxOf CX0 P w K mg base xm6 "checked_deed_count" (wa0 ye3) f cdv A outer s H E).nox (yd0 ye3) (yr6 sp_q19 sp_q22) :=
 (xb0 (wg0 (yh2 (xx1 (xe0 xi3 z_isinstance wi0 (xa0 (ya0 0) (xa0 (wh3 z_tuple yp1) yb0))))) (zb0 xr0) wd0) (xb0 (wg0 (zm1 (yy0 (ze0 (q_eq (hu64 hr)) (xe0 xt3 z_len zl2 (xa0 (ya0 0) yb0)) za0) (zu0 (ze0 (q_in (hu65 hr)) (xc0 q_ix (ya0 0) za0) (re_g g_PLAIN_KINDS))))) (xb0 (wu0 (yc0 (c_q19.mono l_q19) hr (xa0 (xc0 q_ix (ya0 0) za0) (xa0 (xc0 q_ix (ya0 0) za0) yb0)))) (zb0 (zd0 za0))) wd0) (xb0 (wg0 (zm1 (yy0 (ze0 (q_eq (hu64 hr)) (xe0 xt3 z_len zl2 (xa0 (ya0 0) yb0)) za0) (zu0 (ze0 (q_eq (hu64 hr)) (xc0 q_ix (ya0 0) za0) yq0)))) (xb0 (wu0 (yc0 (c_q19.mono l_q19) hr (xa0 (xc0 q_ix (ya0 0) za0) (xa0 (xc0 q_ix (ya0 0) za0) yb0)))) (zb0 (zd0 (zc0 yh0 za0 (yc0 (c_q22.mono l_q22) hr (xa0 (xc0 q_ix (ya0 0) za0) (xa0 (zc0 yh0 (ya0 1) za0) yb0))))))) wd0) (zb0 xr0))))
theorem ww6 : FnScope yf5 ["kind", "number"] (wa0 yf3):=⟨rfl,rfl,rfl,by decide +kernel,rfl,by decide +kernel,by decide +kernel⟩
theorem wc7 {k : Nat} {f : Addr} {cdv : Value} {A : Around} {outer : List Env} {s : Shared} {H : Hp} {E : XK} (z_abs : mg "abs" = none) (z_int : mg "int" = none) (z_isinstance : mg "isinstance" = none) (g_GREATEST_NUMBER : Gd K mg "GREATEST_NUMBER" wo0) (g_KINDS_FROM_NOUGHT : Gd K mg "KINDS_FROM_NOUGHT" zl0) (hr : Room k (A.deeper (envOfC "check_number" (wa0 yf3) s.heap.objs.size f cdv))) :
    RSs (cxOf CX0 P w K mg base yf5 "check_number" (wa0 yf3) f cdv A outer s H E).nox (yd0 yf3) (xp5) :=
 (xb0 (wg0 (yh2 (xx1 (xe0 xi3 z_isinstance wi0 (xa0 (ya0 1) (xa0 (wh3 z_int wi4) yb0))))) (zb0 xr0) wd0) (xb0 (wg0 (ze0 q_gt (xe0 zq8 z_abs we8 (xa0 (ya0 1) yb0)) (re_g g_GREATEST_NUMBER)) (zb0 xr0) wd0) (zb0 (wg0 (zm1 (yy0 (ze0 q_lt (ya0 1) za0) (zu0 (ze0 (q_in (hu65 hr)) (ya0 0) (re_g g_KINDS_FROM_NOUGHT))))) (zb0 xr0) wd0))))
theorem sc_q30 : FnScope wk6 ["pen", "part"] (wa0 wc3):=⟨rfl,rfl,rfl,by decide +kernel,rfl,by decide +kernel,by decide +kernel⟩
theorem xa7 {k : Nat} {f : Addr} {cdv : Value} {A : Around} {outer : List Env} {s : Shared} {H : Hp} {E : XK} (g_AHEAD : Gd K mg "AHEAD" yd2) (hr : Room k (A.deeper (envOfC "led" (wa0 wc3) s.heap.objs.size f cdv))) :
    RSs (cxOf CX0 P w K mg base wk6 "led" (wa0 wc3) f cdv A outer s H E).nox (yd0 wc3) (xq6) :=
 (xb0 (wc0 (i:=2) sc_q30.nd (xc0 q_ix (re_g g_AHEAD) (xc0 q_ix (ya0 0) za0))) (xb0 (wc0 (i:=3) sc_q30.nd (zc0 yk0 (zc0 yh0 (xc0 q_ix (ya0 0) za0) (zc0 xq0 (xc0 q_ix (ya0 1) za0) (xc0 q_ix (ya0 2) za0))) (zc0 xq0 (xc0 q_ix (ya0 1) za0) (xc0 q_ix (ya0 2) za0)))) (xb0 (wc0 (i:=4) sc_q30.nd (zc0 yh0 (zc0 yh0 (xc0 q_ix (ya0 0) za0) (zc0 xq0 (xc0 q_ix (ya0 1) za0) (xc0 q_ix (ya0 2) za0))) (zc0 xq0 (xc0 q_ix (ya0 1) za0) (xc0 q_ix (ya0 2) za0)))) (zb0 (zd0 (xf0 (xa0 (ya0 3) (xa0 (ya0 4) (xa0 (zc0 wr1 (zc0 yh0 (xc0 q_ix (ya0 0) za0) (xc0 q_ix (ya0 1) za0)) za0) yb0)))))))))
theorem sc_q35 : FnScope wj6 ["word"] (wa0 zb3):=⟨rfl,rfl,rfl,by decide +kernel,rfl,by decide +kernel,by decide +kernel⟩
theorem wy6 {k : Nat} {f : Addr} {cdv : Value} {A : Around} {outer : List Env} {s : Shared} {H : Hp} {E : XK} {sp_q30 : Sp3} {k_q30 : Nat} (c_q30 : Cal P w K mg base k_q30 "led" ["pen", "part"] sp_q30) (l_q30 : k_q30 <= k) {sp_q36 : Sp3} {k_q36 : Nat} (c_q36 : Cal P w K mg base k_q36 "pen_behind_deed" ["deed"] sp_q36) (l_q36 : k_q36 <= k) (g_START : Gd K mg "START" xn0) (hr : Room k (A.deeper (envOfC "pen_behind" (wa0 zb3) s.heap.objs.size f cdv))) :
    RSs (cxOf CX0 P w K mg base wj6 "pen_behind" (wa0 zb3) f cdv A outer s H E).nox (yd0 zb3) (xp6 sp_q30 sp_q36) :=
 (xb0 (wc0 (i:=1) sc_q35.nd (re_g g_START)) (xb0 (xv0 PassesOwn.never rfl (wn0 (ya0 0)) (we0 (i:=2) sc_q35.nd) (zb0 (wc0 (i:=1) sc_q35.nd (yc0 (c_q30.mono l_q30) hr (xa0 (ya0 1) (xa0 (yc0 (c_q36.mono l_q36) hr (xa0 (ya0 2) yb0)) yb0)))))) (zb0 (zd0 (ya0 1)))))
theorem yu6 : FnScope zj6 ["deed"] (wa0 yb3):=⟨rfl,rfl,rfl,by decide +kernel,rfl,by decide +kernel,by decide +kernel⟩
theorem zy6 {k : Nat} {f : Addr} {cdv : Value} {A : Around} {outer : List Env} {s : Shared} {H : Hp} {E : XK} {sp_q35 : Sp3} {k_q35 : Nat} (c_q35 : Cal P w K mg base k_q35 "pen_behind" ["word"] sp_q35) (l_q35 : k_q35 <= k) {sp_q37 : Sp3} {k_q37 : Nat} (c_q37 : Cal P w K mg base k_q37 "pen_repeated" ["part", "number"] sp_q37) (l_q37 : k_q37 <= k) (hr : Room k (A.deeper (envOfC "pen_behind_deed" (wa0 yb3) s.heap.objs.size f cdv))) :
    RSs (cxOf CX0 P w K mg base zj6 "pen_behind_deed" (wa0 yb3) f cdv A outer s H E).nox (yd0 yb3) (wo6 sp_q35 sp_q37) :=
 (xb0 (wg0 (ze0 (q_eq (hu64 hr)) (xc0 q_ix (ya0 0) za0) yq0) (zb0 (zd0 (xf0 (xa0 za0 (xa0 za0 (xa0 (zc0 wr1 (xc0 q_ix (ya0 0) za0) za0) yb0)))))) wd0) (xb0 (wg0 (ze0 (q_eq (hu64 hr)) (xc0 q_ix (ya0 0) za0) yq0) (zb0 (zd0 (yc0 (c_q37.mono l_q37) hr (xa0 (yc0 (c_q35.mono l_q35) hr (xa0 (xc0 q_ix (ya0 0) za0) yb0)) (xa0 (xc0 q_ix (ya0 0) za0) yb0))))) wd0) (zb0 (zd0 (xf0 (xa0 (xc0 q_ix (ya0 0) za0) (xa0 za0 (xa0 za0 yb0))))))))
theorem sc_q37 : FnScope wd5 ["part", "number"] (wa0 xb3):=⟨rfl,rfl,rfl,by decide +kernel,rfl,by decide +kernel,by decide +kernel⟩
theorem yy6 {k : Nat} {f : Addr} {cdv : Value} {A : Around} {outer : List Env} {s : Shared} {H : Hp} {E : XK} {sp_q30 : Sp3} {k_q30 : Nat} (c_q30 : Cal P w K mg base k_q30 "led" ["pen", "part"] sp_q30) (l_q30 : k_q30 <= k) (z_range : mg "range" = none) (g_START : Gd K mg "START" xn0) (hr : Room k (A.deeper (envOfC "pen_repeated" (wa0 xb3) s.heap.objs.size f cdv))) :
    RSs (cxOf CX0 P w K mg base wd5 "pen_repeated" (wa0 xb3) f cdv A outer s H E).nox (yd0 xb3) (zn5 sp_q30) :=
 (xb0 (wg0 (ze0 (q_eq (hu64 hr)) (xc0 q_ix (ya0 0) za0) za0) (zb0 (zd0 (xf0 (xa0 (zc0 xq0 (xc0 q_ix (ya0 0) za0) (ya0 1)) (xa0 (zc0 xq0 (xc0 q_ix (ya0 0) za0) (ya0 1)) (xa0 za0 yb0)))))) wd0) (xb0 (wc0 (i:=2) sc_q37.nd (re_g g_START)) (xb0 (xv0 PassesOwn.never rfl (yv0 z_range (zc0 wr1 (ya0 1) za0)) (we0 (i:=3) sc_q37.nd) (zb0 (wc0 (i:=2) sc_q37.nd (yc0 (c_q30.mono l_q30) hr (xa0 (ya0 2) (xa0 (ya0 0) yb0)))))) (zb0 (zd0 (ya0 2))))))
theorem zw6 : FnScope yl4 ["stroke"] (wa0 xf3):=⟨rfl,rfl,rfl,by decide +kernel,rfl,by decide +kernel,by decide +kernel⟩
theorem zc7 {k : Nat} {f : Addr} {cdv : Value} {A : Around} {outer : List Env} {s : Shared} {H : Hp} {E : XK} (z_len : mg "len" = none) (g_WAYS : Gd K mg "WAYS" xj2) (hr : Room k (A.deeper (envOfC "check_stroke" (wa0 xf3) s.heap.objs.size f cdv))) :
    RSs (cxOf CX0 P w K mg base yl4 "check_stroke" (wa0 xf3) f cdv A outer s H E).nox (yd0 xf3) (zm4) :=
 (zb0 (wg0 (zm1 (zx6 (ze0 (q_ne (hu64 hr)) (xe0 xt3 z_len zl2 (xa0 (ya0 0) yb0)) za0) (zh5 (ze0 (wv5 (hu65 hr)) (xc0 q_ix (ya0 0) za0) (re_g g_WAYS))))) (zb0 xr0) wd0))
theorem xv6 : FnScope yl6 ["stroke"] (wa0 xd3):=⟨rfl,rfl,rfl,by decide +kernel,rfl,by decide +kernel,by decide +kernel⟩
theorem za7 {k : Nat} {f : Addr} {cdv : Value} {A : Around} {outer : List Env} {s : Shared} {H : Hp} {E : XK} (hr : Room k (A.deeper (envOfC "ends_of" (wa0 xd3) s.heap.objs.size f cdv))) :
    RSs (cxOf CX0 P w K mg base yl6 "ends_of" (wa0 xd3) f cdv A outer s H E).nox (yd0 xd3) (zq6) :=
 (xb0 (wg0 (ze0 (q_eq (hu64 hr)) (xc0 q_ix (ya0 0) za0) za0) (zb0 (zd0 (xf0 (xa0 (xf0 (xa0 (xc0 q_ix (ya0 0) za0) (xa0 (xc0 q_ix (ya0 0) za0) yb0))) (xa0 (xf0 (xa0 (zc0 yh0 (xc0 q_ix (ya0 0) za0) za0) (xa0 (xc0 q_ix (ya0 0) za0) yb0))) yb0))))) wd0) (zb0 (zd0 (xf0 (xa0 (xf0 (xa0 (xc0 q_ix (ya0 0) za0) (xa0 (xc0 q_ix (ya0 0) za0) yb0))) (xa0 (xf0 (xa0 (xc0 q_ix (ya0 0) za0) (xa0 (zc0 yh0 (xc0 q_ix (ya0 0) za0) za0) yb0))) yb0))))))
theorem xx6 : FnScope wf5 ["word"] (wa0 xg3):=⟨rfl,rfl,rfl,by decide +kernel,rfl,by decide +kernel,by decide +kernel⟩
theorem zd7 {k : Nat} {f : Addr} {cdv : Value} {A : Around} {outer : List Env} {s : Shared} {H : Hp} {E : XK} {sp_q21 : Sp3} {k_q21 : Nat} (c_q21 : Cal P w K mg base k_q21 "check_word" ["word"] sp_q21) (l_q21 : k_q21 <= k) {sp_q39 : Sp3} {k_q39 : Nat} (c_q39 : Cal P w K mg base k_q39 "word_box" ["word"] sp_q39) (l_q39 : k_q39 <= k) (hr : Room k (A.deeper (envOfC "box_of" (wa0 xg3) s.heap.objs.size f cdv))) :
    RSs (cxOf CX0 P w K mg base wf5 "box_of" (wa0 xg3) f cdv A outer s H E).nox (yd0 xg3) (zp5 sp_q21 sp_q39) :=
 (xb0 (wu0 (yc0 (c_q21.mono l_q21) hr (xa0 (ya0 0) yb0))) (zb0 (zd0 (yc0 (c_q39.mono l_q39) hr (xa0 (ya0 0) yb0)))))
theorem sc_q39 : FnScope yd5 ["word"] (wa0 za3):=⟨rfl,rfl,rfl,by decide +kernel,rfl,by decide +kernel,by decide +kernel⟩
theorem wx6 {k : Nat} {f : Addr} {cdv : Value} {A : Around} {outer : List Env} {s : Shared} {H : Hp} {E : XK} {sp_q15 : Sp3} {k_q15 : Nat} (c_q15 : Cal P w K mg base k_q15 "box_from" ["pen", "box"] sp_q15) (l_q15 : k_q15 <= k) {sp_q18 : Sp3} {k_q18 : Nat} (c_q18 : Cal P w K mg base k_q18 "box_round" ["one", "other"] sp_q18) (l_q18 : k_q18 <= k) {sp_q24 : Sp3} {k_q24 : Nat} (c_q24 : Cal P w K mg base k_q24 "deed_box" ["deed"] sp_q24) (l_q24 : k_q24 <= k) {sp_q30 : Sp3} {k_q30 : Nat} (c_q30 : Cal P w K mg base k_q30 "led" ["pen", "part"] sp_q30) (l_q30 : k_q30 <= k) {sp_q36 : Sp3} {k_q36 : Nat} (c_q36 : Cal P w K mg base k_q36 "pen_behind_deed" ["deed"] sp_q36) (l_q36 : k_q36 <= k) (g_START : Gd K mg "START" xn0) (hr : Room k (A.deeper (envOfC "word_box" (wa0 za3) s.heap.objs.size f cdv))) :
    RSs (cxOf CX0 P w K mg base yd5 "word_box" (wa0 za3) f cdv A outer s H E).nox (yd0 za3) (xn5 sp_q15 sp_q18 sp_q24 sp_q30 sp_q36) :=
 (xb0 (wc0 (i:=1) sc_q39.nd xo0) (xb0 (wc0 (i:=2) sc_q39.nd (re_g g_START)) (xb0 (xv0 PassesOwn.never rfl (wn0 (ya0 0)) (we0 (i:=3) sc_q39.nd) (xb0 (wc0 (i:=1) sc_q39.nd (yc0 (c_q18.mono l_q18) hr (xa0 (ya0 1) (xa0 (yc0 (c_q15.mono l_q15) hr (xa0 (ya0 2) (xa0 (yc0 (c_q24.mono l_q24) hr (xa0 (ya0 3) yb0)) yb0))) yb0)))) (zb0 (wc0 (i:=2) sc_q39.nd (yc0 (c_q30.mono l_q30) hr (xa0 (ya0 2) (xa0 (yc0 (c_q36.mono l_q36) hr (xa0 (ya0 3) yb0)) yb0))))))) (zb0 (zd0 (ya0 1))))))
theorem wv6 : FnScope ze5 ["deed"] (wa0 xe3):=⟨rfl,rfl,rfl,by decide +kernel,rfl,by decide +kernel,by decide +kernel⟩
theorem zb7 {k : Nat} {f : Addr} {cdv : Value} {A : Around} {outer : List Env} {s : Shared} {H : Hp} {E : XK} {sp_q17 : Sp3} {k_q17 : Nat} (c_q17 : Cal P w K mg base k_q17 "box_repeated" ["box", "part", "number"] sp_q17) (l_q17 : k_q17 <= k) {sp_q35 : Sp3} {k_q35 : Nat} (c_q35 : Cal P w K mg base k_q35 "pen_behind" ["word"] sp_q35) (l_q35 : k_q35 <= k) {sp_q39 : Sp3} {k_q39 : Nat} (c_q39 : Cal P w K mg base k_q39 "word_box" ["word"] sp_q39) (l_q39 : k_q39 <= k) (hr : Room k (A.deeper (envOfC "deed_box" (wa0 xe3) s.heap.objs.size f cdv))) :
    RSs (cxOf CX0 P w K mg base ze5 "deed_box" (wa0 xe3) f cdv A outer s H E).nox (yd0 xe3) (yo5 sp_q17 sp_q35 sp_q39) :=
 (xb0 (wg0 (ze0 (q_eq (hu64 hr)) (xc0 q_ix (ya0 0) za0) za0) (zb0 (zd0 xo0)) wd0) (xb0 (wg0 (ze0 (q_eq (hu64 hr)) (xc0 q_ix (ya0 0) za0) yq0) (zb0 (zd0 (xf0 (xa0 za0 (xa0 za0 (xa0 (xc0 q_ix (ya0 0) za0) (xa0 za0 yb0))))))) wd0) (xb0 (wg0 (ze0 (q_eq (hu64 hr)) (xc0 q_ix (ya0 0) za0) yq0) (zb0 (zd0 (yc0 (c_q17.mono l_q17) hr (xa0 (yc0 (c_q39.mono l_q39) hr (xa0 (xc0 q_ix (ya0 0) za0) yb0)) (xa0 (yc0 (c_q35.mono l_q35) hr (xa0 (xc0 q_ix (ya0 0) za0) yb0)) (xa0 (xc0 q_ix (ya0 0) za0) yb0)))))) wd0) (zb0 (zd0 xo0)))))
theorem sc_q17 : FnScope zf5 ["box", "part", "number"] (wa0 wf3):=⟨rfl,rfl,rfl,by decide +kernel,rfl,by decide +kernel,by decide +kernel⟩
theorem yd7 {k : Nat} {f : Addr} {cdv : Value} {A : Around} {outer : List Env} {s : Shared} {H : Hp} {E : XK} {sp_q15 : Sp3} {k_q15 : Nat} (c_q15 : Cal P w K mg base k_q15 "box_from" ["pen", "box"] sp_q15) (l_q15 : k_q15 <= k) {sp_q18 : Sp3} {k_q18 : Nat} (c_q18 : Cal P w K mg base k_q18 "box_round" ["one", "other"] sp_q18) (l_q18 : k_q18 <= k) {sp_q34 : Sp3} {k_q34 : Nat} (c_q34 : Cal P w K mg base k_q34 "outermost_doings" ["part", "number"] sp_q34) (l_q34 : k_q34 <= k) {sp_q37 : Sp3} {k_q37 : Nat} (c_q37 : Cal P w K mg base k_q37 "pen_repeated" ["part", "number"] sp_q37) (l_q37 : k_q37 <= k) (hr : Room k (A.deeper (envOfC "box_repeated" (wa0 wf3) s.heap.objs.size f cdv))) :
    RSs (cxOf CX0 P w K mg base zf5 "box_repeated" (wa0 wf3) f cdv A outer s H E).nox (yd0 wf3) (yp5 sp_q15 sp_q18 sp_q34 sp_q37) :=
 (xb0 (wc0 (i:=3) sc_q17.nd xo0) (xb0 (xv0 PassesOwn.never rfl (wn0 (yc0 (c_q34.mono l_q34) hr (xa0 (ya0 1) (xa0 (ya0 2) yb0)))) (we0 (i:=4) sc_q17.nd) (zb0 (wc0 (i:=3) sc_q17.nd (yc0 (c_q18.mono l_q18) hr (xa0 (ya0 3) (xa0 (yc0 (c_q15.mono l_q15) hr (xa0 (yc0 (c_q37.mono l_q37) hr (xa0 (ya0 1) (xa0 (ya0 4) yb0))) (xa0 (ya0 0) yb0))) yb0)))))) (zb0 (zd0 (ya0 3)))))
theorem zu6 : FnScope xe5 ["part", "number"] (wa0 wb3):=⟨rfl,rfl,rfl,by decide +kernel,rfl,by decide +kernel,by decide +kernel⟩
theorem xz6 {k : Nat} {f : Addr} {cdv : Value} {A : Around} {outer : List Env} {s : Shared} {H : Hp} {E : XK} (z_list : mg "list" = none) (z_min : mg "min" = none) (z_range : mg "range" = none) (hr : Room k (A.deeper (envOfC "outermost_doings" (wa0 wb3) s.heap.objs.size f cdv))) :
    RSs (cxOf CX0 P w K mg base xe5 "outermost_doings" (wa0 wb3) f cdv A outer s H E).nox (yd0 wb3) (wn5) :=
 (xb0 (wg0 (ze0 (q_eq (hu64 hr)) (xc0 q_ix (ya0 0) za0) za0) (zb0 (zd0 (yp0 (xa0 za0 (xa0 (zc0 yk0 (ya0 1) za0) yb0))))) wd0) (zb0 (zd0 (zu5 (xe0 (zt0 rfl) z_min zq0 (xa0 (ya0 1) (xa0 za0 yb0))) z_list z_range))))
theorem sc_q18 : FnScope ym6 ["one", "other"] (wa0 zf3):=⟨rfl,rfl,rfl,by decide +kernel,rfl,by decide +kernel,by decide +kernel⟩
theorem xd7 {k : Nat} {f : Addr} {cdv : Value} {A : Around} {outer : List Env} {s : Shared} {H : Hp} {E : XK} (z_max : mg "max" = none) (z_min : mg "min" = none) (hr : Room k (A.deeper (envOfC "box_round" (wa0 zf3) s.heap.objs.size f cdv))) :
    RSs (cxOf CX0 P w K mg base ym6 "box_round" (wa0 zf3) f cdv A outer s H E).nox (yd0 zf3) (zr6) :=
 (xb0 (wg0 (ze0 wb2 (ya0 0) xo0) (zb0 (zd0 (ya0 1))) wd0) (xb0 (wg0 (ze0 wb2 (ya0 1) xo0) (zb0 (zd0 (ya0 0))) wd0) (xb0 (wc0 (i:=2) sc_q18.nd (xf0 (xa0 (xe0 (zt0 rfl) z_min zq0 (xa0 (xc0 q_ix (ya0 0) za0) (xa0 (xc0 q_ix (ya0 1) za0) yb0))) (xa0 (xe0 (zt0 rfl) z_min zq0 (xa0 (xc0 q_ix (ya0 0) za0) (xa0 (xc0 q_ix (ya0 1) za0) yb0))) yb0)))) (zb0 (zd0 (zc0 yh0 (ya0 2) (xf0 (xa0 (xe0 (zb2 rfl) z_max wz0 (xa0 (xc0 q_ix (ya0 0) za0) (xa0 (xc0 q_ix (ya0 1) za0) yb0))) (xa0 (xe0 (zb2 rfl) z_max wz0 (xa0 (xc0 q_ix (ya0 0) za0) (xa0 (xc0 q_ix (ya0 1) za0) yb0))) yb0)))))))))
theorem sc_q15 : FnScope zm6 ["pen", "box"] (wa0 yg3):=⟨rfl,rfl,rfl,by decide +kernel,rfl,by decide +kernel,by decide +kernel⟩
theorem wd7 {k : Nat} {f : Addr} {cdv : Value} {A : Around} {outer : List Env} {s : Shared} {H : Hp} {E : XK} {sp_q30 : Sp3} {k_q30 : Nat} (c_q30 : Cal P w K mg base k_q30 "led" ["pen", "part"] sp_q30) (l_q30 : k_q30 <= k) (z_max : mg "max" = none) (z_min : mg "min" = none) (hr : Room k (A.deeper (envOfC "box_from" (wa0 yg3) s.heap.objs.size f cdv))) :
    RSs (cxOf CX0 P w K mg base zm6 "box_from" (wa0 yg3) f cdv A outer s H E).nox (yd0 yg3) (wr6 sp_q30) :=
 (xb0 (wg0 (ze0 wb2 (ya0 1) xo0) (zb0 (zd0 xo0)) wd0) (xb0 (wc0 (i:=2) sc_q15.nd (yc0 (c_q30.mono l_q30) hr (xa0 (ya0 0) (xa0 (xf0 (xa0 (xc0 q_ix (ya0 1) za0) (xa0 (xc0 q_ix (ya0 1) za0) (xa0 za0 yb0)))) yb0)))) (xb0 (wc0 (i:=3) sc_q15.nd (yc0 (c_q30.mono l_q30) hr (xa0 (ya0 0) (xa0 (xf0 (xa0 (xc0 q_ix (ya0 1) za0) (xa0 (xc0 q_ix (ya0 1) za0) (xa0 za0 yb0)))) yb0)))) (xb0 (wc0 (i:=4) sc_q15.nd (xf0 (xa0 (xe0 (zt0 rfl) z_min zq0 (xa0 (xc0 q_ix (ya0 2) za0) (xa0 (xc0 q_ix (ya0 3) za0) yb0))) (xa0 (xe0 (zt0 rfl) z_min zq0 (xa0 (xc0 q_ix (ya0 2) za0) (xa0 (xc0 q_ix (ya0 3) za0) yb0))) yb0)))) (zb0 (zd0 (zc0 yh0 (ya0 4) (xf0 (xa0 (xe0 (zb2 rfl) z_max wz0 (xa0 (xc0 q_ix (ya0 2) za0) (xa0 (xc0 q_ix (ya0 3) za0) yb0))) (xa0 (xe0 (zb2 rfl) z_max wz0 (xa0 (xc0 q_ix (ya0 2) za0) (xa0 (xc0 q_ix (ya0 3) za0) yb0))) yb0))))))))))
theorem yv6 : FnScope zl6 ["word", "stroke"] (wa0 yd3):=⟨rfl,rfl,rfl,by decide +kernel,rfl,by decide +kernel,by decide +kernel⟩
theorem wa7 {k : Nat} {f : Addr} {cdv : Value} {A : Around} {outer : List Env} {s : Shared} {H : Hp} {E : XK} {XE : XE3} (EX : EXok K mg XE E) {C_Look : Addr} {sp_Look___init__ : Sp3} {k_Look___init__ : Nat} (c_Look___init__ : CalT P w K mg base k_Look___init__ C_Look "__init__" ["self", "stroke"] sp_Look___init__) (l_Look___init__ : k_Look___init__ < k) {sp_q20 : Sp3} {k_q20 : Nat} (c_q20 : Cal P w K mg base k_q20 "check_stroke" ["stroke"] sp_q20) (l_q20 : k_q20 <= k) {sp_q21 : Sp3} {k_q21 : Nat} (c_q21 : Cal P w K mg base k_q21 "check_word" ["word"] sp_q21) (l_q21 : k_q21 <= k) {spx_q33 : XE3 -> Sp3} {k_q33 : Nat} (c_q33 : CalX P w K mg base k_q33 "often_in_word" ["word", "pen", "look"] spx_q33) (l_q33 : k_q33 <= k) (oc_Look : ObjC K "Look" C_Look) (mk_Look : PySem.W.makesIn K C_Look = true) (kp_Look : PySem.W.keepIn K (.ref C_Look) = true) (m_Look : mg "Look" = some (.ref C_Look)) (g_START : Gd K mg "START" xn0) (hr : Room k (A.deeper (envOfC "drawn_often" (wa0 yd3) s.heap.objs.size f cdv))) :
    RSs (cxOf (CXn P w) P w K mg base zl6 "drawn_often" (wa0 yd3) f cdv A outer s H E) (yd0 yd3) (wq6 XE sp_Look___init__ sp_q20 sp_q21 spx_q33) :=
 (xb0 (wu0 (yc0 (c_q21.mono l_q21) hr (xa0 (ya0 0) yb0))) (xb0 (wu0 (yc0 (c_q20.mono l_q20) hr (xa0 (ya0 1) yb0))) (zb0 (zd0 (xo1 EX (c_q33.mono l_q33) hr (xa0 (ya0 0) (xa0 (re_g g_START) (xa0 (yu5 oc_Look mk_Look kp_Look c_Look___init__ m_Look (hr.mono l_Look___init__) (xa0 (ya0 1) yb0)) yb0))))))))
theorem sc_q33 : FnScope xk6 ["word", "pen", "look"] (wa0 xc3):=⟨rfl,rfl,rfl,by decide +kernel,rfl,by decide +kernel,by decide +kernel⟩
theorem yz6 {k : Nat} {f : Addr} {cdv : Value} {A : Around} {outer : List Env} {s : Shared} {H : Hp} {E : XK} {XE : XE3} (EX : EXok K mg XE E) {sp_q30 : Sp3} {k_q30 : Nat} (c_q30 : Cal P w K mg base k_q30 "led" ["pen", "part"] sp_q30) (l_q30 : k_q30 <= k) {spx_q31 : XE3 -> Sp3} {k_q31 : Nat} (c_q31 : CalX P w K mg base k_q31 "often_in_deed" ["deed", "pen", "look"] spx_q31) (l_q31 : k_q31 <= k) {sp_q36 : Sp3} {k_q36 : Nat} (c_q36 : Cal P w K mg base k_q36 "pen_behind_deed" ["deed"] sp_q36) (l_q36 : k_q36 <= k) (hr : Room k (A.deeper (envOfC "often_in_word" (wa0 xc3) s.heap.objs.size f cdv))) :
    RSs (cxOf (CXn P w) P w K mg base xk6 "often_in_word" (wa0 xc3) f cdv A outer s H E) (yd0 xc3) (yp6 XE sp_q30 spx_q31 sp_q36) :=
 (xb0 (wc0 (i:=3) sc_q33.nd za0) (xb0 (wc0 (i:=4) sc_q33.nd (ya0 1)) (xb0 (xv0 PassesOwn.leaving rfl (wn0 (ya0 0)) (we0 (i:=5) sc_q33.nd) (xb0 (wc0 (i:=3) sc_q33.nd (zc0 yh0 (ya0 3) (xo1 EX (c_q31.mono l_q31) hr (xa0 (ya0 5) (xa0 (ya0 4) (xa0 (ya0 2) yb0)))))) (zb0 (wc0 (i:=4) sc_q33.nd (yc0 (c_q30.mono l_q30) hr (xa0 (ya0 4) (xa0 (yc0 (c_q36.mono l_q36) hr (xa0 (ya0 5) yb0)) yb0))))))) (zb0 (zd0 (ya0 3))))))
theorem wu6 : FnScope zk6 ["deed", "pen", "look"] (wa0 zc3):=⟨rfl,rfl,rfl,by decide +kernel,rfl,by decide +kernel,by decide +kernel⟩
theorem wz6 {k : Nat} {f : Addr} {cdv : Value} {A : Around} {outer : List Env} {s : Shared} {H : Hp} {E : XK} {XE : XE3} (EX : EXok K mg XE E) {C_Look : Addr} {sp_Look_is_within : Sp3} {k_Look_is_within : Nat} (c_Look_is_within : CalT P w K mg base k_Look_is_within C_Look "is_within" ["self", "box"] sp_Look_is_within) (l_Look_is_within : k_Look_is_within <= k) {sp_q15 : Sp3} {k_q15 : Nat} (c_q15 : Cal P w K mg base k_q15 "box_from" ["pen", "box"] sp_q15) (l_q15 : k_q15 <= k) {sp_q24 : Sp3} {k_q24 : Nat} (c_q24 : Cal P w K mg base k_q24 "deed_box" ["deed"] sp_q24) (l_q24 : k_q24 <= k) {spx_q32 : XE3 -> Sp3} {k_q32 : Nat} (c_q32 : CalX P w K mg base k_q32 "often_in_times" ["number", "word", "pen", "look"] spx_q32) (l_q32 : k_q32 <= k) (oc_Look : ObjC K "Look" C_Look) (hr : Room k (A.deeper (envOfC "often_in_deed" (wa0 zc3) s.heap.objs.size f cdv))) :
    RSs (cxOf (CXn P w) P w K mg base zk6 "often_in_deed" (wa0 zc3) f cdv A outer s H E) (yd0 zc3) (wp6 XE sp_Look_is_within sp_q15 sp_q24 spx_q32) :=
 (xb0 (wg0 (ze0 (q_eq (hu64 hr)) (xc0 q_ix (ya0 0) za0) yq0) (zb0 (zd0 (xo1 EX (c_q32.mono l_q32) hr (xa0 (xc0 q_ix (ya0 0) za0) (xa0 (xc0 q_ix (ya0 0) za0) (xa0 (ya0 1) (xa0 (ya0 2) yb0))))))) wd0) (zb0 (zd0 (wf7 (xx1 (wr3 (ya0 2) oc_Look (c_Look_is_within.mono l_Look_is_within) hr (xa0 (yc0 (c_q15.mono l_q15) hr (xa0 (ya0 1) (xa0 (yc0 (c_q24.mono l_q24) hr (xa0 (ya0 0) yb0)) yb0))) yb0))) za0 za0))))
theorem sc_q32 : FnScope yk6 ["number", "word", "pen", "look"] (wa0 yc3):=⟨rfl,rfl,rfl,by decide +kernel,rfl,by decide +kernel,by decide +kernel⟩
theorem zz6 {k : Nat} {f : Addr} {cdv : Value} {A : Around} {outer : List Env} {s : Shared} {H : Hp} {E : XK} {XE : XE3} (EX : EXok K mg XE E) {C_Look : Addr} {spx_Look_count_doing : XE3 -> Sp3} {k_Look_count_doing : Nat} (c_Look_count_doing : CalTX P w K mg base k_Look_count_doing C_Look "count_doing" ["self"] spx_Look_count_doing) (l_Look_count_doing : k_Look_count_doing <= k) {sp_Look_is_within : Sp3} {k_Look_is_within : Nat} (c_Look_is_within : CalT P w K mg base k_Look_is_within C_Look "is_within" ["self", "box"] sp_Look_is_within) (l_Look_is_within : k_Look_is_within <= k) {sp_q15 : Sp3} {k_q15 : Nat} (c_q15 : Cal P w K mg base k_q15 "box_from" ["pen", "box"] sp_q15) (l_q15 : k_q15 <= k) {sp_q25 : Sp3} {k_q25 : Nat} (c_q25 : Cal P w K mg base k_q25 "doings_like" ["doing", "number", "part"] sp_q25) (l_q25 : k_q25 <= k) {sp_q26 : Sp3} {k_q26 : Nat} (c_q26 : Cal P w K mg base k_q26 "doings_to_ask" ["number", "part", "pen", "box", "look"] sp_q26) (l_q26 : k_q26 <= k) {sp_q30 : Sp3} {k_q30 : Nat} (c_q30 : Cal P w K mg base k_q30 "led" ["pen", "part"] sp_q30) (l_q30 : k_q30 <= k) {spx_q33 : XE3 -> Sp3} {k_q33 : Nat} (c_q33 : CalX P w K mg base k_q33 "often_in_word" ["word", "pen", "look"] spx_q33) (l_q33 : k_q33 <= k) {sp_q35 : Sp3} {k_q35 : Nat} (c_q35 : Cal P w K mg base k_q35 "pen_behind" ["word"] sp_q35) (l_q35 : k_q35 <= k) {sp_q37 : Sp3} {k_q37 : Nat} (c_q37 : Cal P w K mg base k_q37 "pen_repeated" ["part", "number"] sp_q37) (l_q37 : k_q37 <= k) {sp_q39 : Sp3} {k_q39 : Nat} (c_q39 : Cal P w K mg base k_q39 "word_box" ["word"] sp_q39) (l_q39 : k_q39 <= k) (oc_Look : ObjC K "Look" C_Look) (z_range : mg "range" = none) (hr : Room k (A.deeper (envOfC "often_in_times" (wa0 yc3) s.heap.objs.size f cdv))) :
    RSs (cxOf (CXn P w) P w K mg base yk6 "often_in_times" (wa0 yc3) f cdv A outer s H E) (yd0 yc3) (zp6 XE spx_Look_count_doing sp_Look_is_within sp_q15 sp_q25 sp_q26 sp_q30 spx_q33 sp_q35 sp_q37 sp_q39) :=
 (xb0 (wc0 (i:=4) sc_q32.nd (yc0 (c_q35.mono l_q35) hr (xa0 (ya0 1) yb0))) (xb0 (wc0 (i:=5) sc_q32.nd (yc0 (c_q39.mono l_q39) hr (xa0 (ya0 1) yb0))) (xb0 (wc0 (i:=6) sc_q32.nd za0) (xb0 (wc0 (i:=7) sc_q32.nd (yc0 (c_q26.mono l_q26) hr (xa0 (ya0 0) (xa0 (ya0 4) (xa0 (ya0 2) (xa0 (ya0 5) (xa0 (ya0 3) yb0))))))) (xb0 (xv0 PassesOwn.leaving rfl (zh2 z_range (xc0 q_ix (ya0 7) za0) (xc0 q_ix (ya0 7) za0)) (we0 (i:=8) sc_q32.nd) (xb0 (wc0 (i:=9) sc_q32.nd (yc0 (c_q30.mono l_q30) hr (xa0 (ya0 2) (xa0 (yc0 (c_q37.mono l_q37) hr (xa0 (ya0 4) (xa0 (ya0 8) yb0))) yb0)))) (zb0 (wg0 (xx1 (wr3 (ya0 3) oc_Look (c_Look_is_within.mono l_Look_is_within) hr (xa0 (yc0 (c_q15.mono l_q15) hr (xa0 (ya0 9) (xa0 (ya0 5) yb0))) yb0))) (xb0 (wu0 (zr3 EX (ya0 3) oc_Look (c_Look_count_doing.mono l_Look_count_doing) hr)) (zb0 (wc0 (i:=6) sc_q32.nd (zc0 yh0 (ya0 6) (zc0 xq0 (yc0 (c_q25.mono l_q25) hr (xa0 (ya0 8) (xa0 (ya0 0) (xa0 (ya0 4) yb0)))) (xo1 EX (c_q33.mono l_q33) hr (xa0 (ya0 1) (xa0 (ya0 9) (xa0 (ya0 3) yb0))))))))) wd0)))) (zb0 (zd0 (ya0 6))))))))
theorem sc_q26 : FnScope wl6 ["number", "part", "pen", "box", "look"] (wa0 zd3):=⟨rfl,rfl,rfl,by decide +kernel,rfl,by decide +kernel,by decide +kernel⟩
theorem xb7 {k : Nat} {f : Addr} {cdv : Value} {A : Around} {outer : List Env} {s : Shared} {H : Hp} {E : XK} {sp_q15 : Sp3} {k_q15 : Nat} (c_q15 : Cal P w K mg base k_q15 "box_from" ["pen", "box"] sp_q15) (l_q15 : k_q15 <= k) {sp_q30 : Sp3} {k_q30 : Nat} (c_q30 : Cal P w K mg base k_q30 "led" ["pen", "part"] sp_q30) (l_q30 : k_q30 <= k) {sp_q38 : Sp3} {k_q38 : Nat} (c_q38 : Cal P w K mg base k_q38 "span_of_doings" ["number", "low", "high", "shift", "least", "greatest"] sp_q38) (l_q38 : k_q38 <= k) {C_Look : Addr} (oc_Look : ObjC K "Look" C_Look) (na_Look_greatest : NoAttr K C_Look "greatest") (na_Look_least : NoAttr K C_Look "least") (z_max : mg "max" = none) (z_min : mg "min" = none) (g_START : Gd K mg "START" xn0) (hr : Room k (A.deeper (envOfC "doings_to_ask" (wa0 zd3) s.heap.objs.size f cdv))) :
    RSs (cxOf CX0 P w K mg base wl6 "doings_to_ask" (wa0 zd3) f cdv A outer s H E).nox (yd0 zd3) (xr6 sp_q15 sp_q30 sp_q38) :=
 (xb0 (wg0 (ze0 wb2 (ya0 3) xo0) (zb0 (zd0 (xf0 (xa0 za0 (xa0 za0 yb0))))) wd0) (xb0 (wg0 (ze0 (q_eq (hu64 hr)) (ya0 1) (re_g g_START)) (zb0 (zd0 (xf0 (xa0 za0 (xa0 (xe0 (zt0 rfl) z_min zq0 (xa0 (ya0 0) (xa0 za0 yb0))) yb0))))) wd0) (xb0 (wg0 (ze0 (q_ne (hu64 hr)) (xc0 q_ix (ya0 1) za0) za0) (zb0 (zd0 (xf0 (xa0 za0 (xa0 (xe0 (zt0 rfl) z_min zq0 (xa0 (ya0 0) (xa0 za0 yb0))) yb0))))) wd0) (xb0 (wc0 (i:=5) sc_q26.nd (yc0 (c_q15.mono l_q15) hr (xa0 (ya0 2) (xa0 (ya0 3) yb0)))) (xb0 (wc0 (i:=6) sc_q26.nd (yc0 (c_q15.mono l_q15) hr (xa0 (yc0 (c_q30.mono l_q30) hr (xa0 (ya0 2) (xa0 (ya0 1) yb0))) (xa0 (ya0 3) yb0)))) (xb0 (wc0 (i:=7) sc_q26.nd (yc0 (c_q38.mono l_q38) hr (xa0 (ya0 0) (xa0 (xc0 q_ix (ya0 5) za0) (xa0 (xc0 q_ix (ya0 5) za0) (xa0 (zc0 yk0 (xc0 q_ix (ya0 6) za0) (xc0 q_ix (ya0 5) za0)) (xa0 (xc0 q_ix (yb1 (ya0 4) oc_Look na_Look_least) za0) (xa0 (xc0 q_ix (yb1 (ya0 4) oc_Look na_Look_greatest) za0) yb0)))))))) (xb0 (wc0 (i:=8) sc_q26.nd (yc0 (c_q38.mono l_q38) hr (xa0 (ya0 0) (xa0 (xc0 q_ix (ya0 5) za0) (xa0 (xc0 q_ix (ya0 5) za0) (xa0 (zc0 yk0 (xc0 q_ix (ya0 6) za0) (xc0 q_ix (ya0 5) za0)) (xa0 (xc0 q_ix (yb1 (ya0 4) oc_Look na_Look_least) za0) (xa0 (xc0 q_ix (yb1 (ya0 4) oc_Look na_Look_greatest) za0) yb0)))))))) (zb0 (zd0 (xf0 (xa0 (xe0 (zb2 rfl) z_max wz0 (xa0 (xc0 q_ix (ya0 7) za0) (xa0 (xc0 q_ix (ya0 8) za0) yb0))) (xa0 (xe0 (zt0 rfl) z_min zq0 (xa0 (xc0 q_ix (ya0 7) za0) (xa0 (xc0 q_ix (ya0 8) za0) yb0))) yb0))))))))))))
theorem sc_q38 : FnScope zd5 ["number", "low", "high", "shift", "least", "greatest"] (wa0 wa3):=⟨rfl,rfl,rfl,by decide +kernel,rfl,by decide +kernel,by decide +kernel⟩
theorem xy6 {k : Nat} {f : Addr} {cdv : Value} {A : Around} {outer : List Env} {s : Shared} {H : Hp} {E : XK} {sp_q38 : Sp3} {k_q38 : Nat} (c_q38 : Cal P w K mg base k_q38 "span_of_doings" ["number", "low", "high", "shift", "least", "greatest"] sp_q38) (l_q38 : k_q38 <= k) (z_max : mg "max" = none) (z_min : mg "min" = none) (hr : Room k (A.deeper (envOfC "span_of_doings" (wa0 wa3) s.heap.objs.size f cdv))) :
    RSs (cxOf CX0 P w K mg base zd5 "span_of_doings" (wa0 wa3) f cdv A outer s H E).nox (yd0 wa3) (yn5 sp_q38) :=
 (xb0 (wg0 (ze0 q_lt (ya0 3) za0) (zb0 (zd0 (yc0 (c_q38.mono l_q38) hr (xa0 (ya0 0) (xa0 (zv1 wv1 (ya0 2)) (xa0 (zv1 wv1 (ya0 1)) (xa0 (zv1 wv1 (ya0 3)) (xa0 (zv1 wv1 (ya0 5)) (xa0 (zv1 wv1 (ya0 4)) yb0))))))))) wd0) (xb0 (wg0 (ze0 (q_eq (hu64 hr)) (ya0 3) za0) (zb0 (zd0 (wf7 (zm1 (yy0 (ze0 q_le (ya0 1) (ya0 4)) (zu0 (ze0 q_le (ya0 5) (ya0 2))))) (xf0 (xa0 za0 (xa0 (ya0 0) yb0))) (xf0 (xa0 za0 (xa0 za0 yb0)))))) wd0) (xb0 (wc0 (i:=6) sc_q38.nd (zv1 wv1 (zc0 wb1 (zc0 yk0 (ya0 2) (ya0 5)) (ya0 3)))) (xb0 (wc0 (i:=7) sc_q38.nd (zc0 wb1 (zc0 yk0 (ya0 4) (ya0 1)) (ya0 3))) (zb0 (zd0 (xf0 (xa0 (xe0 (zb2 rfl) z_max wz0 (xa0 za0 (xa0 (ya0 6) yb0))) (xa0 (xe0 (zt0 rfl) z_min zq0 (xa0 (ya0 0) (xa0 (zc0 yh0 (ya0 7) za0) yb0))) yb0)))))))))
theorem zv6 : FnScope ye5 ["doing", "number", "part"] (wa0 wd3):=⟨rfl,rfl,rfl,by decide +kernel,rfl,by decide +kernel,by decide +kernel⟩
theorem yb7 {k : Nat} {f : Addr} {cdv : Value} {A : Around} {outer : List Env} {s : Shared} {H : Hp} {E : XK} (g_START : Gd K mg "START" xn0) (hr : Room k (A.deeper (envOfC "doings_like" (wa0 wd3) s.heap.objs.size f cdv))) :
    RSs (cxOf CX0 P w K mg base ye5 "doings_like" (wa0 wd3) f cdv A outer s H E).nox (yd0 wd3) (xo5) :=
 (xb0 (wg0 (ze0 (q_eq (hu64 hr)) (ya0 2) (re_g g_START)) (zb0 (zd0 (ya0 1))) wd0) (xb0 (wg0 (ze0 (q_ne (hu64 hr)) (xc0 q_ix (ya0 2) za0) za0) (zb0 (zd0 (zc0 wb1 (zc0 yh0 (zc0 yk0 (ya0 1) (ya0 0)) za0) za0))) wd0) (zb0 (zd0 za0))))
theorem sc_q10 : FnScope wg5 ["script", "k"] (wa0 zh3):=⟨rfl,rfl,rfl,by decide +kernel,rfl,by decide +kernel,by decide +kernel⟩
theorem xf7 {k : Nat} {f : Addr} {cdv : Value} {A : Around} {outer : List Env} {s : Shared} {H : Hp} {E : XK} (z_len : mg "len" = none) (hr : Room k (A.deeper (envOfC "_law_state" (wa0 zh3) s.heap.objs.size f cdv))) :
    RSs (cxOf CX0 P w K mg base wg5 "_law_state" (wa0 zh3) f cdv A outer s H E).nox (yd0 zh3) (zq5) :=
 (xb0 (wc0 (i:=2) sc_q10.nd za0) (xb0 (wg0 (ze0 q_lt (ya0 1) (xe0 xt3 z_len zl2 (xa0 (ya0 0) yb0))) (zb0 (wc0 (i:=2) sc_q10.nd (xc0 q_ix (ya0 0) (ya0 1)))) wd0) (xb0 (wg0 (ze0 q_ge (ya0 2) (zc0 zr4 za0 za0)) (zb0 (zd0 (yp0 (xa0 (zc0 yk0 (ya0 2) (zc0 zr4 za0 za0)) (xa0 za0 yb0))))) wd0) (zb0 (zd0 (yp0 (xa0 (zc0 wr1 (zc0 yh0 (ya0 2) (zc0 xq0 za0 (ya0 1))) za0) (xa0 za0 yb0))))))))
theorem sc_q11 : FnScope zg5 ["state", "many"] (wa0 yh3):=⟨rfl,rfl,rfl,by decide +kernel,rfl,by decide +kernel,by decide +kernel⟩
theorem we7 {k : Nat} {f : Addr} {cdv : Value} {A : Around} {outer : List Env} {s : Shared} {H : Hp} {E : XK} (hr : Room k (A.deeper (envOfC "_law_take" (wa0 yh3) s.heap.objs.size f cdv))) :
    RSs (cxOf CX0 P w K mg base zg5 "_law_take" (wa0 yh3) f cdv A outer s H E).nox (yd0 yh3) (yq5) :=
 (xb0 (wg0 (zm1 (yy0 (ze0 (q_eq (hu64 hr)) (xc0 q_ix (ya0 0) za0) za0) (zu0 (ze0 q_gt (xc0 q_ix (ya0 0) za0) za0)))) (xb0 (wc0 (i:=2) sc_q11.nd (zc0 wr1 (xc0 q_ix (ya0 0) za0) (ya0 1))) (xb0 (yx1 (zc0 wb1 (xc0 q_ix (ya0 0) za0) (ya0 1)) (yr3 (ya0 0) za0)) (zb0 (zd0 (ya0 2))))) wd0) (xb0 (yx1 za0 (yr3 (ya0 0) za0)) (xb0 (yx1 (zc0 wr1 (zc0 yh0 (zc0 xq0 (xc0 q_ix (ya0 0) za0) za0) za0) za0) (yr3 (ya0 0) za0)) (xb0 (wc0 (i:=3) sc_q11.nd (zc0 wr1 (zc0 yh0 (zc0 xq0 (xc0 q_ix (ya0 0) za0) (xc0 q_ix (ya0 0) za0)) (zc0 xq0 za0 (xc0 q_ix (ya0 0) za0))) za0)) (xb0 (wc0 (i:=3) sc_q11.nd (zc0 wr1 (zc0 yh0 (zc0 xq0 (ya0 3) (ya0 3)) (zc0 xq0 za0 (ya0 3))) za0)) (zb0 (zd0 (zc0 wr1 (zc0 wb1 (ya0 3) za0) (ya0 1)))))))))
theorem yx6 : FnScope xg5 ["found"] (wa0 zg3):=⟨rfl,rfl,rfl,by decide +kernel,rfl,by decide +kernel,by decide +kernel⟩
theorem xe7 {k : Nat} {f : Addr} {cdv : Value} {A : Around} {outer : List Env} {s : Shared} {H : Hp} {E : XK} (z_bool : mg "bool" = none) (z_int : mg "int" = none) (z_isinstance : mg "isinstance" = none) (hr : Room k (A.deeper (envOfC "_law_whole" (wa0 zg3) s.heap.objs.size f cdv))) :
    RSs (cxOf CX0 P w K mg base xg5 "_law_whole" (wa0 zg3) f cdv A outer s H E).nox (yd0 zg3) (wp5) :=
 (zb0 (zd0 (xm1 (xe0 xi3 z_isinstance wi0 (xa0 (ya0 0) (xa0 (wh3 z_int wi4) yb0))) (zx1 (zf7 (xe0 xi3 z_isinstance wi0 (xa0 (ya0 0) (xa0 (wh3 z_bool yi6) yb0))))))))
theorem sc_q0 : FnScope N_q0 ["state", "deep"] (wa0 s_q0):=⟨rfl,rfl,rfl,by decide +kernel,rfl,by decide +kernel,by decide +kernel⟩
theorem wl8 {k : Nat} {f : Addr} {cdv : Value} {A : Around} {outer : List Env} {s : Shared} {H : Hp} {E : XK} {sp_q1 : Sp3} {k_q1 : Nat} (c_q1 : Cal P w K mg base k_q1 "_law_deeds" ["state", "deep", "many"] sp_q1) (l_q1 : k_q1 <= k) {sp_q11 : Sp3} {k_q11 : Nat} (c_q11 : Cal P w K mg base k_q11 "_law_take" ["state", "many"] sp_q11) (l_q11 : k_q11 <= k) (z_int : mg "int" = none) (hr : Room k (A.deeper (envOfC "_law_deed" (wa0 s_q0) s.heap.objs.size f cdv))) :
    RSs (cxOf CX0 P w K mg base N_q0 "_law_deed" (wa0 s_q0) f cdv A outer s H E).nox (yd0 s_q0) (t_q0 sp_q1 sp_q11) :=
 (xb0 (wc0 (i:=2) sc_q0.nd (yc0 (c_q11.mono l_q11) hr (xa0 (ya0 0) (xa0 (zc0 yh0 za0 (wh2 xq8 z_int wi4 (xa0 (zb1 q_gt (ya0 1) za0) yb0))) yb0)))) (xb0 (wg0 (ze0 (q_eq (hu64 hr)) (ya0 2) za0) (zb0 (zd0 (xf0 (xa0 yq0 (xa0 (zc0 yk0 (yc0 (c_q11.mono l_q11) hr (xa0 (ya0 0) (xa0 za0 yb0))) za0) yb0))))) wd0) (xb0 (wg0 (ze0 (q_eq (hu64 hr)) (ya0 2) za0) (zb0 (zd0 (xf0 (xa0 yq0 (xa0 (zc0 yk0 (yc0 (c_q11.mono l_q11) hr (xa0 (ya0 0) (xa0 za0 yb0))) za0) yb0))))) wd0) (xb0 (wg0 (ze0 q_lt (ya0 2) za0) (zb0 (zd0 (xf0 (xa0 yq0 (xa0 (yc0 (c_q11.mono l_q11) hr (xa0 (ya0 0) (xa0 za0 yb0))) yb0))))) wd0) (zb0 (zd0 (xf0 (xa0 yq0 (xa0 (yc0 (c_q11.mono l_q11) hr (xa0 (ya0 0) (xa0 za0 yb0))) (xa0 (yc0 (c_q1.mono l_q1) hr (xa0 (ya0 0) (xa0 (zc0 yk0 (ya0 1) za0) (xa0 (yc0 (c_q11.mono l_q11) hr (xa0 (ya0 0) (xa0 za0 yb0))) yb0)))) yb0))))))))))
theorem yj8 : FnScope N_q1 ["state", "deep", "many"] (wa0 s_q1):=⟨rfl,rfl,rfl,by decide +kernel,rfl,by decide +kernel,by decide +kernel⟩
theorem zl8 {k : Nat} {f : Addr} {cdv : Value} {A : Around} {outer : List Env} {s : Shared} {H : Hp} {E : XK} {sp_q0 : Sp3} {k_q0 : Nat} (c_q0 : Cal P w K mg base k_q0 "_law_deed" ["state", "deep"] sp_q0) (l_q0 : k_q0 <= k) (z_range : mg "range" = none) (z_tuple : mg "tuple" = none) (hr : Room k (A.deeper (envOfC "_law_deeds" (wa0 s_q1) s.heap.objs.size f cdv))) :
    RSs (cxOf CX0 P w K mg base N_q1 "_law_deeds" (wa0 s_q1) f cdv A outer s H E).nox (yd0 s_q1) (t_q1 sp_q0) :=
 (zb0 (zd0 (wh2 zv5 z_tuple yp1 (xa0 (yi1 (NN:=["k", "state", "deep"]) (js:=[none,some 0,some 1]) rfl xg4 (yv0 z_range (ya0 2)) (λ _ _ _ _ _=>(we0 (i:=0) (show List.Nodup (["k", "state", "deep"] : List Str) by decide +kernel))) (λ _ _ _ _ _=>wp0) (λ _ _ _ _ _=>(yc0 (c_q0.mono l_q0) hr (xa0 (ya0 1) (xa0 (ya0 2) yb0)))) (by intro _; rfl)) yb0))))
theorem sc_q7 : FnScope N_q7 ["deeds"] (wa0 s_q7):=⟨rfl,rfl,rfl,by decide +kernel,rfl,by decide +kernel,by decide +kernel⟩
theorem xk8 {k : Nat} {f : Addr} {cdv : Value} {A : Around} {outer : List Env} {s : Shared} {H : Hp} {E : XK} {sp_q7 : Sp3} {k_q7 : Nat} (c_q7 : Cal P w K mg base k_q7 "_law_rolled_out" ["deeds"] sp_q7) (l_q7 : k_q7 <= k) (z_range : mg "range" = none) (hr : Room k (A.deeper (envOfC "_law_rolled_out" (wa0 s_q7) s.heap.objs.size f cdv))) :
    RSs (cxOf CX0 P w K mg base N_q7 "_law_rolled_out" (wa0 s_q7) f cdv A outer s H E).nox (yd0 s_q7) (t_q7 sp_q7) :=
 (xb0 (wc0 (i:=1) sc_q7.nd (yp0 yb0)) (xb0 (xv0 PassesOwn.never rfl (wn0 (ya0 0)) (we0 (i:=2) sc_q7.nd) (zb0 (wg0 (ze0 (q_eq (hu64 hr)) (xc0 q_ix (ya0 2) za0) yq0) (zb0 (xv0 PassesOwn.never rfl (yv0 z_range (xc0 q_ix (ya0 2) za0)) (we0 (i:=3) sc_q7.nd) (zb0 (wu0 (xs3 (ya0 1) (xa0 (yc0 (c_q7.mono l_q7) hr (xa0 (xc0 q_ix (ya0 2) za0) yb0)) yb0)))))) (zb0 (wu0 (xi2 (ya0 1) (xa0 (ya0 2) yb0))))))) (zb0 (zd0 (ya0 1)))))
theorem sc_q8 : FnScope N_q8 ["deeds", "pen"] (wa0 s_q8):=⟨rfl,rfl,rfl,by decide +kernel,rfl,by decide +kernel,by decide +kernel⟩
theorem wj8 {k : Nat} {f : Addr} {cdv : Value} {A : Around} {outer : List Env} {s : Shared} {H : Hp} {E : XK} {sp_q7 : Sp3} {k_q7 : Nat} (c_q7 : Cal P w K mg base k_q7 "_law_rolled_out" ["deeds"] sp_q7) (l_q7 : k_q7 <= k) (z_min : mg "min" = none) (z_range : mg "range" = none) (hr : Room k (A.deeper (envOfC "_law_run" (wa0 s_q8) s.heap.objs.size f cdv))) :
    RSs (cxOf CX0 P w K mg base N_q8 "_law_run" (wa0 s_q8) f cdv A outer s H E).nox (yd0 s_q8) (t_q8 sp_q7) :=
 (xb0 (yx1 (ya0 1) (wl1 rfl (xh0 (we0 (i:=2) sc_q8.nd) (xh0 (we0 (i:=3) sc_q8.nd) (xh0 (we0 (i:=4) sc_q8.nd) zy0))))) (xb0 (wc0 (i:=5) sc_q8.nd (yp0 yb0)) (xb0 (xv0 PassesOwn.never rfl (wn0 (yc0 (c_q7.mono l_q7) hr (xa0 (ya0 0) yb0))) (wl1 rfl (xh0 (we0 (i:=6) sc_q8.nd) (xh0 (we0 (i:=7) sc_q8.nd) zy0))) (xb0 (wc0 (i:=8) sc_q8.nd (xc0 q_ix (yp0 (xa0 (xf0 (xa0 za0 (xa0 za0 yb0))) (xa0 (xf0 (xa0 za0 (xa0 za0 yb0))) (xa0 (xf0 (xa0 (zv1 wv1 za0) (xa0 za0 yb0))) (xa0 (xf0 (xa0 za0 (xa0 (zv1 wv1 za0) yb0))) yb0))))) (ya0 4))) (zb0 (wg0 (ze0 (q_eq (hu64 hr)) (ya0 6) yq0) (zb0 (wc0 (i:=4) sc_q8.nd (zc0 wr1 (zc0 yh0 (ya0 4) (ya0 7)) za0))) (zb0 (wg0 (ze0 (q_eq (hu64 hr)) (ya0 6) yq0) (xb0 (wc0 (i:=2) sc_q8.nd (zc0 yh0 (ya0 2) (zc0 xq0 (ya0 7) (xc0 q_ix (ya0 8) za0)))) (zb0 (wc0 (i:=3) sc_q8.nd (zc0 yh0 (ya0 3) (zc0 xq0 (ya0 7) (xc0 q_ix (ya0 8) za0)))))) (zb0 (xv0 PassesOwn.never rfl (yv0 z_range (ya0 7)) (we0 (i:=9) sc_q8.nd) (xb0 (wu0 (xi2 (ya0 5) (xa0 (xf0 (xa0 (zc0 yh0 (ya0 2) (xe0 (zt0 rfl) z_min zq0 (xa0 za0 (xa0 (xc0 q_ix (ya0 8) za0) yb0)))) (xa0 (zc0 yh0 (ya0 3) (xe0 (zt0 rfl) z_min zq0 (xa0 za0 (xa0 (xc0 q_ix (ya0 8) za0) yb0)))) (xa0 (zc0 wr1 (ya0 4) za0) yb0)))) yb0))) (xb0 (wc0 (i:=2) sc_q8.nd (zc0 yh0 (ya0 2) (xc0 q_ix (ya0 8) za0))) (zb0 (wc0 (i:=3) sc_q8.nd (zc0 yh0 (ya0 3) (xc0 q_ix (ya0 8) za0)))))))))))))) (zb0 (zd0 (xf0 (xa0 (ya0 5) (xa0 (xf0 (xa0 (ya0 2) (xa0 (ya0 3) (xa0 (ya0 4) yb0)))) yb0))))))))
theorem sc_q2 : FnScope N_q2 ["drawn"] (wa0 s_q2):=⟨rfl,rfl,rfl,by decide +kernel,rfl,by decide +kernel,by decide +kernel⟩
theorem yl8 {k : Nat} {f : Addr} {cdv : Value} {A : Around} {outer : List Env} {s : Shared} {H : Hp} {E : XK} (z_max : mg "max" = none) (z_min : mg "min" = none) (hr : Room k (A.deeper (envOfC "_law_frame" (wa0 s_q2) s.heap.objs.size f cdv))) :
    RSs (cxOf CX0 P w K mg base N_q2 "_law_frame" (wa0 s_q2) f cdv A outer s H E).nox (yd0 s_q2) (t_q2) :=
 (xb0 (wg0 (ze0 (q_eq (hu64 hr)) (ya0 0) (yp0 yb0)) (zb0 (zd0 xo0)) wd0) (xb0 (wc0 (i:=1) sc_q2.nd (zc0 yh0 (ye1 (NN:=["x", "y", "kind"]) (by decide +kernel) (by decide +kernel) (by decide +kernel) (wn0 (ya0 0)) (λ _ _ _ _ _=>(wl1 rfl (xh0 (we0 (i:=0) (show List.Nodup (["x", "y", "kind"] : List Str) by decide +kernel)) (xh0 (we0 (i:=1) (show List.Nodup (["x", "y", "kind"] : List Str) by decide +kernel)) (xh0 (we0 (i:=2) (show List.Nodup (["x", "y", "kind"] : List Str) by decide +kernel)) zy0))))) (λ _ _ _ _ _=>wp0) (λ _ _ _ _ _=>(ya0 0))) (ye1 (NN:=["x", "y", "kind"]) (by decide +kernel) (by decide +kernel) (by decide +kernel) (wn0 (ya0 0)) (λ _ _ _ _ _=>(wl1 rfl (xh0 (we0 (i:=0) (show List.Nodup (["x", "y", "kind"] : List Str) by decide +kernel)) (xh0 (we0 (i:=1) (show List.Nodup (["x", "y", "kind"] : List Str) by decide +kernel)) (xh0 (we0 (i:=2) (show List.Nodup (["x", "y", "kind"] : List Str) by decide +kernel)) zy0))))) (λ _ _ _ _ _=>wp0) (λ _ _ _ _ _=>(zc0 yk0 (zc0 yh0 (ya0 0) za0) (ya0 2)))))) (xb0 (wc0 (i:=2) sc_q2.nd (zc0 yh0 (ye1 (NN:=["x", "y", "kind"]) (by decide +kernel) (by decide +kernel) (by decide +kernel) (wn0 (ya0 0)) (λ _ _ _ _ _=>(wl1 rfl (xh0 (we0 (i:=0) (show List.Nodup (["x", "y", "kind"] : List Str) by decide +kernel)) (xh0 (we0 (i:=1) (show List.Nodup (["x", "y", "kind"] : List Str) by decide +kernel)) (xh0 (we0 (i:=2) (show List.Nodup (["x", "y", "kind"] : List Str) by decide +kernel)) zy0))))) (λ _ _ _ _ _=>wp0) (λ _ _ _ _ _=>(ya0 1))) (ye1 (NN:=["x", "y", "kind"]) (by decide +kernel) (by decide +kernel) (by decide +kernel) (wn0 (ya0 0)) (λ _ _ _ _ _=>(wl1 rfl (xh0 (we0 (i:=0) (show List.Nodup (["x", "y", "kind"] : List Str) by decide +kernel)) (xh0 (we0 (i:=1) (show List.Nodup (["x", "y", "kind"] : List Str) by decide +kernel)) (xh0 (we0 (i:=2) (show List.Nodup (["x", "y", "kind"] : List Str) by decide +kernel)) zy0))))) (λ _ _ _ _ _=>wp0) (λ _ _ _ _ _=>(zc0 yh0 (ya0 1) (ya0 2)))))) (zb0 (zd0 (xf0 (xa0 (xe0 (q_mn rfl (hu64 hr)) z_min zq0 (xa0 (ya0 1) yb0)) (xa0 (xe0 (q_mn rfl (hu64 hr)) z_min zq0 (xa0 (ya0 2) yb0)) (xa0 (xe0 (q_mx rfl) z_max wz0 (xa0 (ya0 1) yb0)) (xa0 (xe0 (q_mx rfl) z_max wz0 (xa0 (ya0 2) yb0)) yb0))))))))))
theorem xj8 : FnScope N_q3 ["found", "due"] (wa0 s_q3):=⟨rfl,rfl,rfl,by decide +kernel,rfl,by decide +kernel,by decide +kernel⟩
theorem xl8 {k : Nat} {f : Addr} {cdv : Value} {A : Around} {outer : List Env} {s : Shared} {H : Hp} {E : XK} {sp_q14 : Sp3} {k_q14 : Nat} (c_q14 : Cal P w K mg base k_q14 "_law_whole" ["found"] sp_q14) (l_q14 : k_q14 <= k) (z_all : mg "all" = none) (z_isinstance : mg "isinstance" = none) (z_tuple : mg "tuple" = none) (hr : Room k (A.deeper (envOfC "_law_is_row" (wa0 s_q3) s.heap.objs.size f cdv))) :
    RSs (cxOf CX0 P w K mg base N_q3 "_law_is_row" (wa0 s_q3) f cdv A outer s H E).nox (yd0 s_q3) (t_q3 sp_q14) :=
 (xb0 (wg0 (zm1 (zx6 (ze0 wb2 (ya0 1) xo0) (zh5 (ze0 wb2 (ya0 0) xo0)))) (zb0 (zd0 (xm1 (zb1 wb2 (ya0 0) xo0) (zx1 (zb1 wb2 (ya0 1) xo0))))) wd0) (zb0 (zd0 (xm1 (xe0 xi3 z_isinstance wi0 (xa0 (ya0 0) (xa0 (wh3 z_tuple yp1) yb0))) (xm1 (zb1 (q_eq (hu64 hr)) (ya0 0) (ya0 1)) (zx1 (xe0 yq8 z_all ze8 (xa0 (ye1 (NN:=["number"]) (by decide +kernel) (by decide +kernel) (by decide +kernel) (wn0 (ya0 0)) (λ _ _ _ _ _=>(we0 (i:=0) (show List.Nodup (["number"] : List Str) by decide +kernel))) (λ _ _ _ _ _=>wp0) (λ _ _ _ _ _=>(yc0 (c_q14.mono l_q14) hr (xa0 (ya0 0) yb0)))) yb0))))))))
theorem sc_q13 : FnScope yg5 ["e"] (wa0 wg3):=⟨rfl,rfl,rfl,by decide +kernel,rfl,by decide +kernel,by decide +kernel⟩
theorem ye7 {k : Nat} {f : Addr} {cdv : Value} {A : Around} {outer : List Env} {s : Shared} {H : Hp} {E : XK} {C_BadNote : Addr} (m_BadNote : mg "BadNote" = some (.ref C_BadNote)) (x_BadNote : ∀ c C b,subX "BadNote" c = some b -> PySem.W.nsIn K mainGlobals c = some (some (.ref C)) -> ExcK K C /\ PySem.W.kitOne K (.ref C) (.ref C_BadNote) = some b) {C_NoNumber : Addr} (m_NoNumber : mg "NoNumber" = some (.ref C_NoNumber)) (x_NoNumber : ∀ c C b,subX "NoNumber" c = some b -> PySem.W.nsIn K mainGlobals c = some (some (.ref C)) -> ExcK K C /\ PySem.W.kitOne K (.ref C) (.ref C_NoNumber) = some b) {C_NoPicture : Addr} (m_NoPicture : mg "NoPicture" = some (.ref C_NoPicture)) (x_NoPicture : ∀ c C b,subX "NoPicture" c = some b -> PySem.W.nsIn K mainGlobals c = some (some (.ref C)) -> ExcK K C /\ PySem.W.kitOne K (.ref C) (.ref C_NoPicture) = some b) {C_NoRoom : Addr} (m_NoRoom : mg "NoRoom" = some (.ref C_NoRoom)) (x_NoRoom : ∀ c C b,subX "NoRoom" c = some b -> PySem.W.nsIn K mainGlobals c = some (some (.ref C)) -> ExcK K C /\ PySem.W.kitOne K (.ref C) (.ref C_NoRoom) = some b) {C_NoStep : Addr} (m_NoStep : mg "NoStep" = some (.ref C_NoStep)) (x_NoStep : ∀ c C b,subX "NoStep" c = some b -> PySem.W.nsIn K mainGlobals c = some (some (.ref C)) -> ExcK K C /\ PySem.W.kitOne K (.ref C) (.ref C_NoStep) = some b) {C_NoWord : Addr} (m_NoWord : mg "NoWord" = some (.ref C_NoWord)) (x_NoWord : ∀ c C b,subX "NoWord" c = some b -> PySem.W.nsIn K mainGlobals c = some (some (.ref C)) -> ExcK K C /\ PySem.W.kitOne K (.ref C) (.ref C_NoWord) = some b) (x_ValueError : ∀ c C b,subX "ValueError" c = some b -> PySem.W.nsIn K mainGlobals c = some (some (.ref C)) -> ExcK K C /\ PySem.W.kitOne K (.ref C) (.type "ValueError") = some b) (z_ValueError : mg "ValueError" = none) (z_isinstance : mg "isinstance" = none) (hr : RoomM k (A.deeper (envOfC "_law_which" (wa0 wg3) s.heap.objs.size f cdv))) :
    RSs (cxM CX0 P w K mg base yg5 "_law_which" (wa0 wg3) f cdv A outer s H E).nox (yd0 wg3) (xq5) :=
 (xb0 (wc0 (i:=1) sc_q13.nd (yp0 (xa0 (zr1 (ya0 0) (xy1 rfl m_NoWord) (λ _ h=>h) x_NoWord z_isinstance) (xa0 (zr1 (ya0 0) (xy1 rfl m_NoPicture) (λ _ h=>h) x_NoPicture z_isinstance) (xa0 (zr1 (ya0 0) (xy1 rfl m_NoRoom) (λ _ h=>h) x_NoRoom z_isinstance) (xa0 (zr1 (ya0 0) (xy1 rfl m_NoStep) (λ _ h=>h) x_NoStep z_isinstance) yb0)))))) (zb0 (zd0 (zc0 yh0 (ya0 1) (yp0 (xa0 (zr1 (ya0 0) (xy1 rfl m_NoNumber) (λ _ h=>h) x_NoNumber z_isinstance) (xa0 (zr1 (ya0 0) (xy1 rfl m_BadNote) (λ _ h=>h) x_BadNote z_isinstance) (xa0 (zr1 (ya0 0) (wv3 rfl z_ValueError yf2 (show RelV (.ty "ValueError") (.type "ValueError") from rfl)) (λ _ h=>h) x_ValueError z_isinstance) yb0))))))))
theorem wi8 : FnScope N_q5 ["drawn", "x", "y"] (wa0 s_q5):=⟨rfl,rfl,rfl,by decide +kernel,rfl,by decide +kernel,by decide +kernel⟩
theorem zk8 {k : Nat} {f : Addr} {cdv : Value} {A : Around} {outer : List Env} {s : Shared} {H : Hp} {E : XK} (hr : Room k (A.deeper (envOfC "_law_moved" (wa0 s_q5) s.heap.objs.size f cdv))) :
    RSs (cxOf CX0 P w K mg base N_q5 "_law_moved" (wa0 s_q5) f cdv A outer s H E).nox (yd0 s_q5) (t_q5) :=
 (zb0 (zd0 (yi1 (NN:=["line", "x", "y"]) (js:=[none,some 1,some 2]) rfl xg4 (wn0 (ya0 0)) (λ _ _ _ _ _=>(we0 (i:=0) (show List.Nodup (["line", "x", "y"] : List Str) by decide +kernel))) (λ _ _ _ _ _=>wp0) (λ _ _ _ _ _=>(xf0 (xa0 (zc0 yh0 (xc0 q_ix (ya0 0) za0) (ya0 1)) (xa0 (zc0 yh0 (xc0 q_ix (ya0 0) za0) (ya0 2)) (xa0 (xc0 q_ix (ya0 0) za0) yb0))))) (by intro _; rfl))))
theorem sc_q4 : FnScope N_q4 ["frames"] (wa0 s_q4):=⟨rfl,rfl,rfl,by decide +kernel,rfl,by decide +kernel,by decide +kernel⟩
theorem wk8 {k : Nat} {f : Addr} {cdv : Value} {A : Around} {outer : List Env} {s : Shared} {H : Hp} {E : XK} (z_max : mg "max" = none) (z_min : mg "min" = none) (z_range : mg "range" = none) (hr : Room k (A.deeper (envOfC "_law_joined" (wa0 s_q4) s.heap.objs.size f cdv))) :
    RSs (cxOf CX0 P w K mg base N_q4 "_law_joined" (wa0 s_q4) f cdv A outer s H E).nox (yd0 s_q4) (t_q4) :=
 (xb0 (wc0 (i:=1) sc_q4.nd (ye1 (NN:=["frame"]) (by decide +kernel) (by decide +kernel) (by decide +kernel) (wn0 (ya0 0)) (λ _ _ _ _ _=>(we0 (i:=0) (show List.Nodup (["frame"] : List Str) by decide +kernel))) (λ _ _ _ _ _=>(wt5 (ze0 wr4 (ya0 0) xo0))) (λ _ _ _ _ _=>(ya0 0)))) (xb0 (wg0 (ze0 (q_eq (hu64 hr)) (ya0 1) (yp0 yb0)) (zb0 (zd0 xo0)) wd0) (xb0 (yv2 (i:=2) sc_q4.nd (NN:=["k", "kept"]) (js:=[none,some 1]) rfl (wo1 (o := "k")) (yv0 z_range za0) (λ _ _ _ _ _=>(we0 (i:=0) (show List.Nodup (["k", "kept"] : List Str) by decide +kernel))) (λ _ _ _ _ _=>wp0) (λ _ _ _ _ _=>(xe0 (q_mn rfl (hu64 hr)) z_min zq0 (xa0 (yi1 (NN:=["frame", "k"]) (js:=[none,some 0]) rfl (xz2 (wo1 (NN:=["k", "kept"]) (js:=[none,some 1]) (o := "k"))) (wn0 (ya0 1)) (λ _ _ _ _ _=>(we0 (i:=0) (show List.Nodup (["frame", "k"] : List Str) by decide +kernel))) (λ _ _ _ _ _=>wp0) (λ _ _ _ _ _=>(xc0 q_ix (ya0 0) (ya0 1))) (by intro _; rfl)) yb0))) (by intro _; rfl)) (xb0 (yv2 (i:=3) sc_q4.nd (NN:=["k", "kept"]) (js:=[none,some 1]) rfl (wo1 (o := "k")) (zh2 z_range za0 za0) (λ _ _ _ _ _=>(we0 (i:=0) (show List.Nodup (["k", "kept"] : List Str) by decide +kernel))) (λ _ _ _ _ _=>wp0) (λ _ _ _ _ _=>(xe0 (q_mx rfl) z_max wz0 (xa0 (yi1 (NN:=["frame", "k"]) (js:=[none,some 0]) rfl (xz2 (wo1 (NN:=["k", "kept"]) (js:=[none,some 1]) (o := "k"))) (wn0 (ya0 1)) (λ _ _ _ _ _=>(we0 (i:=0) (show List.Nodup (["frame", "k"] : List Str) by decide +kernel))) (λ _ _ _ _ _=>wp0) (λ _ _ _ _ _=>(xc0 q_ix (ya0 0) (ya0 1))) (by intro _; rfl)) yb0))) (by intro _; rfl)) (zb0 (zd0 (xf0 (xa0 (xc0 q_ix (ya0 2) za0) (xa0 (xc0 q_ix (ya0 2) za0) (xa0 (xc0 q_ix (ya0 3) za0) (xa0 (xc0 q_ix (ya0 3) za0) yb0)))))))))))
theorem sc_q9 : FnScope N_q9 ["frame", "line", "shift", "times"] (wa0 s_q9):=⟨rfl,rfl,rfl,by decide +kernel,rfl,by decide +kernel,by decide +kernel⟩
theorem zj8 {k : Nat} {f : Addr} {cdv : Value} {A : Around} {outer : List Env} {s : Shared} {H : Hp} {E : XK} (z_max : mg "max" = none) (z_min : mg "min" = none) (z_range : mg "range" = none) (hr : Room k (A.deeper (envOfC "_law_span" (wa0 s_q9) s.heap.objs.size f cdv))) :
    RSs (cxOf CX0 P w K mg base N_q9 "_law_span" (wa0 s_q9) f cdv A outer s H E).nox (yd0 s_q9) (t_q9) :=
 (xb0 (wc0 (i:=4) sc_q9.nd za0) (xb0 (wc0 (i:=5) sc_q9.nd (zc0 yk0 (ya0 3) za0)) (xb0 (xv0 PassesOwn.never rfl (yv0 z_range za0) (we0 (i:=6) sc_q9.nd) (xb0 (wc0 (i:=7) sc_q9.nd (zc0 yk0 (zc0 yh0 (xc0 q_ix (ya0 1) (ya0 6)) (xc0 q_ix (yp0 (xa0 (zc0 yk0 za0 (xc0 q_ix (ya0 1) za0)) (xa0 (xc0 q_ix (ya0 1) za0) yb0))) (ya0 6))) (xc0 q_ix (ya0 0) (zc0 yh0 (ya0 6) za0)))) (xb0 (wc0 (i:=8) sc_q9.nd (zc0 yk0 (xc0 q_ix (ya0 1) (ya0 6)) (xc0 q_ix (ya0 0) (ya0 6)))) (xb0 (wg0 (zm1 (yy0 (ze0 (q_eq (hu64 hr)) (xc0 q_ix (ya0 2) (ya0 6)) za0) (zu0 (yh2 (xv2 q_le q_le (ya0 7) za0 (ya0 8)))))) (zb0 (zd0 (xf0 (xa0 za0 (xa0 (zv1 wv1 za0) yb0))))) wd0) (xb0 (wg0 (ze0 q_gt (xc0 q_ix (ya0 2) (ya0 6)) za0) (xb0 (wc0 (i:=4) sc_q9.nd (xe0 (zb2 rfl) z_max wz0 (xa0 (ya0 4) (xa0 (zc0 yk0 za0 (zc0 wb1 (zc0 yk0 za0 (ya0 7)) (xc0 q_ix (ya0 2) (ya0 6)))) yb0)))) (zb0 (wc0 (i:=5) sc_q9.nd (xe0 (zt0 rfl) z_min zq0 (xa0 (ya0 5) (xa0 (zc0 wb1 (ya0 8) (xc0 q_ix (ya0 2) (ya0 6))) yb0)))))) wd0) (zb0 (wg0 (ze0 q_lt (xc0 q_ix (ya0 2) (ya0 6)) za0) (xb0 (wc0 (i:=4) sc_q9.nd (xe0 (zb2 rfl) z_max wz0 (xa0 (ya0 4) (xa0 (zc0 yk0 za0 (zc0 wb1 (ya0 8) (zc0 yk0 za0 (xc0 q_ix (ya0 2) (ya0 6))))) yb0)))) (zb0 (wc0 (i:=5) sc_q9.nd (xe0 (zt0 rfl) z_min zq0 (xa0 (ya0 5) (xa0 (zc0 wb1 (zc0 yk0 za0 (ya0 7)) (zc0 yk0 za0 (xc0 q_ix (ya0 2) (ya0 6)))) yb0)))))) wd0))))))) (zb0 (zd0 (xf0 (xa0 (ya0 4) (xa0 (ya0 5) yb0))))))))
theorem sc_q6 : FnScope N_q6 ["once", "shift", "times", "line"] (wa0 s_q6):=⟨rfl,rfl,rfl,by decide +kernel,rfl,by decide +kernel,by decide +kernel⟩
theorem yk8 {k : Nat} {f : Addr} {cdv : Value} {A : Around} {outer : List Env} {s : Shared} {H : Hp} {E : XK} (hr : Room k (A.deeper (envOfC "_law_often" (wa0 s_q6) s.heap.objs.size f cdv))) :
    RSs (cxOf CX0 P w K mg base N_q6 "_law_often" (wa0 s_q6) f cdv A outer s H E).nox (yd0 s_q6) (t_q6) :=
 (xb0 (wc0 (i:=4) sc_q6.nd za0) (xb0 (xv0 PassesOwn.never rfl (wn0 (ya0 0)) (we0 (i:=5) sc_q6.nd) (zb0 (wg0 (ze0 (q_eq (hu64 hr)) (xc0 q_ix (ya0 5) za0) (xc0 q_ix (ya0 3) za0)) (xb0 (wc0 (i:=6) sc_q6.nd (zc0 yk0 (xc0 q_ix (ya0 3) za0) (xc0 q_ix (ya0 5) za0))) (xb0 (wc0 (i:=7) sc_q6.nd (zc0 yk0 (xc0 q_ix (ya0 3) za0) (xc0 q_ix (ya0 5) za0))) (xb0 (wc0 (i:=8) sc_q6.nd (zv1 wv1 za0)) (xb0 (wg0 (ze0 (q_ne (hu64 hr)) (xc0 q_ix (ya0 1) za0) za0) (zb0 (wc0 (i:=8) sc_q6.nd (zc0 zo7 (ya0 6) (xc0 q_ix (ya0 1) za0)))) (zb0 (wg0 (ze0 (q_ne (hu64 hr)) (xc0 q_ix (ya0 1) za0) za0) (zb0 (wc0 (i:=8) sc_q6.nd (zc0 zo7 (ya0 7) (xc0 q_ix (ya0 1) za0)))) (zb0 (wg0 (zm1 (yy0 (ze0 (q_eq (hu64 hr)) (ya0 6) za0) (zu0 (ze0 (q_eq (hu64 hr)) (ya0 7) za0)))) (zb0 (wc0 (i:=4) sc_q6.nd (zc0 yh0 (ya0 4) (ya0 2)))) wd0))))) (zb0 (wg0 (zm1 (yy0 (ze0 (q_ne (hu64 hr)) (ya0 1) (xf0 (xa0 za0 (xa0 za0 yb0)))) (yy0 (ze0 (q_eq (hu64 hr)) (xf0 (xa0 (zc0 xq0 (ya0 8) (xc0 q_ix (ya0 1) za0)) (xa0 (zc0 xq0 (ya0 8) (xc0 q_ix (ya0 1) za0)) yb0))) (xf0 (xa0 (ya0 6) (xa0 (ya0 7) yb0)))) (zu0 (xv2 q_le q_lt za0 (ya0 8) (ya0 2)))))) (zb0 (wc0 (i:=4) sc_q6.nd (zc0 yh0 (ya0 4) za0))) wd0)))))) wd0))) (zb0 (zd0 (ya0 4)))))
theorem sc_q12 : FnScope wm6 ["deeds", "line"] (wa0 xh3):=⟨rfl,rfl,rfl,by decide +kernel,rfl,by decide +kernel,by decide +kernel⟩
theorem ze7 {k : Nat} {f : Addr} {cdv : Value} {A : Around} {outer : List Env} {s : Shared} {H : Hp} {E : XK} {sp_q13 : Sp3} {k_q13 : Nat} (c_q13 : CalM P w K mg base k_q13 "_law_which" ["e"] sp_q13) (l_q13 : k_q13 <= k) {spx_q27 : XE3 -> Sp3} {k_q27 : Nat} (c_q27 : CalX P w K mg base k_q27 "drawn_often" ["word", "stroke"] spx_q27) (l_q27 : k_q27 <= k) {C_PenError : Addr} (m_PenError : mg "PenError" = some (.ref C_PenError)) (k2_PenError : PySem.W.kitCls K (.ref C_PenError) (.type "BaseException") = some true) (k3 : PySem.W.kitCls K (.type "type") (.type "tuple") = some false) (ok_PenError : ∀ c,okX c = true -> ∃ C,PySem.W.nsIn K mainGlobals c = some (some (.ref C)) /\ mg c = some (.ref C) /\ PySem.W.kitCls K (.ref C) (.ref C_PenError) = some true) (hr : Room k (A.deeper (envOfC "_law_told" (wa0 xh3) s.heap.objs.size f cdv))) :
    RSs (cxOf CX0 P w K mg base wm6 "_law_told" (wa0 xh3) f cdv A outer s H E).nox (yd0 xh3) (xs6 sp_q13 spx_q27) :=
 (xb0 (wc0 (i:=2) sc_q12.nd xo0) (xb0 (xu5 (i:=3) (j:=2) (c_q27.mono l_q27) hr (xa0 (ya0 0) (xa0 (ya0 1) yb0)) (λ _=>(zb0 (wc0 (i:=2) sc_q12.nd (xr4 (c_q13.mono l_q13) (RoomM.of hr _) (xa0 (ya0 3) yb0))))) sc_q12.nd m_PenError k2_PenError k3 ok_PenError) (zb0 (zd0 (ya0 2)))))
theorem sc_q29 : FnScope xl6 ["script"] (wa0 yv1):=⟨rfl,rfl,rfl,by decide +kernel,rfl,by decide +kernel,by decide +kernel⟩
theorem ya7 {k : Nat} {f : Addr} {cdv : Value} {A : Around} {outer : List Env} {s : Shared} {H : Hp} {E : XK} {sp_q1 : Sp3} {k_q1 : Nat} (c_q1 : Cal P w K mg base k_q1 "_law_deeds" ["state", "deep", "many"] sp_q1) (l_q1 : k_q1 <= k) {sp_q2 : Sp3} {k_q2 : Nat} (c_q2 : Cal P w K mg base k_q2 "_law_frame" ["drawn"] sp_q2) (l_q2 : k_q2 <= k) {sp_q3 : Sp3} {k_q3 : Nat} (c_q3 : Cal P w K mg base k_q3 "_law_is_row" ["found", "due"] sp_q3) (l_q3 : k_q3 <= k) {sp_q4 : Sp3} {k_q4 : Nat} (c_q4 : Cal P w K mg base k_q4 "_law_joined" ["frames"] sp_q4) (l_q4 : k_q4 <= k) {sp_q5 : Sp3} {k_q5 : Nat} (c_q5 : Cal P w K mg base k_q5 "_law_moved" ["drawn", "x", "y"] sp_q5) (l_q5 : k_q5 <= k) {sp_q6 : Sp3} {k_q6 : Nat} (c_q6 : Cal P w K mg base k_q6 "_law_often" ["once", "shift", "times", "line"] sp_q6) (l_q6 : k_q6 <= k) {sp_q8 : Sp3} {k_q8 : Nat} (c_q8 : Cal P w K mg base k_q8 "_law_run" ["deeds", "pen"] sp_q8) (l_q8 : k_q8 <= k) {sp_q9 : Sp3} {k_q9 : Nat} (c_q9 : Cal P w K mg base k_q9 "_law_span" ["frame", "line", "shift", "times"] sp_q9) (l_q9 : k_q9 <= k) {sp_q10 : Sp3} {k_q10 : Nat} (c_q10 : Cal P w K mg base k_q10 "_law_state" ["script", "k"] sp_q10) (l_q10 : k_q10 <= k) {sp_q11 : Sp3} {k_q11 : Nat} (c_q11 : Cal P w K mg base k_q11 "_law_take" ["state", "many"] sp_q11) (l_q11 : k_q11 <= k) {sp_q12 : Sp3} {k_q12 : Nat} (c_q12 : Cal P w K mg base k_q12 "_law_told" ["deeds", "line"] sp_q12) (l_q12 : k_q12 <= k) {sp_q14 : Sp3} {k_q14 : Nat} (c_q14 : Cal P w K mg base k_q14 "_law_whole" ["found"] sp_q14) (l_q14 : k_q14 <= k) {sp_q16 : Sp3} {k_q16 : Nat} (c_q16 : Cal P w K mg base k_q16 "box_of" ["word"] sp_q16) (l_q16 : k_q16 <= k) (z_len : mg "len" = none) (hr : Room k (A.deeper (envOfC "law" (wa0 yv1) s.heap.objs.size f cdv))) :
    RSs (cxOf CX0 P w K mg base xl6 "law" (wa0 yv1) f cdv A outer s H E).nox (yd0 yv1) (yq6 sp_q1 sp_q2 sp_q3 sp_q4 sp_q5 sp_q6 sp_q8 sp_q9 sp_q10 sp_q11 sp_q12 sp_q14 sp_q16) :=
 (xb0 (wc0 (i:=1) sc_q29.nd (yc0 (c_q10.mono l_q10) hr (xa0 (ya0 0) (xa0 za0 yb0)))) (xb0 (wc0 (i:=2) sc_q29.nd (yc0 (c_q1.mono l_q1) hr (xa0 (ya0 1) (xa0 za0 (xa0 (yc0 (c_q11.mono l_q11) hr (xa0 (ya0 1) (xa0 za0 yb0))) yb0))))) (xb0 (wc0 (i:=3) sc_q29.nd (yc0 (c_q1.mono l_q1) hr (xa0 (ya0 1) (xa0 za0 (xa0 (zc0 yh0 za0 (yc0 (c_q11.mono l_q11) hr (xa0 (ya0 1) (xa0 za0 yb0)))) yb0))))) (xb0 (wc0 (i:=4) sc_q29.nd (yc0 (c_q1.mono l_q1) hr (xa0 (ya0 1) (xa0 za0 (xa0 (yc0 (c_q11.mono l_q11) hr (xa0 (ya0 1) (xa0 za0 yb0))) yb0))))) (xb0 (wc0 (i:=3) sc_q29.nd (zc0 yh0 (ya0 3) (xf0 (xa0 (xf0 (xa0 yq0 (xa0 (zc0 yk0 za0 (xc0 q_ix (xc0 q_ix (yc0 (c_q8.mono l_q8) hr (xa0 (ya0 3) (xa0 (xf0 (xa0 za0 (xa0 za0 (xa0 za0 yb0)))) yb0))) za0) za0)) yb0))) yb0)))) (xb0 (wc0 (i:=5) sc_q29.nd (zc0 yh0 za0 (yc0 (c_q11.mono l_q11) hr (xa0 (ya0 1) (xa0 (xc0 q_ix (yp0 (xa0 za0 (xa0 za0 (xa0 (zc0 zr4 za0 za0) (xa0 (zc0 yk0 (zc0 zr4 za0 za0) za0) yb0))))) (yc0 (c_q11.mono l_q11) hr (xa0 (ya0 1) (xa0 za0 yb0)))) yb0))))) (xb0 (yx1 (yc0 (c_q8.mono l_q8) hr (xa0 (ya0 2) (xa0 (xf0 (xa0 za0 (xa0 za0 (xa0 za0 yb0)))) yb0))) (wl1 rfl (xh0 (we0 (i:=6) sc_q29.nd) (xh0 (we0 (i:=7) sc_q29.nd) zy0)))) (xb0 (yx1 (yc0 (c_q8.mono l_q8) hr (xa0 (ya0 3) (xa0 (ya0 7) yb0))) (wl1 rfl (xh0 (we0 (i:=8) sc_q29.nd) (xh0 (we0 (i:=9) sc_q29.nd) zy0)))) (xb0 (wc0 (i:=10) sc_q29.nd (xf0 (xa0 (zc0 yk0 (xc0 q_ix (ya0 9) za0) (xc0 q_ix (ya0 7) za0)) (xa0 (zc0 yk0 (xc0 q_ix (ya0 9) za0) (xc0 q_ix (ya0 7) za0)) yb0)))) (xb0 (wc0 (i:=11) sc_q29.nd (xf0 (xa0 (zc0 xq0 (zc0 yk0 (ya0 5) za0) (xc0 q_ix (ya0 10) za0)) (xa0 (zc0 xq0 (zc0 yk0 (ya0 5) za0) (xc0 q_ix (ya0 10) za0)) yb0)))) (xb0 (wc0 (i:=12) sc_q29.nd (xc0 q_ix (yc0 (c_q8.mono l_q8) hr (xa0 (ya0 4) (xa0 (xf0 (xa0 (zc0 yh0 (xc0 q_ix (ya0 7) za0) (zc0 xq0 (ya0 5) (xc0 q_ix (ya0 10) za0))) (xa0 (zc0 yh0 (xc0 q_ix (ya0 7) za0) (zc0 xq0 (ya0 5) (xc0 q_ix (ya0 10) za0))) (xa0 (xc0 q_ix (ya0 7) za0) yb0)))) yb0))) za0)) (xb0 (wc0 (i:=13) sc_q29.nd (zc0 yh0 (zc0 yh0 (ya0 2) (xf0 (xa0 (xf0 (xa0 yq0 (xa0 (ya0 5) (xa0 (ya0 3) yb0)))) yb0))) (ya0 4))) (xb0 (wc0 (i:=14) sc_q29.nd (yc0 (c_q4.mono l_q4) hr (xa0 (ye1 (NN:=["row"]) (by decide +kernel) (by decide +kernel) (by decide +kernel) (wn0 (yp0 (xa0 (ya0 6) (xa0 (ya0 8) (xa0 (yc0 (c_q5.mono l_q5) hr (xa0 (ya0 8) (xa0 (xc0 q_ix (ya0 11) za0) (xa0 (xc0 q_ix (ya0 11) za0) yb0)))) (xa0 (ya0 12) yb0)))))) (λ _ _ _ _ _=>(we0 (i:=0) (show List.Nodup (["row"] : List Str) by decide +kernel))) (λ _ _ _ _ _=>wp0) (λ _ _ _ _ _=>(yc0 (c_q2.mono l_q2) hr (xa0 (ya0 0) yb0)))) yb0))) (xb0 (wg0 (yh2 (xx1 (yc0 (c_q3.mono l_q3) hr (xa0 (yc0 (c_q16.mono l_q16) hr (xa0 (ya0 13) yb0)) (xa0 (ya0 14) yb0))))) (zb0 (zd0 yb2)) wd0) (xb0 (wc0 (i:=15) sc_q29.nd (xc0 q_ix (yp0 (xa0 za0 (xa0 (zc0 yk0 (ya0 5) za0) (xa0 (zc0 wb1 (ya0 5) za0) (xa0 (yc0 (c_q11.mono l_q11) hr (xa0 (ya0 1) (xa0 za0 yb0))) yb0))))) (yc0 (c_q11.mono l_q11) hr (xa0 (ya0 1) (xa0 za0 yb0))))) (xb0 (wc0 (i:=16) sc_q29.nd (xf0 (xa0 (zc0 yk0 (zc0 yh0 (zc0 yh0 (xc0 q_ix (ya0 7) za0) (zc0 xq0 (ya0 15) (xc0 q_ix (ya0 10) za0))) (yc0 (c_q11.mono l_q11) hr (xa0 (ya0 1) (xa0 za0 yb0)))) za0) (xa0 (zc0 yh0 (xc0 q_ix (ya0 7) za0) (zc0 xq0 (ya0 15) (xc0 q_ix (ya0 10) za0))) (xa0 (yc0 (c_q11.mono l_q11) hr (xa0 (ya0 1) (xa0 za0 yb0))) yb0))))) (xb0 (wg0 (zm1 (yy0 (ze0 (q_ne (hu64 hr)) (ya0 8) (yp0 yb0)) (zu0 (ze0 q_gt (yc0 (c_q11.mono l_q11) hr (xa0 (ya0 1) (xa0 za0 yb0))) za0)))) (xb0 (wc0 (i:=17) sc_q29.nd (xc0 q_ix (ya0 8) (yc0 (c_q11.mono l_q11) hr (xa0 (ya0 1) (xa0 (xe0 xt3 z_len zl2 (xa0 (ya0 8) yb0)) yb0))))) (zb0 (wc0 (i:=16) sc_q29.nd (xf0 (xa0 (zc0 yh0 (xc0 q_ix (ya0 17) za0) (zc0 xq0 (ya0 15) (xc0 q_ix (ya0 10) za0))) (xa0 (zc0 yh0 (xc0 q_ix (ya0 17) za0) (zc0 xq0 (ya0 15) (xc0 q_ix (ya0 10) za0))) (xa0 (xc0 q_ix (ya0 17) za0) yb0))))))) wd0) (xb0 (wc0 (i:=18) sc_q29.nd (yc0 (c_q12.mono l_q12) hr (xa0 (ya0 13) (xa0 (ya0 16) yb0)))) (xb0 (wg0 (zm1 (yy0 (ze0 (q_ne (hu64 hr)) (ya0 8) (yp0 yb0)) (zu0 (ze0 (q_ne (hu64 hr)) (ya0 10) (xf0 (xa0 za0 (xa0 za0 yb0))))))) (xb0 (wc0 (i:=19) sc_q29.nd (yc0 (c_q9.mono l_q9) hr (xa0 (yc0 (c_q2.mono l_q2) hr (xa0 (ya0 8) yb0)) (xa0 (ya0 16) (xa0 (ya0 10) (xa0 (ya0 5) yb0)))))) (zb0 (wg0 (ze0 q_ge (zc0 yk0 (xc0 q_ix (ya0 19) za0) (xc0 q_ix (ya0 19) za0)) za0) (zb0 (zd0 (zb1 (q_eq (hu64 hr)) (ya0 18) (yp0 (xa0 yb2 (xa0 yb2 (xa0 yb2 (xa0 yb2 (xa0 yb2 (xa0 yb2 (xa0 yb2 yb0))))))))))) wd0))) wd0) (xb0 (wc0 (i:=20) sc_q29.nd (zc0 yh0 (zc0 yh0 (wv2 (hu65 hr) (ya0 6) (xa0 (ya0 16) yb0)) (wv2 (hu65 hr) (ya0 12) (xa0 (ya0 16) yb0))) (yc0 (c_q6.mono l_q6) hr (xa0 (ya0 8) (xa0 (ya0 10) (xa0 (ya0 5) (xa0 (ya0 16) yb0))))))) (zb0 (zd0 (xm1 (yc0 (c_q14.mono l_q14) hr (xa0 (ya0 18) yb0)) (zx1 (zb1 (q_eq (hu64 hr)) (ya0 18) (ya0 20))))))))))))))))))))))))))
theorem sc_Look___init__ : FnScope zn0 ["self", "stroke"] (wa0 xg0):=⟨rfl,rfl,rfl,by decide +kernel,rfl,by decide +kernel,by decide +kernel⟩
theorem wm1 {k : Nat} {f : Addr} {cdv : Value} {A : Around} {outer : List Env} {s : Shared} {H : Hp} {E : XK} {sp_q28 : Sp3} {k_q28 : Nat} (c_q28 : Cal P w K mg base k_q28 "ends_of" ["stroke"] sp_q28) (l_q28 : k_q28 <= k) {C_Look : Addr} (oc_Look : ObjC K "Look" C_Look) (na_Look_greatest : NoAttr K C_Look "greatest") (na_Look_least : NoAttr K C_Look "least") (na_Look_left : NoAttr K C_Look "left") (g_MOST_LOOKED_AT : Gd K mg "MOST_LOOKED_AT" wk0) (hr : Room k (A.deeper (envOfC "Look.__init__" (wa0 xg0) s.heap.objs.size f cdv))) :
    RSs (cxOf CX0 P w K mg base zn0 "Look.__init__" (wa0 xg0) f cdv A outer s H E).nox (yd0 xg0) (xs0 sp_q28) :=
 (xb0 (wc0 (i:=2) sc_Look___init__.nd (yc0 (c_q28.mono l_q28) hr (xa0 (ya0 1) yb0))) (xb0 (zv2 (ya0 0) (xc0 q_ix (ya0 2) za0) oc_Look na_Look_least) (xb0 (zv2 (ya0 0) (xc0 q_ix (ya0 2) za0) oc_Look na_Look_greatest) (zb0 (zv2 (ya0 0) (re_g g_MOST_LOOKED_AT) oc_Look na_Look_left)))))
theorem sc_Look_is_within : FnScope xl0 ["self", "box"] (wa0 wf0):=⟨rfl,rfl,rfl,by decide +kernel,rfl,by decide +kernel,by decide +kernel⟩
theorem yk1 {k : Nat} {f : Addr} {cdv : Value} {A : Around} {outer : List Env} {s : Shared} {H : Hp} {E : XK} {C_Look : Addr} (oc_Look : ObjC K "Look" C_Look) (na_Look_greatest : NoAttr K C_Look "greatest") (na_Look_least : NoAttr K C_Look "least") (hr : Room k (A.deeper (envOfC "Look.is_within" (wa0 wf0) s.heap.objs.size f cdv))) :
    RSs (cxOf CX0 P w K mg base xl0 "Look.is_within" (wa0 wf0) f cdv A outer s H E).nox (yd0 wf0) (zp0) :=
 (xb0 (wg0 (ze0 wb2 (ya0 1) xo0) (zb0 (zd0 yb2)) wd0) (xb0 (wc0 (i:=2) sc_Look_is_within.nd (xm1 (zb1 q_le (xc0 q_ix (ya0 1) za0) (xc0 q_ix (yb1 (ya0 0) oc_Look na_Look_least) za0)) (zx1 (zb1 q_le (xc0 q_ix (ya0 1) za0) (xc0 q_ix (yb1 (ya0 0) oc_Look na_Look_least) za0))))) (zb0 (zd0 (xm1 (ya0 2) (xm1 (zb1 q_le (xc0 q_ix (yb1 (ya0 0) oc_Look na_Look_greatest) za0) (xc0 q_ix (ya0 1) za0)) (zx1 (zb1 q_le (xc0 q_ix (yb1 (ya0 0) oc_Look na_Look_greatest) za0) (xc0 q_ix (ya0 1) za0)))))))))
theorem zd1 : FnScope zj0 ["self"] (wa0 yf0):=⟨rfl,rfl,rfl,by decide +kernel,rfl,by decide +kernel,by decide +kernel⟩
theorem wd1 {k : Nat} {f : Addr} {cdv : Value} {A : Around} {outer : List Env} {s : Shared} {H : Hp} {E : XK} {XE : XE3} (EX : EXok K mg XE E) {C_Look : Addr} (oc_Look : ObjC K "Look" C_Look) (na_Look_left : NoAttr K C_Look "left") {C_NoRoom : Addr} (O_NoRoom : OwnCls "NoRoom" C_NoRoom [.type "ValueError",.type "Exception",.type "BaseException",.type "object"] "ValueError.__new__" mg base) (hr : Room k (A.deeper (envOfC "Look.count_doing" (wa0 yf0) s.heap.objs.size f cdv))) :
    RSs (cxOf (CXn P w) P w K mg base zj0 "Look.count_doing" (wa0 yf0) f cdv A outer s H E) (yd0 yf0) (zm0 XE) :=
 (xb0 (wg0 (ze0 (q_eq (hu64 hr)) (yb1 (ya0 0) oc_Look na_Look_left) za0) (zb0 (xq4 EX O_NoRoom PySem.F.excBase_ValueError (by decide) PySem.F.excBase_ValueError (xa0 yq0 yb0))) wd0) (zb0 (zv2 (ya0 0) (zc0 yk0 (yb1 (ya0 0) oc_Look na_Look_left) za0) oc_Look na_Look_left)))
end
end Pv
namespace Pv
open PySem PySem.Spec PyProof.Rows L2
theorem bn1 {P : List Value -> Prop} (h : ∀ a,P [a]) (us : List Value) (e : us.length = 1) : P us:=by
 match us,e with
 | [a],_=>exact h a
theorem bn2 {P : List Value -> Prop} (h : ∀ a b,P [a,b]) (us : List Value) (e : us.length = 2) : P us:=by
 match us,e with
 | [a,b],_=>exact h a b
theorem bn3 {P : List Value -> Prop} (h : ∀ a b c,P [a,b,c]) (us : List Value) (e : us.length = 3) : P us:=by
 match us,e with
 | [a,b,c],_=>exact h a b c
theorem bn4 {P : List Value -> Prop} (h : ∀ a b c d,P [a,b,c,d]) (us : List Value) (e : us.length = 4) : P us:=by
 match us,e with
 | [a,b,c,d],_=>exact h a b c d
theorem bn5 {P : List Value -> Prop} (h : ∀ a b c d e,P [a,b,c,d,e]) (us : List Value) (e : us.length = 5) : P us:=by
 match us,e with
 | [a,b,c,d,e],_=>exact h a b c d e
theorem bn6 {P : List Value -> Prop} (h : ∀ a b c d e f,P [a,b,c,d,e,f]) (us : List Value) (e : us.length = 6) : P us:=by
 match us,e with
 | [a,b,c,d,e,f],_=>exact h a b c d e f
theorem xn2 {K : Fg} {r cn : Str} {Cr : Addr} {T : Value} {b0 : Bool} (hs : xnames = [r] /\ subX cn r = some b0) (ac : PySem.W.nsIn K mainGlobals r = some (some (.ref Cr))) (E : ExcK K Cr) (kk : PySem.W.kitOne K (.ref Cr) T = some b0) (c : Str) (C : Addr) (b : Bool) (h : subX cn c = some b) (hn : PySem.W.nsIn K mainGlobals c = some (some (.ref C))) : ExcK K C /\ PySem.W.kitOne K (.ref C) T = some b:=by
 have hin:=yr5 h
 rw [hs.1,List.mem_singleton] at hin
 subst hin
 rw [ac] at hn
 cases hn
 rw [hs.2] at h
 cases h
 exact ⟨E,kk⟩
noncomputable abbrev NsR (K : Fg) (x : Str) (p : Addr) : Prop:=PySem.W.nsIn K mainGlobals x = some (some (.ref p))
noncomputable def FnA (K : Fg) (x : Str) (st : Stmt) (p : Addr) : Prop:=∃ oc od sl kV dc pm an cd ct,K.lookup p = some ⟨oc,od,.func (PySem.W.fnOf x x (zs0 st) (yd0 st) (wa0 st) .none kV dc pm an cd ct),sl⟩ /\ PySem.W.codeIn K cd x = true /\ PySem.W.keepIn K (.ref p) = true
theorem fnA_mk {K : Fg} {x : Str} {st : Stmt} {p : Addr} {oc kV dc pm cd ct : Value} {od an : Option Addr} {sl : Array (Option Value)} (l : K.lookup p = some ⟨oc,od,.func (PySem.W.fnOf x x (zs0 st) (yd0 st) (wa0 st) .none kV dc pm an cd ct),sl⟩) (c : PySem.W.codeIn K cd x = true) (k : PySem.W.keepIn K (.ref p) = true) : FnA K x st p:=⟨_,_,_,_,_,_,_,_,_,l,c,k⟩
theorem FnA.fn {K : Fg} {x : Str} {st : Stmt} {p : Addr} (h : FnA K x st p) : ∃ fd,Fun K x x st p fd:=by
 obtain ⟨_,_,_,_,_,_,_,_,_,l,c,k⟩:=h
 exact ⟨_,yk2 (st:=st) l c k⟩
theorem all_mk {l : PySem.W.OpenLaw} {w : World} {K : Fg} {h : Heap} {mg : Str -> Option Value} {fa : Addr} (X : K.In h) (G : h.Ns mainGlobals mg) (hfa : mg "law" = some (.ref fa))
    {p_q21 : Addr}
    {p_q22 : Addr}
    {p_q23 : Addr}
    {p_q19 : Addr}
    {p_q30 : Addr}
    {p_q35 : Addr}
    {p_q36 : Addr}
    {p_q37 : Addr}
    {p_q20 : Addr}
    {p_q28 : Addr}
    {p_q16 : Addr}
    {p_q39 : Addr}
    {p_q24 : Addr}
    {p_q17 : Addr}
    {p_q34 : Addr}
    {p_q18 : Addr}
    {p_q15 : Addr}
    {p_q27 : Addr}
    {p_q33 : Addr}
    {p_q31 : Addr}
    {p_q32 : Addr}
    {p_q26 : Addr}
    {p_q38 : Addr}
    {p_q25 : Addr}
    {p_q10 : Addr}
    {p_q11 : Addr}
    {p_q14 : Addr}
    {p_q0 : Addr}
    {p_q1 : Addr}
    {p_q7 : Addr}
    {p_q8 : Addr}
    {p_q2 : Addr}
    {p_q3 : Addr}
    {p_q13 : Addr}
    {p_q5 : Addr}
    {p_q4 : Addr}
    {p_q9 : Addr}
    {p_q6 : Addr}
    {p_q12 : Addr}
    {p_q29 : Addr}
    {C_Look : Addr}
    {p_Look___init__ : Addr} {od_Look___init__ an_Look___init__ : Option Addr} {sl_Look___init__ : Array (Option Value)} {oc_Look___init__ kV_Look___init__ dc_Look___init__ pm_Look___init__ cd_Look___init__ ct_Look___init__ : Value}
    {p_Look_is_within : Addr} {od_Look_is_within an_Look_is_within : Option Addr} {sl_Look_is_within : Array (Option Value)} {oc_Look_is_within kV_Look_is_within dc_Look_is_within pm_Look_is_within cd_Look_is_within ct_Look_is_within : Value}
    {p_Look_count_doing : Addr} {od_Look_count_doing an_Look_count_doing : Option Addr} {sl_Look_count_doing : Array (Option Value)} {oc_Look_count_doing kV_Look_count_doing dc_Look_count_doing pm_Look_count_doing cd_Look_count_doing ct_Look_count_doing : Value}
    {t_1 : Tok}
    {t_2 : Tok}
    {t_3 : Tok}
    {t_5 : Tok}
    {t_6 : Tok}
    {t_7 : Tok}
    {q_4 : Addr} {qo_4 : Option Addr} {qn_4 : Nat} {qs_4 : Array (Option Value)}
    {t_9 : Tok}
    {t_10 : Tok}
    {q_8 : Addr} {qo_8 : Option Addr} {qn_8 : Nat} {qs_8 : Array (Option Value)}
    {t_12 : Tok}
    {t_13 : Tok}
    {t_14 : Tok}
    {q_11 : Addr} {qo_11 : Option Addr} {qn_11 : Nat} {qs_11 : Array (Option Value)}
    {t_17 : Tok}
    {t_18 : Tok}
    {q_16 : Addr} {qo_16 : Option Addr} {qn_16 : Nat} {qs_16 : Array (Option Value)}
    {t_20 : Tok}
    {t_21 : Tok}
    {q_19 : Addr} {qo_19 : Option Addr} {qn_19 : Nat} {qs_19 : Array (Option Value)}
    {t_23 : Tok}
    {t_24 : Tok}
    {q_22 : Addr} {qo_22 : Option Addr} {qn_22 : Nat} {qs_22 : Array (Option Value)}
    {t_26 : Tok}
    {t_27 : Tok}
    {q_25 : Addr} {qo_25 : Option Addr} {qn_25 : Nat} {qs_25 : Array (Option Value)}
    {q_15 : Addr} {qo_15 : Option Addr} {qn_15 : Nat} {qs_15 : Array (Option Value)}
    {t_29 : Tok}
    {t_30 : Tok}
    {q_28 : Addr} {qo_28 : Option Addr} {qn_28 : Nat} {qs_28 : Array (Option Value)}
    {t_31 : Tok}
    {C_BadNote : Addr} {cdt_BadNote : ClassData}
    {C_NoNumber : Addr} {cdt_NoNumber : ClassData}
    {C_NoPicture : Addr} {cdt_NoPicture : ClassData}
    {C_NoRoom : Addr} {cdt_NoRoom : ClassData}
    {C_NoStep : Addr} {cdt_NoStep : ClassData}
    {C_NoWord : Addr} {cdt_NoWord : ClassData}
    {C_PenError : Addr} {cdt_PenError : ClassData}
    (a_q21 : NsR K "check_word" p_q21) (A_q21 : FnA K "check_word" we3 p_q21)
    (a_q22 : NsR K "checked_count" p_q22) (A_q22 : FnA K "checked_count" ze3 p_q22)
    (a_q23 : NsR K "checked_deed_count" p_q23) (A_q23 : FnA K "checked_deed_count" ye3 p_q23)
    (a_q19 : NsR K "check_number" p_q19) (A_q19 : FnA K "check_number" yf3 p_q19)
    (a_q30 : NsR K "led" p_q30) (A_q30 : FnA K "led" wc3 p_q30)
    (a_q35 : NsR K "pen_behind" p_q35) (A_q35 : FnA K "pen_behind" zb3 p_q35)
    (a_q36 : NsR K "pen_behind_deed" p_q36) (A_q36 : FnA K "pen_behind_deed" yb3 p_q36)
    (a_q37 : NsR K "pen_repeated" p_q37) (A_q37 : FnA K "pen_repeated" xb3 p_q37)
    (a_q20 : NsR K "check_stroke" p_q20) (A_q20 : FnA K "check_stroke" xf3 p_q20)
    (a_q28 : NsR K "ends_of" p_q28) (A_q28 : FnA K "ends_of" xd3 p_q28)
    (a_q16 : NsR K "box_of" p_q16) (A_q16 : FnA K "box_of" xg3 p_q16)
    (a_q39 : NsR K "word_box" p_q39) (A_q39 : FnA K "word_box" za3 p_q39)
    (a_q24 : NsR K "deed_box" p_q24) (A_q24 : FnA K "deed_box" xe3 p_q24)
    (a_q17 : NsR K "box_repeated" p_q17) (A_q17 : FnA K "box_repeated" wf3 p_q17)
    (a_q34 : NsR K "outermost_doings" p_q34) (A_q34 : FnA K "outermost_doings" wb3 p_q34)
    (a_q18 : NsR K "box_round" p_q18) (A_q18 : FnA K "box_round" zf3 p_q18)
    (a_q15 : NsR K "box_from" p_q15) (A_q15 : FnA K "box_from" yg3 p_q15)
    (a_q27 : NsR K "drawn_often" p_q27) (A_q27 : FnA K "drawn_often" yd3 p_q27)
    (a_q33 : NsR K "often_in_word" p_q33) (A_q33 : FnA K "often_in_word" xc3 p_q33)
    (a_q31 : NsR K "often_in_deed" p_q31) (A_q31 : FnA K "often_in_deed" zc3 p_q31)
    (a_q32 : NsR K "often_in_times" p_q32) (A_q32 : FnA K "often_in_times" yc3 p_q32)
    (a_q26 : NsR K "doings_to_ask" p_q26) (A_q26 : FnA K "doings_to_ask" zd3 p_q26)
    (a_q38 : NsR K "span_of_doings" p_q38) (A_q38 : FnA K "span_of_doings" wa3 p_q38)
    (a_q25 : NsR K "doings_like" p_q25) (A_q25 : FnA K "doings_like" wd3 p_q25)
    (a_q10 : NsR K "_law_state" p_q10) (A_q10 : FnA K "_law_state" zh3 p_q10)
    (a_q11 : NsR K "_law_take" p_q11) (A_q11 : FnA K "_law_take" yh3 p_q11)
    (a_q14 : NsR K "_law_whole" p_q14) (A_q14 : FnA K "_law_whole" zg3 p_q14)
    (a_q0 : NsR K "_law_deed" p_q0) (A_q0 : FnA K "_law_deed" s_q0 p_q0)
    (a_q1 : NsR K "_law_deeds" p_q1) (A_q1 : FnA K "_law_deeds" s_q1 p_q1)
    (a_q7 : NsR K "_law_rolled_out" p_q7) (A_q7 : FnA K "_law_rolled_out" s_q7 p_q7)
    (a_q8 : NsR K "_law_run" p_q8) (A_q8 : FnA K "_law_run" s_q8 p_q8)
    (a_q2 : NsR K "_law_frame" p_q2) (A_q2 : FnA K "_law_frame" s_q2 p_q2)
    (a_q3 : NsR K "_law_is_row" p_q3) (A_q3 : FnA K "_law_is_row" s_q3 p_q3)
    (a_q13 : NsR K "_law_which" p_q13) (A_q13 : FnA K "_law_which" wg3 p_q13)
    (a_q5 : NsR K "_law_moved" p_q5) (A_q5 : FnA K "_law_moved" s_q5 p_q5)
    (a_q4 : NsR K "_law_joined" p_q4) (A_q4 : FnA K "_law_joined" s_q4 p_q4)
    (a_q9 : NsR K "_law_span" p_q9) (A_q9 : FnA K "_law_span" s_q9 p_q9)
    (a_q6 : NsR K "_law_often" p_q6) (A_q6 : FnA K "_law_often" s_q6 p_q6)
    (a_q12 : NsR K "_law_told" p_q12) (A_q12 : FnA K "_law_told" xh3 p_q12)
    (a_q29 : NsR K "law" p_q29) (A_q29 : FnA K "law" yv1 p_q29)
    (ac_Look : PySem.W.nsIn K mainGlobals "Look" = some (some (.ref C_Look)))
    (pg_Look : PySem.W.plainGet K C_Look Str.empty = true)
    (hd_Look : PySem.W.hasDictIn K C_Look = true)
    (po_Look : PySem.W.plainOver K C_Look = true)
    (sa_Look : PySem.W.findIn K (.ref C_Look) "__setattr__" = some (some (.builtin "object.__setattr__")))
    (mk_Look : PySem.W.makesIn K C_Look = true)
    (kp_Look : PySem.W.keepIn K (.ref C_Look) = true)
    (na_Look_greatest : PySem.W.findIn K (.ref C_Look) "greatest" = some none)
    (na_Look_least : PySem.W.findIn K (.ref C_Look) "least" = some none)
    (na_Look_left : PySem.W.findIn K (.ref C_Look) "left" = some none)
    (a_Look___init__ : PySem.W.findIn K (.ref C_Look) "__init__" = some (some (.ref p_Look___init__)))
    (i_Look___init__ : PySem.W.isFn K (.ref p_Look___init__) = true)
    (l_Look___init__ : K.lookup p_Look___init__ = some ⟨oc_Look___init__,od_Look___init__,.func (PySem.W.fnOf "__init__" "Look.__init__" (zs0 xg0) (yd0 xg0) (wa0 xg0) .none kV_Look___init__ dc_Look___init__ pm_Look___init__ an_Look___init__ cd_Look___init__ ct_Look___init__),sl_Look___init__⟩)
    (c_Look___init__ : PySem.W.codeIn K cd_Look___init__ "Look.__init__" = true)
    (k_Look___init__ : PySem.W.keepIn K (.ref p_Look___init__) = true)
    (a_Look_is_within : PySem.W.findIn K (.ref C_Look) "is_within" = some (some (.ref p_Look_is_within)))
    (i_Look_is_within : PySem.W.isFn K (.ref p_Look_is_within) = true)
    (l_Look_is_within : K.lookup p_Look_is_within = some ⟨oc_Look_is_within,od_Look_is_within,.func (PySem.W.fnOf "is_within" "Look.is_within" (zs0 wf0) (yd0 wf0) (wa0 wf0) .none kV_Look_is_within dc_Look_is_within pm_Look_is_within an_Look_is_within cd_Look_is_within ct_Look_is_within),sl_Look_is_within⟩)
    (c_Look_is_within : PySem.W.codeIn K cd_Look_is_within "Look.is_within" = true)
    (k_Look_is_within : PySem.W.keepIn K (.ref p_Look_is_within) = true)
    (a_Look_count_doing : PySem.W.findIn K (.ref C_Look) "count_doing" = some (some (.ref p_Look_count_doing)))
    (i_Look_count_doing : PySem.W.isFn K (.ref p_Look_count_doing) = true)
    (l_Look_count_doing : K.lookup p_Look_count_doing = some ⟨oc_Look_count_doing,od_Look_count_doing,.func (PySem.W.fnOf "count_doing" "Look.count_doing" (zs0 yf0) (yd0 yf0) (wa0 yf0) .none kV_Look_count_doing dc_Look_count_doing pm_Look_count_doing an_Look_count_doing cd_Look_count_doing ct_Look_count_doing),sl_Look_count_doing⟩)
    (c_Look_count_doing : PySem.W.codeIn K cd_Look_count_doing "Look.count_doing" = true)
    (k_Look_count_doing : PySem.W.keepIn K (.ref p_Look_count_doing) = true)
    (e_MOST_DEEDS : PySem.W.nsIn K mainGlobals "MOST_DEEDS" = some (some (.int (30) t_1)))
    (e_MOST_DEEP : PySem.W.nsIn K mainGlobals "MOST_DEEP" = some (some (.int (4) t_2)))
    (e_GREATEST_NUMBER : PySem.W.nsIn K mainGlobals "GREATEST_NUMBER" = some (some (.int (99999999999999999999) t_3)))
    (e_PLAIN_KINDS : PySem.W.nsIn K mainGlobals "PLAIN_KINDS" = some (some (.ref q_4)))
    (ql_4 : K.lookup q_4 = some ⟨.type "tuple",qo_4,.seq #[.str "go" t_5,.str "jump" t_6,.str "turn" t_7] qn_4,qs_4⟩)
    (e_KINDS_FROM_NOUGHT : PySem.W.nsIn K mainGlobals "KINDS_FROM_NOUGHT" = some (some (.ref q_8)))
    (ql_8 : K.lookup q_8 = some ⟨.type "tuple",qo_8,.seq #[.str "go" t_9,.str "times" t_10] qn_8,qs_8⟩)
    (e_START : PySem.W.nsIn K mainGlobals "START" = some (some (.ref q_11)))
    (ql_11 : K.lookup q_11 = some ⟨.type "tuple",qo_11,.seq #[.int (0) t_12,.int (0) t_13,.int (0) t_14] qn_11,qs_11⟩)
    (e_AHEAD : PySem.W.nsIn K mainGlobals "AHEAD" = some (some (.ref q_15)))
    (ql_15 : K.lookup q_15 = some ⟨.type "tuple",qo_15,.seq #[.ref q_16,.ref q_19,.ref q_22,.ref q_25] qn_15,qs_15⟩)
    (ql_25 : K.lookup q_25 = some ⟨.type "tuple",qo_25,.seq #[.int (0) t_26,.int (-1) t_27] qn_25,qs_25⟩)
    (ql_22 : K.lookup q_22 = some ⟨.type "tuple",qo_22,.seq #[.int (-1) t_23,.int (0) t_24] qn_22,qs_22⟩)
    (ql_19 : K.lookup q_19 = some ⟨.type "tuple",qo_19,.seq #[.int (0) t_20,.int (1) t_21] qn_19,qs_19⟩)
    (ql_16 : K.lookup q_16 = some ⟨.type "tuple",qo_16,.seq #[.int (1) t_17,.int (0) t_18] qn_16,qs_16⟩)
    (e_WAYS : PySem.W.nsIn K mainGlobals "WAYS" = some (some (.ref q_28)))
    (ql_28 : K.lookup q_28 = some ⟨.type "tuple",qo_28,.seq #[.int (0) t_29,.int (1) t_30] qn_28,qs_28⟩)
    (e_MOST_LOOKED_AT : PySem.W.nsIn K mainGlobals "MOST_LOOKED_AT" = some (some (.int (1000) t_31)))
    (ac_BadNote : PySem.W.nsIn K mainGlobals "BadNote" = some (some (.ref C_BadNote)))
    (cl_BadNote : PySem.W.clsIn K C_BadNote = some cdt_BadNote)
    (tc_BadNote : PySem.W.typeIn K (.ref C_BadNote) = some (.type "type"))
    (ac_NoNumber : PySem.W.nsIn K mainGlobals "NoNumber" = some (some (.ref C_NoNumber)))
    (cl_NoNumber : PySem.W.clsIn K C_NoNumber = some cdt_NoNumber)
    (tc_NoNumber : PySem.W.typeIn K (.ref C_NoNumber) = some (.type "type"))
    (ac_NoPicture : PySem.W.nsIn K mainGlobals "NoPicture" = some (some (.ref C_NoPicture)))
    (cl_NoPicture : PySem.W.clsIn K C_NoPicture = some cdt_NoPicture)
    (tc_NoPicture : PySem.W.typeIn K (.ref C_NoPicture) = some (.type "type"))
    (ac_NoRoom : PySem.W.nsIn K mainGlobals "NoRoom" = some (some (.ref C_NoRoom)))
    (cl_NoRoom : PySem.W.clsIn K C_NoRoom = some cdt_NoRoom)
    (tc_NoRoom : PySem.W.typeIn K (.ref C_NoRoom) = some (.type "type"))
    (ac_NoStep : PySem.W.nsIn K mainGlobals "NoStep" = some (some (.ref C_NoStep)))
    (cl_NoStep : PySem.W.clsIn K C_NoStep = some cdt_NoStep)
    (tc_NoStep : PySem.W.typeIn K (.ref C_NoStep) = some (.type "type"))
    (ac_NoWord : PySem.W.nsIn K mainGlobals "NoWord" = some (some (.ref C_NoWord)))
    (cl_NoWord : PySem.W.clsIn K C_NoWord = some cdt_NoWord)
    (tc_NoWord : PySem.W.typeIn K (.ref C_NoWord) = some (.type "type"))
    (ac_PenError : PySem.W.nsIn K mainGlobals "PenError" = some (some (.ref C_PenError)))
    (cl_PenError : PySem.W.clsIn K C_PenError = some cdt_PenError)
    (tc_PenError : PySem.W.typeIn K (.ref C_PenError) = some (.type "type"))
    (q_NoRoom : PySem.W.excIn K C_NoRoom [.type "ValueError",.type "Exception",.type "BaseException",.type "object"] "ValueError.__new__" = true)
    (ek0_NoRoom : PySem.W.findIn K (.ref C_NoRoom) "__getattribute__" = some (some (.builtin "BaseException.__getattribute__")))
    (ek1_NoRoom : PySem.W.findIn K (.ref C_NoRoom) "__getattr__" = some none)
    (ek2_NoRoom : PySem.W.mroIn K C_NoRoom (.type "BaseException") = some true)
    (ek4_NoRoom : PySem.W.findIn K (.ref C_NoRoom) "__class__" = some (some (.builtin "object.__class__")))
    (ek5_NoRoom : PySem.W.specialIn K (.builtin "object.__class__") "__get__" = some (some (.builtin "getset_descriptor.__get__")))
    (ek6_NoRoom : PySem.W.takesIn K (.builtin "object.__class__") = some true)
    (ek7_NoRoom : PySem.W.mroIn K C_NoRoom (.type "object") = some true)
    (sb_NoRoom_BadNote : PySem.W.subIn K (.ref C_NoRoom) (.ref C_BadNote) = some false)
    (ne_NoRoom_BadNote : (Value.ref C_NoRoom == Value.ref C_BadNote) = false)
    (sb_NoRoom_NoNumber : PySem.W.subIn K (.ref C_NoRoom) (.ref C_NoNumber) = some false)
    (ne_NoRoom_NoNumber : (Value.ref C_NoRoom == Value.ref C_NoNumber) = false)
    (sb_NoRoom_NoPicture : PySem.W.subIn K (.ref C_NoRoom) (.ref C_NoPicture) = some false)
    (ne_NoRoom_NoPicture : (Value.ref C_NoRoom == Value.ref C_NoPicture) = false)
    (sb_NoRoom_NoStep : PySem.W.subIn K (.ref C_NoRoom) (.ref C_NoStep) = some false)
    (ne_NoRoom_NoStep : (Value.ref C_NoRoom == Value.ref C_NoStep) = false)
    (sb_NoRoom_NoWord : PySem.W.subIn K (.ref C_NoRoom) (.ref C_NoWord) = some false)
    (ne_NoRoom_NoWord : (Value.ref C_NoRoom == Value.ref C_NoWord) = false)
    (sb_NoRoom_ValueError : PySem.W.subIn K (.ref C_NoRoom) (.type "ValueError") = some true)
    (k3s : PySem.W.subIn K (.type "type") (.type "tuple") = some false)
    (k2s_PenError : PySem.W.subIn K (.ref C_PenError) (.type "BaseException") = some true)
    (sb_NoRoom_PenError : PySem.W.subIn K (.ref C_NoRoom) (.ref C_PenError) = some true)
    (zz_ValueError : PySem.W.nsIn K mainGlobals "ValueError" = some none)
    (zz_abs : PySem.W.nsIn K mainGlobals "abs" = some none)
    (zz_all : PySem.W.nsIn K mainGlobals "all" = some none)
    (zz_bool : PySem.W.nsIn K mainGlobals "bool" = some none)
    (zz_int : PySem.W.nsIn K mainGlobals "int" = some none)
    (zz_isinstance : PySem.W.nsIn K mainGlobals "isinstance" = some none)
    (zz_len : PySem.W.nsIn K mainGlobals "len" = some none)
    (zz_list : PySem.W.nsIn K mainGlobals "list" = some none)
    (zz_max : PySem.W.nsIn K mainGlobals "max" = some none)
    (zz_min : PySem.W.nsIn K mainGlobals "min" = some none)
    (zz_range : PySem.W.nsIn K mainGlobals "range" = some none)
    (zz_tuple : PySem.W.nsIn K mainGlobals "tuple" = some none) :
    ∃ fd : FuncData,(∀ (s : Shared) (v : Value),BindsTo s fd ⟨[v],[]⟩ [("script",v)]) /\ ∀ base : Heap,K.In base -> base.Ns mainGlobals mg -> FnOk l.prog w K mg base CX0 44 fa fd ["script"] (lift K zo4):=by
 have e:=hfa.symm.trans (PySem.W.mg_of X G a_q29)
 cases e
 have m_Look:=PySem.W.mg_of X G ac_Look
 have oc_Look : ObjC K "Look" C_Look:=⟨ac_Look,⟨pg_Look,hd_Look,po_Look,sa_Look⟩⟩
 have g_MOST_DEEDS : Gd K mg "MOST_DEEDS" zz0:=wx2 X G e_MOST_DEEDS
 have g_MOST_DEEP : Gd K mg "MOST_DEEP" we1:=wx2 X G e_MOST_DEEP
 have g_GREATEST_NUMBER : Gd K mg "GREATEST_NUMBER" wo0:=wx2 X G e_GREATEST_NUMBER
 have g_PLAIN_KINDS : Gd K mg "PLAIN_KINDS" yx0:=xk2 X G e_PLAIN_KINDS (TupK.mk ql_4 (show 3 <= sizeLine by decide) (.str (.str (.str .nil))))
 have g_KINDS_FROM_NOUGHT : Gd K mg "KINDS_FROM_NOUGHT" zl0:=xk2 X G e_KINDS_FROM_NOUGHT (TupK.mk ql_8 (show 2 <= sizeLine by decide) (.str (.str .nil)))
 have g_START : Gd K mg "START" xn0:=xk2 X G e_START (TupK.mk ql_11 (show 3 <= sizeLine by decide) (.int (.int (.int .nil))))
 have g_AHEAD : Gd K mg "AHEAD" yd2:=xk2 X G e_AHEAD (TupK.mk ql_15 (show 4 <= sizeLine by decide) (.tup (TupK.mk ql_16 (show 2 <= sizeLine by decide) (.int (.int .nil))) (.tup (TupK.mk ql_19 (show 2 <= sizeLine by decide) (.int (.int .nil))) (.tup (TupK.mk ql_22 (show 2 <= sizeLine by decide) (.int (.int .nil))) (.tup (TupK.mk ql_25 (show 2 <= sizeLine by decide) (.int (.int .nil))) .nil)))))
 have g_WAYS : Gd K mg "WAYS" xj2:=xk2 X G e_WAYS (TupK.mk ql_28 (show 2 <= sizeLine by decide) (.int (.int .nil)))
 have g_MOST_LOOKED_AT : Gd K mg "MOST_LOOKED_AT" wk0:=wx2 X G e_MOST_LOOKED_AT
 have m_BadNote:=PySem.W.mg_of X G ac_BadNote
 have m_NoNumber:=PySem.W.mg_of X G ac_NoNumber
 have m_NoPicture:=PySem.W.mg_of X G ac_NoPicture
 have m_NoRoom:=PySem.W.mg_of X G ac_NoRoom
 have m_NoStep:=PySem.W.mg_of X G ac_NoStep
 have m_NoWord:=PySem.W.mg_of X G ac_NoWord
 have m_PenError:=PySem.W.mg_of X G ac_PenError
 have EK_NoRoom : ExcK K C_NoRoom:=⟨ek0_NoRoom,ek1_NoRoom,ek2_NoRoom,(by rw [cl_NoRoom]; rfl),ek4_NoRoom,ek5_NoRoom,ek6_NoRoom,ek7_NoRoom⟩
 have kk_NoRoom_BadNote : PySem.W.kitOne K (.ref C_NoRoom) (.ref C_BadNote) = some false:=yl1 ne_NoRoom_BadNote (xa1 cl_BadNote tc_BadNote sb_NoRoom_BadNote)
 have x_BadNote:=xn2 (cn := "BadNote") ⟨rfl,by decide⟩ ac_NoRoom EK_NoRoom kk_NoRoom_BadNote
 have kk_NoRoom_NoNumber : PySem.W.kitOne K (.ref C_NoRoom) (.ref C_NoNumber) = some false:=yl1 ne_NoRoom_NoNumber (xa1 cl_NoNumber tc_NoNumber sb_NoRoom_NoNumber)
 have x_NoNumber:=xn2 (cn := "NoNumber") ⟨rfl,by decide⟩ ac_NoRoom EK_NoRoom kk_NoRoom_NoNumber
 have kk_NoRoom_NoPicture : PySem.W.kitOne K (.ref C_NoRoom) (.ref C_NoPicture) = some false:=yl1 ne_NoRoom_NoPicture (xa1 cl_NoPicture tc_NoPicture sb_NoRoom_NoPicture)
 have x_NoPicture:=xn2 (cn := "NoPicture") ⟨rfl,by decide⟩ ac_NoRoom EK_NoRoom kk_NoRoom_NoPicture
 have kk_NoRoom_NoRoom : PySem.W.kitOne K (.ref C_NoRoom) (.ref C_NoRoom) = some true:=za4
 have x_NoRoom:=xn2 (cn := "NoRoom") ⟨rfl,by decide⟩ ac_NoRoom EK_NoRoom kk_NoRoom_NoRoom
 have kk_NoRoom_NoStep : PySem.W.kitOne K (.ref C_NoRoom) (.ref C_NoStep) = some false:=yl1 ne_NoRoom_NoStep (xa1 cl_NoStep tc_NoStep sb_NoRoom_NoStep)
 have x_NoStep:=xn2 (cn := "NoStep") ⟨rfl,by decide⟩ ac_NoRoom EK_NoRoom kk_NoRoom_NoStep
 have kk_NoRoom_NoWord : PySem.W.kitOne K (.ref C_NoRoom) (.ref C_NoWord) = some false:=yl1 ne_NoRoom_NoWord (xa1 cl_NoWord tc_NoWord sb_NoRoom_NoWord)
 have x_NoWord:=xn2 (cn := "NoWord") ⟨rfl,by decide⟩ ac_NoRoom EK_NoRoom kk_NoRoom_NoWord
 have kk_NoRoom_ValueError : PySem.W.kitOne K (.ref C_NoRoom) (.type "ValueError") = some true:=yl1 rfl (zp2 (by decide +kernel) sb_NoRoom_ValueError)
 have x_ValueError:=xn2 (cn := "ValueError") ⟨rfl,by decide⟩ ac_NoRoom EK_NoRoom kk_NoRoom_ValueError
 have k3 : PySem.W.kitCls K (.type "type") (.type "tuple") = some false:=zp2 (by decide +kernel) k3s
 have k2_PenError:=zp2 (T := "BaseException") (by decide +kernel) k2s_PenError
 have kc_NoRoom_PenError:=xa1 cl_PenError tc_PenError sb_NoRoom_PenError
 have ok_PenError : ∀ c,okX c = true -> ∃ C,PySem.W.nsIn K mainGlobals c = some (some (.ref C)) /\ mg c = some (.ref C) /\ PySem.W.kitCls K (.ref C) (.ref C_PenError) = some true:=by
  intro c h
  have hin : c ∈ xnames:=by simpa [okX] using h
  simp only [xnames,List.mem_cons,List.not_mem_nil,or_false] at hin
  rcases hin with rfl
  ·exact ⟨C_NoRoom,ac_NoRoom,m_NoRoom,kc_NoRoom_PenError⟩
 have z_ValueError:=PySem.W.mg_none_of X G zz_ValueError
 have z_abs:=PySem.W.mg_none_of X G zz_abs
 have z_all:=PySem.W.mg_none_of X G zz_all
 have z_bool:=PySem.W.mg_none_of X G zz_bool
 have z_int:=PySem.W.mg_none_of X G zz_int
 have z_isinstance:=PySem.W.mg_none_of X G zz_isinstance
 have z_len:=PySem.W.mg_none_of X G zz_len
 have z_list:=PySem.W.mg_none_of X G zz_list
 have z_max:=PySem.W.mg_none_of X G zz_max
 have z_min:=PySem.W.mg_none_of X G zz_min
 have z_range:=PySem.W.mg_none_of X G zz_range
 have z_tuple:=PySem.W.mg_none_of X G zz_tuple
 obtain ⟨_,F_q21⟩:=A_q21.fn
 have b_q21:=F_q21.binds (ps:=["word"]) λ _ _ _ _ _ _=>bn1 λ _=>rfl
 have m_q21:=PySem.W.mg_of X G a_q21
 obtain ⟨_,F_q22⟩:=A_q22.fn
 have b_q22:=F_q22.binds (ps:=["word", "depth"]) λ _ _ _ _ _ _=>bn2 λ _ _=>rfl
 have m_q22:=PySem.W.mg_of X G a_q22
 obtain ⟨_,F_q23⟩:=A_q23.fn
 have b_q23:=F_q23.binds (ps:=["deed", "depth"]) λ _ _ _ _ _ _=>bn2 λ _ _=>rfl
 have m_q23:=PySem.W.mg_of X G a_q23
 obtain ⟨_,F_q19⟩:=A_q19.fn
 have b_q19:=F_q19.binds (ps:=["kind", "number"]) λ _ _ _ _ _ _=>bn2 λ _ _=>rfl
 have m_q19:=PySem.W.mg_of X G a_q19
 obtain ⟨_,F_q30⟩:=A_q30.fn
 have b_q30:=F_q30.binds (ps:=["pen", "part"]) λ _ _ _ _ _ _=>bn2 λ _ _=>rfl
 have m_q30:=PySem.W.mg_of X G a_q30
 obtain ⟨_,F_q35⟩:=A_q35.fn
 have b_q35:=F_q35.binds (ps:=["word"]) λ _ _ _ _ _ _=>bn1 λ _=>rfl
 have m_q35:=PySem.W.mg_of X G a_q35
 obtain ⟨_,F_q36⟩:=A_q36.fn
 have b_q36:=F_q36.binds (ps:=["deed"]) λ _ _ _ _ _ _=>bn1 λ _=>rfl
 have m_q36:=PySem.W.mg_of X G a_q36
 obtain ⟨_,F_q37⟩:=A_q37.fn
 have b_q37:=F_q37.binds (ps:=["part", "number"]) λ _ _ _ _ _ _=>bn2 λ _ _=>rfl
 have m_q37:=PySem.W.mg_of X G a_q37
 obtain ⟨_,F_q20⟩:=A_q20.fn
 have b_q20:=F_q20.binds (ps:=["stroke"]) λ _ _ _ _ _ _=>bn1 λ _=>rfl
 have m_q20:=PySem.W.mg_of X G a_q20
 obtain ⟨_,F_q28⟩:=A_q28.fn
 have b_q28:=F_q28.binds (ps:=["stroke"]) λ _ _ _ _ _ _=>bn1 λ _=>rfl
 have m_q28:=PySem.W.mg_of X G a_q28
 obtain ⟨_,F_q16⟩:=A_q16.fn
 have b_q16:=F_q16.binds (ps:=["word"]) λ _ _ _ _ _ _=>bn1 λ _=>rfl
 have m_q16:=PySem.W.mg_of X G a_q16
 obtain ⟨_,F_q39⟩:=A_q39.fn
 have b_q39:=F_q39.binds (ps:=["word"]) λ _ _ _ _ _ _=>bn1 λ _=>rfl
 have m_q39:=PySem.W.mg_of X G a_q39
 obtain ⟨_,F_q24⟩:=A_q24.fn
 have b_q24:=F_q24.binds (ps:=["deed"]) λ _ _ _ _ _ _=>bn1 λ _=>rfl
 have m_q24:=PySem.W.mg_of X G a_q24
 obtain ⟨_,F_q17⟩:=A_q17.fn
 have b_q17:=F_q17.binds (ps:=["box", "part", "number"]) λ _ _ _ _ _ _=>bn3 λ _ _ _=>rfl
 have m_q17:=PySem.W.mg_of X G a_q17
 obtain ⟨_,F_q34⟩:=A_q34.fn
 have b_q34:=F_q34.binds (ps:=["part", "number"]) λ _ _ _ _ _ _=>bn2 λ _ _=>rfl
 have m_q34:=PySem.W.mg_of X G a_q34
 obtain ⟨_,F_q18⟩:=A_q18.fn
 have b_q18:=F_q18.binds (ps:=["one", "other"]) λ _ _ _ _ _ _=>bn2 λ _ _=>rfl
 have m_q18:=PySem.W.mg_of X G a_q18
 obtain ⟨_,F_q15⟩:=A_q15.fn
 have b_q15:=F_q15.binds (ps:=["pen", "box"]) λ _ _ _ _ _ _=>bn2 λ _ _=>rfl
 have m_q15:=PySem.W.mg_of X G a_q15
 obtain ⟨_,F_q27⟩:=A_q27.fn
 have b_q27:=F_q27.binds (ps:=["word", "stroke"]) λ _ _ _ _ _ _=>bn2 λ _ _=>rfl
 have m_q27:=PySem.W.mg_of X G a_q27
 obtain ⟨_,F_q33⟩:=A_q33.fn
 have b_q33:=F_q33.binds (ps:=["word", "pen", "look"]) λ _ _ _ _ _ _=>bn3 λ _ _ _=>rfl
 have m_q33:=PySem.W.mg_of X G a_q33
 obtain ⟨_,F_q31⟩:=A_q31.fn
 have b_q31:=F_q31.binds (ps:=["deed", "pen", "look"]) λ _ _ _ _ _ _=>bn3 λ _ _ _=>rfl
 have m_q31:=PySem.W.mg_of X G a_q31
 obtain ⟨_,F_q32⟩:=A_q32.fn
 have b_q32:=F_q32.binds (ps:=["number", "word", "pen", "look"]) λ _ _ _ _ _ _=>bn4 λ _ _ _ _=>rfl
 have m_q32:=PySem.W.mg_of X G a_q32
 obtain ⟨_,F_q26⟩:=A_q26.fn
 have b_q26:=F_q26.binds (ps:=["number", "part", "pen", "box", "look"]) λ _ _ _ _ _ _=>bn5 λ _ _ _ _ _=>rfl
 have m_q26:=PySem.W.mg_of X G a_q26
 obtain ⟨_,F_q38⟩:=A_q38.fn
 have b_q38:=F_q38.binds (ps:=["number", "low", "high", "shift", "least", "greatest"]) λ _ _ _ _ _ _=>bn6 λ _ _ _ _ _ _=>rfl
 have m_q38:=PySem.W.mg_of X G a_q38
 obtain ⟨_,F_q25⟩:=A_q25.fn
 have b_q25:=F_q25.binds (ps:=["doing", "number", "part"]) λ _ _ _ _ _ _=>bn3 λ _ _ _=>rfl
 have m_q25:=PySem.W.mg_of X G a_q25
 obtain ⟨_,F_q10⟩:=A_q10.fn
 have b_q10:=F_q10.binds (ps:=["script", "k"]) λ _ _ _ _ _ _=>bn2 λ _ _=>rfl
 have m_q10:=PySem.W.mg_of X G a_q10
 obtain ⟨_,F_q11⟩:=A_q11.fn
 have b_q11:=F_q11.binds (ps:=["state", "many"]) λ _ _ _ _ _ _=>bn2 λ _ _=>rfl
 have m_q11:=PySem.W.mg_of X G a_q11
 obtain ⟨_,F_q14⟩:=A_q14.fn
 have b_q14:=F_q14.binds (ps:=["found"]) λ _ _ _ _ _ _=>bn1 λ _=>rfl
 have m_q14:=PySem.W.mg_of X G a_q14
 obtain ⟨_,F_q0⟩:=A_q0.fn
 have b_q0:=F_q0.binds (ps:=["state", "deep"]) λ _ _ _ _ _ _=>bn2 λ _ _=>rfl
 have m_q0:=PySem.W.mg_of X G a_q0
 obtain ⟨_,F_q1⟩:=A_q1.fn
 have b_q1:=F_q1.binds (ps:=["state", "deep", "many"]) λ _ _ _ _ _ _=>bn3 λ _ _ _=>rfl
 have m_q1:=PySem.W.mg_of X G a_q1
 obtain ⟨_,F_q7⟩:=A_q7.fn
 have b_q7:=F_q7.binds (ps:=["deeds"]) λ _ _ _ _ _ _=>bn1 λ _=>rfl
 have m_q7:=PySem.W.mg_of X G a_q7
 obtain ⟨_,F_q8⟩:=A_q8.fn
 have b_q8:=F_q8.binds (ps:=["deeds", "pen"]) λ _ _ _ _ _ _=>bn2 λ _ _=>rfl
 have m_q8:=PySem.W.mg_of X G a_q8
 obtain ⟨_,F_q2⟩:=A_q2.fn
 have b_q2:=F_q2.binds (ps:=["drawn"]) λ _ _ _ _ _ _=>bn1 λ _=>rfl
 have m_q2:=PySem.W.mg_of X G a_q2
 obtain ⟨_,F_q3⟩:=A_q3.fn
 have b_q3:=F_q3.binds (ps:=["found", "due"]) λ _ _ _ _ _ _=>bn2 λ _ _=>rfl
 have m_q3:=PySem.W.mg_of X G a_q3
 obtain ⟨_,F_q13⟩:=A_q13.fn
 have b_q13:=F_q13.binds (ps:=["e"]) λ _ _ _ _ _ _=>bn1 λ _=>rfl
 have m_q13:=PySem.W.mg_of X G a_q13
 obtain ⟨_,F_q5⟩:=A_q5.fn
 have b_q5:=F_q5.binds (ps:=["drawn", "x", "y"]) λ _ _ _ _ _ _=>bn3 λ _ _ _=>rfl
 have m_q5:=PySem.W.mg_of X G a_q5
 obtain ⟨_,F_q4⟩:=A_q4.fn
 have b_q4:=F_q4.binds (ps:=["frames"]) λ _ _ _ _ _ _=>bn1 λ _=>rfl
 have m_q4:=PySem.W.mg_of X G a_q4
 obtain ⟨_,F_q9⟩:=A_q9.fn
 have b_q9:=F_q9.binds (ps:=["frame", "line", "shift", "times"]) λ _ _ _ _ _ _=>bn4 λ _ _ _ _=>rfl
 have m_q9:=PySem.W.mg_of X G a_q9
 obtain ⟨_,F_q6⟩:=A_q6.fn
 have b_q6:=F_q6.binds (ps:=["once", "shift", "times", "line"]) λ _ _ _ _ _ _=>bn4 λ _ _ _ _=>rfl
 have m_q6:=PySem.W.mg_of X G a_q6
 obtain ⟨_,F_q12⟩:=A_q12.fn
 have b_q12:=F_q12.binds (ps:=["deeds", "line"]) λ _ _ _ _ _ _=>bn2 λ _ _=>rfl
 have m_q12:=PySem.W.mg_of X G a_q12
 obtain ⟨_,_,_,kV_q29,dc_q29,pm_q29,an_q29,cd_q29,ct_q29,l_q29,c_q29,k_q29⟩:=A_q29
 have F_q29:=yk2 (st:=yv1) l_q29 c_q29 k_q29
 have b_q29:=F_q29.binds (ps:=["script"]) λ _ _ _ _ _ _=>bn1 λ _=>rfl
 have m_q29:=PySem.W.mg_of X G a_q29
 have F_Look___init__:=yk2 (st:=xg0) l_Look___init__ c_Look___init__ k_Look___init__
 have b_Look___init__:=F_Look___init__.binds (ps:=["self", "stroke"]) λ _ _ _ _ _ _=>bn2 λ _ _=>rfl
 have F_Look_is_within:=yk2 (st:=wf0) l_Look_is_within c_Look_is_within k_Look_is_within
 have b_Look_is_within:=F_Look_is_within.binds (ps:=["self", "box"]) λ _ _ _ _ _ _=>bn2 λ _ _=>rfl
 have F_Look_count_doing:=yk2 (st:=yf0) l_Look_count_doing c_Look_count_doing k_Look_count_doing
 have b_Look_count_doing:=F_Look_count_doing.binds (ps:=["self"]) λ _ _ _ _ _ _=>bn1 λ _=>rfl
 refine ⟨PySem.W.fnOf "law" "law" (zs0 yv1) (yd0 yv1) (wa0 yv1) .none kV_q29 dc_q29 pm_q29 an_q29 cd_q29 ct_q29,λ s v=>.of_eq rfl,λ base KB GB=>?_⟩
 have O_NoRoom:=xv7 KB GB ac_NoRoom q_NoRoom
 have h_q19 : Cal l.prog w K mg base (1) "check_number" ["kind", "number"] ws5:=zh0 F_q19 m_q19 b_q19 ww6 (by rintro _ _ _ ⟨_,_,rfl,_⟩; rfl) (k:=0) (λ cdv A outer s H E hr=>wc7 z_abs z_int z_isinstance g_GREATEST_NUMBER g_KINDS_FROM_NOUGHT hr) yl7
 have step_q22 : ∀ j,Cal l.prog w K mg base (2 * j + 1) "checked_deed_count" ["deed", "depth"] (wu2 j) -> Cal l.prog w K mg base (2 * j + 1 + 1) "checked_count" ["word", "depth"] (za2 j):=λ j ih=>zh0 F_q22 m_q22 b_q22 sc_q22 (by rintro _ _ _ ⟨_,_,rfl,_⟩; rfl) (k:=2 * j + 1) (λ cdv A outer s H E hr=>xc7 ih (Nat.le_refl _) z_isinstance z_tuple g_MOST_DEEDS g_MOST_DEEP hr) (zk7 j)
 have fam_q22 : ∀ j,Cal l.prog w K mg base (2 * j + 1) "checked_deed_count" ["deed", "depth"] (wu2 j):=λ j=>by
  induction j with
  | zero=>exact (za1 F_q23 m_q23 b_q23 (by intro ds μ Q h; first | (obtain ⟨_,_,h⟩:=h; omega) | (obtain ⟨_,_,_,h⟩:=h; omega) | (obtain ⟨_,_,_,_,h⟩:=h; omega))).mono (by omega)
  | succ j ih=>exact (zh0 F_q23 m_q23 b_q23 xw6 (by rintro _ _ _ ⟨_,_,rfl,_⟩; rfl) (k:=2 * j + 1 + 1) (λ cdv A outer s H E hr=>wb7 h_q19 (by omega) (step_q22 j ih) (Nat.le_refl _) z_isinstance z_len z_tuple g_PLAIN_KINDS hr) (yk7 j)).mono (by omega)
 have h_q23:=fam_q22 5
 have h_q22:=step_q22 5 h_q23
 have h_q21 : Cal l.prog w K mg base (13) "check_word" ["word"] xp4:=zh0 F_q21 m_q21 b_q21 yw6 (by rintro _ _ _ ⟨_,rfl,_⟩; rfl) (k:=12) (λ cdv A outer s H E hr=>yc7 h_q22 (by decide) hr) wk7
 have h_q30 : Cal l.prog w K mg base (1) "led" ["pen", "part"] zq1:=zh0 F_q30 m_q30 b_q30 sc_q30 (by rintro _ _ _ ⟨_,_,rfl,_⟩; rfl) (k:=0) (λ cdv A outer s H E hr=>xa7 g_AHEAD hr) zi7
 have h_q37 : Cal l.prog w K mg base (2) "pen_repeated" ["part", "number"] wo3:=zh0 F_q37 m_q37 b_q37 sc_q37 (by rintro _ _ _ ⟨_,_,rfl,_⟩; rfl) (k:=1) (λ cdv A outer s H E hr=>yy6 h_q30 (by decide) z_range g_START hr) wg7
 have step_q35 : ∀ j,Cal l.prog w K mg base (2 * j + 2) "pen_behind_deed" ["deed"] (spPd j) -> Cal l.prog w K mg base (2 * j + 2 + 1) "pen_behind" ["word"] (spPb j):=λ j ih=>zh0 F_q35 m_q35 b_q35 sc_q35 (by rintro _ _ _ ⟨_,rfl,_⟩; rfl) (k:=2 * j + 2) (λ cdv A outer s H E hr=>wy6 h_q30 (by omega) ih (Nat.le_refl _) g_START hr) (yh7 j)
 have fam_q35 : ∀ j,Cal l.prog w K mg base (2 * j + 2) "pen_behind_deed" ["deed"] (spPd j):=λ j=>by
  induction j with
  | zero=>exact (za1 F_q36 m_q36 b_q36 (by intro ds μ Q h; first | (obtain ⟨_,_,h⟩:=h; omega) | (obtain ⟨_,_,_,h⟩:=h; omega) | (obtain ⟨_,_,_,_,h⟩:=h; omega))).mono (by omega)
  | succ j ih=>exact (zh0 F_q36 m_q36 b_q36 yu6 (by rintro _ _ _ ⟨_,rfl,_⟩; rfl) (k:=2 * j + 2 + 1) (λ cdv A outer s H E hr=>zy6 (step_q35 j ih) (Nat.le_refl _) h_q37 (by omega) hr) (xh7 j)).mono (by omega)
 have h_q36:=fam_q35 5
 have h_q35:=step_q35 5 h_q36
 have h_q20 : Cal l.prog w K mg base (1) "check_stroke" ["stroke"] wp3:=zh0 F_q20 m_q20 b_q20 zw6 (by rintro _ _ _ ⟨_,rfl,_⟩; rfl) (k:=0) (λ cdv A outer s H E hr=>zc7 z_len g_WAYS hr) xl7
 have h_q28 : Cal l.prog w K mg base (1) "ends_of" ["stroke"] zp3:=zh0 F_q28 m_q28 b_q28 xv6 (by rintro _ _ _ ⟨_,rfl,_⟩; rfl) (k:=0) (λ cdv A outer s H E hr=>za7 hr) xj7
 have h_q18 : Cal l.prog w K mg base (1) "box_round" ["one", "other"] yp4:=zh0 F_q18 m_q18 b_q18 sc_q18 (by rintro _ _ _ ⟨_,_,rfl,_⟩; rfl) (k:=0) (λ cdv A outer s H E hr=>xd7 z_max z_min hr) zl7
 have h_q15 : Cal l.prog w K mg base (2) "box_from" ["pen", "box"] wa2:=zh0 F_q15 m_q15 b_q15 sc_q15 (by rintro _ _ _ ⟨_,_,rfl,_⟩; rfl) (k:=1) (λ cdv A outer s H E hr=>wd7 h_q30 (by decide) z_max z_min hr) ym7
 have h_q34 : Cal l.prog w K mg base (1) "outermost_doings" ["part", "number"] zs5:=zh0 F_q34 m_q34 b_q34 zu6 (by rintro _ _ _ ⟨_,_,rfl,_⟩; rfl) (k:=0) (λ cdv A outer s H E hr=>xz6 z_list z_min z_range hr) zh7
 have h_q17 : Cal l.prog w K mg base (3) "box_repeated" ["box", "part", "number"] xq3:=zh0 F_q17 m_q17 b_q17 sc_q17 (by rintro _ _ _ ⟨_,_,_,rfl,_⟩; rfl) (k:=2) (λ cdv A outer s H E hr=>yd7 h_q15 (by decide) h_q18 (by decide) h_q34 (by decide) h_q37 (by decide) hr) wl7
 have step_q39 : ∀ j,Cal l.prog w K mg base (2 * j + 13) "deed_box" ["deed"] (spDb j) -> Cal l.prog w K mg base (2 * j + 13 + 1) "word_box" ["word"] (spWb j):=λ j ih=>zh0 F_q39 m_q39 b_q39 sc_q39 (by rintro _ _ _ ⟨_,rfl,_⟩; rfl) (k:=2 * j + 13) (λ cdv A outer s H E hr=>wx6 h_q15 (by omega) h_q18 (by omega) ih (Nat.le_refl _) h_q30 (by omega) h_q36 (by omega) g_START hr) (yg7 j)
 have fam_q39 : ∀ j,Cal l.prog w K mg base (2 * j + 13) "deed_box" ["deed"] (spDb j):=λ j=>by
  induction j with
  | zero=>exact (za1 F_q24 m_q24 b_q24 (by intro ds μ Q h; first | (obtain ⟨_,_,h⟩:=h; omega) | (obtain ⟨_,_,_,h⟩:=h; omega) | (obtain ⟨_,_,_,_,h⟩:=h; omega))).mono (by omega)
  | succ j ih=>exact (zh0 F_q24 m_q24 b_q24 wv6 (by rintro _ _ _ ⟨_,rfl,_⟩; rfl) (k:=2 * j + 13 + 1) (λ cdv A outer s H E hr=>zb7 h_q17 (by omega) h_q35 (by omega) (step_q39 j ih) (Nat.le_refl _) hr) (xk7 j)).mono (by omega)
 have h_q24:=fam_q39 5
 have h_q39:=step_q39 5 h_q24
 have h_q16 : Cal l.prog w K mg base (25) "box_of" ["word"] ww0:=zh0 F_q16 m_q16 b_q16 xx6 (by rintro _ _ _ ⟨_,rfl,_⟩; rfl) (k:=24) (λ cdv A outer s H E hr=>zd7 h_q21 (by decide) h_q39 (by decide) hr) xm7
 have h_Look___init__ : CalT l.prog w K mg base (2) C_Look "__init__" ["self", "stroke"] yp3:=zi4 F_Look___init__ a_Look___init__ i_Look___init__ b_Look___init__ sc_Look___init__ (by rintro _ _ _ ⟨_,_,rfl,_⟩; rfl) (k:=1) (λ cdv A outer s H E hr=>wm1 h_q28 (by decide) oc_Look na_Look_greatest na_Look_least na_Look_left g_MOST_LOOKED_AT hr) xn1
 have h_Look_is_within : CalT l.prog w K mg base (1) C_Look "is_within" ["self", "box"] wo4:=zi4 F_Look_is_within a_Look_is_within i_Look_is_within b_Look_is_within sc_Look_is_within (by rintro _ _ _ ⟨_,_,_,_,rfl,_⟩; rfl) (k:=0) (λ cdv A outer s H E hr=>yk1 oc_Look na_Look_greatest na_Look_least hr) zk1
 have h_Look_count_doing : CalTX l.prog w K mg base (1) C_Look "count_doing" ["self"] xs5:=zc5 F_Look_count_doing a_Look_count_doing i_Look_count_doing b_Look_count_doing zd1 (by rintro _ _ _ _ ⟨_,_,_,rfl,_⟩; rfl) (k:=0) (λ cdv A outer s H E XE hr EX=>wd1 EX oc_Look na_Look_left O_NoRoom hr) ze1
 have fam_q38 : ∀ j,Cal l.prog w K mg base (j + 0) "span_of_doings" ["number", "low", "high", "shift", "least", "greatest"] (ww1 j):=λ j=>by
  induction j with
  | zero=>exact (za1 F_q38 m_q38 b_q38 (by intro ds μ Q h; first | (obtain ⟨_,_,h⟩:=h; omega) | (obtain ⟨_,_,_,h⟩:=h; omega) | (obtain ⟨_,_,_,_,h⟩:=h; omega) | (obtain ⟨_,_,_,_,_,_,_,_,h⟩:=h; omega) | (obtain ⟨_,_,_,_,_,_,_,h,_⟩:=h; split at h <;> omega))).mono (by omega)
  | succ j ih=>exact (zh0 F_q38 m_q38 b_q38 sc_q38 (by rintro _ _ _ ⟨_,_,_,_,_,_,rfl,_⟩; rfl) (k:=j + 0) (λ cdv A outer s H E hr=>xy6 ih (Nat.le_refl _) z_max z_min hr) (zg7 j)).mono (by omega)
 have h_q38:=fam_q38 2
 have h_q26 : Cal l.prog w K mg base (3) "doings_to_ask" ["number", "part", "pen", "box", "look"] xt5:=zh0 F_q26 m_q26 b_q26 sc_q26 (by rintro _ _ _ ⟨_,_,_,_,_,_,_,rfl,_⟩; rfl) (k:=2) (λ cdv A outer s H E hr=>xb7 h_q15 (by decide) h_q30 (by decide) h_q38 (by decide) oc_Look na_Look_greatest na_Look_least z_max z_min g_START hr) zj7
 have h_q25 : Cal l.prog w K mg base (1) "doings_like" ["doing", "number", "part"] xp3:=zh0 F_q25 m_q25 b_q25 zv6 (by rintro _ _ _ ⟨_,_,_,rfl,_⟩; rfl) (k:=0) (λ cdv A outer s H E hr=>yb7 g_START hr) wj7
 have step_q31 : ∀ j,CalX l.prog w K mg base (3 * j + 24) "often_in_times" ["number", "word", "pen", "look"] (spOt j) -> CalX l.prog w K mg base (3 * j + 24 + 1) "often_in_deed" ["deed", "pen", "look"] (spOd j):=λ j ih=>xf2 F_q31 m_q31 b_q31 wu6 (by rintro _ _ _ _ ⟨_,_,_,_,_,_,_,rfl,_⟩; rfl) (k:=3 * j + 24) (λ cdv A outer s H E XE hr EX=>wz6 EX h_Look_is_within (by omega) h_q15 (by omega) h_q24 (by omega) ih (Nat.le_refl _) oc_Look hr) (yi7 j)
 have step_q33 : ∀ j,CalX l.prog w K mg base (3 * j + 24) "often_in_times" ["number", "word", "pen", "look"] (spOt j) -> CalX l.prog w K mg base (3 * j + 24 + 2) "often_in_word" ["word", "pen", "look"] (spOw j):=λ j ih=>xf2 F_q33 m_q33 b_q33 sc_q33 (by rintro _ _ _ _ ⟨_,_,_,_,_,_,_,rfl,_⟩; rfl) (k:=3 * j + 24 + 1) (λ cdv A outer s H E XE hr EX=>yz6 EX h_q30 (by omega) (step_q31 j ih) (Nat.le_refl _) h_q36 (by omega) hr) (wh7 j)
 have fam_q32 : ∀ j,CalX l.prog w K mg base (3 * j + 24) "often_in_times" ["number", "word", "pen", "look"] (spOt j):=λ j=>by
  induction j with
  | zero=>exact (yi4 F_q32 m_q32 b_q32 (by intro XE ds μ Q h; first | (obtain ⟨_,_,h⟩:=h; omega) | (obtain ⟨_,_,_,h⟩:=h; omega) | (obtain ⟨_,_,_,_,h⟩:=h; omega) | (obtain ⟨_,_,_,_,_,h⟩:=h; omega) | (obtain ⟨_,_,_,_,_,_,h⟩:=h; omega) | (obtain ⟨_,_,_,_,_,_,_,_,_,h,_⟩:=h; omega))).mono (by omega)
  | succ j ih=>exact (xf2 F_q32 m_q32 b_q32 sc_q32 (by rintro _ _ _ _ ⟨_,_,_,_,_,_,_,_,rfl,_⟩; rfl) (k:=3 * j + 24 + 2) (λ cdv A outer s H E XE hr EX=>zz6 EX h_Look_count_doing (by omega) h_Look_is_within (by omega) h_q15 (by omega) h_q25 (by omega) h_q26 (by omega) h_q30 (by omega) (step_q33 j ih) (Nat.le_refl _) h_q35 (by omega) h_q37 (by omega) h_q39 (by omega) oc_Look z_range hr) (xi7 j)).mono (by omega)
 have h_q32:=fam_q32 5
 have h_q31:=step_q31 5 h_q32
 have h_q33:=step_q33 5 h_q32
 have h_q27 : CalX l.prog w K mg base (42) "drawn_often" ["word", "stroke"] spDo:=xf2 F_q27 m_q27 b_q27 yv6 (by rintro _ _ _ _ ⟨_,_,_,_,rfl,_⟩; rfl) (k:=41) (λ cdv A outer s H E XE hr EX=>wa7 EX h_Look___init__ (by decide) h_q20 (by decide) h_q21 (by decide) h_q33 (by decide) oc_Look mk_Look kp_Look m_Look g_START hr) yj7
 have h_q13 : CalM l.prog w K mg base (1) "_law_which" ["e"] spMk:=wh6 F_q13 m_q13 b_q13 sc_q13 (by rintro _ _ _ ⟨rfl,_⟩; rfl) (k:=0) (λ cdv A outer s H E hr=>ye7 m_BadNote x_BadNote m_NoNumber x_NoNumber m_NoPicture x_NoPicture m_NoRoom x_NoRoom m_NoStep x_NoStep m_NoWord x_NoWord x_ValueError z_ValueError z_isinstance hr) wm7
 have h_q12 : Cal l.prog w K mg base (43) "_law_told" ["deeds", "line"] zh1:=zh0 F_q12 m_q12 b_q12 sc_q12 (by rintro _ _ _ ⟨_,_,_,_,rfl,_⟩; rfl) (k:=42) (λ cdv A outer s H E hr=>ze7 h_q13 (by decide) h_q27 (by decide) m_PenError k2_PenError k3 ok_PenError hr) xn7
 have h_q14 : Cal l.prog w K mg base (1) "_law_whole" ["found"] xu0:=zh0 F_q14 m_q14 b_q14 yx6 (by rintro _ _ _ ⟨_,rfl,_⟩; rfl) (k:=0) (λ cdv A outer s H E hr=>xe7 z_bool z_int z_isinstance hr) zm7
 have h_q10 : Cal l.prog w K mg base (1) "_law_state" ["script", "k"] wq0:=zh0 F_q10 m_q10 b_q10 sc_q10 (by rintro _ _ _ ⟨_,_,rfl,_⟩; rfl) (k:=0) (λ cdv A outer s H E hr=>xf7 z_len hr) zn7
 have h_q11 : Cal l.prog w K mg base (1) "_law_take" ["state", "many"] xb1:=zh0 F_q11 m_q11 b_q11 sc_q11 (by rintro _ _ _ ⟨_,_,_,_,rfl,_⟩; rfl) (k:=0) (λ cdv A outer s H E hr=>we7 hr) yn7
 have step_q1 : ∀ j,Cal l.prog w K mg base (2 * j + 1) "_law_deed" ["state", "deep"] (spLd j) -> Cal l.prog w K mg base (2 * j + 1 + 1) "_law_deeds" ["state", "deep", "many"] (xv1 j):=λ j ih=>zh0 F_q1 m_q1 b_q1 yj8 (by rintro _ _ _ ⟨_,_,_,rfl,_⟩; rfl) (k:=2 * j + 1) (λ cdv A outer s H E hr=>zl8 ih (Nat.le_refl _) z_range z_tuple hr) (yo8 j)
 have fam_q1 : ∀ j,Cal l.prog w K mg base (2 * j + 1) "_law_deed" ["state", "deep"] (spLd j):=λ j=>by
  induction j with
  | zero=>exact (za1 F_q0 m_q0 b_q0 (by intro ds μ Q h; first | (obtain ⟨_,_,h⟩:=h; omega) | (obtain ⟨_,_,_,h⟩:=h; omega) | (obtain ⟨_,_,_,_,h⟩:=h; omega))).mono (by omega)
  | succ j ih=>exact (zh0 F_q0 m_q0 b_q0 sc_q0 (by rintro _ _ _ ⟨_,_,rfl,_⟩; rfl) (k:=2 * j + 1 + 1) (λ cdv A outer s H E hr=>wl8 (step_q1 j ih) (Nat.le_refl _) h_q11 (by omega) z_int hr) (zo8 j)).mono (by omega)
 have h_q0:=fam_q1 3
 have h_q1:=step_q1 3 h_q0
 have fam_q7 : ∀ j,Cal l.prog w K mg base (j + 0) "_law_rolled_out" ["deeds"] (spRo j):=λ j=>by
  induction j with
  | zero=>exact (za1 F_q7 m_q7 b_q7 (by intro ds μ Q h; first | (obtain ⟨_,_,h⟩:=h; omega) | (obtain ⟨_,_,_,h⟩:=h; omega) | (obtain ⟨_,_,_,_,h⟩:=h; omega) | (obtain ⟨_,_,_,_,_,_,_,_,h⟩:=h; omega) | (obtain ⟨_,_,_,_,_,_,_,h,_⟩:=h; split at h <;> omega))).mono (by omega)
  | succ j ih=>exact (zh0 F_q7 m_q7 b_q7 sc_q7 (by rintro _ _ _ ⟨_,rfl,_⟩; rfl) (k:=j + 0) (λ cdv A outer s H E hr=>xk8 ih (Nat.le_refl _) z_range hr) (wm8 j)).mono (by omega)
 have h_q7:=fam_q7 6
 have h_q8 : Cal l.prog w K mg base (7) "_law_run" ["deeds", "pen"] ya2:=zh0 F_q8 m_q8 b_q8 sc_q8 (by rintro _ _ _ ⟨_,_,rfl,_⟩; rfl) (k:=6) (λ cdv A outer s H E hr=>wj8 h_q7 (by decide) z_min z_range hr) zm8
 have h_q2 : Cal l.prog w K mg base (1) "_law_frame" ["drawn"] yu0:=zh0 F_q2 m_q2 b_q2 sc_q2 (by rintro _ _ _ ⟨_,_,rfl,_⟩; rfl) (k:=0) (λ cdv A outer s H E hr=>yl8 z_max z_min hr) xo8
 have h_q3 : Cal l.prog w K mg base (2) "_law_is_row" ["found", "due"] zw0:=zh0 F_q3 m_q3 b_q3 xj8 (by rintro _ _ _ ⟨_,rfl,_⟩; rfl) (k:=1) (λ cdv A outer s H E hr=>xl8 h_q14 (by decide) z_all z_isinstance z_tuple hr) wn8
 have h_q5 : Cal l.prog w K mg base (1) "_law_moved" ["drawn", "x", "y"] yw0:=zh0 F_q5 m_q5 b_q5 wi8 (by rintro _ _ _ ⟨_,_,_,_,rfl,_⟩; rfl) (k:=0) (λ cdv A outer s H E hr=>zk8 hr) yn8
 have h_q4 : Cal l.prog w K mg base (1) "_law_joined" ["frames"] wh1:=zh0 F_q4 m_q4 b_q4 sc_q4 (by rintro _ _ _ ⟨_,_,rfl,_⟩; rfl) (k:=0) (λ cdv A outer s H E hr=>wk8 z_max z_min z_range hr) zn8
 have h_q9 : Cal l.prog w K mg base (1) "_law_span" ["frame", "line", "shift", "times"] xa2:=zh0 F_q9 m_q9 b_q9 sc_q9 (by rintro _ _ _ ⟨_,_,_,_,_,rfl,_⟩; rfl) (k:=0) (λ cdv A outer s H E hr=>zj8 z_max z_min z_range hr) ym8
 have h_q6 : Cal l.prog w K mg base (1) "_law_often" ["once", "shift", "times", "line"] xw0:=zh0 F_q6 m_q6 b_q6 sc_q6 (by rintro _ _ _ ⟨_,_,_,_,_,_,rfl,_⟩; rfl) (k:=0) (λ cdv A outer s H E hr=>yk8 hr) xn8
 exact wc4 F_q29 sc_q29 (by rintro _ _ _ ⟨_,rfl,_⟩; rfl) (k:=43) (λ cdv A outer s H E hr=>ya7 h_q1 (by decide) h_q2 (by decide) h_q3 (by decide) h_q4 (by decide) h_q5 (by decide) h_q6 (by decide) h_q8 (by decide) h_q9 (by decide) h_q10 (by decide) h_q11 (by decide) h_q12 (by decide) h_q14 (by decide) h_q16 (by decide) z_len hr) wi7
theorem walk {l : PySem.W.OpenLaw} {q : Program} {loose : List Str} {XP : (Str -> Option Value) -> Heap -> Prop} {YP : World -> Heap -> Prop} {d : DefRec} {K : Params -> Fg} (hn : l.most = some 63) (hdf : d.params.defaults = [])
    (hY : ∀ (w : World) (h : Heap),YP w h -> (K w.params).In h)
    (F : ∀ (w : World) (mg : Str -> Option Value) (fa : Addr) (h : Heap),(K w.params).In h -> h.Ns mainGlobals mg -> mg d.name = some (.ref fa) ->
     ∃ fd : FuncData,(∀ (s : Shared) (u : Value),BindsTo s fd ⟨[u],[]⟩ [("script",u)]) /\ ∀ base : Heap,(K w.params).In base -> base.Ns mainGlobals mg -> FnOk l.prog w (K w.params) mg base CX0 44 fa fd ["script"] (lift (K w.params) zo4)) :
    PySem.W.WalkO q loose XP YP l.row.toRowW d [] (λ f vs=>PySem.call f vs) :=
 L2.walk_of (n:=63) (k:=44) (x := "script") (CX:=λ _=>CX0) (sp:=λ w=>lift (K w.params) zo4) hn (by decide) hdf ⟨rfl,by decide,by decide⟩ hY F (λ _ _ a ns hl hO hS=>yw4 hO hS ⟨ns,rfl,hl,λ _=>rfl⟩) λ _ _ _ _ _ z=>z
end Pv
open PySem PySem.W PyProof.Rows
set_option maxRecDepth 100000 in
set_option maxHeartbeats 0 in
theorem PySem.Challenge.cw_penwright_k39_great_numbers_holds : PySem.Challenge.rw_penwright_k39_great_numbers.Holds := by
 w_on
 refine PySem.W.holds_law Pv.h_said λ said=>?_
 refine PySem.W.holds_open (YP:=PySem.W.Hook.says (PySem.W.kHook Pv.KK Pv.KA Pv.ke)) Pv.h_left (PySem.W.Hook.of (PySem.W.kHook Pv.KK Pv.KA Pv.ke)) (PySem.W.Hook.keeps (PySem.W.kHook Pv.KK Pv.KA Pv.ke)) (λ s e=>PySem.W.xl_of s (Bool.and_eq_true_iff.mp e).1) PySem.W.XL.keeps (by rfl) (by rfl) (by rfl) (λ s e=>PySem.W.recFacts_of (Bool.and_eq_true_iff.mp e).2) (by rfl) said (by decide +kernel) ⟨rfl,rfl,rfl,rfl,rfl,by decide +kernel⟩ ?hw ?hc
 case hw=>w_witness2
 k_fill
 refine Pv.walk (l:=PySem.Challenge.rw_penwright_k39_great_numbers) rfl rfl (λ w h Y=>PySem.W.kIn_of Y) ?F
 case F =>
  intro w mg fa h KX G hmg
  refine' Pv.all_mk KX G hmg ?a_q21 ?A_q21 ?a_q22 ?A_q22 ?a_q23 ?A_q23 ?a_q19 ?A_q19 ?a_q30 ?A_q30 ?a_q35 ?A_q35 ?a_q36 ?A_q36 ?a_q37 ?A_q37 ?a_q20 ?A_q20 ?a_q28 ?A_q28 ?a_q16 ?A_q16 ?a_q39 ?A_q39 ?a_q24 ?A_q24 ?a_q17 ?A_q17 ?a_q34 ?A_q34 ?a_q18 ?A_q18 ?a_q15 ?A_q15 ?a_q27 ?A_q27 ?a_q33 ?A_q33 ?a_q31 ?A_q31 ?a_q32 ?A_q32 ?a_q26 ?A_q26 ?a_q38 ?A_q38 ?a_q25 ?A_q25 ?a_q10 ?A_q10 ?a_q11 ?A_q11 ?a_q14 ?A_q14 ?a_q0 ?A_q0 ?a_q1 ?A_q1 ?a_q7 ?A_q7 ?a_q8 ?A_q8 ?a_q2 ?A_q2 ?a_q3 ?A_q3 ?a_q13 ?A_q13 ?a_q5 ?A_q5 ?a_q4 ?A_q4 ?a_q9 ?A_q9 ?a_q6 ?A_q6 ?a_q12 ?A_q12 ?a_q29 ?A_q29 ?ac_Look ?pg_Look ?hd_Look ?po_Look ?sa_Look ?mk_Look ?kp_Look ?na_Look_greatest ?na_Look_least ?na_Look_left ?a_Look___init__ ?i_Look___init__ ?l_Look___init__ ?c_Look___init__ ?k_Look___init__ ?a_Look_is_within ?i_Look_is_within ?l_Look_is_within ?c_Look_is_within ?k_Look_is_within ?a_Look_count_doing ?i_Look_count_doing ?l_Look_count_doing ?c_Look_count_doing ?k_Look_count_doing ?e_MOST_DEEDS ?e_MOST_DEEP ?e_GREATEST_NUMBER ?e_PLAIN_KINDS ?ql_4 ?e_KINDS_FROM_NOUGHT ?ql_8 ?e_START ?ql_11 ?e_AHEAD ?ql_15 ?ql_25 ?ql_22 ?ql_19 ?ql_16 ?e_WAYS ?ql_28 ?e_MOST_LOOKED_AT ?ac_BadNote ?cl_BadNote ?tc_BadNote ?ac_NoNumber ?cl_NoNumber ?tc_NoNumber ?ac_NoPicture ?cl_NoPicture ?tc_NoPicture ?ac_NoRoom ?cl_NoRoom ?tc_NoRoom ?ac_NoStep ?cl_NoStep ?tc_NoStep ?ac_NoWord ?cl_NoWord ?tc_NoWord ?ac_PenError ?cl_PenError ?tc_PenError ?q_NoRoom ?ek0_NoRoom ?ek1_NoRoom ?ek2_NoRoom ?ek4_NoRoom ?ek5_NoRoom ?ek6_NoRoom ?ek7_NoRoom ?sb_NoRoom_BadNote ?ne_NoRoom_BadNote ?sb_NoRoom_NoNumber ?ne_NoRoom_NoNumber ?sb_NoRoom_NoPicture ?ne_NoRoom_NoPicture ?sb_NoRoom_NoStep ?ne_NoRoom_NoStep ?sb_NoRoom_NoWord ?ne_NoRoom_NoWord ?sb_NoRoom_ValueError ?k3s ?k2s_PenError ?sb_NoRoom_PenError ?zz_ValueError ?zz_abs ?zz_all ?zz_bool ?zz_int ?zz_isinstance ?zz_len ?zz_list ?zz_max ?zz_min ?zz_range ?zz_tuple
  (case ac_Look | pg_Look | hd_Look | po_Look | sa_Look | mk_Look | kp_Look | na_Look_greatest | na_Look_least | na_Look_left | a_Look___init__ | i_Look___init__ | l_Look___init__ | c_Look___init__ | k_Look___init__ | a_Look_is_within | i_Look_is_within | l_Look_is_within | c_Look_is_within | k_Look_is_within | a_Look_count_doing | i_Look_count_doing | l_Look_count_doing | c_Look_count_doing | k_Look_count_doing | e_MOST_DEEDS | e_MOST_DEEP | e_GREATEST_NUMBER | e_PLAIN_KINDS | ql_4 | e_KINDS_FROM_NOUGHT | ql_8 | e_START | ql_11 | e_AHEAD | ql_15 | ql_25 | ql_22 | ql_19 | ql_16 | e_WAYS | ql_28 | e_MOST_LOOKED_AT | ac_BadNote | cl_BadNote | tc_BadNote | ac_NoNumber | cl_NoNumber | tc_NoNumber | ac_NoPicture | cl_NoPicture | tc_NoPicture | ac_NoRoom | cl_NoRoom | tc_NoRoom | ac_NoStep | cl_NoStep | tc_NoStep | ac_NoWord | cl_NoWord | tc_NoWord | ac_PenError | cl_PenError | tc_PenError | ek0_NoRoom | ek1_NoRoom | ek2_NoRoom | ek4_NoRoom | ek5_NoRoom | ek6_NoRoom | ek7_NoRoom | sb_NoRoom_BadNote | sb_NoRoom_NoNumber | sb_NoRoom_NoPicture | sb_NoRoom_NoStep | sb_NoRoom_NoWord | sb_NoRoom_ValueError | k3s | k2s_PenError | sb_NoRoom_PenError | zz_ValueError | zz_abs | zz_all | zz_bool | zz_int | zz_isinstance | zz_len | zz_list | zz_max | zz_min | zz_range | zz_tuple=>k_is)
  (case a_q21 | a_q22 | a_q23 | a_q19 | a_q30 | a_q35 | a_q36 | a_q37 | a_q20 | a_q28 | a_q16 | a_q39 | a_q24 | a_q17 | a_q34 | a_q18 | a_q15 | a_q27 | a_q33 | a_q31 | a_q32 | a_q26 | a_q38 | a_q25 | a_q10 | a_q11 | a_q14 | a_q0 | a_q1 | a_q7 | a_q8 | a_q2 | a_q3 | a_q13 | a_q5 | a_q4 | a_q9 | a_q6 | a_q12 | a_q29=>(show _ = _; k_is))
  (case A_q21 | A_q22 | A_q23 | A_q19 | A_q30 | A_q35 | A_q36 | A_q37 | A_q20 | A_q28 | A_q16 | A_q39 | A_q24 | A_q17 | A_q34 | A_q18 | A_q15 | A_q27 | A_q33 | A_q31 | A_q32 | A_q26 | A_q38 | A_q25 | A_q10 | A_q11 | A_q14 | A_q0 | A_q1 | A_q7 | A_q8 | A_q2 | A_q3 | A_q13 | A_q5 | A_q4 | A_q9 | A_q6 | A_q12 | A_q29=>(refine' Pv.fnA_mk ?l ?c ?k; (case l=>k_is); (case c=>k_is); (case k=>k_is)))
  (case q_NoRoom=>k_exc)
  (case ne_NoRoom_BadNote | ne_NoRoom_NoNumber | ne_NoRoom_NoPicture | ne_NoRoom_NoStep | ne_NoRoom_NoWord=>rfl)
