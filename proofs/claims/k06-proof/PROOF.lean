import PyProof.Rows.All
import Wide.All
import OpenK.AllK
import Wide.FinOn
import Lean
import PyProof.EqAt
import PyProof.EqKinds
import PyProof.TupleCall
import PyProof.P3Statements
import KE.KIntText
import KE.KRevIter
import KE.KIsAll
import PyProof.ExcAttrAll.ValueError
import PySem.Challenge.RW_penwright_k06_texts_that_write_no_word
set_option Elab.async false
set_option linter.all false
set_option maxRecDepth 100000
set_option maxHeartbeats 4000000
namespace L2
open PySem PySem.Spec PyProof.Rows
noncomputable def zj0 (s:Stmt):Arguments:=match s with
 | .FunctionDef _ a _ _ _ _ _ _ _ _=>a
 | _=>{ posonlyargs:=[],args:=[],vararg:=none,kwonlyargs:=[],kw_defaults:=[],kwarg:=none,defaults:=[] }
noncomputable def ub0 (s:Stmt):List Stmt:=match s with
 | .FunctionDef _ _ b _ _ _ _ _ _ _=>b
 | _=>[]
noncomputable def wa0 (s:Stmt):Scope:=match s with
 | .FunctionDef _ _ _ _ _ _ sc _ _ _=>sc
 | _=>{ kind:=.function,names:=[],isGenerator:=false,isCoroutine:=false }
end L2
namespace Pv
open PySem PySem.Spec PyProof.Rows L2
noncomputable def top (i:Nat):Stmt:=PySem.Challenge.pw_penwright_k06_texts_that_write_no_word.main.body.getD i (.Pass ⟨0,0,0,0⟩)
noncomputable abbrev ti1:Stmt:=top 15
noncomputable abbrev ui1:Stmt:=top 16
noncomputable abbrev vi1:Stmt:=top 17
noncomputable abbrev si1:Stmt:=top 18
noncomputable abbrev th1:Stmt:=top 21
noncomputable abbrev yi1:Stmt:=top 22
noncomputable abbrev sh1:Stmt:=top 23
noncomputable abbrev zi1:Stmt:=top 24
noncomputable abbrev zh1:Stmt:=top 25
noncomputable abbrev vh1:Stmt:=top 26
noncomputable abbrev wh1:Stmt:=top 27
noncomputable abbrev uh1:Stmt:=top 28
noncomputable abbrev xi1:Stmt:=top 29
noncomputable abbrev xj1:Stmt:=top 30
noncomputable abbrev wi1:Stmt:=top 31
noncomputable abbrev s_q0:Stmt:=top 33
noncomputable abbrev wj1:Stmt:=top 34
noncomputable abbrev s_q1:Stmt:=top 35
noncomputable abbrev yj1:Stmt:=top 36
noncomputable abbrev s_q3:Stmt:=top 37
noncomputable abbrev s_q5:Stmt:=top 38
noncomputable abbrev s_q9:Stmt:=top 39
noncomputable abbrev s_q6:Stmt:=top 40
noncomputable abbrev s_q8:Stmt:=top 41
noncomputable abbrev s_q2:Stmt:=top 42
noncomputable abbrev s_q4:Stmt:=top 43
noncomputable abbrev s_q7:Stmt:=top 44
noncomputable abbrev vj1:Stmt:=top 45
noncomputable abbrev zj1:Stmt:=top 46
noncomputable abbrev zs0:Stmt:=top 47
noncomputable abbrev vb:Value:=.bool true
noncomputable abbrev vi:Value:=.int 181 0
noncomputable def en (P:Params) (x:Str) (t:Tok) (v:Value):DictEntry:=⟨PyData.keyHash P x,.str x t,v⟩
noncomputable def fo (x y:Str) (st:Stmt) (m c:Value):Obj:=⟨.type "function",none,.func (PySem.W.fnOf x y (zj0 st) (ub0 st) (wa0 st) .none .none .none m none c .none),#[]⟩
noncomputable def co (x:Str) (a:Tok) (y:Str) (b c:Tok) (ns:List Int) (vs:List Value) (d e:Int) (f:Tok):Obj:=⟨.type "code",none,.fields (.str x a :: .str y b :: .str "/claim/cut.py" c :: (ns.map (λ n=>Value.int n 0) ++ (vs ++ [.int d 0,.int e 0,.str "/claim/cut.py" f]))).toArray,#[]⟩
noncomputable def tO (vs:List Value):Obj:=⟨.type "tuple",none,.seq vs.toArray 0,#[]⟩
noncomputable def KK:PySem.Params->PySem.W.Frag:=λ P=>(nat_lit 2,⟨.none,none,.dict #[] 0,#[]⟩) :: (nat_lit 3,⟨.type "dict",none,.dict #[en P "__name__" 165 (.str "law_penwright_k06_texts_that_write_no_word" 446),en P "__doc__" 166 (.none),en P "__package__" 167 (.none),en P "__loader__" 168 (.builtin "__main__.__loader__#opaque"),en P "__spec__" 169 (.none),en P "__annotations__" 170 (.ref 6),en P "__builtins__" 171 (.ref 4),en P "__file__" 173 (.str "/claim/cut.py" 172),en P "__cached__" 174 (.none),en P "PenError" 206 (.ref 24),en P "NoWord" 222 (.ref 37),en P "NoPicture" 238 (.ref 49),en P "NoRoom" 254 (.ref 61),en P "NoStep" 270 (.ref 73),en P "NoNumber" 286 (.ref 85),en P "BadNote" 302 (.ref 97),en P "MOST_DEEDS" 306 (.int 30 305),en P "MOST_DEEP" 308 (.int 4 307),en P "MOST_FIGURES" 310 (.int 20 309),en P "GREATEST_NUMBER" 312 (.int 99999999999999999999 311),en P "PLAIN_KINDS" 316 (.ref 100),en P "KINDS_FROM_NOUGHT" 319 (.ref 101),en P "check_word" 326 (.ref 108),en P "checked_count" 336 (.ref 115),en P "checked_deed_count" 344 (.ref 122),en P "check_number" 352 (.ref 129),en P "FIGURES" 356 (.str "0123456789" 355),en P "shown" 363 (.ref 136),en P "marks_of" 372 (.ref 143),en P "read" 381 (.ref 150),en P "marks_in" 388 (.ref 157),en P "take_word" 397 (.ref 164),en P "take_deed" 408 (.ref 171),en P "take_mark" 415 (.ref 178),en P "take_bracket" 423 (.ref 185),en P "number_of" 431 (.ref 192),en P "are_figures" 437 (.ref 197),en P "has_needless" 445 (.ref 204),en P "_law_cell_at" 455 (.ref 211),en P "_law_state" 464 (.ref 218),en P "_law_choice" 474 (.ref 225),en P "_law_word" 485 (.ref 232),en P "_law_drawn_word" 496 (.ref 239),en P "_law_marks" 504 (.ref 246),en P "_law_refused" 510 (.ref 251),en P "_law_number" 516 (.ref 256),en P "_law_parts_read" 530 (.ref 263),en P "_law_count" 539 (.ref 270),en P "_law_due" 548 (.ref 277),en P "_law_odd" 557 (.ref 284),en P "_law_spoilt" 571 (.ref 291),en P "_law_told" 581 (.ref 298),en P "law" 593 (.ref 305)] 53,#[]⟩) :: (nat_lit 15,tO [.type "ValueError"]) :: (nat_lit 22,tO []) :: (nat_lit 23,⟨.type "dict",none,.dict #[en P "__module__" 196 (.str "penwright.errors" 187),en P "__firstlineno__" 200 (.int 2 199),en P "__static_attributes__" 201 (.ref 22),en P "__weakref__" 203 (.ref 25),en P "__doc__" 204 (.none)] 3,#[]⟩) :: (nat_lit 24,⟨.type "type",none,.cls ⟨"PenError",[.type "ValueError"],[.ref 24,.type "ValueError",.type "Exception",.type "BaseException",.type "object"],23, "PenError",true,[],[.ref 37,.ref 49,.ref 61,.ref 73,.ref 85,.ref 97],false,none,false⟩,#[some (.ref 15),none,some (.str "PenError" 189),some (.str "PenError" 197),some (.builtin "ValueError.__new__"),some (.bool true)]⟩) :: (nat_lit 25,⟨.type "getset_descriptor",none,.fields #[.str "__weakref__" 202,.ref 24,.builtin "ExceptionGroup.__weakref__",.none],#[]⟩) :: (nat_lit 28,tO [.ref 24]) :: (nat_lit 35,tO []) :: (nat_lit 36,⟨.type "dict",none,.dict #[en P "__module__" 214 (.str "penwright.errors" 187),en P "__firstlineno__" 218 (.int 4 217),en P "__static_attributes__" 219 (.ref 35),en P "__doc__" 220 (.none)] 2,#[]⟩) :: (nat_lit 37,⟨.type "type",none,.cls ⟨"NoWord",[.ref 24],[.ref 37,.ref 24,.type "ValueError",.type "Exception",.type "BaseException",.type "object"],36, "NoWord",true,[],[],false,none,false⟩,#[some (.ref 28),none,some (.str "NoWord" 207),some (.str "NoWord" 215),some (.builtin "ValueError.__new__"),some (.bool true)]⟩) :: (nat_lit 40,tO [.ref 24]) :: (nat_lit 47,tO []) :: (nat_lit 48,⟨.type "dict",none,.dict #[en P "__module__" 230 (.str "penwright.errors" 187),en P "__firstlineno__" 234 (.int 6 233),en P "__static_attributes__" 235 (.ref 47),en P "__doc__" 236 (.none)] 2,#[]⟩) :: (nat_lit 49,⟨.type "type",none,.cls ⟨"NoPicture",[.ref 24],[.ref 49,.ref 24,.type "ValueError",.type "Exception",.type "BaseException",.type "object"],48, "NoPicture",true,[],[],false,none,false⟩,#[some (.ref 40),none,some (.str "NoPicture" 223),some (.str "NoPicture" 231),some (.builtin "ValueError.__new__"),some (.bool true)]⟩) :: (nat_lit 52,tO [.ref 24]) :: (nat_lit 59,tO []) :: (nat_lit 60,⟨.type "dict",none,.dict #[en P "__module__" 246 (.str "penwright.errors" 187),en P "__firstlineno__" 250 (.int 8 249),en P "__static_attributes__" 251 (.ref 59),en P "__doc__" 252 (.none)] 2,#[]⟩) :: (nat_lit 61,⟨.type "type",none,.cls ⟨"NoRoom",[.ref 24],[.ref 61,.ref 24,.type "ValueError",.type "Exception",.type "BaseException",.type "object"],60, "NoRoom",true,[],[],false,none,false⟩,#[some (.ref 52),none,some (.str "NoRoom" 239),some (.str "NoRoom" 247),some (.builtin "ValueError.__new__"),some (.bool true)]⟩) :: (nat_lit 64,tO [.ref 24]) :: (nat_lit 71,tO []) :: (nat_lit 72,⟨.type "dict",none,.dict #[en P "__module__" 262 (.str "penwright.errors" 187),en P "__firstlineno__" 266 (.int 10 265),en P "__static_attributes__" 267 (.ref 71),en P "__doc__" 268 (.none)] 2,#[]⟩) :: (nat_lit 73,⟨.type "type",none,.cls ⟨"NoStep",[.ref 24],[.ref 73,.ref 24,.type "ValueError",.type "Exception",.type "BaseException",.type "object"],72, "NoStep",true,[],[],false,none,false⟩,#[some (.ref 64),none,some (.str "NoStep" 255),some (.str "NoStep" 263),some (.builtin "ValueError.__new__"),some (.bool true)]⟩) :: (nat_lit 76,tO [.ref 24]) :: (nat_lit 83,tO []) :: (nat_lit 84,⟨.type "dict",none,.dict #[en P "__module__" 278 (.str "penwright.errors" 187),en P "__firstlineno__" 282 (.int 12 281),en P "__static_attributes__" 283 (.ref 83),en P "__doc__" 284 (.none)] 2,#[]⟩) :: (nat_lit 85,⟨.type "type",none,.cls ⟨"NoNumber",[.ref 24],[.ref 85,.ref 24,.type "ValueError",.type "Exception",.type "BaseException",.type "object"],84, "NoNumber",true,[],[],false,none,false⟩,#[some (.ref 76),none,some (.str "NoNumber" 271),some (.str "NoNumber" 279),some (.builtin "ValueError.__new__"),some (.bool true)]⟩) :: (nat_lit 88,tO [.ref 24]) :: (nat_lit 95,tO []) :: (nat_lit 96,⟨.type "dict",none,.dict #[en P "__module__" 294 (.str "penwright.errors" 187),en P "__firstlineno__" 298 (.int 14 297),en P "__static_attributes__" 299 (.ref 95),en P "__doc__" 300 (.none)] 2,#[]⟩) :: (nat_lit 97,⟨.type "type",none,.cls ⟨"BadNote",[.ref 24],[.ref 97,.ref 24,.type "ValueError",.type "Exception",.type "BaseException",.type "object"],96, "BadNote",true,[],[],false,none,false⟩,#[some (.ref 88),none,some (.str "BadNote" 287),some (.str "BadNote" 295),some (.builtin "ValueError.__new__"),some (.bool true)]⟩) :: (nat_lit 100,tO [.str "go" 313,.str "jump" 314,.str "turn" 315]) :: (nat_lit 101,tO [.str "go" 317,.str "times" 318]) :: (nat_lit 107,co "check_word" 320 "check_word" 321 322 [23,1,0,0,3] [.ref 102,vb,vi,.ref 103,.none,.ref 104,.ref 105,.ref 106] 324 23 325) :: (nat_lit 108,fo "check_word" "check_word" ti1 (.str "penwright.words" 303) (.ref 107)) :: (nat_lit 114,co "checked_count" 327 "checked_count" 328 329 [25,2,0,0,3] [.ref 109,vb,vi,.ref 110,.none,.ref 111,.ref 112,.ref 113] 334 25 335) :: (nat_lit 115,fo "checked_count" "checked_count" ui1 (.str "penwright.words" 303) (.ref 114)) :: (nat_lit 121,co "checked_deed_count" 337 "checked_deed_count" 338 339 [36,2,0,0,3] [.ref 116,vb,vi,.ref 117,.none,.ref 118,.ref 119,.ref 120] 342 36 343) :: (nat_lit 122,fo "checked_deed_count" "checked_deed_count" vi1 (.str "penwright.words" 303) (.ref 121)) :: (nat_lit 128,co "check_number" 345 "check_number" 346 347 [46,2,0,0,3] [.ref 123,vb,vi,.ref 124,.none,.ref 125,.ref 126,.ref 127] 350 46 351) :: (nat_lit 129,fo "check_number" "check_number" si1 (.str "penwright.words" 303) (.ref 128)) :: (nat_lit 135,co "shown" 357 "shown" 358 359 [55,1,0,0,3] [.ref 130,vb,vi,.ref 131,.none,.ref 132,.ref 133,.ref 134] 361 55 362) :: (nat_lit 136,fo "shown" "shown" th1 (.str "penwright.notes" 353) (.ref 135)) :: (nat_lit 142,co "marks_of" 364 "marks_of" 365 366 [58,1,0,0,3] [.ref 137,vb,vi,.ref 138,.none,.ref 139,.ref 140,.ref 141] 370 58 371) :: (nat_lit 143,fo "marks_of" "marks_of" yi1 (.str "penwright.notes" 353) (.ref 142)) :: (nat_lit 149,co "read" 373 "read" 374 375 [65,1,0,0,3] [.ref 144,vb,vi,.ref 145,.none,.ref 146,.ref 147,.ref 148] 379 65 380) :: (nat_lit 150,fo "read" "read" sh1 (.str "penwright.notes" 353) (.ref 149)) :: (nat_lit 156,co "marks_in" 382 "marks_in" 383 384 [75,1,0,0,3] [.ref 151,vb,vi,.ref 152,.none,.ref 153,.ref 154,.ref 155] 386 75 387) :: (nat_lit 157,fo "marks_in" "marks_in" zi1 (.str "penwright.notes" 353) (.ref 156)) :: (nat_lit 163,co "take_word" 389 "take_word" 390 391 [79,2,0,0,3] [.ref 158,vb,vi,.ref 159,.none,.ref 160,.ref 161,.ref 162] 395 79 396) :: (nat_lit 164,fo "take_word" "take_word" zh1 (.str "penwright.notes" 353) (.ref 163)) :: (nat_lit 170,co "take_deed" 398 "take_deed" 399 400 [86,2,0,0,3] [.ref 165,vb,vi,.ref 166,.none,.ref 167,.ref 168,.ref 169] 406 86 407) :: (nat_lit 171,fo "take_deed" "take_deed" vh1 (.str "penwright.notes" 353) (.ref 170)) :: (nat_lit 177,co "take_mark" 409 "take_mark" 410 411 [97,1,0,0,3] [.ref 172,vb,vi,.ref 173,.none,.ref 174,.ref 175,.ref 176] 413 97 414) :: (nat_lit 178,fo "take_mark" "take_mark" wh1 (.str "penwright.notes" 353) (.ref 177)) :: (nat_lit 184,co "take_bracket" 416 "take_bracket" 417 418 [101,2,0,0,3] [.ref 179,vb,vi,.ref 180,.none,.ref 181,.ref 182,.ref 183] 421 101 422) :: (nat_lit 185,fo "take_bracket" "take_bracket" uh1 (.str "penwright.notes" 353) (.ref 184)) :: (nat_lit 191,co "number_of" 424 "number_of" 425 426 [104,1,0,0,3] [.ref 186,vb,vi,.ref 187,.none,.ref 188,.ref 189,.ref 190] 429 104 430) :: (nat_lit 192,fo "number_of" "number_of" xi1 (.str "penwright.notes" 353) (.ref 191)) :: (nat_lit 196,co "are_figures" 432 "are_figures" 433 434 [111,1,0,0,3] [.ref 193,vb,vi,.ref 194,.none,.none,.none,.ref 195] 435 111 436) :: (nat_lit 197,fo "are_figures" "are_figures" xj1 (.str "penwright.notes" 353) (.ref 196)) :: (nat_lit 203,co "has_needless" 438 "has_needless" 439 440 [115,2,0,0,3] [.ref 198,vb,vi,.ref 199,.none,.ref 200,.ref 201,.ref 202] 443 115 444) :: (nat_lit 204,fo "has_needless" "has_needless" wi1 (.str "penwright.notes" 353) (.ref 203)) :: (nat_lit 210,co "_law_cell_at" 448 "_law_cell_at" 449 450 [118,2,0,0,3] [.ref 205,vb,vi,.ref 206,.none,.ref 207,.ref 208,.ref 209] 453 118 454) :: (nat_lit 211,fo "_law_cell_at" "_law_cell_at" s_q0 (.str "law_penwright_k06_texts_that_write_no_word" 446) (.ref 210)) :: (nat_lit 217,co "_law_state" 456 "_law_state" 457 458 [122,2,0,0,3] [.ref 212,vb,vi,.ref 213,.none,.ref 214,.ref 215,.ref 216] 462 122 463) :: (nat_lit 218,fo "_law_state" "_law_state" wj1 (.str "law_penwright_k06_texts_that_write_no_word" 446) (.ref 217)) :: (nat_lit 224,co "_law_choice" 465 "_law_choice" 466 467 [127,2,0,0,3] [.ref 219,vb,vi,.ref 220,.none,.ref 221,.ref 222,.ref 223] 472 127 473) :: (nat_lit 225,fo "_law_choice" "_law_choice" s_q1 (.str "law_penwright_k06_texts_that_write_no_word" 446) (.ref 224)) :: (nat_lit 231,co "_law_word" 475 "_law_word" 476 477 [136,2,0,0,3] [.ref 226,vb,vi,.ref 227,.none,.ref 228,.ref 229,.ref 230] 483 136 484) :: (nat_lit 232,fo "_law_word" "_law_word" yj1 (.str "law_penwright_k06_texts_that_write_no_word" 446) (.ref 231)) :: (nat_lit 238,co "_law_drawn_word" 486 "_law_drawn_word" 487 488 [151,4,0,0,3] [.ref 233,vb,vi,.ref 234,.none,.ref 235,.ref 236,.ref 237] 494 151 495) :: (nat_lit 239,fo "_law_drawn_word" "_law_drawn_word" s_q3 (.str "law_penwright_k06_texts_that_write_no_word" 446) (.ref 238)) :: (nat_lit 245,co "_law_marks" 497 "_law_marks" 498 499 [154,1,0,0,3] [.ref 240,vb,vi,.ref 241,.none,.ref 242,.ref 243,.ref 244] 502 154 503) :: (nat_lit 246,fo "_law_marks" "_law_marks" s_q5 (.str "law_penwright_k06_texts_that_write_no_word" 446) (.ref 245)) :: (nat_lit 250,co "_law_refused" 505 "_law_refused" 506 507 [157,2,0,0,3] [.ref 247,vb,vi,.ref 248,.none,.none,.none,.ref 249] 508 157 509) :: (nat_lit 251,fo "_law_refused" "_law_refused" s_q9 (.str "law_penwright_k06_texts_that_write_no_word" 446) (.ref 250)) :: (nat_lit 255,co "_law_number" 511 "_law_number" 512 513 [159,2,0,0,3] [.ref 252,vb,vi,.ref 253,.none,.none,.none,.ref 254] 514 159 515) :: (nat_lit 256,fo "_law_number" "_law_number" s_q6 (.str "law_penwright_k06_texts_that_write_no_word" 446) (.ref 255)) :: (nat_lit 262,co "_law_parts_read" 517 "_law_parts_read" 518 519 [167,2,0,0,3] [.ref 257,vb,vi,.ref 258,.none,.ref 259,.ref 260,.ref 261] 528 167 529) :: (nat_lit 263,fo "_law_parts_read" "_law_parts_read" s_q8 (.str "law_penwright_k06_texts_that_write_no_word" 446) (.ref 262)) :: (nat_lit 269,co "_law_count" 531 "_law_count" 532 533 [192,1,0,0,3] [.ref 264,vb,vi,.ref 265,.none,.ref 266,.ref 267,.ref 268] 537 192 538) :: (nat_lit 270,fo "_law_count" "_law_count" s_q2 (.str "law_penwright_k06_texts_that_write_no_word" 446) (.ref 269)) :: (nat_lit 276,co "_law_due" 540 "_law_due" 541 542 [198,1,0,0,3] [.ref 271,vb,vi,.ref 272,.none,.ref 273,.ref 274,.ref 275] 546 198 547) :: (nat_lit 277,fo "_law_due" "_law_due" s_q4 (.str "law_penwright_k06_texts_that_write_no_word" 446) (.ref 276)) :: (nat_lit 283,co "_law_odd" 549 "_law_odd" 550 551 [206,1,0,0,3] [.ref 278,vb,vi,.ref 279,.none,.ref 280,.ref 281,.ref 282] 555 206 556) :: (nat_lit 284,fo "_law_odd" "_law_odd" s_q7 (.str "law_penwright_k06_texts_that_write_no_word" 446) (.ref 283)) :: (nat_lit 290,co "_law_spoilt" 558 "_law_spoilt" 559 560 [216,2,0,0,3] [.ref 285,vb,vi,.ref 286,.none,.ref 287,.ref 288,.ref 289] 569 216 570) :: (nat_lit 291,fo "_law_spoilt" "_law_spoilt" vj1 (.str "law_penwright_k06_texts_that_write_no_word" 446) (.ref 290)) :: (nat_lit 297,co "_law_told" 572 "_law_told" 573 574 [236,1,0,0,3] [.ref 292,vb,vi,.ref 293,.none,.ref 294,.ref 295,.ref 296] 579 236 580) :: (nat_lit 298,fo "_law_told" "_law_told" zj1 (.str "law_penwright_k06_texts_that_write_no_word" 446) (.ref 297)) :: (nat_lit 304,co "law" 582 "law" 583 584 [244,1,0,0,3] [.ref 299,vb,vi,.ref 300,.none,.ref 301,.ref 302,.ref 303] 591 244 592) :: (nat_lit 305,fo "law" "law" zs0 (.str "law_penwright_k06_texts_that_write_no_word" 446) (.ref 304)) :: []
noncomputable def KA:List Addr:=[2,3,15,22,23,24,25,28,35,36,37,40,47,48,49,52,59,60,61,64,71,72,73,76,83,84,85,88,95,96,97,100,101,107,108,114,115,121,122,128,129,135,136,142,143,149,150,156,157,163,164,170,171,177,178,184,185,191,192,196,197,203,204,210,211,217,218,224,225,231,232,238,239,245,246,250,251,255,256,262,263,269,270,276,277,283,284,290,291,297,298,304,305]
theorem ke:∀ P,KA=(KK P).map (·.1):=λ _=>by kernel_rfl
noncomputable def vw:Program:={ PySem.Challenge.pw_penwright_k06_texts_that_write_no_word with main:={ PySem.Challenge.pw_penwright_k06_texts_that_write_no_word.main with body:=[top 1,top 2,top 3,top 4,top 5,top 6,top 7,top 9,top 10,top 11,top 12,top 13,top 14,top 15,top 16,top 17,top 18,top 20,top 21,top 22,top 23,top 24,top 25,top 26,top 27,top 28,top 29,top 30,top 31,top 33,top 34,top 35,top 36,top 37,top 38,top 39,top 40,top 41,top 42,top 43,top 44,top 45,top 46,top 47] } }
theorem h_said:PySem.Challenge.rw_penwright_k06_texts_that_write_no_word.wellSaid=true:=by kernel_rfl
theorem h_left:PySem.W.LeftO (PySem.W.OpenLaw.row PySem.Challenge.rw_penwright_k06_texts_that_write_no_word).prog vw [] (λ s=>PySem.W.xlAt vw [] s && PySem.W.recOk (PySem.W.RowW.records (PySem.W.OpenRow.toRowW (PySem.W.OpenLaw.row PySem.Challenge.rw_penwright_k06_texts_that_write_no_word))) s) (PySem.W.Hook.obs (PySem.W.kHook KK KA ke)) (PySem.W.Hook.val (PySem.W.kHook KK KA ke)) 5110:=by
 intro w
 delta PySem.W.openEnds PySem.W.fencedOpening PySem.W.topFrom
 rw [PySem.W.Fast.te14082659384304107361,PySem.W.Fast.te10274390034422433532,PySem.W.Fast.te14289696077712309145,PySem.W.Fast.te1435165496053646825,PySem.W.Fast.te14364793385576792824,PySem.W.Fast.te4187177175401517315]
 kernel_rfl
end Pv
namespace L2
open PySem PySem.Spec PyProof.Rows
noncomputable abbrev Key:=Sum Int Str
noncomputable def xg3:Key->Value->Bool
 | .inl k,v=>Value.isInt k v
 | .inr x,v=>Value.isStrOf x v
noncomputable def keyH (w:World):Key->Int
 | .inl k=>hashInt k
 | .inr x=>hashStr w x
theorem td0:∀ {k:Key} {v:Value},xg3 k v=true->(∃ i t,k=Sum.inl i /\ v=Value.int i t) \/ (∃ x t,k=Sum.inr x /\ v=Value.str x t)
 | .inl i,v,h=>by
  obtain ⟨t,e⟩:=Value.isInt_shape (k:=i) (v:=v) h
  exact .inl ⟨i,t,rfl,e⟩
 | .inr x,v,h=>by
  obtain ⟨t,e⟩:=Value.isStrOf_shape (x:=x) (v:=v) h
  exact .inr ⟨x,t,rfl,e⟩
theorem sf3 (a b:Int):decide ((Sum.inl a:Key)=Sum.inl b)=(a == b):=by
 by_cases e:a=b
 ·subst e; simp
 ·have h:¬ (Sum.inl a:Key)=Sum.inl b:=λ q=>e (Sum.inl.inj q)
  rw [decide_eq_false h]
  exact (beq_eq_false_iff_ne.mpr e).symm
theorem vf3 (a b:Str):decide ((Sum.inr a:Key)=Sum.inr b)=decide (a=b):=by
 by_cases e:a=b
 ·subst e; simp
 ·have h:¬ (Sum.inr a:Key)=Sum.inr b:=λ q=>e (Sum.inr.inj q)
  rw [decide_eq_false h,decide_eq_false e]
theorem tf3 (a:Int) (b:Str):decide ((Sum.inl a:Key)=Sum.inr b)=false:=decide_eq_false (λ q=>nomatch q)
theorem uf3 (a:Str) (b:Int):decide ((Sum.inr a:Key)=Sum.inl b)=false:=decide_eq_false (λ q=>nomatch q)
noncomputable def zp1 (prog:Program) (w:World):PySem.KeyKind prog w Key where
 is:=xg3
 hash:=keyH w
 inj:=λ v a b ha hb=>by
  rcases td0 ha with ⟨i,t,rfl,rfl⟩ | ⟨x,t,rfl,rfl⟩
  ·rcases td0 hb with ⟨j,u,rfl,e⟩ | ⟨y,u,rfl,e⟩
   ·injection e with e1 _; rw [e1]
   ·exact nomatch e
  ·rcases td0 hb with ⟨j,u,rfl,e⟩ | ⟨y,u,rfl,e⟩
   ·exact nomatch e
   ·injection e with e1 _; rw [e1]
 byValue:=λ k v h=>by
  rcases td0 h with ⟨i,t,rfl,rfl⟩ | ⟨x,t,rfl,rfl⟩ <;> rfl
 pyHash:=λ hv h=>by
  rcases td0 hv with ⟨i,t,rfl,rfl⟩ | ⟨x,t,rfl,rfl⟩
  ·exact wpAny_pyHash_int h
  ·exact wpAny_pyHash_str h
 eqBool:=λ hu hv h=>by
  rcases td0 hu with ⟨i,t,rfl,rfl⟩ | ⟨x,t,rfl,rfl⟩
  ·rcases td0 hv with ⟨j,u,rfl,rfl⟩ | ⟨y,u,rfl,rfl⟩
   ·rw [sf3] at h; exact wpAny_eqBool_int h
   ·rw [tf3] at h; exact SeqAt.EqAt.int_str i t y u _ _ _ _ h
  ·rcases td0 hv with ⟨j,u,rfl,rfl⟩ | ⟨y,u,rfl,rfl⟩
   ·rw [uf3] at h; exact SeqAt.EqAt.str_int x t j u _ _ _ _ h
   ·rw [vf3] at h; exact wpAny_eqBool_str h
 «strs» := λ k x t v h=>by
  rcases td0 h with ⟨i,u,rfl,e⟩ | ⟨y,u,rfl,e⟩
  ·exact nomatch e
  ·injection e with e1 _
   subst e1
   cases v <;> rfl
end L2
namespace L2
open PySem PySem.Spec PyProof.Rows
inductive V where
 | non | bl (b:Bool) | int (i:Int) | str (x:Str) | byt (b:Array UInt8) | flt (b:UInt64) | ref (a:Addr) | ty (n:String)
 deriving DecidableEq
noncomputable def RelV:V->Value->Prop
 | .non,u=>u=Value.none
 | .bl b,u=>u=Value.bool b
 | .int i,u=>∃ t,u=Value.int i t
 | .str x,u=>∃ t,u=Value.str x t
 | .byt b,u=>∃ t,u=Value.bytes b t
 | .flt b,u=>∃ t,u=Value.float b t
 | .ref a,u=>u=Value.ref a
 | .ty n,u=>u=Value.type n
noncomputable abbrev Vals:List V->List Value->Prop:=Paired RelV
theorem Vals.length {xs:List V} {us:List Value} (r:Vals xs us):xs.length=us.length:=Paired.length r
theorem Vals.get:∀ {xs:List V} {us:List Value} {i:Nat} {x:V},Vals xs us->xs[i]?=some x->∃ u,us[i]?=some u /\ RelV x u
 | _,_,_,_,.nil,e=>by simp at e
 | _,_,0,_,.cons r _,e=>by simp at e; subst e; exact ⟨_,rfl,r⟩
 | _,_,i + 1,x,.cons _ t,e=>by
  obtain ⟨u,h1,h2⟩:=Vals.get (i:=i) (x:=x) t (by simpa using e)
  exact ⟨u,by simpa using h1,h2⟩
theorem Vals.set {x:V} {u:Value} (r:RelV x u):∀ {xs:List V} {us:List Value} (i:Nat),Vals xs us->Vals (xs.set i x) (us.set i u)
 | _,_,_,.nil=>.nil
 | _,_,0,.cons _ t=>.cons r t
 | _,_,i + 1,.cons q t=>.cons q (Vals.set r i t)
theorem Vals.append:∀ {xs ys:List V} {us ws:List Value},Vals xs us->Vals ys ws->Vals (xs ++ ys) (us ++ ws)
 | _,_,_,_,.nil,s=>s
 | _,_,_,_,.cons r t,s=>.cons r (Vals.append t s)
theorem Vals.take:∀ {xs:List V} {us:List Value} (n:Nat),Vals xs us->Vals (xs.take n) (us.take n)
 | _,_,0,_=>.nil
 | _,_,_ + 1,.nil=>.nil
 | _,_,n + 1,.cons r t=>.cons r (Vals.take n t)
theorem Vals.drop:∀ {xs:List V} {us:List Value} (n:Nat),Vals xs us->Vals (xs.drop n) (us.drop n)
 | _,_,0,r=>r
 | _,_,_ + 1,.nil=>.nil
 | _,_,n + 1,.cons _ t=>Vals.drop n t
noncomputable def RelO:Option V->Option Value->Prop
 | some v,some u=>RelV v u
 | none,none=>True
 | _,_=>False
noncomputable def KV {κ:Type}:List (κ × V)->List (κ × Value)->Prop:=Paired λ (p:κ × V) (q:κ × Value)=>p.1=q.1 /\ RelV p.2 q.2
noncomputable def kV:Key->V
 | .inl i=>.int i
 | .inr x=>.str x
inductive HO where
 | lst (xs:List V)
 | tup (xs:List V)
 | dK (kvs:List (Key × V)) | dT (kvs:List (List Key × V))
 | set (S:Int->Bool) (n:Nat)
 | ins (C dx:Addr) (fs:List (Str × V))
 | own (x:Addr)
 | xd (fs:List (Str × V))
 | met (f x:Addr)
 | rng (lo hi:Int)
 | frz (o:Obj) (u:HO)
 | tbl (ps:Array Value)
 | ext (φ:Heap->Prop)
noncomputable abbrev Hp:=Addr->Option HO
noncomputable def upd (H:Hp) (a:Addr) (o:HO):Hp:=λ b=>if b=a then some o else H b
theorem xf0 {H:Hp} {a:Addr} {o:HO}:upd H a o a=some o:=by unfold upd; rw [if_pos rfl]
theorem vc0 {H:Hp} {a b:Addr} {o:HO} (h:b ≠ a):upd H a o b=H b:=by unfold upd; rw [if_neg h]
theorem zf3 {H:Hp} {a b:Addr} {o u:HO} (h:H a=some o) (h':H b=some u) (d:o ≠ u):a ≠ b:=by
 intro e; subst e; rw [h] at h'; exact d (Option.some.inj h')
theorem tf0 {H:Hp} {a b:Addr} {o:HO} (h:H a=some o) (h':H b=none):a ≠ b:=by
 intro e; subst e; rw [h] at h'; cases h'
section
variable (P:Program) (w:World)
noncomputable def ObjOk (H:Hp) (h:Heap) (a:Addr):HO->Prop
 | .lst xs=>xs.length<=sizeLine /\ ∃ (its:List Value) (n:Nat),Vals xs its /\ h.get? a=some { cls:=.type "list",data:=.seq its.toArray n }
 | .tup xs=>xs.length<=sizeLine /\ ∃ its:List Value,Vals xs its /\ IsTup h a its.toArray
 | .dK kvs=>kvs.length<=sizeLine /\ (a == sysModules)=false /\ ∃ vs,KV kvs vs /\ h.DictOf (zp1 P w) a vs
 | .dT kvs=>kvs.length<=sizeLine /\ (a == sysModules)=false /\ ∃ xs:List (List Key × Addr × Value),
     Paired (λ (p:List Key × V) (q:List Key × Addr × Value)=>p.1=q.1 /\ H q.2.1=some (.tup (p.1.map kV)) /\ RelV p.2 q.2.2) kvs xs ∧
     ∃ o es ep,h.get? a=some o /\ o.ExactDict /\ o.data=.dict es ep /\ es.toList=xs.map (entryOfKey (tupleKind (zp1 P w))) /\ (xs.map (·.1)).Nodup /\ ep=kvs.length
 | .set S n=>h.SetOf (intKind P w) a S n
 | .ins C dx fs=>H dx=some (.own a) /\ fs.length<=1000 /\ dx ≠ a /\ h.get? a=some (PySem.W.instObj C dx) ∧
     ∃ mA,h.Ns1 dx mA /\ (∀ f,RelO (fs.lookup f) (mA f)) /\ PySem.Within mA (fs.map (·.1))
 | .own _=>∃ o,h.get? a=some o
 | .xd fs=>∃ mA,h.Ns1 a mA /\ ∀ f,RelO (fs.lookup f) (mA f)
 | .rng lo hi=>∃ t u v,h.get? a=some { cls:=.type "range",data:=.fields #[.int lo t,.int hi u,.int 1 v] }
 | .frz o u=>h.get? a=some o /\ ObjOk H h a u
 | .tbl ps=>h.get? a=some { cls:=.none,data:=.fields ps }
 | .met f x=>h.get? a=some (PySem.W.methodObj (.ref f) (.ref x))
 | .ext φ=>φ h /\ (∃ o,h.get? a=some o) /\ ∀ h1 h2:Heap,φ h1->(∀ o,h1.get? a=some o->h2.get? a=some o)->φ h2
noncomputable def HOk (H:Hp) (h:Heap):Prop:=∀ a o,H a=some o->ObjOk P w H h a o
end
section
variable {P:Program} {w:World} {H H':Hp} {h h':Heap} {a:Addr} {o:HO}
theorem ObjOk.lt (x:ObjOk P w H h a o):a < h.objs.size:=by
 cases o with
 | lst xs=>obtain ⟨_,_,_,_,e⟩:=x; exact Heap.lt_size e
 | tup xs=>obtain ⟨_,_,_,p⟩:=x; exact p.lt
 | dK kvs=>obtain ⟨_,_,_,_,o,_,_,e,_⟩:=x; exact Heap.lt_size e
 | dT kvs=>obtain ⟨_,_,_,_,o,_,_,e,_⟩:=x; exact Heap.lt_size e
 | set S n=>obtain ⟨o,_,_,_,e,_⟩:=x; exact Heap.lt_size e
 | ins C dx fs=>obtain ⟨_,_,_,e,_⟩:=x; exact Heap.lt_size e
 | own y=>obtain ⟨_,e⟩:=x; exact Heap.lt_size e
 | xd fs=>obtain ⟨_,⟨_,_,_,e,_⟩,_⟩:=x; exact Heap.lt_size e
 | rng lo hi=>obtain ⟨_,_,_,e⟩:=x; exact Heap.lt_size e
 | frz ob u=>obtain ⟨e,_⟩:=x; exact Heap.lt_size e
 | tbl ps=>exact Heap.lt_size (show h.get? a=some _ from x)
 | met f y=>exact Heap.lt_size (show h.get? a=some _ from x)
 | ext φ=>obtain ⟨_,⟨_,e⟩,_⟩:=x; exact Heap.lt_size e
theorem Paired.mapP {α β:Type} {F G:α->β->Prop}:∀ {l₁:List α} {l₂:List β},Paired F l₁ l₂->(∀ a b,F a b->G a b)->Paired G l₁ l₂
 | _,_,.nil,_=>.nil
 | _,_,.cons r t,f=>.cons (f _ _ r) (Paired.mapP t f)
theorem ObjOk.stay (x:ObjOk P w H h a o) (k:∀ b u,(b=a \/ H b=some (.own a))->h.get? b=some u->h'.get? b=some u)
    (ho:∀ b,H b=some (.own a)->H' b=some (.own a)) (ht:∀ b xs,H b=some (.tup xs)->H' b=some (.tup xs)):ObjOk P w H' h' a o:=by
 induction o with
 | lst xs=>obtain ⟨z,its,n,r,e⟩:=x; exact ⟨z,its,n,r,k _ _ (.inl rfl) e⟩
 | tup xs=>obtain ⟨z,its,r,ob,e,c⟩:=x; exact ⟨z,its,r,ob,k _ _ (.inl rfl) e,c⟩
 | dK kvs=>obtain ⟨z,y,vs,r,ob,es,ep,e,c⟩:=x; exact ⟨z,y,vs,r,ob,es,ep,k _ _ (.inl rfl) e,c⟩
 | dT kvs =>
  obtain ⟨z,y,xs,r,ob,es,ep,e,c⟩:=x
  exact ⟨z,y,xs,Paired.mapP r λ p q z=>⟨z.1,ht _ _ z.2.1,z.2.2⟩,ob,es,ep,k _ _ (.inl rfl) e,c⟩
 | set S n=>obtain ⟨ob,es,ep,t,e,c⟩:=x; exact ⟨ob,es,ep,t,k _ _ (.inl rfl) e,c⟩
 | ins C dx fs =>
  obtain ⟨d,z,ne,e,mA,⟨od,es,ep,e2,c⟩,r⟩:=x
  exact ⟨ho _ d,z,ne,k _ _ (.inl rfl) e,mA,⟨od,es,ep,k _ _ (.inr d) e2,c⟩,r⟩
 | own y=>obtain ⟨ob,e⟩:=x; exact ⟨ob,k _ _ (.inl rfl) e⟩
 | xd fs=>obtain ⟨mA,⟨od,es,ep,e,c⟩,r⟩:=x; exact ⟨mA,⟨od,es,ep,k _ _ (.inl rfl) e,c⟩,r⟩
 | rng lo hi=>obtain ⟨t,u,v,e⟩:=x; exact ⟨t,u,v,k _ _ (.inl rfl) e⟩
 | frz ob u ih=>obtain ⟨e,q⟩:=x; exact ⟨k _ _ (.inl rfl) e,ih q⟩
 | tbl ps =>
  have e:h.get? a=some { cls:=.none,data:=.fields ps }:=x
  show h'.get? a=some { cls:=.none,data:=.fields ps }
  exact k a _ (.inl rfl) e
 | met f y =>
  have e:h.get? a=some (PySem.W.methodObj (.ref f) (.ref y)):=x
  show h'.get? a=some (PySem.W.methodObj (.ref f) (.ref y))
  exact k a _ (.inl rfl) e
 | ext φ=>obtain ⟨p,⟨o,e⟩,st⟩:=x; exact ⟨st _ _ p λ o q=>k _ _ (.inl rfl) q,⟨o,k _ _ (.inl rfl) e⟩,st⟩
theorem HOk.lt (x:HOk P w H h) (e:H a=some o):a < h.objs.size:=(x a o e).lt
theorem HOk.fresh (x:HOk P w H h) (e:h.objs.size<=a):H a=none:=by
 cases q:H a with
 | none=>rfl
 | some u=>exact absurd (Nat.lt_of_lt_of_le (x.lt q) e) (Nat.lt_irrefl _)
theorem HOk.kept (x:HOk P w H h) (k:∀ b u,h.get? b=some u->h'.get? b=some u):HOk P w H h':=λ a o e =>
 (x a o e).stay (λ b u _ q=>k b u q) (λ _ q=>q) λ _ _ q=>q
theorem HOk.laid (x:HOk P w H h) (k:∀ b u,h.get? b=some u->h'.get? b=some u) (hp:h.objs.size<=a) (new:ObjOk P w (upd H a o) h' a o):HOk P w (upd H a o) h':=λ b u e=>by
 have hn:=x.fresh hp
 by_cases hb:b=a
 ·subst hb; rw [xf0] at e; cases e; exact new
 ·rw [vc0 hb] at e
  exact (x b u e).stay (λ c v _ q=>k c v q) (λ c q=>by rw [vc0 (tf0 q hn)]; exact q) λ c xs q=>by rw [vc0 (tf0 q hn)]; exact q
end
noncomputable def Rd (H:Hp) (a:Addr) (u:HO):Prop:=H a=some u \/ ∃ o,H a=some (.frz o u)
theorem Rd.ok {P:Program} {w:World} {H:Hp} {h:Heap} {a:Addr} {u:HO} (r:Rd H a u) (x:HOk P w H h):ObjOk P w H h a u:=by
 rcases r with r | ⟨o,r⟩
 ·exact x a u r
 ·obtain ⟨_,q⟩:=x a _ r
  exact q
noncomputable def Mut:Option HO->Prop
 | some (.lst _)=>True
 | some (.dK _)=>True
 | some (.dT _)=>True
 | some (.set _ _)=>True
 | some (.ins _ _ _)=>True
 | some (.ext _)=>True
 | _=>False
section
variable {P:Program} {w:World} {H:Hp} {h h':Heap} {x e:Addr} {o':HO}
theorem HOk.write (ok:HOk P w H h) (mu:Mut (H x)) (he:e=x \/ H e=some (.own x)) (k:∀ b u,b ≠ e->h.get? b=some u->h'.get? b=some u) (heo:∃ u,h'.get? e=some u)
    (new:ObjOk P w (upd H x o') h' x o'):HOk P w (upd H x o') h':=λ b u q=>by
 have nown:∀ c y,H c=some (.own y)->c ≠ x:=λ c y r z=>by subst z; rw [r] at mu; exact mu
 have ntup:∀ c xs,H c=some (.tup xs)->c ≠ x:=λ c xs r z=>by subst z; rw [r] at mu; exact mu
 by_cases hb:b=x
 ·subst hb; rw [xf0] at q; cases q; exact new
 ·rw [vc0 hb] at q
  by_cases hbe:b=e
  ·have q':H b=some (.own x):=by
     rcases he with z | z
     ·exact absurd (hbe.trans z) hb
     ·rw [hbe]; exact z
   rw [q] at q'; cases q'
   obtain ⟨v,hv⟩:=heo
   exact ⟨v,by rw [hbe]; exact hv⟩
  ·refine (ok b u q).stay (λ c v hc r=>k c v ?_ r) (λ c r=>by rw [vc0 (nown c b r)]; exact r) λ c xs r=>by rw [vc0 (ntup c xs r)]; exact r
   rcases hc with rfl | hc
   ·exact hbe
   ·rintro rfl
    rcases he with z | z
    ·exact nown c b hc z
    ·rw [hc] at z; cases z; exact hb rfl
end
structure Un (fs ex:List Addr) (H H':Hp) (h h':Heap):Prop where
 keep:∀ b o,h.get? b=some o->H b=none->b ∉ fs->b ∉ ex->h'.get? b=some o
 slot:∀ b o,h.get? b=some o->H b=none->b ∈ fs->b ∉ ex->∃ sl,h'.get? b=some { o with slots:=sl }
 free:∀ b o,h.get? b=some o->H b=none->b ∉ ex->H' b=none
 there:∀ b o,h.get? b=some o->b ∉ ex->∃ o',h'.get? b=some o'
 tups:∀ b xs,H b=some (.tup xs)->H' b=some (.tup xs)
 frzs:∀ b o u,H b=some (.frz o u)->H' b=some (.frz o u)
 tbls:∀ b ps,H b=some (.tbl ps)->∃ more,H' b=some (.tbl (ps ++ more))
section
variable {fs fs' ex ex':List Addr} {H H1 H2:Hp} {h h1 h2 h':Heap} {a x e:Addr} {o:HO}
theorem Un.any (u:Un fs ex H H1 h h1) {b:Addr} {ob:Obj} (q:h.get? b=some ob) (n:H b=none) (hx:b ∉ ex):∃ sl,h1.get? b=some { ob with slots:=sl }:=by
 by_cases hb:b ∈ fs
 ·exact u.slot b ob q n hb hx
 ·exact ⟨ob.slots,u.keep b ob q n hb hx⟩
theorem Un.kept (k:∀ b u,h.get? b=some u->h'.get? b=some u):Un fs ex H H h h' :=
 ⟨λ b ob q _ _ _=>k b ob q,λ b ob q _ _ _=>⟨ob.slots,k b ob q⟩,λ _ _ _ n _=>n,λ b ob q _=>⟨ob,k b ob q⟩,λ _ _ q=>q,λ _ _ _ q=>q,λ _ ps q=>⟨#[],by rw [q]; simp⟩⟩
theorem Un.refl:Un fs ex H H h h:=Un.kept λ _ _ q=>q
theorem Un.laid (k:∀ b u,h.get? b=some u->h'.get? b=some u) (hp:h.objs.size<=a) (hn:H a=none):Un fs ex H (upd H a o) h h' where
 keep:=λ b u q _ _ _=>k b u q
 slot:=λ b u q _ _ _=>⟨u.slots,k b u q⟩
 free:=λ b u q n _=>by rw [vc0 (Nat.ne_of_lt (Nat.lt_of_lt_of_le (Heap.lt_size q) hp))]; exact n
 there:=λ b u q _=>⟨u,k b u q⟩
 tups:=λ b xs q=>by rw [vc0 (tf0 q hn)]; exact q
 frzs:=λ b u xs q=>by rw [vc0 (tf0 q hn)]; exact q
 tbls:=λ b ps q=>⟨#[],by rw [vc0 (tf0 q hn),q]; simp⟩
theorem Un.write (mu:Mut (H x)) (he:e=x \/ H e=some (.own x)) (k:∀ b u,b ≠ e->h.get? b=some u->h'.get? b=some u) (heo:∃ u,h'.get? e=some u):Un fs ex H (upd H x o) h h':=by
 have hx:∀ b,H b=none->b ≠ x:=λ b n z=>by subst z; rw [n] at mu; exact mu
 have hb:∀ b,H b=none->b ≠ e:=λ b n z=>by
  subst z
  rcases he with r | r
  ·exact hx b n r
  ·rw [n] at r; cases r
 have hm:∀ b u,H b=some u->¬ Mut (some u)->b ≠ x:=λ b u q nm z=>by subst z; rw [q] at mu; exact nm mu
 refine ⟨λ b u q n _ _=>k b u (hb b n) q,λ b u q n _ _=>⟨u.slots,k b u (hb b n) q⟩,λ b u q n _=>by rw [vc0 (hx b n)]; exact n,λ b u q _=>?_,
  λ b xs q=>by rw [vc0 (hm b _ q λ z=>z)]; exact q,λ b u xs q=>by rw [vc0 (hm b _ q λ z=>z)]; exact q,λ b ps q=>⟨#[],by rw [vc0 (hm b _ q λ z=>z),q]; simp⟩⟩
 by_cases hbe:b=e
 ·subst hbe; exact heo
 ·exact ⟨u,k b u hbe q⟩
end
noncomputable def trk (h:Heap) (H:Hp):List Addr:=(List.range h.objs.size).filter λ a=>(H a).isSome
noncomputable def hidT (h:Heap) (H:Hp):Heap:=PySem.W.hideAll h (trk h H)
theorem sp1 (h:Heap) (H:Hp):(hidT h H).objs.size=h.objs.size:=PySem.W.hideAll_size _ _
theorem xz1 {h:Heap} {H:Hp} {b:Addr} {o:Obj} (e:h.get? b=some o) (n:H b=none):(hidT h H).get? b=some o :=
 PySem.W.hideAll_get _ e λ hm=>by
  have q:(H b).isSome=true:=(List.mem_filter.mp hm).2
  rw [n] at q; simp at q
theorem vl2 {h:Heap} {H:Hp} {b:Addr} {o:Obj} (e:(hidT h H).get? b=some o):h.get? b=some o /\ H b=none:=by
 have e':h.get? b=some o:=PySem.W.of_hideAll (trk h H) e
 refine ⟨e',?_⟩
 cases q:H b with
 | none=>rfl
 | some x =>
  have hm:b ∈ trk h H:=List.mem_filter.mpr ⟨List.mem_range.mpr (Heap.lt_size e'),by simp [q]⟩
  have z:(hidT h H).get? b=none:=PySem.W.hideAll_none (trk h H) hm
  rw [z] at e; cases e
noncomputable def yp2 (g h:Heap) (L:Addr):List (Addr × Obj):=(List.range h.objs.size).filterMap λ a=>if a=L \/ (g.get? a).isSome=true then none else (h.get? a).map λ o=>(a,o)
noncomputable def rest (g h:Heap) (L d:Addr):List (Addr × Obj):=(yp2 g h L).filter λ p=>decide (p.1 ≠ d)
end L2
namespace L2
open PySem PySem.Spec PyProof.Rows
structure Mod (K:PySem.W.Frag) (mg:Str->Option Value) (base:Heap):Prop where
 kin:K.In base
 glob:base.Ns mainGlobals mg
 blt:∃ mb,base.Ns builtinsNs mb /\ ∀ x:Str,x ≠ "__name__" -> mb x=bootBuiltins x
 nolimit:base.NoLimit
structure Cx where
 prog:Program
 w:World
 K:PySem.W.Frag
 mg:Str->Option Value
 base:Heap
 A:Around
 N:List Str
 s₀:Shared
 H₀:Hp
 env:Env
 outer:List Env
 stack:List Env
 ex:List Addr
 fn:Str->Bool
 calm:Bool
 pn:List (Addr × Obj)
 xe:Value->Shared->Prop
noncomputable def frs (l:List Env):List Addr:=l.filterMap (·.frame)
noncomputable abbrev Cx.fs (X:Cx):List Addr:=frs X.outer
noncomputable def Vis (sc:Scope) (x:Str):Prop:=sc.names.lookup x=some .local \/ sc.names.lookup x=some .cell \/ sc.names.lookup x=some .free
noncomputable def Loc (sc:Scope) (x:Str):Prop:=sc.names.lookup x=some .local \/ sc.names.lookup x=some .cell
noncomputable def Look (env:Env) (h:Heap) (m:Str->Option Value) (x:Str) (u:Value):Prop :=
 (env.kindOf x=some .local /\ m x=some u) \/ ((env.kindOf x=some .cell \/ env.kindOf x=some .free) /\ ∃ c,env.cells.lookup x=some c /\ h.IsCell c (some u))
structure Cx.Ok (X:Cx):Prop where
 mod:Mod X.K X.mg X.base
 kind:X.env.scope.kind=.function
 glob:X.env.globals=mainGlobals
 blt:X.env.builtins=builtinsNs
 above:X.s₀.heap.objs.size<=X.env.locals
 inj:∀ x y c,X.env.cells.lookup x=some c->X.env.cells.lookup y=some c->x=y
 has:∀ x,(X.env.kindOf x=some .cell \/ X.env.kindOf x=some .free)->∃ c,X.env.cells.lookup x=some c
 cab:∀ x c,X.fn x=true->X.env.cells.lookup x=some c->X.s₀.heap.objs.size<=c
 hd:X.calm=true->X.A.handled=none
 frames:X.A.frames=some X.stack
 stk:X.stack=X.outer \/ (X.stack=X.env :: X.outer /\ X.env.frame=some X.env.locals)
 exf:∀ b ∈ X.ex,b ≠ X.env.locals /\ ∀ x c,X.env.cells.lookup x=some c->c ≠ b
 bs:∀ b o,X.base.get? b=some o->X.s₀.heap.get? b=some o /\ X.H₀ b=none
 bsz:X.base.objs.size<=X.s₀.heap.objs.size
 noex:∀ b o,X.base.get? b=some o->b ∉ X.ex
 exfs:∀ b ∈ X.ex,b ∉ X.fs
 funs:X.s₀.heap.FunFrames X.base X.outer
 frf:∀ b ∈ X.fs,X.H₀ b=none
structure Inv (X:Cx) (pins:List (Addr × Obj)) (σ:List (Option V)) (H:Hp) (s:Shared):Prop where
 ok:X.Ok
 os:s.os=X.s₀.os
 bare:AllBare s.gens
 base:Un X.fs X.ex X.H₀ H X.s₀.heap s.heap
 loc:∃ m,s.heap.Ns X.env.locals m /\ ∀ (i:Nat) (x:Str) (v:V),X.N[i]?=some x->σ[i]?=some (some v)->Vis X.env.scope x->∃ u,RelV v u /\ Look X.env s.heap m x u
 cell:∀ x c,X.env.cells.lookup x=some c->∃ v,s.heap.IsCell c v
 free:H X.env.locals=none
 freeC:∀ x c,X.env.cells.lookup x=some c->H c=none
 pin:∀ p ∈ X.pn ++ pins,s.heap.get? p.1=some p.2 /\ H p.1=none /\ p.1 ≠ X.env.locals /\ p.1 ∉ X.fs /\ ∀ v,p.2.data ≠ .cell v
 hok:HOk X.prog X.w H s.heap
 len:σ.length=X.N.length
section
variable {X:Cx} {pins:List (Addr × Obj)} {σ:List (Option V)} {H H':Hp} {s:Shared} {h':Heap}
theorem Cx.Ok.nofr (ok:X.Ok) {b:Addr} {o:Obj} (e:X.base.get? b=some o):b ∉ X.fs:=λ hb=>by
 have:=(ok.funs.mem hb).1
 rw [e] at this; cases this
theorem Inv.bs (I:Inv X pins σ H s):∀ b o,X.base.get? b=some o->s.heap.get? b=some o /\ H b=none:=λ b o e =>
 ⟨I.base.keep b o (I.ok.bs b o e).1 (I.ok.bs b o e).2 (I.ok.nofr e) (I.ok.noex b o e),I.base.free b o (I.ok.bs b o e).1 (I.ok.bs b o e).2 (I.ok.noex b o e)⟩
theorem Inv.bk (I:Inv X pins σ H s):∀ b o,X.base.get? b=some o->s.heap.get? b=some o:=λ b o e=>(I.bs b o e).1
theorem Inv.mod (I:Inv X pins σ H s):Mod X.K X.mg X.base:=I.ok.mod
theorem Inv.kIn (I:Inv X pins σ H s):X.K.In s.heap:=I.ok.mod.kin.keeps I.bk
theorem Inv.lt (I:Inv X pins σ H s):X.env.locals < s.heap.objs.size:=let ⟨_,hn,_⟩:=I.loc; hn.lt
theorem Inv.sz (I:Inv X pins σ H s):X.s₀.heap.objs.size<=s.heap.objs.size:=Nat.le_trans I.ok.above (Nat.le_of_lt I.lt)
theorem Inv.nofs (I:Inv X pins σ H s) {a:Addr} (h:s.heap.objs.size<=a):a ∉ X.fs:=λ hb=>by
 obtain ⟨_,o,ho,_⟩:=I.ok.funs.mem hb
 exact absurd (Nat.lt_of_lt_of_le (Heap.lt_size ho) (Nat.le_trans I.sz h)) (Nat.lt_irrefl _)
theorem Inv.cne (I:Inv X pins σ H s):∀ x c,X.env.cells.lookup x=some c->c ≠ X.env.locals:=λ x c e z=>by
 obtain ⟨v,o,ho,hd⟩:=I.cell x c e
 obtain ⟨m,⟨o',es,ep,ho',hd',_⟩,_⟩:=I.loc
 rw [z,ho'] at ho; cases ho; rw [hd'] at hd; cases hd
theorem Inv.funs (I:Inv X pins σ H s):s.heap.FunFrames X.base X.outer:=by
 have all:∀ (l:List Env),(∀ b ∈ frs l,b ∈ X.fs)->X.s₀.heap.FunFrames X.base l->s.heap.FunFrames X.base l:=by
  intro l
  induction l with
  | nil=>intro _ _; trivial
  | cons env r ih =>
   intro hs hl
   obtain ⟨hk,⟨L,o,hf,hn,ho,hd⟩,hr⟩:=hl
   have hL:L ∈ X.fs:=hs L (by unfold frs; rw [List.filterMap_cons,hf]; exact List.mem_cons_self)
   obtain ⟨sl,e⟩:=I.base.slot L o ho (I.ok.frf L hL) hL λ z=>I.ok.exfs L z hL
   exact ⟨hk,⟨L,_,hf,hn,e,hd⟩,ih (λ b hb=>hs b (by unfold frs; rw [List.filterMap_cons,hf]; exact List.mem_cons_of_mem _ hb)) hr⟩
 exact all X.outer (λ _ hb=>hb) I.ok.funs
theorem Inv.stack (I:Inv X pins σ H s):s.heap.FunFrames X.base X.stack:=by
 rcases I.ok.stk with e | ⟨e,hf⟩
 ·rw [e]; exact I.funs
 ·rw [e]
  obtain ⟨m,hn,_⟩:=I.loc
  refine .cons (by rw [I.ok.kind]; decide) hf hn ?_ I.funs
  exact Heap.get?_none_of_le (Nat.le_trans I.ok.bsz I.ok.above)
theorem Inv.stkSub (I:Inv X pins σ H s):∀ b ∈ frs X.stack,b ∈ X.env.locals :: X.fs:=λ b hb=>by
 rcases I.ok.stk with e | ⟨e,hf⟩
 ·rw [e] at hb; exact List.mem_cons_of_mem _ hb
 ·rw [e] at hb
  unfold frs at hb
  rw [List.filterMap_cons,hf] at hb
  exact hb
theorem Inv.stkFree (I:Inv X pins σ H s):∀ b ∈ frs X.stack,H b=none:=λ b hb=>by
 rcases List.mem_cons.mp (I.stkSub b hb) with e | hb
 ·rw [e]; exact I.free
 ·obtain ⟨_,o,ho,_⟩:=I.ok.funs.mem hb
  exact I.base.free b o ho (I.ok.frf b hb) λ z=>I.ok.exfs b z hb
theorem Inv.step {g':Array GenState} {t':Nat} {d':Drawn} {ch:List Addr} (I:Inv X pins σ H s)
    (hch:∀ b ∈ ch,(b ∈ X.ex \/ X.s₀.heap.objs.size<=b) /\ b ≠ X.env.locals /\ (∀ x c,X.env.cells.lookup x=some c->c ≠ b) /\ ∀ p ∈ X.pn ++ pins,p.1 ≠ b)
    (keep:∀ b o,b ≠ X.env.locals->b ∉ X.fs->b ∉ ch->s.heap.get? b=some o->H b=none->h'.get? b=some o)
    (slot:∀ b o,b ≠ X.env.locals->b ∈ X.fs->b ∉ ch->s.heap.get? b=some o->H b=none->∃ sl,h'.get? b=some { o with slots:=sl }) (free:∀ b o,b ∉ ch->s.heap.get? b=some o->H b=none->H' b=none)
    (there:∀ b o,b ∉ ch->s.heap.get? b=some o->∃ o',h'.get? b=some o')
    (tups:∀ b xs,H b=some (.tup xs)->H' b=some (.tup xs)) (frzs:∀ b o u,H b=some (.frz o u)->H' b=some (.frz o u)) (tbls:∀ b ps,H b=some (.tbl ps)->∃ more,H' b=some (.tbl (ps ++ more)))
    (ns:∀ m,s.heap.Ns X.env.locals m->h'.Ns X.env.locals m) (hok:HOk X.prog X.w H' h') (hg:AllBare g') :
    Inv X pins σ H' { s with heap:=h',gens:=g',drawn:=d',toks:=t' }:=by
 have neL:∀ b o,X.s₀.heap.get? b=some o->b ≠ X.env.locals:=λ b o e=>Nat.ne_of_lt (Nat.lt_of_lt_of_le (Heap.lt_size e) I.ok.above)
 have neC:∀ b o,X.s₀.heap.get? b=some o->b ∉ X.ex->b ∉ ch:=λ b o e hx hb=>by
  rcases (hch b hb).1 with z | z
  ·exact hx z
  ·exact absurd (Nat.lt_of_lt_of_le (Heap.lt_size e) z) (Nat.lt_irrefl _)
 have cellK:∀ x c,X.env.cells.lookup x=some c->∀ v,s.heap.IsCell c v->h'.IsCell c v:=λ x c e v ⟨o,ho,hd⟩=>by
  have nch:c ∉ ch:=λ z=>(hch c z).2.2.1 x c e rfl
  by_cases hc:c ∈ X.fs
  ·obtain ⟨sl,q⟩:=slot c o (I.cne x c e) hc nch ho (I.freeC x c e)
   exact ⟨_,q,hd⟩
  ·exact ⟨o,keep c o (I.cne x c e) hc nch ho (I.freeC x c e),hd⟩
 refine ⟨I.ok,I.os,hg,⟨λ b o e n hb hx=>?_,λ b o e n hb hx=>?_,λ b o e n hx=>?_,λ b o e hx=>?_,λ b xs e=>tups b xs (I.base.tups b xs e),λ b o xs e=>frzs b o xs (I.base.frzs b o xs e),λ b ps e=>?_⟩,?_,λ x c e=>?_,?_,λ x c e=>?_,λ p hp=>?_,hok,I.len⟩
 ·exact keep b o (neL b o e) hb (neC b o e hx) (I.base.keep b o e n hb hx) (I.base.free b o e n hx)
 ·obtain ⟨sl,e1⟩:=I.base.slot b o e n hb hx
  obtain ⟨sl',e2⟩:=slot b _ (neL b o e) hb (neC b o e hx) e1 (I.base.free b o e n hx)
  exact ⟨sl',e2⟩
 ·obtain ⟨o',e1⟩:=I.base.there b o e hx
  exact free b o' (neC b o e hx) e1 (I.base.free b o e n hx)
 ·obtain ⟨o',e1⟩:=I.base.there b o e hx
  exact there b o' (neC b o e hx) e1
 ·obtain ⟨m1,e1⟩:=I.base.tbls b ps e
  obtain ⟨m2,e2⟩:=tbls b _ e1
  exact ⟨m1 ++ m2,by rw [e2,Array.append_assoc]⟩
 ·obtain ⟨m,hn,hl⟩:=I.loc
  refine ⟨m,ns m hn,λ i x v e1 e2 e3=>?_⟩
  obtain ⟨u,r,l⟩:=hl i x v e1 e2 e3
  refine ⟨u,r,?_⟩
  rcases l with l | ⟨k,c,e,z⟩
  ·exact .inl l
  ·exact .inr ⟨k,c,e,cellK x c e _ z⟩
 ·obtain ⟨v,z⟩:=I.cell x c e
  exact ⟨v,cellK x c e v z⟩
 ·obtain ⟨m,⟨o,_,_,ho,_⟩,_⟩:=I.loc
  exact free _ o (λ z=>(hch _ z).2.1 rfl) ho I.free
 ·obtain ⟨v,o,ho,hd⟩:=I.cell x c e
  exact free c o (λ z=>(hch c z).2.2.1 x c e rfl) ho (I.freeC x c e)
 ·obtain ⟨e,n,ne,nf,d⟩:=I.pin p hp
  have nch:p.1 ∉ ch:=λ z=>(hch p.1 z).2.2.2 p hp rfl
  exact ⟨keep p.1 p.2 ne nf nch e n,free p.1 p.2 nch e n,ne,nf,d⟩
theorem Inv.un {t':Nat} (I:Inv X pins σ H s) (u:Un X.fs [] H H' s.heap h') (hok:HOk X.prog X.w H' h'):Inv X pins σ H' { s with heap:=h',toks:=t' }:=by
 obtain ⟨m,⟨o,es,ep,ho,r⟩,_⟩:=id I.loc
 obtain ⟨sl,hL⟩:=u.any ho I.free (by simp)
 exact I.step (g':=s.gens) (d':=s.drawn) (ch:=[]) (λ _ z=>nomatch z) (λ b o _ hb _ e n=>u.keep b o e n hb (by simp)) (λ b o _ hb _ e n=>u.slot b o e n hb (by simp)) (λ b o _ e n=>u.free b o e n (by simp)) (λ b o _ e=>u.there b o e (by simp)) u.tups u.frzs u.tbls (λ m' hm=>by
  obtain ⟨o',es',ep',ho',r'⟩:=hm
  rw [ho] at ho'; cases ho'
  exact ⟨_,es',ep',hL,r'⟩) hok I.bare
theorem Inv.call {g':Array GenState} {t':Nat} {d':Drawn} {ch:List Addr} (I:Inv X pins σ H s) (u:Un (frs X.stack) ch H H' s.heap h') (hok:HOk X.prog X.w H' h') (hg:AllBare g')
    (hch:∀ b ∈ ch,(b ∈ X.ex \/ X.s₀.heap.objs.size<=b) /\ b ≠ X.env.locals /\ (∀ x c,X.env.cells.lookup x=some c->c ≠ b) /\ ∀ p ∈ X.pn ++ pins,p.1 ≠ b) :
    Inv X pins σ H' { s with heap:=h',gens:=g',drawn:=d',toks:=t' }:=by
 obtain ⟨m,⟨o,es,ep,ho,r⟩,_⟩:=id I.loc
 obtain ⟨sl,hL⟩:=u.any ho I.free λ z=>(hch _ z).2.1 rfl
 exact I.step (ch:=ch) hch (λ b o hL hb hc e n=>u.keep b o e n (λ z=>(List.mem_cons.mp (I.stkSub b z)).elim hL hb) hc) (λ b o _ _ hc e n=>u.any e n hc) (λ b o hc e n=>u.free b o e n hc) (λ b o hc e=>u.there b o e hc) u.tups u.frzs u.tbls (λ m' hm=>by
  obtain ⟨o',es',ep',ho',r'⟩:=hm
  rw [ho] at ho'; cases ho'
  exact ⟨_,es',ep',hL,r'⟩) hok hg
theorem Inv.turned {t':Nat} {it:Addr} (I:Inv X pins σ H s) (k:∀ b o,b ≠ it->s.heap.get? b=some o->h'.get? b=some o) (hn:H it=none) (hL:it ≠ X.env.locals)
    (h1:it ∈ X.ex \/ X.s₀.heap.objs.size<=it) (h2:∀ x c,X.env.cells.lookup x=some c->c ≠ it) (h3:∀ p ∈ X.pn ++ pins,p.1 ≠ it):Inv X pins σ H { s with heap:=h',toks:=t' }:=by
 have nit:∀ b u,H b=some u->b ≠ it:=λ b u e z=>by rw [z,hn] at e; cases e
 refine I.step (g':=s.gens) (d':=s.drawn) (ch:=[it]) (λ b hb=>?_) (λ b o _ _ hc e _=>k b o (λ z=>hc (by simp [z])) e) (λ b o _ _ hc e _=>⟨o.slots,k b o (λ z=>hc (by simp [z])) e⟩) (λ _ _ _ _ n=>n)
  (λ b o hc e=>⟨o,k b o (λ z=>hc (by simp [z])) e⟩) (λ _ _ e=>e) (λ _ _ _ e=>e) (λ b ps e=>⟨#[],by rw [e]; simp⟩) (λ m hm=>?_) (λ b u e=>?_) I.bare
 ·have e:b=it:=by simpa using hb
  subst e
  exact ⟨h1,hL,h2,h3⟩
 ·obtain ⟨o,es,ep,ho,r⟩:=hm
  exact ⟨o,es,ep,k _ o (Ne.symm hL) ho,r⟩
 ·refine (I.hok b u e).stay (λ c v hc q=>k c v ?_ q) (λ _ q=>q) λ _ _ q=>q
  rcases hc with z | z
  ·rw [z]; exact nit b u e
  ·exact nit c _ z
theorem Inv.tok (I:Inv X pins σ H s) (t:Nat):Inv X pins σ H { s with toks:=t }:=I.un (h':=s.heap) (t':=t) Un.refl I.hok
theorem Inv.kept {t':Nat} (I:Inv X pins σ H s) (k:∀ b u,s.heap.get? b=some u->h'.get? b=some u):Inv X pins σ H { s with heap:=h',toks:=t' }:=I.un (Un.kept k) (I.hok.kept k)
theorem Inv.laid {a:Addr} {o:HO} {t':Nat} (I:Inv X pins σ H s) (k:∀ b u,s.heap.get? b=some u->h'.get? b=some u) (hp:s.heap.objs.size<=a) (new:ObjOk X.prog X.w (upd H a o) h' a o) :
    Inv X pins σ (upd H a o) { s with heap:=h',toks:=t' }:=I.un (Un.laid k hp (I.hok.fresh hp)) (I.hok.laid k hp new)
theorem Inv.write {x e:Addr} {o:HO} {t':Nat} (I:Inv X pins σ H s) (mu:Mut (H x)) (he:e=x \/ H e=some (.own x)) (k:∀ b u,b ≠ e->s.heap.get? b=some u->h'.get? b=some u) (heo:∃ u,h'.get? e=some u)
    (new:ObjOk X.prog X.w (upd H x o) h' x o):Inv X pins σ (upd H x o) { s with heap:=h',toks:=t' }:=I.un (Un.write mu he k heo) (I.hok.write mu he k heo new)
theorem Inv.pins_of {pins':List (Addr × Obj)} (I:Inv X pins σ H s) (h:∀ p ∈ pins',s.heap.get? p.1=some p.2 /\ H p.1=none /\ p.1 ≠ X.env.locals /\ p.1 ∉ X.fs /\ ∀ v,p.2.data ≠ .cell v):Inv X pins' σ H s :=
 ⟨I.ok,I.os,I.bare,I.base,I.loc,I.cell,I.free,I.freeC,λ p hp=>(List.mem_append.mp hp).elim (λ z=>I.pin p (List.mem_append_left _ z)) (h p),I.hok,I.len⟩
theorem sv0 {N:List Str} (hN:N.Nodup) {i j:Nat} {x:Str} (a:N[i]?=some x) (b:N[j]?=some x):i=j:=by
 obtain ⟨h1,e1⟩:=List.getElem?_eq_some_iff.mp a
 obtain ⟨h2,e2⟩:=List.getElem?_eq_some_iff.mp b
 exact (List.getElem_inj hN).mp (e1.trans e2.symm)
theorem xy0 {M:Model} {A:Around} {E:Value->Shared->Prop} {i:Nat} {x:Str} {v:V} {u:Value} {Q:Unit->Shared->Prop} (I:Inv X pins σ H s) (hN:X.N.Nodup) (hi:X.N[i]?=some x) (hx:Loc X.env.scope x) (r:RelV v u)
    (h:∀ s',Inv X pins (σ.set i (some v)) H s'->(∃ a,Heap.SameBut a s.heap s'.heap /\ (a=X.env.locals \/ X.env.cells.lookup x=some a))->Q () s') (hf:X.fn x=true \/ X.env.scope.names.lookup x=some .local:=by first | exact .inl rfl | exact .inr rfl | assumption):wpAny M A (storeName X.env x u) Q E s:=by
 obtain ⟨m,hn,hl⟩:=id I.loc
 have hcls:(X.env.scope.kind == .class || (X.env.scope.kind == .module && X.env.locals != X.env.globals))=false:=by rw [I.ok.kind]; rfl
 have hiσ:i < σ.length:=by rw [I.len]; exact (List.getElem?_eq_some_iff.mp hi).1
 have cne:=I.cne
 have tracked:∀ {a:Addr} {h':Heap},(∃ o,s.heap.get? a=some o /\ H a=none)->Heap.SameBut a s.heap h'->HOk X.prog X.w H h':=λ {a h'} ha hs b ob e=>by
  obtain ⟨_,_,hfree⟩:=ha
  refine (I.hok b ob e).stay (λ c w' hc q=>(hs.2 c ?_).trans q) (λ _ q=>q) λ _ _ q=>q
  rintro rfl
  rcases hc with rfl | hc
  ·rw [hfree] at e; cases e
  ·rw [hfree] at hc; cases hc
 rcases hx with hk | hk
 ·refine wpAny_storeName_local hk hn (λ h' hn' hs=>?_) hcls
  obtain ⟨oL,_,_,hoL,_⟩:=id hn
  refine h _ ⟨I.ok,I.os,I.bare,⟨λ b o e n hb hx=>?_,λ b o e n hb hx=>?_,I.base.free,λ b o e hx=>?_,I.base.tups,I.base.frzs,I.base.tbls⟩,⟨_,hn',λ j y v' e1 e2 e3=>?_⟩,λ y c e=>?_,I.free,I.freeC,λ p hp=>?_,tracked ⟨oL,hoL,I.free⟩ hs,by simpa using I.len⟩ ⟨_,hs,.inl rfl⟩
  ·exact (hs.2 b (Nat.ne_of_lt (Nat.lt_of_lt_of_le (Heap.lt_size e) I.ok.above))).trans (I.base.keep b o e n hb hx)
  ·obtain ⟨sl,e1⟩:=I.base.slot b o e n hb hx
   exact ⟨sl,(hs.2 b (Nat.ne_of_lt (Nat.lt_of_lt_of_le (Heap.lt_size e) I.ok.above))).trans e1⟩
  ·obtain ⟨o',e1⟩:=I.base.there b o e hx
   exact ⟨o',(hs.2 b (Nat.ne_of_lt (Nat.lt_of_lt_of_le (Heap.lt_size e) I.ok.above))).trans e1⟩
  ·by_cases hj:j=i
   ·subst hj
    rw [hi] at e1; cases e1
    rw [List.getElem?_set_self hiσ] at e2
    cases e2
    exact ⟨u,r,.inl ⟨hk,by simp⟩⟩
   ·rw [List.getElem?_set_ne (Ne.symm hj)] at e2
    obtain ⟨u',r',q⟩:=hl j y v' e1 e2 e3
    refine ⟨u',r',?_⟩
    rcases q with ⟨k,e⟩ | ⟨k,c,e,z⟩
    ·refine .inl ⟨k,?_⟩
     have:y ≠ x:=λ e=>hj (sv0 hN e1 (e ▸ hi))
     simp [this,e]
    ·exact .inr ⟨k,c,e,z.sameBut hs (cne y c e)⟩
  ·obtain ⟨w',z⟩:=I.cell y c e
   exact ⟨w',z.sameBut hs (cne y c e)⟩
  ·obtain ⟨e,n,ne,nf,d⟩:=I.pin p hp
   exact ⟨(hs.2 p.1 ne).trans e,n,ne,nf,d⟩
 ·have hfn:X.fn x=true:=by
    rcases hf with z | z
    ·exact z
    ·rw [z] at hk; cases hk
  obtain ⟨c,hc⟩:=I.ok.has x (.inl hk)
  obtain ⟨w',z⟩:=I.cell x c hc
  refine wpAny_storeName_cell I.ok.kind hk hc z (λ h' hc' hs=>?_)
  obtain ⟨oc,hoc,hocd⟩:=id z
  refine h { s with heap:=h' } ⟨I.ok,I.os,I.bare,⟨λ b o e n hb hx=>?_,λ b o e n hb hx=>?_,I.base.free,λ b o e hx=>?_,I.base.tups,I.base.frzs,I.base.tbls⟩,⟨m,hn.sameBut hs (Ne.symm (cne x c hc)),λ j y v' e1 e2 e3=>?_⟩,λ y c' e=>?_,I.free,I.freeC,λ p hp=>?_,tracked ⟨oc,hoc,I.freeC x c hc⟩ hs,by simpa using I.len⟩ ⟨c,hs,.inr hc⟩
  ·exact (hs.2 b (Nat.ne_of_lt (Nat.lt_of_lt_of_le (Heap.lt_size e) (I.ok.cab x c hfn hc)))).trans (I.base.keep b o e n hb hx)
  ·obtain ⟨sl,e1⟩:=I.base.slot b o e n hb hx
   exact ⟨sl,(hs.2 b (Nat.ne_of_lt (Nat.lt_of_lt_of_le (Heap.lt_size e) (I.ok.cab x c hfn hc)))).trans e1⟩
  ·obtain ⟨o',e1⟩:=I.base.there b o e hx
   exact ⟨o',(hs.2 b (Nat.ne_of_lt (Nat.lt_of_lt_of_le (Heap.lt_size e) (I.ok.cab x c hfn hc)))).trans e1⟩
  ·by_cases hj:j=i
   ·subst hj
    rw [hi] at e1; cases e1
    rw [List.getElem?_set_self hiσ] at e2
    cases e2
    exact ⟨u,r,.inr ⟨.inl hk,c,hc,hc'⟩⟩
   ·rw [List.getElem?_set_ne (Ne.symm hj)] at e2
    obtain ⟨u',r',q⟩:=hl j y v' e1 e2 e3
    refine ⟨u',r',?_⟩
    rcases q with q | ⟨k,c',e,z'⟩
    ·exact .inl q
    ·refine .inr ⟨k,c',e,z'.sameBut hs ?_⟩
     rintro rfl
     exact hj (sv0 hN e1 (I.ok.inj _ _ _ e hc ▸ hi))
  ·by_cases hcc:c'=c
   ·subst hcc; exact ⟨_,hc'⟩
   ·obtain ⟨w2,z2⟩:=I.cell y c' e
    exact ⟨w2,z2.sameBut hs hcc⟩
  ·obtain ⟨e,n,ne,nf,d⟩:=I.pin p hp
   refine ⟨(hs.2 p.1 ?_).trans e,n,ne,nf,d⟩
   intro q
   rw [q,hoc] at e
   have q':oc=p.2:=Option.some.inj e
   exact d w' (by rw [<- q']; exact hocd)
theorem wo0 {M:Model} {A:Around} {E:Value->Shared->Prop} {i:Nat} {x:Str} {v:V} {u:Value} {Q:Unit->Shared->Prop} (I:Inv X pins σ H s) (hN:X.N.Nodup) (hi:X.N[i]?=some x) (hx:Loc X.env.scope x) (r:RelV v u)
    (h:∀ s',Inv X pins (σ.set i (some v)) H s'->Q () s') (hf:X.fn x=true \/ X.env.scope.names.lookup x=some .local:=by first | exact .inl rfl | exact .inr rfl | assumption):wpAny M A (storeName X.env x u) Q E s :=
 xy0 I hN hi hx r (λ s' I' _=>h s' I') hf
theorem Inv.call' {s':Shared} {ch:List Addr} (I:Inv X pins σ H s) (ho:s'.os=s.os) (u:Un (frs X.stack) ch H H' s.heap s'.heap) (hok:HOk X.prog X.w H' s'.heap) (hg:AllBare s'.gens)
    (hch:∀ b ∈ ch,(b ∈ X.ex \/ X.s₀.heap.objs.size<=b) /\ b ≠ X.env.locals /\ (∀ x c,X.env.cells.lookup x=some c->c ≠ b) /\ ∀ p ∈ X.pn ++ pins,p.1 ≠ b):Inv X pins σ H' s':=by
 obtain ⟨h',g',d',t',o'⟩:=s'
 have e:o'=s.os:=ho
 subst e
 exact I.call (g':=g') (t':=t') (d':=d') u hok hg hch
end
noncomputable abbrev XK:=Value->Option Addr->Hp->Prop
noncomputable abbrev St:=List (Option V)
noncomputable abbrev VK:=V->Hp->Prop
noncomputable abbrev TE:=St->Hp->VK->Prop
noncomputable abbrev TT:=St->Hp->(Bool->Hp->Prop)->Prop
noncomputable abbrev TA:=St->Hp->(List V->Hp->Prop)->Prop
structure Ends where
 nx:St->Hp->Prop
 rt:VK
 bk:St->Hp->Prop:=λ _ _=>False
 ct:St->Hp->Prop:=λ _ _=>False
noncomputable abbrev TS:=Ends->St->Hp->Prop
noncomputable def EP (X:Cx) (pins:List (Addr × Obj)) (σ:St) (Q:VK) (u:Value) (s':Shared):Prop:=∃ v H',Inv X pins σ H' s' /\ RelV v u /\ Q v H'
noncomputable def TP (X:Cx) (pins:List (Addr × Obj)) (σ:St) (Q:Bool->Hp->Prop) (b:Bool) (s':Shared):Prop:=∃ H',Inv X pins σ H' s' /\ Q b H'
noncomputable def AP (X:Cx) (pins:List (Addr × Obj)) (σ:St) (Q:List V->Hp->Prop) (us:List Value) (s':Shared):Prop:=∃ vs H',Inv X pins σ H' s' /\ Vals vs us /\ Q vs H'
noncomputable def SP (X:Cx) (pins:List (Addr × Obj)) (D:Ends) (f:Flow) (s':Shared):Prop :=
 match f with
 | .next=>∃ σ' H',Inv X pins σ' H' s' /\ D.nx σ' H'
 | .brk=>∃ σ' H',Inv X pins σ' H' s' /\ D.bk σ' H'
 | .cont=>∃ σ' H',Inv X pins σ' H' s' /\ D.ct σ' H'
 | .ret u=>∃ v σ' H',Inv X pins σ' H' s' /\ RelV v u /\ D.rt v H'
noncomputable def PE (X:Cx) (e:Expr) (t:TE):Prop :=
 ∀ (pins:List (Addr × Obj)) (s:Shared) (σ:St) (H:Hp) (Q:VK),Inv X pins σ H s->t σ H Q->wpAny (model X.prog X.w) X.A (eval e X.env) (EP X pins σ Q) X.xe s
noncomputable def PT (X:Cx) (e:Expr) (t:TT):Prop :=
 ∀ (pins:List (Addr × Obj)) (s:Shared) (σ:St) (H:Hp) (Q:Bool->Hp->Prop),Inv X pins σ H s->t σ H Q->wpAny (model X.prog X.w) X.A (isTrue e X.env (eval e X.env)) (TP X pins σ Q) X.xe s
noncomputable def PW (X:Cx) (e:Expr) (t:TT):Prop :=
 ∀ (whole:Sem Value) (pins:List (Addr × Obj)) (s:Shared) (σ:St) (H:Hp) (Q:Bool->Hp->Prop),Inv X pins σ H s->t σ H Q->wpAny (model X.prog X.w) X.A (isTrue e X.env whole) (TP X pins σ Q) X.xe s
theorem PW.pt {X:Cx} {e:Expr} {t:TT} (h:PW X e t):PT X e t:=h _
noncomputable def PA (X:Cx) (es:List Expr) (t:TA):Prop :=
 ∀ (pos:Pos) (pins:List (Addr × Obj)) (s:Shared) (σ:St) (H:Hp) (Q:List V->Hp->Prop),Inv X pins σ H s->t σ H Q->wpAny (model X.prog X.w) X.A (spliced (backTo pos (starEach es X.env))) (AP X pins σ Q) X.xe s
noncomputable def PS (X:Cx) (st:Stmt) (t:TS):Prop :=
 ∀ (pins:List (Addr × Obj)) (s:Shared) (σ:St) (H:Hp) (D:Ends),Inv X pins σ H s->t D σ H->wpAny (model X.prog X.w) X.A (exec st X.env) (SP X pins D) X.xe s
noncomputable def PSs (X:Cx) (st:List Stmt) (t:TS):Prop :=
 ∀ (pins:List (Addr × Obj)) (s:Shared) (σ:St) (H:Hp) (D:Ends),Inv X pins σ H s->t D σ H->wpAny (model X.prog X.w) X.A (execs st X.env) (SP X pins D) X.xe s
theorem thn {α:Type} {t:Sem α} {Q Q':α->Shared->Prop} {M:Model} {A:Around} {E:Value->Shared->Prop} {s:Shared} (h:wpAny M A t Q E s) (hQ:∀ a s,Q a s->Q' a s):wpAny M A t Q' E s:=wpAny_mono h hQ λ _ _ x=>x
end L2
namespace L2
open PySem PySem.Spec PyProof.Rows
section
variable {X:Cx}
noncomputable def tVar (i:Nat):TE:=λ σ H Q=>∃ v,σ[i]?=some (some v) /\ Q v H
noncomputable def tC (v:V):TE:=λ _ H Q=>Q v H
theorem yc3 {i:Nat} {x:Str} {pos:Pos} (hN:X.N[i]?=some x) (hv:Vis X.env.scope x) (hd:(x == ("__debug__" : Str))=false:=by decide) (hcd:(x == ("__classdict__" : Str))=false:=by decide):PE X (.Name x pos) (tVar i):=by
 intro pins s σ H Q I h
 obtain ⟨v,e,h⟩:=h
 obtain ⟨m,hn,hl⟩:=I.loc
 obtain ⟨u,r,l⟩:=hl i x v hN e hv
 have fin:EP X pins σ Q u s:=⟨v,H,I,r,h⟩
 rcases l with ⟨hk,hm⟩ | ⟨hk,c,hc,hcell⟩
 ·exact wpAny_Name (wpAny_loadName_local I.ok.kind hk hn hm fin) hd
 ·rcases hk with hk | hk
  ·exact wpAny_Name (wpAny_loadName_cell I.ok.kind hk hc hcell fin) hd
  ·exact wpAny_Name (wpAny_loadName_free I.ok.kind hk hc hcell fin hcd) hd
theorem xd3 {i j pos}:PE X (.Constant (.int i) j pos) (tC (.int i)):=λ _ _ _ H _ I h=>wpAny_Constant_int ⟨.int i,H,I.tok _,⟨_,rfl⟩,h⟩
theorem wq3 {b j pos}:PE X (.Constant (.bool b) j pos) (tC (.bl b)):=λ _ _ _ H _ I h=>Constant_bool ⟨.bl b,H,I,rfl,h⟩
theorem uc3 {j pos}:PE X (.Constant .none j pos) (tC .non):=λ _ _ _ H _ I h=>Constant_none ⟨.non,H,I,rfl,h⟩
theorem wc3 {x j pos}:PE X (.Constant (.str x) j pos) (tC (.str x)):=λ _ _ _ H _ I h=>Calls.Constant_str ⟨.str x,H,I.tok _,⟨_,rfl⟩,h⟩
noncomputable def Gl (X:Cx) (x:Str):Prop:=X.env.kindOf x=some .globalImplicit
theorem vh0 {E:Value->Shared->Prop} {pins:List (Addr × Obj)} {s:Shared} {σ:St} {H:Hp} {x:Str} {u:Value} {pos:Pos} {Q:Value->Shared->Prop} (I:Inv X pins σ H s) (hg:Gl X x) (hm:X.mg x=some u) (h:Q u s)
    (hd:(x == ("__debug__" : Str))=false:=by decide):wpAny (model X.prog X.w) X.A (eval (.Name x pos) X.env) Q E s :=
 Calls.Name_function_global I.ok.kind hg (Calls.loadGlobal_global (by rw [I.ok.glob]; exact I.mod.glob.keeps I.bk) hm h) hd
theorem xu0 {E:Value->Shared->Prop} {pins:List (Addr × Obj)} {s:Shared} {σ:St} {H:Hp} {x:Str} {u:Value} {pos:Pos} {Q:Value->Shared->Prop} (I:Inv X pins σ H s) (hg:Gl X x) (hm:X.mg x=none) (hv:bootBuiltins x=some u) (h:Q u s)
    (hn:x ≠ "__name__" := by decide) (hd:(x == ("__debug__" : Str))=false:=by decide):wpAny (model X.prog X.w) X.A (eval (.Name x pos) X.env) Q E s:=by
 obtain ⟨mb,h1,h2⟩:=I.mod.blt
 exact Calls.Name_function_global I.ok.kind hg (Calls.loadGlobal_builtin (by rw [I.ok.glob]; exact I.mod.glob.keeps I.bk) hm (by rw [I.ok.blt]; exact h1.keeps I.bk) ((h2 x hn).trans hv) h) hd
theorem uk2 {x:Str} {v:V} {u:Value} {pos:Pos} (hg:Gl X x) (hm:X.mg x=some u) (r:RelV v u) (hd:(x == ("__debug__" : Str))=false:=by decide):PE X (.Name x pos) (tC v) :=
 λ _ _ _ H _ I h=>vh0 I hg hm ⟨v,H,I,r,h⟩ hd
theorem wo1 {x:Str} {v:V} {u:Value} {pos:Pos} (hg:Gl X x) (hm:X.mg x=none) (hv:bootBuiltins x=some u) (r:RelV v u) (hn:x ≠ "__name__" := by decide) (hd:(x == ("__debug__" : Str))=false:=by decide):PE X (.Name x pos) (tC v) :=
 λ _ _ _ H _ I h=>xu0 I hg hm hv ⟨v,H,I,r,h⟩ hn hd
variable {a b:Expr} {ta tb:TE} {pos:Pos}
noncomputable def tB (t:TE):TT:=λ σ H Q=>t σ H λ x H1=>∃ c,x=.bl c /\ Q c H1
theorem yb3 {e:Expr} {t:TE} (h:PE X e t) (he:∀ whole,isTrue e X.env whole=(do let v <- whole; standAt e.pos; holding [v] (truthy v)):=by intro _; rfl):PT X e (tB t):=by
 intro pins s σ H Q I hw
 refine isTrue_plain (thn (h pins s σ H _ I hw) λ v s1 ⟨x,H1,I1,r1,q1⟩=>?_) (he _)
 obtain ⟨d,rfl,q⟩:=q1
 cases r1
 exact wpAny_truthy_bool ⟨H1,I1,q⟩
variable {tA tB':TT} {rest:List Expr}
noncomputable def tAnd (t u:TT):TT:=λ σ H Q=>t σ H λ c H1=>if c=true then u σ H1 Q else Q false H1
noncomputable def tOr (t u:TT):TT:=λ σ H Q=>t σ H λ c H1=>if c=true then Q true H1 else u σ H1 Q
noncomputable def tNot (t:TT):TT:=λ σ H Q=>t σ H λ c H1=>Q (!c) H1
theorem ti2 (ha:PT X a tA):PW X (.BoolOp .And [a] pos) tA:=by
 intro wh pins s σ H Q I h
 refine isTrue_and (thn (ha pins s σ H Q I h) λ c s1 e=>?_)
 cases c with
 | true=>exact isTrue_and_nil e
 | false=>exact e
theorem sa3 (ha:PT X a tA):PW X (.BoolOp .Or [a] pos) tA:=by
 intro wh pins s σ H Q I h
 refine isTrue_or (thn (ha pins s σ H Q I h) λ c s1 e=>?_)
 cases c with
 | false=>exact isTrue_or_nil e
 | true=>exact e
theorem xb3 (ha:PT X a tA) (hb:PW X (.BoolOp .And (b :: rest) pos) tB'):PW X (.BoolOp .And (a :: b :: rest) pos) (tAnd tA tB'):=by
 intro wh pins s σ H Q I h
 refine isTrue_and (thn (ha pins s σ H _ I h) λ c s1 ⟨H1,I1,q1⟩=>?_)
 cases c with
 | true=>exact hb wh pins s1 σ H1 Q I1 q1
 | false=>exact ⟨H1,I1,q1⟩
theorem up3 (ha:PT X a tA) (hb:PW X (.BoolOp .Or (b :: rest) pos) tB'):PW X (.BoolOp .Or (a :: b :: rest) pos) (tOr tA tB'):=by
 intro wh pins s σ H Q I h
 refine isTrue_or (thn (ha pins s σ H _ I h) λ c s1 ⟨H1,I1,q1⟩=>?_)
 cases c with
 | true=>exact ⟨H1,I1,q1⟩
 | false=>exact hb wh pins s1 σ H1 Q I1 q1
theorem zb3 (ha:PT X a tA):PT X (.UnaryOp .Not a pos) (tNot tA):=by
 intro pins s σ H Q I h
 exact isTrue_not (ha pins s σ H (λ c H1=>Q (!c) H1) I h)
noncomputable def yl3 (ta tb:TE):TE:=λ σ H Q=>ta σ H λ x H1=>∃ c,x=.bl c /\ if c=true then tb σ H1 Q else Q (.bl false) H1
noncomputable def tOrV (ta tb:TE):TE:=λ σ H Q=>ta σ H λ x H1=>∃ c,x=.bl c /\ if c=true then Q (.bl true) H1 else tb σ H1 Q
theorem vc3 {op} {t:TE} (h:PE X a t):PE X (.BoolOp op [a] pos) t:=λ pins s σ H Q I hw=>BoolOp_one (h pins s σ H Q I hw)
theorem wd3 (ha:PE X a ta) (hb:PE X (.BoolOp .And (b :: rest) pos) tb):PE X (.BoolOp .And (a :: b :: rest) pos) (yl3 ta tb):=by
 intro pins s σ H Q I h
 refine BoolOp_and (thn (ha pins s σ H _ I h) λ v s1 ⟨x,H1,I1,r1,q1⟩=>?_)
 obtain ⟨c,rfl,q1⟩:=q1
 cases r1
 refine wpAny_truthy_bool ?_
 cases c with
 | true=>exact hb pins s1 σ H1 Q I1 q1
 | false=>exact ⟨.bl false,H1,I1,rfl,q1⟩
theorem xq3 (ha:PE X a ta) (hb:PE X (.BoolOp .Or (b :: rest) pos) tb):PE X (.BoolOp .Or (a :: b :: rest) pos) (tOrV ta tb):=by
 intro pins s σ H Q I h
 refine BoolOp_or (thn (ha pins s σ H _ I h) λ v s1 ⟨x,H1,I1,r1,q1⟩=>?_)
 obtain ⟨c,rfl,q1⟩:=q1
 cases r1
 refine wpAny_truthy_bool ?_
 cases c with
 | false=>exact hb pins s1 σ H1 Q I1 q1
 | true=>exact ⟨.bl true,H1,I1,rfl,q1⟩
noncomputable def tIf (t:TT) (ta tb:TE):TE:=λ σ H Q=>t σ H λ c H1=>if c=true then ta σ H1 Q else tb σ H1 Q
theorem uw1 {c:Expr} (hc:PT X c tA) (ha:PE X a ta) (hb:PE X b tb):PE X (.IfExp c a b pos) (tIf tA ta tb):=by
 intro pins s σ H Q I h
 refine wpAny_IfExp (thn (hc pins s σ H _ I h) λ d s1 ⟨H1,I1,q1⟩=>?_)
 cases d with
 | true=>exact ha pins s1 σ H1 Q I1 q1
 | false=>exact hb pins s1 σ H1 Q I1 q1
end
end L2
namespace L2
open PySem PySem.Spec PyProof.Rows
noncomputable def SqL (K:PySem.W.Frag) (H:Hp) (a:Addr) (xs:List V):Prop :=
 Rd H a (.lst xs) ∨
  ∃ (o:Obj) (its:Array Value) (n:Nat),K.lookup a=some o /\ o.cls=.type "list" /\ o.dict=none /\ o.data=.seq its n /\ its.size<=sizeLine /\ Vals xs its.toList
noncomputable def SqT (K:PySem.W.Frag) (H:Hp) (a:Addr) (xs:List V):Prop :=
 Rd H a (.tup xs) ∨
  ∃ (o:Obj) (its:Array Value) (n:Nat),K.lookup a=some o /\ o.cls=.type "tuple" /\ o.data=.seq its n /\ its.size<=sizeLine /\ Vals xs its.toList
noncomputable def absV:Value->Option V
 | .none=>some .non
 | .bool b=>some (.bl b)
 | .int i _=>some (.int i)
 | .str x _=>some (.str x)
 | .bytes b _=>some (.byt b)
 | .float b _=>some (.flt b)
 | .ref a=>some (.ref a)
 | .type n=>some (.ty n)
 | _=>none
theorem RelV.abs {x:V} {u:Value} (r:RelV x u):absV u=some x:=by
 cases x with
 | non=>cases r; rfl
 | bl _=>cases r; rfl
 | int _=>obtain ⟨t,rfl⟩:=r; rfl
 | str _=>obtain ⟨t,rfl⟩:=r; rfl
 | byt _=>obtain ⟨t,rfl⟩:=r; rfl
 | flt _=>obtain ⟨t,rfl⟩:=r; rfl
 | ref _=>cases r; rfl
 | ty _=>cases r; rfl
theorem RelV.inj {x y:V} {u:Value} (r:RelV x u) (q:RelV y u):x=y:=Option.some.inj (r.abs.symm.trans q.abs)
theorem Vals.inj:∀ {xs ys:List V} {us:List Value},Vals xs us->Vals ys us->xs=ys
 | _,_,_,.nil,.nil=>rfl
 | _,_,_,.cons r t,.cons r' t'=>by rw [r.inj r',Vals.inj t t']
section
variable {X:Cx} {pins:List (Addr × Obj)} {σ:St} {H:Hp} {s:Shared} {a:Addr} {xs ys:List V}
theorem SqL.of {K:PySem.W.Frag} (h:H a=some (.lst xs)):SqL K H a xs:=.inl (.inl h)
theorem SqT.of {K:PySem.W.Frag} (h:H a=some (.tup xs)):SqT K H a xs:=.inl (.inl h)
theorem Inv.list (I:Inv X pins σ H s) (h:SqL X.K H a xs):∃ its:List Value,Vals xs its /\ PlainL s.heap a its.toArray /\ xs.length<=sizeLine:=by
 rcases h with h | ⟨o,its,n,hk,hc,hd,hs,hz,r⟩
 ·obtain ⟨z,its,n,r,e⟩:=h.ok I.hok
  exact ⟨its,r,⟨_,n,e,rfl,rfl,rfl⟩,z⟩
 ·refine ⟨its.toList,r,⟨o,n,I.kIn a o hk,hc,hd,by simpa using hs⟩,?_⟩
  have e:=r.length
  simp only [Array.length_toList] at e
  omega
theorem Inv.tuple (I:Inv X pins σ H s) (h:SqT X.K H a xs):∃ its:List Value,Vals xs its /\ IsTup s.heap a its.toArray /\ xs.length<=sizeLine:=by
 rcases h with h | ⟨o,its,n,hk,hc,hs,hz,r⟩
 ·obtain ⟨z,its,r,p⟩:=h.ok I.hok
  exact ⟨its,r,p,z⟩
 ·refine ⟨its.toList,r,⟨o,I.kIn a o hk,hc,n,by simpa using hs⟩,?_⟩
  have e:=r.length
  simp only [Array.length_toList] at e
  omega
theorem Inv.list_inj (I:Inv X pins σ H s) (h:SqL X.K H a xs) (h':SqL X.K H a ys):xs=ys:=by
 obtain ⟨its,r,⟨o,n,e,_,_,d⟩,_⟩:=I.list h
 obtain ⟨its',r',⟨o',n',e',_,_,d'⟩,_⟩:=I.list h'
 rw [e] at e'; cases e'
 rw [d] at d'
 injection d' with d1 _
 have:its=its':=by simpa using congrArg Array.toList d1
 subst this
 exact r.inj r'
theorem Inv.tuple_inj (I:Inv X pins σ H s) (h:SqT X.K H a xs) (h':SqT X.K H a ys):xs=ys:=by
 obtain ⟨its,r,⟨o,e,_,n,d⟩,_⟩:=I.tuple h
 obtain ⟨its',r',⟨o',e',_,n',d'⟩,_⟩:=I.tuple h'
 rw [e] at e'; cases e'
 rw [d] at d'
 injection d' with d1 _
 have:its=its':=by simpa using congrArg Array.toList d1
 subst this
 exact r.inj r'
end
noncomputable abbrev Cx.wish (X:Cx) (E:Value->Shared->Prop):Cx:={ X with xe:=E }
noncomputable abbrev Cx.nox (X:Cx):Cx:=X.wish λ _ _=>False
theorem Cx.Ok.wish {X:Cx} (ok:X.Ok) (E:Value->Shared->Prop):(X.wish E).Ok :=
 ⟨ok.mod,ok.kind,ok.glob,ok.blt,ok.above,ok.inj,ok.has,ok.cab,ok.hd,ok.frames,ok.stk,ok.exf,ok.bs,ok.bsz,ok.noex,ok.exfs,ok.funs,ok.frf⟩
theorem Cx.Ok.unwish {X:Cx} {E:Value->Shared->Prop} (ok:(X.wish E).Ok):X.Ok :=
 ⟨ok.mod,ok.kind,ok.glob,ok.blt,ok.above,ok.inj,ok.has,ok.cab,ok.hd,ok.frames,ok.stk,ok.exf,ok.bs,ok.bsz,ok.noex,ok.exfs,ok.funs,ok.frf⟩
section
variable {X:Cx} {pins:List (Addr × Obj)} {σ:St} {H:Hp} {s:Shared} {E:Value->Shared->Prop}
theorem Inv.wish (I:Inv X pins σ H s) (E:Value->Shared->Prop):Inv (X.wish E) pins σ H s:=⟨I.ok.wish E,I.os,I.bare,I.base,I.loc,I.cell,I.free,I.freeC,I.pin,I.hok,I.len⟩
theorem Inv.unwish (I:Inv (X.wish E) pins σ H s):Inv X pins σ H s:=⟨I.ok.unwish,I.os,I.bare,I.base,I.loc,I.cell,I.free,I.freeC,I.pin,I.hok,I.len⟩
theorem SP.unwish {D:Ends} {f:Flow} {s':Shared} (h:SP (X.wish E) pins D f s'):SP X pins D f s':=by
 cases f with
 | next=>obtain ⟨σ',H',I,q⟩:=h; exact ⟨σ',H',I.unwish,q⟩
 | brk=>obtain ⟨σ',H',I,q⟩:=h; exact ⟨σ',H',I.unwish,q⟩
 | cont=>obtain ⟨σ',H',I,q⟩:=h; exact ⟨σ',H',I.unwish,q⟩
 | ret u=>obtain ⟨v,σ',H',I,r,q⟩:=h; exact ⟨v,σ',H',I.unwish,r,q⟩
theorem PSs.nox {st:List Stmt} {t:TS} (h:PSs X.nox st t):PSs X st t:=λ pins s σ H D I hw =>
 wpAny_mono (h pins s σ H D (I.wish _) hw) (λ _ _ q=>q.unwish) λ _ _ z=>False.elim z
end
section
variable {X:Cx} {st:Stmt} {rest:List Stmt} {t u:TS} {e:Expr} {te:TE} {pos:Pos}
noncomputable def uk3:TS:=λ D σ H=>D.nx σ H
noncomputable def tSeq (t u:TS):TS:=λ D σ H=>t { D with nx:=u D } σ H
theorem wj2:PSs X [] uk3:=λ _ _ σ H _ I h=>wpAny_execs_nil ⟨σ,H,I,h⟩
theorem sv1 (h1:PS X st t) (h2:PSs X rest u):PSs X (st :: rest) (tSeq t u):=by
 intro pins s σ H D I h
 refine wpAny_execs_cons (thn (h1 pins s σ H { D with nx:=u D } I h) λ f s1 q=>?_)
 cases f with
 | next =>
  obtain ⟨σ',H',I',q⟩:=q
  exact h2 pins s1 σ' H' D I' q
 | ret v=>exact q
 | brk=>exact q
 | cont=>exact q
theorem zj2 (h1:PS X st t):PSs X [st] t:=by
 intro pins s σ H D I h
 refine wpAny_execs_cons (thn (h1 pins s σ H D I h) λ f s1 q=>?_)
 cases f with
 | next=>exact wpAny_execs_nil q
 | ret v=>exact q
 | brk=>exact q
 | cont=>exact q
theorem Inv.quiet {pins:List (Addr × Obj)} {σ:St} {H:Hp} {s:Shared} (I:Inv X pins σ H s):interactive X.env=false:=by simp [interactive,I.ok.kind]
noncomputable def sk3 (te:TE):TS:=λ D σ H=>te σ H λ _ H1=>D.nx σ H1
theorem sj2 (he:PE X e te) (hs:swapsWith e none pos.line X.env=pure false:=by rfl):PS X (.Expr e pos) (sk3 te):=by
 intro pins s σ H D I h
 exact wpAny_Expr_any (thn (he pins s σ H _ I h) λ v s1 ⟨x,H1,I1,r1,q1⟩=>⟨σ,H1,I1,q1⟩) I.quiet hs
noncomputable def tRet (te:TE):TS:=λ D σ H=>te σ H D.rt
theorem vb3 (he:PE X e te):PS X (.Return (some e) pos) (tRet te):=by
 intro pins s σ H D I h
 exact wpAny_Return_some (thn (he pins s σ H _ I h) λ v s1 ⟨x,H1,I1,r1,q1⟩=>⟨x,σ,H1,I1,r1,q1⟩)
noncomputable def tIfS (c:TT) (t u:TS):TS:=λ D σ H=>c σ H λ b H1=>if b=true then t D σ H1 else u D σ H1
theorem tp3 {c:Expr} {a b:List Stmt} {tc:TT} (hc:PT X c tc) (ha:PSs X a t) (hb:PSs X b u):PS X (.If c a b pos) (tIfS tc t u):=by
 intro pins s σ H D I h
 refine wpAny_If (thn (hc pins s σ H _ I h) λ d s1 ⟨H1,I1,q1⟩=>?_)
 cases d with
 | true=>exact ha pins s1 σ H1 D I1 q1
 | false=>exact hb pins s1 σ H1 D I1 q1
end
noncomputable abbrev TG:=V->St->Hp->(St->Hp->Prop)->Prop
noncomputable def PG (X:Cx) (target:Expr) (t:TG):Prop :=
 ∀ (pins:List (Addr × Obj)) (s:Shared) (σ:St) (H:Hp) (v:V) (u:Value) (Q:St->Hp->Prop),Inv X pins σ H s->RelV v u->t v σ H Q ->
  wpAny (model X.prog X.w) X.A (assign target X.env u) (λ _ s'=>∃ σ' H',Inv X pins σ' H' s' /\ Q σ' H') X.xe s
noncomputable abbrev TSet:=V->V->V->Hp->(Hp->Prop)->Prop
noncomputable def PSet (X:Cx) (t:TSet):Prop :=
 ∀ (pins:List (Addr × Obj)) (s:Shared) (σ:St) (H:Hp) (o i v:V) (ov iv u:Value) (Q:Hp->Prop),Inv X pins σ H s->RelV o ov->RelV i iv->RelV v u->t o i v H Q ->
  wpAny (model X.prog X.w) X.A (setItem ov iv u) (λ _ s'=>∃ H',Inv X pins σ H' s' /\ Q H') X.xe s
section
variable {X:Cx} {pos:Pos}
noncomputable def sm2 (i:Nat):TG:=λ v σ H Q=>Q (σ.set i (some v)) H
theorem wk2 {i:Nat} {x:Str} (hN:X.N.Nodup) (hi:X.N[i]?=some x) (hx:Loc X.env.scope x) (hf:X.fn x=true \/ X.env.scope.names.lookup x=some .local:=by first | exact .inl rfl | exact .inr rfl | assumption):PG X (.Name x pos) (sm2 i):=by
 intro pins s σ H v u Q I r h
 exact wpAny_assign_Name (wo0 I hN hi hx r (λ s' I'=>⟨_,H,I',h⟩) hf)
noncomputable def gSub (to ti:TE) (t:TSet):TG:=λ v σ H Q=>to σ H λ o H1=>ti σ H1 λ i H2=>t o i v H2 λ H3=>Q σ H3
theorem xc3 {o i:Expr} {to ti:TE} {t:TSet} (ho:PE X o to) (hi:PE X i ti) (hs:PSet X t)
    (ha:∀ v,assign (.Subscript o i pos) X.env v=(do
     let ov <- holding [v] (eval o X.env)
     let iv <- holding [v,ov] (eval i X.env)
     standAt pos
     holding [v,ov,iv] (setItem ov iv v)
     release [v,ov,iv] []):=by intro _; rfl):PG X (.Subscript o i pos) (gSub to ti t):=by
 intro pins s σ H v u Q I r h
 rw [ha]
 refine wpAny_bind (wpAny_holding (thn (ho pins s σ H _ I h) λ ov s1 ⟨x,H1,I1,r1,q1⟩=>?_))
 refine wpAny_bind (wpAny_holding (thn (hi pins s1 σ H1 _ I1 q1) λ iv s2 ⟨y,H2,I2,r2,q2⟩=>?_))
 refine wpAny_bind (wpAny_standAt (wpAny_bind (wpAny_holding (thn (hs pins s2 σ H2 x y v ov iv u _ I2 r1 r2 r q2) λ _ s3 ⟨H3,I3,q3⟩=>?_))))
 exact wpAny_release ⟨σ,H3,I3,q3⟩
noncomputable def tAsg (te:TE) (g:TG):TS:=λ D σ H=>te σ H λ x H1=>g x σ H1 D.nx
theorem tb3 {tg e:Expr} {te:TE} {g:TG} (he:PE X e te) (hg:PG X tg g) (hs:swapsWithSole [tg] e pos.line X.env=pure false:=by rfl) (hw:swappedStores [tg] e X.env=pure none:=by rfl)
    (h1:(assignEach [tg] X.env).map (·.2)=[assign tg X.env]:=by rfl):PS X (.Assign [tg] e pos) (tAsg te g):=by
 intro pins s σ H D I h
 refine wpAny_Assign_stores (thn (he pins s σ H _ I h) λ v s1 ⟨x,H1,I1,r1,q1⟩=>?_) hs hw
 rw [h1]
 exact thn (hg pins s1 σ H1 x v _ I1 r1 q1) λ _ s2 q=>q
theorem wb3 {i:Nat} {x:Str} {e:Expr} {te:TE} {pos':Pos} (hN:X.N.Nodup) (hi:X.N[i]?=some x) (hx:Loc X.env.scope x) (he:PE X e te) (hs:swapsWith e (some (.Name x pos')) pos.line X.env=pure false:=by rfl) (hf:X.fn x=true \/ X.env.scope.names.lookup x=some .local:=by first | exact .inl rfl | exact .inr rfl | assumption) :
    PS X (.Assign [.Name x pos'] e pos) (tAsg te (sm2 i)):=by
 intro pins s σ H D I h
 refine wpAny_Assign_Name (thn (he pins s σ H _ I h) λ v s1 ⟨y,H1,I1,r1,q1⟩=>?_) hs
 exact wo0 I1 hN hi hx r1 (λ s2 I2=>⟨_,H1,I2,q1⟩) hf
end
section
variable {X:Cx} {pos:Pos}
noncomputable def zs2 (c:TT) (tb:TS):TS:=λ D σ H=>∃ W:Nat->St->Hp->Prop,(∃ m,W m σ H) /\ ∀ m σ H,W m σ H ->
 c σ H λ b H1=>if b=true then ∃ N:St->Hp->Prop,(∀ σ' H',N σ' H'->∃ m',m' < m /\ W m' σ' H') /\ tb { D with nx:=N,ct:=N,bk:=D.nx } σ H1 else D.nx σ H1
theorem xw1 {c:Expr} {body:List Stmt} {tc:TT} {tb:TS} (hp:PassesOwn (model X.prog X.w) X.A X.env X.xe) (hc:PT X c tc) (hb:PSs X body tb):PS X (.While c body [] pos) (zs2 tc tb):=by
 intro pins s σ H D I h
 obtain ⟨W,⟨m0,w0⟩,turn⟩:=h
 refine wpAny_While (codeAny_whileLoop (λ n s'=>∃ σ' H',Inv X pins σ' H' s' /\ W n σ' H') ?_ m0 ⟨σ,H,I,w0⟩)
 rintro n s1 ⟨σ1,H1,I1,w1⟩
 refine wpAny_passesOwn hp (thn (hc pins s1 σ1 H1 _ I1 (turn n σ1 H1 w1)) λ b s2 ⟨H2,I2,q2⟩=>?_)
 cases b with
 | true =>
  obtain ⟨N,hN,q2⟩:=q2
  rw [if_pos rfl]
  refine wpAny_passesOwn hp (thn (hb pins s2 σ1 H2 _ I2 q2) λ f s3 q3=>?_)
  cases f with
  | next =>
   obtain ⟨σ3,H3,I3,n3⟩:=q3
   obtain ⟨m',hm,w3⟩:=hN σ3 H3 n3
   exact ⟨m',hm,σ3,H3,I3,w3⟩
  | cont =>
   obtain ⟨σ3,H3,I3,n3⟩:=q3
   obtain ⟨m',hm,w3⟩:=hN σ3 H3 n3
   exact ⟨m',hm,σ3,H3,I3,w3⟩
  | brk=>exact q3
  | ret v=>exact q3
 | false =>
  rw [if_neg Bool.false_ne_true]
  exact wpAny_execs_nil ⟨σ1,H2,I2,q2⟩
end
structure It where
 go:Nat->Hp->Prop
 yld:Nat->Hp->V->Hp->Prop
 stop:Nat->Hp->Prop
noncomputable def FpOk (X:Cx) (pins:List (Addr × Obj)) (H:Hp) (b:Addr):Prop :=
 H b=none /\ b ≠ X.env.locals /\ b ∉ X.fs /\ (b ∈ X.ex \/ X.s₀.heap.objs.size<=b) /\ (∀ x c,X.env.cells.lookup x=some c->c ≠ b) /\ ∀ p ∈ X.pn ++ pins,p.1 ≠ b
theorem Inv.fpOk {X:Cx} {pins:List (Addr × Obj)} {σ:St} {H H':Hp} {s:Shared} {b:Addr} (I:Inv X pins σ H s) (hb:s.heap.objs.size<=b) (hn:H' b=none):FpOk X pins H' b:=by
 refine ⟨hn,Nat.ne_of_gt (Nat.lt_of_lt_of_le I.lt hb),I.nofs hb,.inr (Nat.le_trans I.sz hb),λ x c e z=>?_,λ p hp z=>?_⟩
 ·obtain ⟨v,q⟩:=I.cell x c e
  exact absurd (Nat.lt_of_lt_of_le q.lt (by rw [z]; exact hb)) (Nat.lt_irrefl _)
 ·exact absurd (Nat.lt_of_lt_of_le (Heap.lt_size (I.pin p hp).1) (by rw [z]; exact hb)) (Nat.lt_irrefl _)
structure Turn (P:Program) (w:World) (K:PySem.W.Frag) (tg:Expr) (J:It) (fp:List Addr) (it:Addr) (tn:Nat->Heap->Prop):Prop where
 mem:it ∈ fp
 obj:∀ i h,tn i h->∀ b ∈ fp,∃ o,h.get? b=some o /\ ∀ v,o.data ≠ .cell v
 keep:∀ i h h',tn i h->(∀ b ∈ fp,∀ o,h.get? b=some o->h'.get? b=some o)->tn i h'
 item:∀ (X:Cx),X.prog=P->X.w=w->X.K=K->X.calm=true->∀ (i:Nat) (pins:List (Addr × Obj)) (s:Shared) (σ:St) (H:Hp) (E:Value->Shared->Prop),Inv X pins σ H s->(∀ b ∈ fp,FpOk X pins H b)->tn i s.heap->J.go i H ->
  wpAny (model P w) X.A (pyNext (.ref it)) (λ r s1=>∃ u,r=some u ∧
   wpAny (model P w) X.A (letOwnedTupleGo tg (.ref it) u) (λ _ s2=>∃ x H',Inv X pins σ H' s2 /\ RelV x u /\ J.yld i H x H' /\ tn (i + 1) s2.heap /\ ∀ b ∈ fp,H' b=none) E s1) E s
 done:∀ (X:Cx),X.prog=P->X.w=w->X.K=K->X.calm=true->∀ (i:Nat) (pins:List (Addr × Obj)) (s:Shared) (σ:St) (H:Hp) (E:Value->Shared->Prop),Inv X pins σ H s->(∀ b ∈ fp,FpOk X pins H b)->tn i s.heap->J.stop i H ->
  wpAny (model P w) X.A (pyNext (.ref it)) (λ r s1=>r=none /\ Inv X pins σ H s1) E s
 self:∀ (A:Around) (i:Nat) (s:Shared) (Q:Value->Shared->Prop) (E:Value->Shared->Prop),tn i s.heap->Q (.ref it) s->wpAny (model P w) A (pyIter (.ref it)) Q E s
noncomputable abbrev TI:=St->Hp->(It->Hp->Prop)->Prop
noncomputable def PIE (X:Cx) (pins:List (Addr × Obj)) (σ:St) (tg:Expr) (R:It->Hp->Prop) (itv:Value) (s2:Shared):Prop :=
 ∃ (it:Addr) (fp:List Addr) (tn:Nat->Heap->Prop) (J:It) (H':Hp),itv=.ref it /\ Inv X pins σ H' s2 /\ Turn X.prog X.w X.K tg J fp it tn /\ tn 0 s2.heap /\ (∀ b ∈ fp,FpOk X pins H' b) /\ R J H'
noncomputable def PI (X:Cx) (tg iter:Expr) (wi:TI):Prop :=
 ∀ (pins:List (Addr × Obj)) (s:Shared) (σ:St) (H:Hp) (R:It->Hp->Prop),Inv X pins σ H s->wi σ H R ->
  wpAny (model X.prog X.w) X.A (eval iter X.env) (λ v s1=>wpAny (model X.prog X.w) X.A (pyIter v) (PIE X pins σ tg R) X.xe s1) X.xe s
theorem yz1 {M:Model} {A:Around} {E:Value->Shared->Prop} {s:Shared} {tg:Expr} {it:Addr} {u:Value} {o:Obj} {n:String} {vs:Array Value} {Q:Unit->Shared->Prop} (ho:s.heap.get? it=some o) (hc:o.cls=.type n) (hd:o.data=.fields vs)
    (hn:["enumerate", "zip", "dict_itemiterator", "dict_reverseitemiterator", "odict_iterator", "itertools.zip_longest", "itertools.pairwise"].contains n=false) (hQ:Q () s):wpAny M A (letOwnedTupleGo tg (.ref it) u) Q E s:=by
 unfold letOwnedTupleGo
 cases tg <;> first
  | exact wpAny_pure hQ
  | (cases u <;> first
      | exact wpAny_pure hQ
      | (refine wpAny_bind (wpAny_load ho ?_)
         rw [hc,hd]
         show wpAny M A (if (["enumerate", "zip", "dict_itemiterator", "dict_reverseitemiterator", "odict_iterator", "itertools.zip_longest", "itertools.pairwise"].contains n && vs[0]? == some (rawInt _))=true then _ else _) Q E s
         rw [if_neg (by intro h; rw [hn,Bool.false_and] at h; cases h)]
         exact wpAny_pure hQ))
noncomputable def Itl (K:PySem.W.Frag) (a:Addr):It :=
 ⟨λ i H=>∃ xs x,SqL K H a xs /\ xs[i]?=some x,λ i H x H'=>H'=H /\ ∀ xs,SqL K H a xs->xs[i]?=some x,λ i H=>∃ xs,SqL K H a xs /\ xs.length<=i⟩
noncomputable def Itt (K:PySem.W.Frag) (a:Addr):It :=
 ⟨λ i H=>∃ xs x,SqT K H a xs /\ xs[i]?=some x,λ i H x H'=>H'=H /\ ∀ xs,SqT K H a xs->xs[i]?=some x,λ i H=>∃ xs,SqT K H a xs /\ xs.length<=i⟩
noncomputable def Itr (lo:Int) (n:Nat):It:=⟨λ i _=>i < n,λ i H x H'=>H'=H /\ x=.int (lo + i),λ i _=>n<=i⟩
theorem zl1 {P:Program} {w:World} {K:PySem.W.Frag} {tg:Expr} (a it:Addr):Turn P w K tg (Itl K a) [it] it (λ i h=>h.IsListIter it a i) where
 mem:=by simp
 obj:=λ i h st b hb=>by
  have e:b=it:=by simpa using hb
  subst e
  obtain ⟨o,e,c,d⟩:=st
  exact ⟨o,e,λ v z=>by rw [d] at z; cases z⟩
 keep:=λ i h h' st k=>st.at λ o e=>k it (by simp) o e
 item:=by
  intro X hP hw hK hc i pins s σ H E I hf st hg
  subst hP hw hK
  obtain ⟨xs,x,hq,hx⟩:=hg
  obtain ⟨its,rv,p,hz⟩:=I.list hq
  obtain ⟨u,hu,ru⟩:=rv.get hx
  obtain ⟨f0,f1,f2,f3,f4,f5⟩:=hf it (by simp)
  refine wpAny_pyNext_list_item st p.isList (x:=u) (by simpa using hu) λ h' st' sb=>?_
  have I1:Inv X pins σ H { s with heap:=h' }:=I.turned (t':=s.toks) (λ b o hb e=>(sb.2 b hb).trans e) f0 f1 f3 f4 f5
  obtain ⟨o,e,c,d⟩:=id st'
  exact ⟨u,rfl,yz1 (s:={ s with heap:=h' }) e c d (by decide) ⟨x,H,I1,ru,⟨rfl,λ ys hy=>by rw [I.list_inj hy hq]; exact hx⟩,st',λ b hb=>(hf b hb).1⟩⟩
 done:=by
  intro X hP hw hK hc i pins s σ H E I hf st hg
  subst hP hw hK
  obtain ⟨xs,hq,hx⟩:=hg
  obtain ⟨its,rv,p,hz⟩:=I.list hq
  obtain ⟨f0,f1,f2,f3,f4,f5⟩:=hf it (by simp)
  have hl:=rv.length
  exact wpAny_pyNext_list_end (I.ok.hd hc) st p.isList (by simp; omega) λ h' eb=>⟨rfl,I.turned (t':=s.toks) (λ b o hb e=>eb b o hb e) f0 f1 f3 f4 f5⟩
 self:=λ _ _ _ _ _ st h=>wpAny_pyIter_listiter st h
theorem xh1 {P:Program} {w:World} {K:PySem.W.Frag} {tg:Expr} (a it:Addr):Turn P w K tg (Itt K a) [it] it (λ i h=>h.IsTupleIter it a i) where
 mem:=by simp
 obj:=λ i h st b hb=>by
  have e:b=it:=by simpa using hb
  subst e
  obtain ⟨o,e,c,d⟩:=st
  exact ⟨o,e,λ v z=>by rw [d] at z; cases z⟩
 keep:=λ i h h' st k=>st.at λ o e=>k it (by simp) o e
 item:=by
  intro X hP hw hK hc i pins s σ H E I hf st hg
  subst hP hw hK
  obtain ⟨xs,x,hq,hx⟩:=hg
  obtain ⟨its,rv,p,hz⟩:=I.tuple hq
  obtain ⟨u,hu,ru⟩:=rv.get hx
  obtain ⟨f0,f1,f2,f3,f4,f5⟩:=hf it (by simp)
  refine wpAny_pyNext_tuple_item st (show s.heap.IsTuple a its.toArray from p) (x:=u) (by simpa using hu) λ h' st' sb=>?_
  have I1:Inv X pins σ H { s with heap:=h' }:=I.turned (t':=s.toks) (λ b o hb e=>(sb.2 b hb).trans e) f0 f1 f3 f4 f5
  obtain ⟨o,e,c,d⟩:=id st'
  exact ⟨u,rfl,yz1 (s:={ s with heap:=h' }) e c d (by decide) ⟨x,H,I1,ru,⟨rfl,λ ys hy=>by rw [I.tuple_inj hy hq]; exact hx⟩,st',λ b hb=>(hf b hb).1⟩⟩
 done:=by
  intro X hP hw hK hc i pins s σ H E I hf st hg
  subst hP hw hK
  obtain ⟨xs,hq,hx⟩:=hg
  obtain ⟨its,rv,p,hz⟩:=I.tuple hq
  obtain ⟨f0,f1,f2,f3,f4,f5⟩:=hf it (by simp)
  have hl:=rv.length
  exact wpAny_pyNext_tuple_end (I.ok.hd hc) st (show s.heap.IsTuple a its.toArray from p) (by simp; omega) λ h' eb=>⟨rfl,I.turned (t':=s.toks) (λ b o hb e=>eb b o hb e) f0 f1 f3 f4 f5⟩
 self:=λ _ _ _ _ _ st h=>wpAny_pyIter_tupleiter st h
theorem yh1 {P:Program} {w:World} {K:PySem.W.Frag} {tg:Expr} (it:Addr) (lo:Int) (n:Nat):Turn P w K tg (Itr lo n) [it] it (λ i h=>IsRangeIter h it (lo + (i:Nat) * 1) ((n:Int) - (i:Nat)) 1) where
 mem:=by simp
 obj:=λ i h st b hb=>by
  have e:b=it:=by simpa using hb
  subst e
  exact ⟨_,st,λ v z=>by
   have z':Data.fields _=Data.cell v:=z
   cases z'⟩
 keep:=λ i h h' st k=>k it (by simp) _ st
 item:=by
  intro X hP hw hK hc i pins s σ H E I hf st hg
  subst hP hw hK
  obtain ⟨f0,f1,f2,f3,f4,f5⟩:=hf it (by simp)
  have W:=Walks.range (prog:=X.prog) (w:=X.w) (I.ok.hd hc) it lo 1 n
  refine W.item i s _ _ hg st λ v h' tk hv st' kk=>?_
  obtain ⟨t,rfl⟩:=hv
  have I1:Inv X pins σ H { s with heap:=h',toks:=tk }:=I.turned (λ b o hb e=>kk b o (by simpa using hb) e) f0 f1 f3 f4 f5
  refine ⟨_,rfl,yz1 (s:={ s with heap:=h',toks:=tk }) (n := "range_iterator") st' rfl rfl (by decide) ⟨.int (lo + i),H,I1,⟨t,?_⟩,⟨rfl,rfl⟩,st',λ b hb=>(hf b hb).1⟩⟩
  rw [Int.mul_one]
 done:=by
  intro X hP hw hK hc i pins s σ H E I hf st hg
  subst hP hw hK
  obtain ⟨f0,f1,f2,f3,f4,f5⟩:=hf it (by simp)
  exact wpAny_pyNext_range_end (I.ok.hd hc) st (by have:n<=i:=hg; omega) λ h' eb=>⟨rfl,I.turned (t':=s.toks) (λ b o hb e=>eb b o hb e) f0 f1 f3 f4 f5⟩
 self:=λ _ _ _ _ _ st h=>wpAny_pyIter_rangeiter st h
end L2
namespace L2
open PySem PySem.Spec PyProof.Rows
section
variable {X:Cx} {tg:Expr}
theorem zv1 {pins:List (Addr × Obj)} {σ:St} {H:Hp} {s:Shared} {R:It->Hp->Prop} {E:Value->Shared->Prop} {lo hi:Int} {t u v:Tok} {tk:Nat} (I:Inv X pins σ H s) (h1 : -(2 ^ 62)<=lo) (h2:lo < 2 ^ 62) (h3 : -(2 ^ 62)<=hi) (h4:hi < 2 ^ 62)
    (q:R (Itr lo (hi - lo).toNat) H):wpAny (model X.prog X.w) X.A (pyIter (.ref s.heap.objs.size)) (PIE X pins σ tg R) E { s with heap:=s.heap.push { cls:=.type "range",data:=.fields #[.int lo t,.int hi u,.int 1 v] },toks:=tk }:=by
 refine wpAny_pyIter_range (IsRange.new ..) (small_one h1 h2 h3 h4) ?_
 have I1:Inv X pins σ H { s with heap:=s.heap.push { cls:=.type "range",data:=.fields #[.int lo t,.int hi u,.int 1 v] },toks:=tk }:=I.kept λ b o e=>Heap.get?_push_of_some _ e
 refine ⟨(s.heap.push { cls:=.type "range",data:=.fields #[.int lo t,.int hi u,.int 1 v] }).objs.size,[(s.heap.push { cls:=.type "range",data:=.fields #[.int lo t,.int hi u,.int 1 v] }).objs.size],_,_,H,rfl,
  I1.kept (t':=tk) λ b o e=>Heap.get?_push_of_some _ e,yh1 _ lo (hi - lo).toNat,?_,λ b hb=>?_,q⟩
 ·have e1:lo + ((0:Nat):Int) * 1=lo:=by simp
  have e2:(((hi - lo).toNat:Nat):Int) - ((0:Nat):Int)=Builtin.Range.rangeSize lo hi 1:=by rw [rangeSize_one]; split <;> omega
  show IsRangeIter _ _ (lo + ((0:Nat):Int) * 1) ((((hi - lo).toNat:Nat):Int) - ((0:Nat):Int)) 1
  rw [e1,e2]
  exact Heap.get?_push_size _ rfl
 ·have e:b=(s.heap.push { cls:=.type "range",data:=.fields #[.int lo t,.int hi u,.int 1 v] }).objs.size:=by simpa using hb
  subst e
  exact I1.fpOk (Nat.le_refl _) (I1.hok.fresh (Nat.le_refl _))
noncomputable def vr3 (ta:TA):TI:=λ σ H R=>ta σ H λ vs H1=>∃ j:Int,vs=[.int j] /\ -(2 ^ 62)<=j /\ j < 2 ^ 62 /\ R (Itr 0 j.toNat) H1
theorem yo1 {a:Expr} {ta:TA} {p pos:Pos} (hg:Gl X "range") (hm:X.mg "range" = none) (ha:PA X [a] ta) (hs:starEach [a] X.env=[(false,eval a X.env)]:=by rfl):PI X tg (.Call (.Name "range" p) [a] [] pos) (vr3 ta):=by
 intro pins s σ H R I h
 refine Call_ (xu0 I hg hm boot_range (PyProof.Rows.callWith_type1 (thn (ha pos pins s σ H _ I h) λ us s1 ⟨vs,H1,I1,r1,q1⟩=>?_) hs rfl))
 obtain ⟨j,e,q1,q2,q⟩:=q1
 subst e
 cases r1 with
 | cons r rr =>
  cases rr
  obtain ⟨t,rfl⟩:=r
  exact call_range_1 (zv1 I1 (by omega) (by omega) q1 q2 (by simpa using q))
noncomputable def tFor (wi:TI) (g:TG) (tb:TS):TS:=λ D σ H=>wi σ H λ J H1=>∃ W:Nat->Nat->St->Hp->Prop,(∃ m,W 0 m σ H1) /\ ∀ i m σ H,W i m σ H ->
 (J.stop i H /\ D.nx σ H) \/ (J.go i H /\ ∃ N:St->Hp->Prop,(∀ σ' H',N σ' H'->∃ m',m' < m /\ W (i + 1) m' σ' H') /\ ∀ x H',J.yld i H x H'->g x σ H' λ σ2 H2=>tb { D with nx:=N,ct:=N,bk:=D.nx } σ2 H2)
noncomputable def zt0 (fp:List Addr) (h:Heap):List (Addr × Obj):=fp.filterMap λ b=>(h.get? b).map λ o=>(b,o)
theorem tg0 {fp:List Addr} {h:Heap} {b:Addr} {o:Obj} (hb:b ∈ fp) (e:h.get? b=some o):(b,o) ∈ zt0 fp h:=List.mem_filterMap.mpr ⟨b,hb,by rw [e]; rfl⟩
theorem to1 {fp:List Addr} {h:Heap} {p:Addr × Obj} (hp:p ∈ zt0 fp h):p.1 ∈ fp /\ h.get? p.1=some p.2:=by
 obtain ⟨b,hb,e⟩:=List.mem_filterMap.mp hp
 cases q:h.get? b with
 | none=>rw [q] at e; cases e
 | some o =>
  rw [q] at e
  have e':(b,o)=p:=Option.some.inj e
  subst e'
  exact ⟨hb,q⟩
theorem Inv.pinned {pins:List (Addr × Obj)} {σ:St} {H:Hp} {s:Shared} {fp:List Addr} (I:Inv X pins σ H s) (hf:∀ b ∈ fp,FpOk X pins H b) (ho:∀ b ∈ fp,∃ o,s.heap.get? b=some o /\ ∀ v,o.data ≠ .cell v):Inv X (pins ++ zt0 fp s.heap) σ H s :=
 I.pins_of λ p hp=>(List.mem_append.mp hp).elim (λ z=>I.pin p (List.mem_append_right _ z)) λ z=>by
  obtain ⟨hb,e⟩:=to1 z
  obtain ⟨f0,f1,f2,_⟩:=hf p.1 hb
  obtain ⟨o,e',d⟩:=ho p.1 hb
  rw [e] at e'; cases e'
  exact ⟨e,f0,f1,f2,d⟩
theorem Inv.unpinned {pins pl:List (Addr × Obj)} {σ:St} {H:Hp} {s:Shared} (I:Inv X (pins ++ pl) σ H s):Inv X pins σ H s:=I.pins_of λ p hp=>I.pin p (List.mem_append_right _ (List.mem_append_left _ hp))
theorem ub3 {iter:Expr} {body:List Stmt} {wi:TI} {g:TG} {tb:TS} {pos:Pos} (hp:PassesOwn (model X.prog X.w) X.A X.env X.xe) (hc:X.calm=true) (hi:PI X tg iter wi) (hg:PG X tg g) (hb:PSs X body tb)
    (hs:∀ x,foldedSetIterable iter X.env x=pure x:=by intro _; rfl):PS X (.For tg iter body [] pos) (tFor wi g tb):=by
 intro pins s σ H D I h
 refine wpAny_For (thn (hi pins s σ H _ I h) λ v s1 h1=>thn h1 λ itv s2 h2=>?_) hs
 obtain ⟨it,fp,tn,J,H2,e,I2,T,st2,f2,W,⟨m0,w0⟩,turn⟩:=h2
 subst e
 have stat:∀ {H':Hp},(∀ b ∈ fp,H' b=none)->∀ b ∈ fp,FpOk X pins H' b:=λ hn b hb=>⟨hn b hb,(f2 b hb).2⟩
 refine codeAny_forLoop_any (λ n s'=>∃ i σ' H',Inv X pins σ' H' s' /\ tn i s'.heap /\ (∀ b ∈ fp,H' b=none) /\ W i n σ' H') ?_ m0 ⟨0,σ,H2,I2,st2,λ b hb=>(f2 b hb).1,w0⟩
 rintro n s3 ⟨i,σ3,H3,I3,st3,fr3,w3⟩
 rcases turn i n σ3 H3 w3 with ⟨stop,qn⟩ | ⟨go,N,hN,step⟩
 ·refine wpAny_passesOwn hp (thn (T.done X rfl rfl rfl hc i pins s3 σ3 H3 X.xe I3 (stat fr3) st3 stop) λ r s4 ⟨hr,I4⟩=>?_)
  subst hr
  exact wpAny_execs_nil ⟨σ3,H3,I4,qn⟩
 ·refine wpAny_passesOwn hp (thn (T.item X rfl rfl rfl hc i pins s3 σ3 H3 X.xe I3 (stat fr3) st3 go) λ r s4 ⟨u,hr,h4⟩=>?_)
  subst hr
  refine wpAny_passesOwn hp (thn h4 λ _ s5 ⟨x,H5,I5,r5,y5,st5,fr5⟩=>?_)
  have I5':=I5.pinned (stat fr5) (T.obj _ _ st5)
  refine wpAny_passesOwn hp (thn (hg _ s5 σ3 H5 x u _ I5' r5 (step x H5 y5)) λ _ s6 ⟨σ6,H6,I6,q6⟩=>?_)
  refine wpAny_passesOwn hp (thn (hb _ s6 σ6 H6 _ I6 q6) λ f s7 q7=>?_)
  have again:∀ {σ7:St} {H7:Hp},Inv X (pins ++ zt0 fp s5.heap) σ7 H7 s7->N σ7 H7->∃ m,m < n /\ ∃ i σ' H',Inv X pins σ' H' s7 /\ tn i s7.heap /\ (∀ b ∈ fp,H' b=none) /\ W i m σ' H':=λ {σ7 H7} I7 n7=>by
   obtain ⟨m',hm,w7⟩:=hN σ7 H7 n7
   refine ⟨m',hm,i + 1,σ7,H7,I7.unpinned,T.keep _ _ _ st5 λ b hb o e=>(I7.pin (b,o) (List.mem_append_right _ (List.mem_append_right _ (tg0 hb e)))).1,λ b hb=>?_,w7⟩
   obtain ⟨o,e,d⟩:=T.obj _ _ st5 b hb
   exact (I7.pin (b,o) (List.mem_append_right _ (List.mem_append_right _ (tg0 hb e)))).2.1
  cases f with
  | next=>obtain ⟨σ7,H7,I7,n7⟩:=q7; exact again I7 n7
  | cont=>obtain ⟨σ7,H7,I7,n7⟩:=q7; exact again I7 n7
  | brk=>obtain ⟨σ7,H7,I7,q7⟩:=q7; exact ⟨σ7,H7,I7.unpinned,q7⟩
  | ret v=>obtain ⟨x7,σ7,H7,I7,r7,q7⟩:=q7; exact ⟨x7,σ7,H7,I7.unpinned,r7,q7⟩
end
end L2
namespace L2
open PySem PySem.Spec PyProof.Rows
noncomputable abbrev R2:=V->V->Hp->VK->Prop
noncomputable def OpR (X:Cx) (f:Value->Value->Sem Value) (r:R2):Prop :=
 ∀ (pins:List (Addr × Obj)) (s:Shared) (σ:St) (H:Hp) (x y:V) (v u:Value) (Q:VK),Inv X pins σ H s->RelV x v->RelV y u->r x y H Q ->
  wpAny (model X.prog X.w) X.A (f v u) (EP X pins σ Q) X.xe s
noncomputable def UnR (X:Cx) (f:Value->Sem Value) (r:V->Hp->VK->Prop):Prop :=
 ∀ (pins:List (Addr × Obj)) (s:Shared) (σ:St) (H:Hp) (x:V) (v:Value) (Q:VK),Inv X pins σ H s->RelV x v->r x H Q ->
  wpAny (model X.prog X.w) X.A (f v) (EP X pins σ Q) X.xe s
noncomputable def CallR (X:Cx) (f:Value) (r:List V->Hp->VK->Prop):Prop :=
 ∀ (pins:List (Addr × Obj)) (s:Shared) (σ:St) (H:Hp) (xs:List V) (us:List Value) (Q:VK),Inv X pins σ H s->Vals xs us->r xs H Q ->
  wpAny (model X.prog X.w) X.A (call f us) (EP X pins σ Q) X.xe s
noncomputable def tOp (r:R2) (ta tb:TE):TE:=λ σ H Q=>ta σ H λ x H1=>tb σ H1 λ y H2=>r x y H2 Q
noncomputable def tUn (r:V->Hp->VK->Prop) (ta:TE):TE:=λ σ H Q=>ta σ H λ x H1=>r x H1 Q
noncomputable def rI (C:Int->Int->Prop) (g:Int->Int->V):R2:=λ x y H Q=>∃ i j,x=.int i /\ y=.int j /\ C i j /\ Q (g i j) H
noncomputable def rI0 (g:Int->Int->V):R2:=λ x y H Q=>∃ i j,x=.int i /\ y=.int j /\ Q (g i j) H
noncomputable def rU (g:Int->V):V->Hp->VK->Prop:=λ x H Q=>∃ i,x=.int i /\ Q (g i) H
section
variable {X:Cx} {a b c:Expr} {ta tb tc:TE} {pos:Pos}
theorem binT (ha:PE X a ta) (hb:PE X b tb) {pins:List (Addr × Obj)} {s:Shared} {σ:St} {H:Hp} {R:V->V->Hp->Prop} (I:Inv X pins σ H s)
    (h:ta σ H λ x H1=>tb σ H1 λ y H2=>R x y H2) {Q:Value->Shared->Prop} {f:Value->Value->Sem Value}
    (hf:∀ v u s2 x y H2,Inv X pins σ H2 s2->RelV x v->RelV y u->R x y H2->wpAny (model X.prog X.w) X.A (f v u) Q X.xe s2) :
    wpAny (model X.prog X.w) X.A (eval a X.env) (λ v s₁=>wpAny (model X.prog X.w) X.A (eval b X.env) (λ u s₂=>wpAny (model X.prog X.w) X.A (f v u) Q X.xe s₂) X.xe s₁) X.xe s:=by
 refine thn (ha pins s σ H _ I h) λ v s1 ⟨x,H1,I1,r1,q1⟩=>?_
 refine thn (hb pins s1 σ H1 _ I1 q1) λ u s2 ⟨y,H2,I2,r2,q2⟩=>?_
 exact hf v u s2 x y H2 I2 r1 r2 q2
theorem yq3 {op:Operator} {r:R2} (ho:OpR X (binaryOp op) r) (ha:PE X a ta) (hb:PE X b tb):PE X (.BinOp a op b pos) (tOp r ta tb):=by
 intro pins s σ H Q I h
 exact wpAny_BinOp (binT ha hb I h λ v u s2 x y H2 I2 rx ry q=>ho pins s2 σ H2 x y v u Q I2 rx ry q)
theorem sp3 {op:UnaryOp} {r:V->Hp->VK->Prop} (ho:UnR X (unaryOp op) r) (ha:PE X a ta):PE X (.UnaryOp op a pos) (tUn r ta):=by
 intro pins s σ H Q I h
 exact UnaryOp_ (thn (ha pins s σ H _ I h) λ v s1 ⟨x,H1,I1,r1,q1⟩=>ho pins s1 σ H1 x v Q I1 r1 q1)
theorem opI {f:Value->Value->Sem Value} {C:Int->Int->Prop} {g:Int->Int->Int}
    (rule:∀ (i j:Int) (t u:Tok) (s:Shared) (Q:Value->Shared->Prop) (E:Value->Shared->Prop),C i j->Q (.int (g i j) s.toks) { s with toks:=s.toks + 1 }->wpAny (model X.prog X.w) X.A (f (.int i t) (.int j u)) Q E s) :
    OpR X f (rI C λ i j=>.int (g i j)):=by
 intro pins s σ H x y v u Q I rx ry h
 obtain ⟨i,j,rfl,rfl,hc,q⟩:=h
 obtain ⟨t,rfl⟩:=rx
 obtain ⟨t',rfl⟩:=ry
 exact rule i j t t' s _ _ hc ⟨.int (g i j),H,I.tok _,⟨_,rfl⟩,q⟩
theorem opI0 {f:Value->Value->Sem Value} {g:Int->Int->Int}
    (rule:∀ (i j:Int) (t u:Tok) (s:Shared) (Q:Value->Shared->Prop) (E:Value->Shared->Prop),Q (.int (g i j) s.toks) { s with toks:=s.toks + 1 }->wpAny (model X.prog X.w) X.A (f (.int i t) (.int j u)) Q E s) :
    OpR X f (rI0 λ i j=>.int (g i j)):=by
 intro pins s σ H x y v u Q I rx ry h
 obtain ⟨i,j,rfl,rfl,q⟩:=h
 obtain ⟨t,rfl⟩:=rx
 obtain ⟨t',rfl⟩:=ry
 exact rule i j t t' s _ _ ⟨.int (g i j),H,I.tok _,⟨_,rfl⟩,q⟩
theorem opB0 {f:Value->Value->Sem Value} {g:Int->Int->Bool}
    (rule:∀ (i j:Int) (t u:Tok) (s:Shared) (Q:Value->Shared->Prop) (E:Value->Shared->Prop),Q (.bool (g i j)) s->wpAny (model X.prog X.w) X.A (f (.int i t) (.int j u)) Q E s) :
    OpR X f (rI0 λ i j=>.bl (g i j)):=by
 intro pins s σ H x y v u Q I rx ry h
 obtain ⟨i,j,rfl,rfl,q⟩:=h
 obtain ⟨t,rfl⟩:=rx
 obtain ⟨t',rfl⟩:=ry
 exact rule i j t t' s _ _ ⟨.bl (g i j),H,I,rfl,q⟩
noncomputable def CPow (i j:Int):Prop:=0<=j /\ j<=1000000 /\ i.natAbs < 2 ^ 64
noncomputable def CMul (i j:Int):Prop:=(-(2 ^ 64) < i /\ i < 2 ^ 64) \/ (-(2 ^ 64) < j /\ j < 2 ^ 64)
theorem CMul.ok {i j:Int} (h:CMul i j):IntMulOk i j:=by
 rcases h with ⟨h1,h2⟩ | ⟨h1,h2⟩
 ·exact .of_left (intBits_le_64 h1 h2)
 ·exact .of_right (intBits_le_64 h1 h2)
theorem op_add:OpR X (binaryOp .Add) (rI0 λ i j=>.int (i + j)):=opI0 λ _ _ _ _ _ _ _ q=>add_int q
theorem vd3:OpR X (binaryOp .Sub) (rI0 λ i j=>.int (i - j)):=opI0 λ _ _ _ _ _ _ _ q=>sub_int q
theorem xe3:OpR X (binaryOp .Mod) (rI (λ _ j=>0 < j) λ i j=>.int (i % j)):=opI λ i j _ _ _ _ _ hc q=>by
 have h1:(0:Int) < j:=hc
 exact mod_int' (by omega) (by rw [Int.fmod_eq_emod_of_nonneg i (by omega)]; exact q)
theorem td3:OpR X (binaryOp .Pow) (rI CPow λ i j=>.int (i ^ j.toNat)):=opI λ _ _ _ _ _ _ _ hc q=>pow_int_small hc.1 hc.2.1 hc.2.2 q
theorem unI {f:Value->Sem Value} {g:Int->Int}
    (rule:∀ (i:Int) (t:Tok) (s:Shared) (Q:Value->Shared->Prop) (E:Value->Shared->Prop),Q (.int (g i) s.toks) { s with toks:=s.toks + 1 }->wpAny (model X.prog X.w) X.A (f (.int i t)) Q E s) :
    UnR X f (rU λ i=>.int (g i)):=by
 intro pins s σ H x v Q I rx h
 obtain ⟨i,rfl,q⟩:=h
 obtain ⟨t,rfl⟩:=rx
 exact rule i t s _ _ ⟨.int (g i),H,I.tok _,⟨_,rfl⟩,q⟩
theorem tq2:UnR X (unaryOp .USub) (rU λ i=>.int (-i)):=unI λ _ _ _ _ _ q=>neg_int q
end
noncomputable def scal:V->V->Bool
 | .non,.non=>true | .non,.int _=>true | .int _,.non=>true | .non,.bl _=>true | .bl _,.non=>true | .non,.str _=>true | .str _,.non=>true
 | .int _,.int _=>true | .bl _,.bl _=>true | .str _,.str _=>true | .byt _,.byt _=>true
 | .int _,.str _=>true | .str _,.int _=>true | .bl _,.str _=>true | .str _,.bl _=>true
 | _,_=>false
noncomputable def rEq:R2:=λ x y H Q=>scal x y=true /\ Q (.bl (decide (x=y))) H
noncomputable def rNe:R2:=λ x y H Q=>scal x y=true /\ Q (.bl (!decide (x=y))) H
theorem sq1 {i j:Int}:decide (V.int i=V.int j)=(i == j):=by
 rw [Bool.eq_iff_iff]
 simp
theorem xe2 {i j:Bool}:decide (V.bl i=V.bl j)=(i == j):=by
 rw [Bool.eq_iff_iff]
 simp
theorem tq1 {i j:Str}:decide (V.str i=V.str j)=(i == j):=by
 rw [Bool.eq_iff_iff]
 simp
theorem xr1 {i j:Array UInt8}:decide (V.byt i=V.byt j)=(i.toList == j.toList):=by
 rw [Bool.eq_iff_iff]
 cases i
 cases j
 simp
section
variable {X:Cx} {a b c:Expr} {ta tb tc:TE} {pos:Pos}
theorem uc0 {pins:List (Addr × Obj)} {σ:St} {H:Hp} {s:Shared} {Q:VK} {k k':Bool} (I:Inv X pins σ H s) (q:Q (.bl k) H) (e:k=k'):EP X pins σ Q (.bool k') s:=by
 subst e
 exact ⟨.bl k,H,I,rfl,q⟩
theorem op_eq:OpR X (compareOp .Eq) rEq:=by
 intro pins s σ H x y v u Q I rx ry h
 obtain ⟨hs,q⟩:=h
 cases x with
 | non =>
  cases rx
  cases y with
  | non=>cases ry; exact PySem.EqNone.eq_none_none (uc0 I q (by simp))
  | bl j=>cases ry; exact PySem.EqNone.eq_none_bool (uc0 I q (by simp))
  | int j=>obtain ⟨t',rfl⟩:=ry; exact PySem.EqNone.eq_none_int (uc0 I q (by simp))
  | str j=>obtain ⟨t',rfl⟩:=ry; exact PySem.EqNone.eq_none_str (uc0 I q (by simp))
  | _=>exact absurd (show false=true from hs) Bool.false_ne_true
 | bl i =>
  cases rx
  cases y with
  | non=>cases ry; exact PySem.EqNone.eq_bool_none (uc0 I q (by simp))
  | bl j=>cases ry; exact eq_bool (uc0 I q xe2)
  | str j=>obtain ⟨t',rfl⟩:=ry; exact PySem.EqMixed.eq_bool_str (uc0 I q (by simp))
  | _=>exact absurd (show false=true from hs) Bool.false_ne_true
 | int i =>
  obtain ⟨t,rfl⟩:=rx
  cases y with
  | non=>cases ry; exact PySem.EqNone.eq_int_none (uc0 I q (by simp))
  | int j=>obtain ⟨t',rfl⟩:=ry; exact eq_int (uc0 I q sq1)
  | str j=>obtain ⟨t',rfl⟩:=ry; exact PySem.EqMixed.eq_int_str (uc0 I q (by simp))
  | _=>exact absurd (show false=true from hs) Bool.false_ne_true
 | str i =>
  obtain ⟨t,rfl⟩:=rx
  cases y with
  | non=>cases ry; exact PySem.EqNone.eq_str_none (uc0 I q (by simp))
  | bl j=>cases ry; exact PySem.EqMixed.eq_str_bool (uc0 I q (by simp))
  | int j=>obtain ⟨t',rfl⟩:=ry; exact PySem.EqMixed.eq_str_int (uc0 I q (by simp))
  | str j=>obtain ⟨t',rfl⟩:=ry; exact eq_str (uc0 I q tq1)
  | _=>exact absurd (show false=true from hs) Bool.false_ne_true
 | byt i =>
  obtain ⟨t,rfl⟩:=rx
  cases y with
  | byt j=>obtain ⟨t',rfl⟩:=ry; exact PySem.W.eq_bytes (uc0 I q xr1)
  | _=>exact absurd (show false=true from hs) Bool.false_ne_true
 | _=>cases y <;> exact absurd (show false=true from hs) Bool.false_ne_true
theorem op_ne:OpR X (compareOp .NotEq) rNe:=by
 intro pins s σ H x y v u Q I rx ry h
 obtain ⟨hs,q⟩:=h
 cases x with
 | non =>
  cases rx
  cases y with
  | non=>cases ry; exact PySem.EqNone.ne_none_none (uc0 I q (by simp))
  | bl j=>cases ry; exact PySem.EqNone.ne_none_bool (uc0 I q (by simp))
  | int j=>obtain ⟨t',rfl⟩:=ry; exact PySem.EqNone.ne_none_int (uc0 I q (by simp))
  | str j=>obtain ⟨t',rfl⟩:=ry; exact PySem.EqNone.ne_none_str (uc0 I q (by simp))
  | _=>exact absurd (show false=true from hs) Bool.false_ne_true
 | bl i =>
  cases rx
  cases y with
  | non=>cases ry; exact PySem.EqNone.ne_bool_none (uc0 I q (by simp))
  | bl j=>cases ry; exact ne_bool (uc0 I q (congrArg not xe2))
  | str j=>obtain ⟨t',rfl⟩:=ry; exact PySem.EqMixed.ne_bool_str (uc0 I q (by simp))
  | _=>exact absurd (show false=true from hs) Bool.false_ne_true
 | int i =>
  obtain ⟨t,rfl⟩:=rx
  cases y with
  | non=>cases ry; exact PySem.EqNone.ne_int_none (uc0 I q (by simp))
  | int j=>obtain ⟨t',rfl⟩:=ry; exact ne_int (uc0 I q (congrArg not sq1))
  | str j=>obtain ⟨t',rfl⟩:=ry; exact PySem.EqMixed.ne_int_str (uc0 I q (by simp))
  | _=>exact absurd (show false=true from hs) Bool.false_ne_true
 | str i =>
  obtain ⟨t,rfl⟩:=rx
  cases y with
  | non=>cases ry; exact PySem.EqNone.ne_str_none (uc0 I q (by simp))
  | bl j=>cases ry; exact PySem.EqMixed.ne_str_bool (uc0 I q (by simp))
  | int j=>obtain ⟨t',rfl⟩:=ry; exact PySem.EqMixed.ne_str_int (uc0 I q (by simp))
  | str j=>obtain ⟨t',rfl⟩:=ry; exact ne_str (uc0 I q (congrArg not tq1))
  | _=>exact absurd (show false=true from hs) Bool.false_ne_true
 | byt i =>
  obtain ⟨t,rfl⟩:=rx
  cases y with
  | byt j=>obtain ⟨t',rfl⟩:=ry; exact PySem.W.ne_bytes (uc0 I q (congrArg not xr1))
  | _=>exact absurd (show false=true from hs) Bool.false_ne_true
 | _=>cases y <;> exact absurd (show false=true from hs) Bool.false_ne_true
theorem uq3:OpR X (compareOp .Lt) (rI0 λ i j=>.bl (decide (i < j))):=opB0 λ _ _ _ _ _ _ _ q=>lt_int q
theorem tq3:OpR X (compareOp .Gt) (rI0 λ i j=>.bl (decide (j < i))):=opB0 λ _ _ _ _ _ _ _ q=>gt_int q
theorem sq3:OpR X (compareOp .GtE) (rI0 λ i j=>.bl (decide (j<=i))):=opB0 λ _ _ _ _ _ _ _ q=>ge_int q
theorem vo1:OpR X (compareOp .In) (λ x y H Q=>∃ i j,x=.str i /\ y=.str j /\ Q (.bl (!(Builtin.Str.occurrences j i 0 j.length 1).isEmpty)) H):=by
 intro pins s σ H x y v u Q I rx ry h
 obtain ⟨i,j,rfl,rfl,q⟩:=h
 obtain ⟨t,rfl⟩:=rx
 obtain ⟨t',rfl⟩:=ry
 exact in_str (uc0 I q rfl)
theorem ye3:OpR X (compareOp .Is) (λ x y H Q=>y=.non /\ Q (.bl (decide (x=.non))) H):=by
 intro pins s σ H x y v u Q I rx ry h
 obtain ⟨rfl,q⟩:=h
 cases ry
 refine is_none_gen (uc0 I q ?_)
 cases x <;> first
  | (cases rx; rfl)
  | (obtain ⟨t,rfl⟩:=rx; rfl)
theorem OpR.or {f:Value->Value->Sem Value} {r r':R2} (h:OpR X f r) (h':OpR X f r'):OpR X f (λ x y H Q=>r x y H Q \/ r' x y H Q):=by
 intro pins s σ H x y v u Q I rx ry q
 rcases q with q | q
 ·exact h pins s σ H x y v u Q I rx ry q
 ·exact h' pins s σ H x y v u Q I rx ry q
theorem xd2 (b:Expr) {op:CmpOp} (h:op ≠ .In:=by decide) (h2:op ≠ .NotIn:=by decide):behindInMarks op b=false:=by
 have e1:(op == CmpOp.In)=false:=by cases op <;> first | rfl | exact absurd rfl h
 have e2:(op == CmpOp.NotIn)=false:=by cases op <;> first | rfl | exact absurd rfl h2
 cases b <;> simp [behindInMarks,e1,e2]
theorem sk2 {op:CmpOp} {r:R2} (ho:OpR X (compareOp op) r) (ha:PE X a ta) (hb:PE X b tb) (hm:behindInMarks op b=false):PE X (.Compare a [op] [b] pos) (tOp r ta tb):=by
 intro pins s σ H Q I h
 exact wpAny_Compare1 (binT ha hb I h λ v u s2 x y H2 I2 rx ry q=>ho pins s2 σ H2 x y v u Q I2 rx ry q) hm
noncomputable def ws2 (t:TE):TT:=λ σ H Q=>t σ H λ x H'=>∃ k,x=.bl k /\ Q k H'
theorem yj2 {op:CmpOp} {r:R2} (ho:OpR X (compareOp op) r) (ha:PE X a ta) (hb:PE X b tb) (hm:behindInMarks op b=false):PT X (.Compare a [op] [b] pos) (ws2 (tOp r ta tb)):=by
 intro pins s σ H Q I h
 refine wpAny_isTrue_Compare1 (thn (ha pins s σ H _ I h) λ v s1 ⟨x,H1,I1,r1,q1⟩=>thn (hb pins s1 σ H1 _ I1 q1) λ u s2 ⟨y,H2,I2,r2,q2⟩ =>
  thn (ho pins s2 σ H2 x y v u _ I2 r1 r2 q2) λ c s3 ⟨z,H3,I3,r3,k,e,q3⟩=>?_) hm
 subst e
 cases r3
 exact wpAny_truthy_bool ⟨H3,I3,q3⟩
theorem ut0:(sizeLine:Nat) < 2 ^ 63:=by rw [sizeLine_eq]; decide
theorem xk1:OpR X (binaryOp .Add) (λ x y H Q=>∃ i j,x=.str i /\ y=.str j /\ i.length + j.length<=sizeLine /\ Q (.str (i ++ j)) H):=by
 intro pins s σ H x y v u Q I rx ry h
 obtain ⟨i,j,rfl,rfl,hz,q⟩:=h
 obtain ⟨t,rfl⟩:=rx
 obtain ⟨t',rfl⟩:=ry
 exact add_str (λ t' tk=>⟨.str (i ++ j),H,I.tok _,⟨_,rfl⟩,q⟩) hz
theorem vu0 {x:V} {us:List Value} (r:Vals [x] us):∃ u,us=[u] /\ RelV x u:=by
 cases r with
 | cons r1 r2=>cases r2; exact ⟨_,rfl,r1⟩
theorem uq2 {x y:V} {us:List Value} (r:Vals [x,y] us):∃ u w',us=[u,w'] /\ RelV x u /\ RelV y w':=by
 cases r with
 | cons r1 r2 =>
  cases r2 with
  | cons r3 r4=>cases r4; exact ⟨_,_,rfl,r1,r3⟩
theorem ua2:CallR X (.builtin "abs") (λ xs H Q=>∃ i,xs=[.int i] /\ Q (.int (if i < 0 then -i else i)) H):=by
 intro pins s σ H xs us Q I r h
 obtain ⟨i,rfl,q⟩:=h
 obtain ⟨u,rfl,t,rfl⟩:=vu0 r
 exact call_abs_int λ u tk=>⟨.int (if i < 0 then -i else i),H,I.tok _,⟨_,rfl⟩,q⟩
theorem call_int1:CallR X (.type "int") (λ xs H Q=>(∃ i,xs=[.int i] /\ Q (.int i) H) \/ ∃ k,xs=[.bl k] /\ Q (.int (if k then 1 else 0)) H):=by
 intro pins s σ H xs us Q I r h
 rcases h with ⟨i,rfl,q⟩ | ⟨k,rfl,q⟩
 ·obtain ⟨u,rfl,t,rfl⟩:=vu0 r
  exact call_int_int ⟨.int i,H,I,⟨_,rfl⟩,q⟩
 ·obtain ⟨u,rfl,r1⟩:=vu0 r
  cases r1
  exact call_int_bool ⟨.int (if k then 1 else 0),H,I.tok _,⟨_,rfl⟩,q⟩
theorem tz0:CallR X (.type "str") (λ xs H Q=>∃ i,xs=[.int i] /\ i.natAbs.log2 < 1920 /\ Q (.str (toString i)) H):=by
 intro pins s σ H xs us Q I r h
 obtain ⟨i,rfl,hz,q⟩:=h
 obtain ⟨u,rfl,t,rfl⟩:=vu0 r
 exact PySem.P.str_of_int hz ⟨.str _,H,I.tok _,⟨_,rfl⟩,q⟩
end
end L2
namespace L2
open PySem PySem.Spec PyProof.Rows
structure ObjM (h:Heap) (x dx C:Addr) (mA:Str->Option Value):Prop where
 obj:h.get? x=some (PySem.W.instObj C dx)
 ns:h.Ns1 dx mA
 ne:dx ≠ x
section
variable {prog:Program} {w:World} {A:Around} {E:Value->Shared->Prop} {s:Shared} {K:PySem.W.Frag} {x dx C f:Addr} {mA:Str->Option Value} {name:Str} {v:Value}
end
section
variable {P:Program} {w:World} {H H':Hp} {h h':Heap} {a C dx:Addr} {fs fs':List (Str × V)}
end
structure Cls (K:PySem.W.Frag) (C:Addr):Prop where
 pg:PySem.W.plainGet K C Str.empty=true
 hd:PySem.W.hasDictIn K C=true
 po:PySem.W.plainOver K C=true
 sa:PySem.W.findIn K (.ref C) "__setattr__" = some (some (.builtin "object.__setattr__"))
structure Con (K:PySem.W.Frag) (C:Addr) (f:Str) (v:V) (u:Value):Prop where
 at_:PySem.W.findIn K (.ref C) f=some (some u)
 rel:RelV v u
 get:PySem.W.specialIn K u "__get__" = some none
 cp:PySem.W.copiedNames.contains f=false
structure Meth (K:PySem.W.Frag) (C:Addr) (m:Str) (f:Addr):Prop where
 at_:PySem.W.findIn K (.ref C) m=some (some (.ref f))
 fn:PySem.W.isFn K (.ref f)=true
 kp:PySem.W.keepIn K (.ref f)=true
section
variable {X:Cx} {pins:List (Addr × Obj)} {σ:St} {H:Hp} {s:Shared} {a C dx:Addr} {fs:List (Str × V)} {f:Str} {v:V} {A:Around} {E:Value->Shared->Prop}
end
section
variable {X:Cx} {o e value:Expr} {f:Str} {pos pos' tpos:Pos} {ta tv:TE}
end
section
variable {X:Cx} {pins:List (Addr × Obj)} {σ:St} {H:Hp} {s:Shared} {A:Around} {E:Value->Shared->Prop} {Q:Value->Shared->Prop} {c:Value} {b:Bool}
inductive TyOf (K:PySem.W.Frag) (H:Hp):V->Value->Prop where
 | non:TyOf K H .non (.type "NoneType")
 | bl (x:Bool):TyOf K H (.bl x) (.type "bool")
 | int (i:Int):TyOf K H (.int i) (.type "int")
 | str (x:Str):TyOf K H (.str x) (.type "str")
 | flt (x:UInt64):TyOf K H (.flt x) (.type "float")
 | lst {a:Addr} {xs:List V} (e:H a=some (.lst xs)):TyOf K H (.ref a) (.type "list")
 | frz {a:Addr} {o:Obj} {xs:List V} (e:H a=some (.frz o (.lst xs))):TyOf K H (.ref a) (.type "list")
 | tup {a:Addr} {xs:List V} (e:H a=some (.tup xs)):TyOf K H (.ref a) (.type "tuple")
 | dK {a:Addr} {kvs:List (Key × V)} (e:H a=some (.dK kvs)):TyOf K H (.ref a) (.type "dict")
 | dT {a:Addr} {kvs:List (List Key × V)} (e:H a=some (.dT kvs)):TyOf K H (.ref a) (.type "dict")
 | ins {a C dx:Addr} {fs:List (Str × V)} (e:H a=some (.ins C dx fs)) (cl:Cls K C) (ha:PySem.W.findIn K (.ref C) "__class__" = some (some (.builtin "object.__class__")))
     (hn:PySem.W.specialIn K (.builtin "object.__class__") "__get__" = some (some (.builtin "getset_descriptor.__get__"))) (htk:PySem.W.takesIn K (.builtin "object.__class__")=some true)
     (hm:PySem.W.mroIn K C (.type "object")=some true):TyOf K H (.ref a) (.ref C)
end
end L2
namespace L2
open PySem PySem.Spec PyProof.Rows
structure Room (k:Nat) (A:Around):Prop where
 hd:A.handled=none
 dp:A.depth + 3 * k + 5 < recursionLimit
 un:A.units + 16 * k + 200 < cLine
theorem Room.mono {j k:Nat} {A:Around} (r:Room k A) (h:j<=k):Room j A:=⟨r.hd,by have:=r.dp; omega,by have:=r.un; omega⟩
theorem Room.deeper {k:Nat} {A:Around} (r:Room (k + 1) A) (env:Env):Room k (A.deeper env) :=
 ⟨r.hd,by have:=r.dp; show A.depth + 1 + 3 * k + 5 < _; omega,by have:=r.un; show A.units + 3 + 16 * k + 200 < _; omega⟩
theorem Room.depth {k:Nat} {A:Around} (r:Room k A):A.depth < recursionLimit:=by have:=r.dp; omega
noncomputable def tNil:TA:=λ _ H Q=>Q [] H
noncomputable def xl3 (ta:TE) (tr:TA):TA:=λ σ H Q=>ta σ H λ x H1=>tr σ H1 λ xs H2=>Q (x :: xs) H2
section
variable {X:Cx} {e:Expr} {es:List Expr} {te:TE} {t:TA} {pos:Pos}
theorem uc2:PA X [] tNil:=λ _ _ _ _ H Q I h=>Calls.spliced_nil ⟨[],H,I,.nil,h⟩
theorem zc1 (ha:PE X e te) (hr:PA X es t) (hs:starEach (e :: es) X.env=(false,eval e X.env) :: starEach es X.env:=by rfl):PA X (e :: es) (xl3 te t):=by
 intro pos pins s σ H Q I h
 rw [hs]
 show wpAny _ _ (spliced ((false,eval e X.env) :: backTo pos (starEach es X.env))) _ _ s
 refine Calls.spliced_cons (thn (ha pins s σ H _ I h) λ u s1 ⟨x,H1,I1,r1,q1⟩=>?_)
 exact thn (hr pos pins s1 σ H1 _ I1 q1) λ us s2 ⟨xs,H2,I2,r2,q2⟩=>⟨x :: xs,H2,I2,.cons r1 r2,q2⟩
noncomputable def tTup (t:TA):TE:=λ σ H Q=>t σ H λ xs H1=>xs.length<=sizeLine /\ ∀ p,H1 p=none->Q (.ref p) (upd H1 p (.tup xs))
noncomputable def tLst (t:TA):TE:=λ σ H Q=>t σ H λ xs H1=>xs.length<=sizeLine /\ ∀ p,H1 p=none->Q (.ref p) (upd H1 p (.lst xs))
theorem zc3 {x1} (h:PA X es t):PE X (.Tuple es x1 pos) (tTup t):=by
 intro pins s σ H Q I hq
 refine wpAny_Tuple_spliced (thn (h pos pins s σ H _ I hq) λ us s1 ⟨xs,H1,I1,r,z,q⟩=>⟨by rw [<- r.length]; exact z,?_⟩)
 have hf:H1 s1.heap.objs.size=none:=I1.hok.fresh (Nat.le_refl _)
 refine ⟨.ref s1.heap.objs.size,upd H1 s1.heap.objs.size (.tup xs),I1.laid (t':=s1.toks) (λ b u e=>Heap.get?_push_of_some _ e) (Nat.le_refl _) ?_,rfl,q _ hf⟩
 exact ⟨z,us,r,⟨_,Heap.get?_push_size _ rfl,rfl,_,rfl⟩⟩
theorem sc3 (h:PA X es t):PE X (.List es pos) (tLst t):=by
 intro pins s σ H Q I hq
 refine wpAny_List_spliced (thn (h pos pins s σ H _ I hq) λ us s1 ⟨xs,H1,I1,r,z,q⟩=>⟨by rw [<- r.length]; exact z,?_⟩)
 have hf:H1 s1.heap.objs.size=none:=I1.hok.fresh (Nat.le_refl _)
 refine ⟨.ref s1.heap.objs.size,upd H1 s1.heap.objs.size (.lst xs),I1.laid (t':=s1.toks) (λ b u e=>Heap.get?_push_of_some _ e) (Nat.le_refl _) ?_,rfl,q _ hf⟩
 exact ⟨z,us,0,r,Heap.get?_push_size _ rfl⟩
end
noncomputable abbrev Sp:=List V->Hp->VK->XK->Prop
noncomputable abbrev CXT:=List Env->Hp->Shared->XK->Value->Shared->Prop
structure Env0 (P:Program) (w:World) (K:PySem.W.Frag) (mg:Str->Option Value) (base:Heap) (A:Around) (outer:List Env) (s:Shared) (H:Hp):Prop where
 frames:A.frames=some outer
 mod:Mod K mg base
 bs:∀ b o,base.get? b=some o->s.heap.get? b=some o /\ H b=none
 bsz:base.objs.size<=s.heap.objs.size
 funs:s.heap.FunFrames base outer
 frf:∀ b ∈ frs outer,H b=none
 hok:HOk P w H s.heap
 bare:AllBare s.gens
noncomputable def CE (outer:List Env) (P:Program) (w:World) (H:Hp) (s:Shared) (Q:VK) (u:Value) (s':Shared):Prop :=
 ∃ v H',s'.os=s.os /\ AllBare s'.gens /\ Un (frs outer) [] H H' s.heap s'.heap /\ HOk P w H' s'.heap /\ RelV v u /\ Q v H'
noncomputable def CR (CX:CXT) (outer:List Env) (P:Program) (w:World) (H:Hp) (s:Shared) (Q:VK) (E:XK) (r:Result) (s':Shared):Prop :=
 match r with
 | .ok (.ret u)=>CE outer P w H s Q u s'
 | .ok _=>False
 | .error e=>CX outer H s E e s'
structure FnOk (P:Program) (w:World) (K:PySem.W.Frag) (mg:Str->Option Value) (base:Heap) (CX:CXT) (k:Nat) (f:Addr) (fd:FuncData) (ps:List Str) (sp:Sp):Prop where
 len:∀ vs H Q E,sp vs H Q E->vs.length=ps.length
 run:∀ (A:Around) (outer:List Env) (s:Shared) (H:Hp) (args:Args) (us:List Value) (vs:List V) (Q:VK) (E:XK),Room k A->Env0 P w K mg base A outer s H->BindsTo s fd args (ps.zip us)->Vals vs us->sp vs H Q E ->
  codeAny (model P w) A (.call (.ref f) args) (CR CX outer P w H s Q E) s
theorem FnOk.mono {P:Program} {w:World} {K:PySem.W.Frag} {mg:Str->Option Value} {base:Heap} {CX:CXT} {j k:Nat} {f:Addr} {fd:FuncData} {ps:List Str} {sp:Sp} (F:FnOk P w K mg base CX j f fd ps sp) (h:j<=k) :
    FnOk P w K mg base CX k f fd ps sp:=⟨F.len,λ A outer s H args us vs Q E hr=>F.run A outer s H args us vs Q E (hr.mono h)⟩
section
variable {X:Cx} {pins:List (Addr × Obj)} {σ:St} {H:Hp} {s s':Shared}
theorem Inv.env0 (I:Inv X pins σ H s):Env0 X.prog X.w X.K X.mg X.base X.A X.stack s H :=
 ⟨I.ok.frames,I.ok.mod,I.bs,Nat.le_trans I.ok.bsz I.sz,I.stack,I.stkFree,I.hok,I.bare⟩
theorem Inv.after {Q:VK} {u:Value} (I:Inv X pins σ H s) (h:CE X.stack X.prog X.w H s Q u s'):EP X pins σ Q u s':=by
 obtain ⟨v,H',os,bare,un,hok,r,q⟩:=h
 obtain ⟨hh,g,d,t,os'⟩:=s'
 obtain rfl:os'=s.os:=os
 exact ⟨v,H',I.call (h':=hh) (g':=g) (d':=d) (t':=t) (ch:=[]) un hok bare (λ b z=>absurd z (by simp)),r,q⟩
end
noncomputable def us2 (sp:Sp) (dvs:List V) (E:XK) (t:TA):TE:=λ σ H Q=>t σ H λ vs H1=>sp (vs ++ dvs) H1 Q E
noncomputable def Binds (K:PySem.W.Frag) (fd:FuncData) (ps:List Str) (ds:List Value):Prop :=
 ∀ (s:Shared) (us:List Value),K.In s.heap->(us ++ ds).length=ps.length->BindsTo s fd ⟨us,[]⟩ (ps.zip (us ++ ds))
theorem Binds.all {K:PySem.W.Frag} {fd:FuncData} {ps:List Str} (h:∀ us:List Value,us.length=ps.length->bindArgs fd ⟨us,[]⟩=pure (ps.zip us)):Binds K fd ps []:=λ s us _ hl=>by
 rw [List.append_nil] at hl ⊢
 exact .of_eq (h us hl)
noncomputable def ua1 (CX:CXT) (X:Cx) (E:XK):Prop:=∀ (pins:List (Addr × Obj)) (σ:St) (H:Hp) (s:Shared) (e:Value) (s':Shared),Inv X pins σ H s->CX X.stack H s E e s'->X.xe e s'
section
variable {X:Cx} {CX:CXT} {k:Nat} {f C:Addr} {fd:FuncData} {ps:List Str} {sp:Sp} {dvs:List V} {ds:List Value} {E:XK} {x m:Str} {p pos apos:Pos} {e o:Expr} {es:List Expr} {ta:TE} {t:TA}
theorem su2 {pins:List (Addr × Obj)} {σ:St} {H:Hp} {s:Shared} {Q:VK} {us:List Value} {vs:List V} (F:FnOk X.prog X.w X.K X.mg X.base CX k f fd ps sp) (hr:Room k X.A) (hb:Binds X.K fd ps ds) (hd:Vals dvs ds) (hx:ua1 CX X E)
    (I:Inv X pins σ H s) (r:Vals vs us) (h:sp (vs ++ dvs) H Q E):wpAny (model X.prog X.w) X.A (call (.ref f) us) (EP X pins σ Q) X.xe s:=by
 have r2:Vals (vs ++ dvs) (us ++ ds):=r.append hd
 have hl:(us ++ ds).length=ps.length:=by rw [<- r2.length]; exact F.len _ _ _ _ h
 refine wpAny_call (codeAny_mono (F.run X.A X.stack s H ⟨us,[]⟩ (us ++ ds) (vs ++ dvs) Q E hr I.env0 (hb s us I.kIn hl) r2 h) λ r s' hq=>?_)
 cases r with
 | error e=>exact hx pins σ H s e s' I hq
 | ok fl =>
  cases fl with
  | ret u=>exact I.after hq
  | next=>exact False.elim hq
  | brk=>exact False.elim hq
  | cont=>exact False.elim hq
theorem yc1 (F:FnOk X.prog X.w X.K X.mg X.base CX k f fd ps sp) (hr:Room k X.A) (hg:Gl X x) (hm:X.mg x=some (.ref f)) (hk:PySem.W.keepIn X.K (.ref f)=true) (hb:Binds X.K fd ps ds) (hd:Vals dvs ds) (hx:ua1 CX X E)
    (ha:PA X (e :: es) t) (hdb:(x == ("__debug__" : Str))=false:=by decide) (he:starEach (e :: es) X.env=(false,eval e X.env) :: starEach es X.env:=by rfl) (hpl:(backTo pos (starEach es X.env)).any (·.1)=false:=by rfl) :
    PE X (.Call (.Name x p) (e :: es) [] pos) (us2 sp dvs E t):=by
 intro pins s σ H Q I h
 refine wpAny_Call_Name_kw (vh0 I hg hm ?_ hdb)
 refine PySem.W.callWith_K (h₀:=X.base) I.ok.mod.kin hk (thn (ha pos pins s σ H _ I h) λ us s1 ⟨vs,H1,I1,r,q⟩=>⟨I1.kIn,?_⟩) he hpl
 exact su2 F hr hb hd hx I1 r q
structure Mk (K:PySem.W.Frag) (C f:Addr):Prop where
 makes:PySem.W.makesIn K C=true
 init:PySem.W.findIn K (.ref C) "__init__" = some (some (.ref f))
 fn:PySem.W.isFn K (.ref f)=true
 kp:PySem.W.keepIn K (.ref C)=true
end
section
variable {X:Cx} {CX:CXT} {k:Nat} {f C:Addr} {fd:FuncData} {ps ks:List Str} {sp:Sp} {E:XK} {x m:Str} {p pos apos kpos:Pos} {e o:Expr} {es:List Expr} {kws:List Keyword} {te ta:TE} {t tk:TA} {nm:Option Str}
structure KBinds (K:PySem.W.Frag) (fd:FuncData) (ps ks:List Str) (g:List Value->List Value->List Value) (gV:List V->List V->List V):Prop where
 to:∀ (s:Shared) (us ws:List Value),K.In s.heap->(g us ws).length=ps.length->BindsTo s fd ⟨us,ks.zip ws⟩ (ps.zip (g us ws))
 rel:∀ {vs:List V} {us:List Value} {zs:List V} {ws:List Value},Vals vs us->Vals zs ws->Vals (gV vs zs) (g us ws)
variable {g:List Value->List Value->List Value} {gV:List V->List V->List V}
end
structure FnScope (N P:List Str) (sc:Scope):Prop where
 kind:sc.kind=.function
 co:sc.isCoroutine=false
 gen:sc.isGenerator=false
 nd:N.Nodup
 pre:N.take P.length=P
 par:∀ x ∈ P,sc.names.lookup x=some .local \/ sc.names.lookup x=some .cell
 nofree:∀ y ∈ sc.names,y.2 ≠ .free
theorem ya1 {kindOf:Str->Option NameKind} {x:Str}:∀ {binds:List (Str × Value)} {m:Str->Option Value},(∀ v,(x,v) ∉ binds)->bindL kindOf binds m x=m x
 | [],_,_=>rfl
 | (n,v) :: r,m,h=>by
  unfold bindL
  rw [ya1 λ w hw=>h w (List.mem_cons_of_mem _ hw)]
  split
  ·have:x ≠ n:=by rintro rfl; exact h v List.mem_cons_self
   simp [this]
  ·rfl
theorem wa1 {kindOf:Str->Option NameKind} {x:Str}:∀ {binds:List (Str × Value)} {m:Str->Option Value},(∀ v,(x,v) ∉ binds)->bindC kindOf binds m x=m x
 | [],_,_=>rfl
 | (n,v) :: r,m,h=>by
  unfold bindC
  rw [wa1 λ w hw=>h w (List.mem_cons_of_mem _ hw)]
  split
  ·rfl
  ·have:x ≠ n:=by rintro rfl; exact h v List.mem_cons_self
   simp [this]
theorem za1 {kindOf:Str->Option NameKind} {x:Str} {v:Value}:∀ {P:List Str} {vs:List Value} {i:Nat} {m:Str->Option Value},P.Nodup->P[i]?=some x->vs[i]?=some v->kindOf x=some .local ->
    bindL kindOf (P.zip vs) m x=some v
 | [],_,_,_,_,h,_,_=>by simp at h
 | _ :: _,[],_,_,_,_,h,_=>by simp at h
 | p :: P,w :: vs,0,m,nd,h1,h2,hk=>by
  simp at h1 h2; subst h1; subst h2
  show bindL kindOf ((p,w) :: P.zip vs) m p=_
  unfold bindL
  rw [ya1 λ v hv=>(List.nodup_cons.mp nd).1 (List.of_mem_zip hv).1,if_pos hk]
  simp
 | p :: P,w :: vs,i + 1,m,nd,h1,h2,hk=>by
  show bindL kindOf ((p,w) :: P.zip vs) m x=_
  unfold bindL
  exact za1 (i:=i) (List.nodup_cons.mp nd).2 (by simpa using h1) (by simpa using h2) hk
theorem va1 {kindOf:Str->Option NameKind} {x:Str} {v:Value}:∀ {P:List Str} {vs:List Value} {i:Nat} {m:Str->Option Value},P.Nodup->P[i]?=some x->vs[i]?=some v->kindOf x ≠ some .local ->
    bindC kindOf (P.zip vs) m x=some v
 | [],_,_,_,_,h,_,_=>by simp at h
 | _ :: _,[],_,_,_,_,h,_=>by simp at h
 | p :: P,w :: vs,0,m,nd,h1,h2,hk=>by
  simp at h1 h2; subst h1; subst h2
  show bindC kindOf ((p,w) :: P.zip vs) m p=_
  unfold bindC
  rw [wa1 λ v hv=>(List.nodup_cons.mp nd).1 (List.of_mem_zip hv).1,if_neg hk]
  simp
 | p :: P,w :: vs,i + 1,m,nd,h1,h2,hk=>by
  show bindC kindOf ((p,w) :: P.zip vs) m x=_
  unfold bindC
  exact va1 (i:=i) (List.nodup_cons.mp nd).2 (by simpa using h1) (by simpa using h2) hk
noncomputable def start (N:List Str) (vs:List V):St:=vs.map some ++ List.replicate (N.length - vs.length) none
noncomputable def cxOf (CX:CXT) (P:Program) (w:World) (K:PySem.W.Frag) (mg:Str->Option Value) (base:Heap) (N:List Str) (qual:Str) (scope:Scope) (f:Addr) (cd:Value) (A:Around) (outer:List Env) (s:Shared) (H:Hp) (E:XK):Cx where
 prog:=P
 w:=w
 K:=K
 mg:=mg
 base:=base
 A:=A.deeper (envOfC qual scope s.heap.objs.size f cd)
 N:=N
 s₀:=s
 H₀:=H
 env:=envOfC qual scope s.heap.objs.size f cd
 outer:=outer
 stack:=envOfC qual scope s.heap.objs.size f cd :: outer
 ex:=[]
 calm:=true
 fn:=λ _=>true
 pn:=[]
 xe:=λ e s'=>wpAny (model P w) (A.deeper (envOfC qual scope s.heap.objs.size f cd)) (leaving (envOfC qual scope s.heap.objs.size f cd) e) (λ _ s''=>CX outer H s E e s'') (λ e' s''=>CX outer H s E e' s'') s'
theorem zx0 {sc:Scope} {n:Nat} {x:Str} (h:sc.names.lookup x=some .cell):∃ c,(cellsFrom n sc.names []).lookup x=some c:=by
 have q:=PySem.W.cellsFrom_some sc.names n [] (.inl h)
 exact Option.isSome_iff_exists.mp q
theorem zz0 {CX:CXT} {P:Program} {w:World} {K:PySem.W.Frag} {mg:Str->Option Value} {base:Heap} {N ps:List Str} {qual:Str} {scope:Scope} {f:Addr} {cd:Value} {A:Around} {outer:List Env} {s s1:Shared} {H:Hp} {E:XK} {us:List Value} {vs:List V}
    (S:FnScope N ps scope) (hd:A.handled=none) (e0:Env0 P w K mg base A outer s H) (hl:vs.length=ps.length) (r:Vals vs us)
    (x:InCallC s s.heap.objs.size (bindL (envOfC qual scope s.heap.objs.size f cd).kindOf (ps.zip us) λ _=>none) (cellsFrom (s.heap.objs.size + 1) scope.names []) (bindC (envOfC qual scope s.heap.objs.size f cd).kindOf (ps.zip us) λ _=>none) s1) :
    Inv (cxOf CX P w K mg base N qual scope f cd A outer s H E) [] (start N vs) H s1:=by
 have hpl:ps.length<=N.length:=by have:=congrArg List.length S.pre; rw [List.length_take] at this; omega
 obtain ⟨h1,tk,rfl,hk⟩:=x.done
 have noA:∀ b:Addr,b ∉ (cxOf CX P w K mg base N qual scope f cd A outer s H E).ex:=λ b z=>absurd (show b ∈ ([]:List Addr) from z) (by simp)
 refine ⟨⟨e0.mod,S.kind,rfl,rfl,Nat.le_refl _,λ y z c h1 h2=>?_,λ y hy=>?_,λ y c _ h=>?_,λ _=>hd,Around.frames_deeper e0.frames,.inr ⟨rfl,rfl⟩,λ b z=>absurd z (noA b),e0.bs,e0.bsz,λ b _ _=>noA b,λ b z=>absurd z (noA b),e0.funs,e0.frf⟩,
  rfl,e0.bare,Un.kept hk,⟨_,x.toInCall.ns,λ i y v h1 h2 h3=>?_⟩,λ y c h=>⟨_,x.cell y c h⟩,e0.hok.fresh (Nat.le_refl _),λ y c h=>?_,λ p hp=>absurd (show p ∈ ([]:List (Addr × Obj)) from hp) (by simp),e0.hok.kept hk,?_⟩
 ·exact name_of_addr x.apart (PySem.mem_of_lookup h1) (PySem.mem_of_lookup h2)
 ·have hy:scope.names.lookup y=some .cell \/ scope.names.lookup y=some .free:=hy
  rcases hy with hy | hy
  ·exact zx0 hy
  ·exact absurd rfl (S.nofree _ (PySem.mem_of_lookup hy))
 ·exact Nat.le_of_lt (x.above y c (PySem.mem_of_lookup h))
 ·have hi:i < vs.length:=by
    unfold start at h2
    by_cases hi:i < vs.length
    ·exact hi
    ·rw [List.getElem?_append_right (by simpa using hi)] at h2
     rw [List.getElem?_replicate] at h2
     split at h2 <;> cases h2
  have ha:vs[i]?=some v:=by
   unfold start at h2
   rw [List.getElem?_append_left (by simpa using hi),List.getElem?_map] at h2
   cases e:vs[i]? with
   | none=>rw [e] at h2; cases h2
   | some a=>rw [e] at h2; cases h2; rfl
  obtain ⟨u,hu,rv⟩:=r.get ha
  have hp:ps[i]?=some y:=by
   rw [<- S.pre,List.getElem?_take_of_lt (by omega)]; exact h1
  have ndP:ps.Nodup:=by rw [<- S.pre]; exact S.nd.sublist (List.take_sublist _ _)
  refine ⟨u,rv,?_⟩
  rcases S.par y (List.mem_of_getElem? hp) with k | k
  ·exact .inl ⟨k,za1 ndP hp hu k⟩
  ·obtain ⟨c,e⟩:=zx0 (n:=s.heap.objs.size + 1) k
   refine .inr ⟨.inl k,c,e,?_⟩
   have q:=x.cell y c e
   rw [va1 ndP hp hu (by show scope.names.lookup y ≠ _; rw [k]; decide)] at q
   exact q
 ·exact e0.hok.fresh (Nat.le_of_lt (x.above y c (PySem.mem_of_lookup h)))
 ·unfold start
  show _=N.length
  rw [List.length_append,List.length_map,List.length_replicate]
  omega
theorem wh3 {CX:CXT} {P:Program} {w:World} {K:PySem.W.Frag} {mg:Str->Option Value} {base:Heap} {k:Nat} {f:Addr} {name qual:Str} {params:Arguments} {body:List Stmt} {scope:Scope} {dV kV doc pm cdv ct oc:Value} {an od:Option Addr}
    {osl:Array (Option Value)} {N ps:List Str} {sp:Sp} (lk:K.lookup f=some ⟨oc,od,.func (PySem.W.fnOf name qual params body scope dV kV doc pm an cdv ct),osl⟩) (hcd:PySem.W.codeIn K cdv qual=true) (S:FnScope N ps scope)
    (len:∀ vs H Q E,sp vs H Q E->vs.length=ps.length)
    (hbody:∀ (A:Around) (outer:List Env) (s:Shared) (H:Hp) (vs:List V) (Q:VK) (E:XK),Room k (A.deeper (envOfC qual scope s.heap.objs.size f cdv))->sp vs H Q E ->
     ∃ t,PSs (cxOf CX P w K mg base N qual scope f cdv A outer s H E) body t /\ t { nx:=λ _ H'=>Q .non H',rt:=Q } (start N vs) H) :
    FnOk P w K mg base CX (k + 1) f (PySem.W.fnOf name qual params body scope dV kV doc pm an cdv ct) ps sp:=by
 refine ⟨len,λ A outer s H args us vs Q E hr e0 hb r hsp=>?_⟩
 have hl:=len _ _ _ _ hsp
 have KX:K.In s.heap:=e0.mod.kin.keeps λ b o e=>(e0.bs b o e).1
 have lim:s.heap.NoLimit:=e0.mod.nolimit.keeps λ b o e=>(e0.bs b o e).1
 have hkind:∀ y ∈ ps.zip us,scope.names.lookup y.1=some .local \/ (scope.names.lookup y.1=some .cell /\ ((cellsFrom (s.heap.objs.size + 1) scope.names []).lookup y.1).isSome=true):=λ ⟨n,v⟩ hy=>by
  rcases S.par n (List.of_mem_zip hy).1 with q | q
  ·exact .inl q
  ·exact .inr ⟨q,PySem.W.cellsFrom_some _ _ _ (.inl q)⟩
 refine codeAny_call_function hr.depth (KX _ _ lk) rfl S.co S.gen rfl (PySem.W.codeRec_of KX hcd) (hb _ _ _ _ ?_)
 refine wpAny_newFunctionEnv_cells S.kind hkind λ env he s1 x=>?_
 subst he
 refine ⟨lim.keeps x.toInCall.keep,codeAny_func ?_⟩
 obtain ⟨t,ht,hq⟩:=hbody A outer s H vs Q E (hr.deeper _) hsp
 have I:Inv (cxOf CX P w K mg base N qual scope f cdv A outer s H E) [] (start N vs) H s1:=zz0 S hr.hd e0 hl r x
 refine wpAny_mono (ht [] s1 (start N vs) H _ I hq) (λ fl s' hs=>?_) λ e s' hs=>hs
 have fin:∀ {σ':St} {H':Hp} {v:V} {u:Value},Inv (cxOf CX P w K mg base N qual scope f cdv A outer s H E) [] σ' H' s'->RelV v u->Q v H'->CE outer P w H s Q u s' :=
  λ {σ' H' v u} J rv q=>⟨v,H',J.os,J.bare,J.base,J.hok,rv,q⟩
 cases fl with
 | ret u =>
  obtain ⟨v,σ',H',J,rv,q⟩:=hs
  exact fin J rv q
 | next =>
  obtain ⟨σ',H',J,q⟩:=hs
  exact fin (v:=V.non) (u:=Value.none) J rfl q
 | brk =>
  obtain ⟨_,_,_,q⟩:=hs
  exact False.elim q
 | cont =>
  obtain ⟨_,_,_,q⟩:=hs
  exact False.elim q
end L2
namespace L2
open PySem PySem.Spec PyProof.Rows
section
variable {X:Cx} {x:Str} {p pos:Pos} {e:Expr} {es:List Expr} {t:TA} {id T:String} {r:List V->Hp->VK->Prop}
noncomputable def tCB (r:List V->Hp->VK->Prop) (t:TA):TE:=λ σ H Q=>t σ H λ vs H1=>r vs H1 Q
theorem zf1 (hc:CallR X (.builtin id) r) (hg:Gl X x) (hm:X.mg x=none) (hv:bootBuiltins x=some (.builtin id)) (ha:PA X (e :: es) t) (hn:x ≠ "__name__" := by decide) (hdb:(x == ("__debug__" : Str))=false:=by decide)
    (he:starEach (e :: es) X.env=(false,eval e X.env) :: starEach es X.env:=by rfl) (hpl:(backTo pos (starEach es X.env)).any (·.1)=false:=by rfl):PE X (.Call (.Name x p) (e :: es) [] pos) (tCB r t):=by
 intro pins s σ H Q I h
 refine wpAny_Call_Name_kw (xu0 I hg hm hv ?_ hn hdb)
 exact PyProof.Rows.callWith_builtin1 (thn (ha pos pins s σ H _ I h) λ us s1 ⟨vs,H1,I1,r1,q1⟩=>hc pins s1 σ H1 vs us Q I1 r1 q1) he hpl
theorem zo1 (hc:CallR X (.type T) r) (hg:Gl X x) (hm:X.mg x=none) (hv:bootBuiltins x=some (.type T)) (ha:PA X (e :: es) t) (hn:x ≠ "__name__" := by decide) (hdb:(x == ("__debug__" : Str))=false:=by decide)
    (he:starEach (e :: es) X.env=(false,eval e X.env) :: starEach es X.env:=by rfl) (hpl:(backTo pos (starEach es X.env)).any (·.1)=false:=by rfl):PE X (.Call (.Name x p) (e :: es) [] pos) (tCB r t):=by
 intro pins s σ H Q I h
 refine wpAny_Call_Name_kw (xu0 I hg hm hv ?_ hn hdb)
 exact PyProof.Rows.callWith_type1 (thn (ha pos pins s σ H _ I h) λ us s1 ⟨vs,H1,I1,r1,q1⟩=>hc pins s1 σ H1 vs us Q I1 r1 q1) he hpl
end
end L2
namespace HT
open PySem PyProof.Rows
section
open PySem.SeqAt
open PySem.AutoSeq1 (wpAny_loadPart')
open PySem.MeetsSeq PySem.MeetsSeq2 PySem.MeetsSeq3
end
section
variable {prog:Program} {w:World} {A:Around} {E:Value->Shared->Prop} {s:Shared}
theorem cat_tup {t b:Addr} {vs ws:List Value} {Q:Value->Shared->Prop} (ht:IsTup s.heap t vs.toArray) (hb:IsTup s.heap b ws.toArray) (hv:vs ≠ [])
    (h1:ws=[]->Q (.ref t) s) (h2:ws ≠ []->Q (.ref s.heap.objs.size) { s with heap:=s.heap.push { cls:=.type "tuple",data:=.seq (vs ++ ws).toArray } })
    (hsz:vs.length + ws.length<=sizeLine):wpAny (model prog w) A (binaryOp .Add (.ref t) (.ref b)) Q E s:=by
 obtain ⟨⟨cls,dd,data,sl⟩,ho,hc,n,hd⟩:=id ht
 obtain ⟨⟨cls2,dd2,data2,sl2⟩,ho2,hc2,n2,hd2⟩:=id hb
 simp only at hc hd hc2 hd2
 subst hc hd hc2 hd2
 have e:vs.toArray ++ ws.toArray=(vs ++ ws).toArray:=by simp
 by_cases hw:ws=[]
 ·exact concat_meets ⟨_,ho,rfl⟩ ⟨_,ho2,rfl⟩ noFill_tuple_add seq_tuple_add PySem.F.slot_tuple_add PySem.F.entry_tuple_add (PySem.F.args_tuple_add_2 _ _)
    (tuple_addW1 t b vs.toArray ws.toArray n n2 dd dd2 sl sl2 (by simpa using hv) (by simp [hw])) ⟨ho,ho2,h1 hw⟩
 ·refine concat_meets ⟨_,ho,rfl⟩ ⟨_,ho2,rfl⟩ noFill_tuple_add seq_tuple_add PySem.F.slot_tuple_add PySem.F.entry_tuple_add (PySem.F.args_tuple_add_2 _ _)
    (tuple_addW2 t b vs.toArray ws.toArray n n2 dd dd2 sl sl2 (by simpa using hv) (by simpa using hw) (by rw [List.size_toArray,List.size_toArray]; exact hsz)) ⟨ho,ho2,?_⟩
  rw [e]
  exact h2 hw
noncomputable def sIx (n d:Nat):Option Int->Nat
 | none=>d
 | some v=>if v < 0 then (v + (n:Int)).toNat else min v.toNat n
theorem tu2 (n d:Nat) (hd:d<=n) (o:Option Int):sIx n d o<=n:=by
 cases o with
 | none=>exact hd
 | some v =>
  show (if v < 0 then (v + (n:Int)).toNat else min v.toNat n)<=n
  by_cases hv:v < 0
  ·rw [if_pos hv]; omega
  ·rw [if_neg hv]; exact Nat.min_le_right _ _
theorem zr1 (v:Int) (n d:Nat):(if v < 0 then max (v + (n:Int)) 0 else min v (n:Int))=((sIx n d (some v):Nat):Int):=by
 show (if v < 0 then max (v + (n:Int)) 0 else min v (n:Int))=(((if v < 0 then (v + (n:Int)).toNat else min v.toNat n):Nat):Int)
 by_cases hv:v < 0
 ·simp only [if_pos hv]; omega
 ·simp only [if_neg hv]; omega
theorem uk1 (lo hi:Option Int) (n:Nat):Builtin.Slice.sliceAdjust lo hi 1 (n:Int)=(((sIx n 0 lo:Nat):Int),((sIx n n hi:Nat):Int)):=by
 have h1:¬ ((1:Int) < 0):=by omega
 unfold Builtin.Slice.sliceAdjust
 simp only [h1,if_false]
 refine Prod.ext ?_ ?_
 ·cases lo with
  | none=>rfl
  | some v=>exact zr1 v n 0
 ·cases hi with
  | none=>rfl
  | some v=>exact zr1 v n n
theorem sj1 (i j:Nat):Builtin.Slice.slicePlaces (i:Int) (j:Int) 1=j - i:=by
 unfold Builtin.Slice.slicePlaces
 have h1:(1:Int) > 0:=by omega
 simp only [h1,if_true,Int.ediv_one]
 split <;> omega
theorem xt0 {v:Value} {o:Option Int} {Q:Option Int->Shared->Prop} (p:IsPart v o) (h:Q o s):wpAny (model prog w) A (Builtin.Slice.slicePartIndex v) Q E s:=by
 cases p with
 | none=>exact slicePart_none h
 | int i t=>exact slicePart_int h
theorem sliceApplied_gen {sl:Addr} {vl vu:Value} {lo hi:Option Int} {n:Nat} {Q:Int × Int × Nat->Shared->Prop} (hs:s.heap.IsSliceOf sl vl vu .none) (pl:IsPart vl lo) (pu:IsPart vu hi)
    (h:Q (((sIx n 0 lo:Nat):Int),1,sIx n n hi - sIx n 0 lo) s):wpAny (model prog w) A (Builtin.Slice.sliceApplied (.ref sl) (pure (n:Int))) Q E s:=by
 obtain ⟨os,hos,hcs,hds⟩:=id hs
 unfold Builtin.Slice.sliceApplied Builtin.Slice.sliceFields
 refine wpAny_bind (wpAny_bind (wpAny_field hos hds (x:=vl) rfl (wpAny_bind (wpAny_field hos hds (x:=vu) rfl (wpAny_bind (wpAny_field hos hds (x:=.none) rfl (wpAny_pure ?_)))))))
 refine wpAny_bind (slicePart_none ?_)
 show wpAny _ _ (if ((1:Int) == 0)=true then _ else _) _ _ s
 rw [if_neg (by decide)]
 refine wpAny_bind (xt0 pl (wpAny_bind (xt0 pu (wpAny_bind (wpAny_pure ?_)))))
 show wpAny _ _ (match Builtin.Slice.sliceAdjust lo hi 1 (n:Int) with | (lo,hi)=>pure (lo,(1:Int),Builtin.Slice.slicePlaces lo hi 1)) _ _ s
 rw [uk1 lo hi n]
 show wpAny _ _ (pure (((sIx n 0 lo:Nat):Int),(1:Int),Builtin.Slice.slicePlaces ((sIx n 0 lo:Nat):Int) ((sIx n n hi:Nat):Int) 1)) _ _ s
 rw [sj1]
 exact wpAny_pure h
theorem ww1 (xs:Array Value) (i k:Nat):((List.range k).filterMap λ (m:Nat)=>xs[((i:Int) + (m:Int) * 1).toNat]?).toArray=((xs.toList.drop i).take k).toArray:=by
 have e:(λ (m:Nat)=>xs[((i:Int) + (m:Int) * 1).toNat]?)=λ m=>xs[i + m]?:=by
  funext m
  have:((i:Int) + (m:Int) * 1).toNat=i + m:=by omega
  rw [this]
 rw [e]
 have:=pick_run xs i k
 rw [List.filterMap_map] at this
 have e2:((λ x=>xs[x]?) ∘ λ x=>i + x)=λ m=>xs[i + m]?:=rfl
 rw [e2] at this
 rw [this]
theorem getItem_tuple_cut {t sl:Addr} {items:Array Value} {vl vu:Value} {lo hi:Option Int} {Q:Value->Shared->Prop} (ht:IsTup s.heap t items) (hs:s.heap.IsSliceOf sl vl vu .none) (pl:IsPart vl lo) (pu:IsPart vu hi)
    (hw:¬ (sIx items.size 0 lo=0 /\ sIx items.size items.size hi=items.size))
    (h:Q (.ref s.heap.objs.size) { s with heap:=s.heap.push { cls:=.type "tuple",data:=.seq ((items.toList.drop (sIx items.size 0 lo)).take (sIx items.size items.size hi - sIx items.size 0 lo)).toArray } })
    (hsz:items.size<=sizeLine):wpAny (model prog w) A (getItem (.ref t) (.ref sl)) Q E s:=by
 have htake:sizeOk (.seq ((items.toList.drop (sIx items.size 0 lo)).take (sIx items.size items.size hi - sIx items.size 0 lo)).toArray):=by
  show ((items.toList.drop (sIx items.size 0 lo)).take (sIx items.size items.size hi - sIx items.size 0 lo)).toArray.size<=sizeLine
  rw [List.size_toArray,List.length_take,List.length_drop,Array.length_toList]
  omega
 have hj:sIx items.size items.size hi<=items.size:=tu2 _ _ (Nat.le_refl _) hi
 obtain ⟨os,hos,hcs,hds⟩:=id hs
 have hTs:s.TypeIs (.ref sl) "slice" := ⟨os,hos,hcs⟩
 unfold getItem
 try with_reducible refine wpAny_holding ?_
 first | refine wpAny_bind (wpAny_pure ?_) | skip
 refine wpAny_bind (wpAny_sequenceKey ht.typeIs (by decide) ?_)
 refine wpAny_bind (wpAny_callSpecial?_slot (name:=Str.ofString "__getitem__") ht.typeIs PyProof.Rows.slot_tuple_getitem
  (wpAny_call_entry PyProof.Rows.slot_tuple_getitem ht.typeIs entry_tuple_getitem ?_ (args_tuple_getitem _ _)))
 show wpAny _ _ (Builtin.Tuple.tupleItemsOf (.ref t) >>= _) _ _ s
 refine wpAny_bind (tupleItemsOf_ ht ?_)
 refine wpAny_bind (wpAny_typeOf hTs ?_)
 rw [if_pos (by decide)]
 refine wpAny_bind (sliceApplied_gen hs pl pu ?_)
 have hno:¬ ((((sIx items.size 0 lo:Nat):Int) == 0 && (1:Int) == 1 && (sIx items.size items.size hi - sIx items.size 0 lo) == items.size)=true):=by
  intro q
  rw [Bool.and_eq_true,Bool.and_eq_true] at q
  have q1:((sIx items.size 0 lo:Nat):Int)=0:=eq_of_beq q.1.1
  have q2:sIx items.size items.size hi - sIx items.size 0 lo=items.size:=eq_of_beq q.2
  exact hw ⟨by omega,by omega⟩
 show wpAny _ _ (if (((sIx items.size 0 lo:Nat):Int) == 0 && (1:Int) == 1 && (sIx items.size items.size hi - sIx items.size 0 lo) == items.size)=true then _ else _) _ _ s
 rw [if_neg hno,ww1]
 first
  | exact wpAny_bind (m:=Builtin.Tuple.tupleExact _) (wpAny_newObj_type (wpAny_pure ⟨_,rfl,wpAny_pure h⟩) htake)
  | exact wpAny_bind (m:=Builtin.Tuple.tupleExact _) (wpAny_newObj_type (wpAny_bind (wpAny_pure (wpAny_pure ⟨_,rfl,wpAny_pure h⟩))) htake)
  | exact wpAny_bind (wpAny_bind (m:=Builtin.Tuple.tupleExact _) (wpAny_newObj_type (wpAny_pure (wpAny_pure ⟨_,rfl,wpAny_pure h⟩)) htake))
  | exact wpAny_bind (wpAny_bind (m:=Builtin.Tuple.tupleExact _) (wpAny_newObj_type (wpAny_pure ⟨_,rfl,wpAny_pure h⟩) htake))
end
end HT
namespace L2
open PySem PySem.Spec PyProof.Rows
noncomputable abbrev TO:=St->Hp->(Option Int->Hp->Prop)->Prop
noncomputable def PO (X:Cx) (e:Option Expr) (t:TO):Prop :=
 ∀ (pins:List (Addr × Obj)) (s:Shared) (σ:St) (H:Hp) (Q:Option Int->Hp->Prop),Inv X pins σ H s->t σ H Q ->
  wpAny (model X.prog X.w) X.A (evalPart e X.env) (λ u s'=>∃ o H',Inv X pins σ H' s' /\ IsPart u o /\ Q o H') X.xe s
noncomputable def wg2:TO:=λ _ H Q=>Q none H
noncomputable def vk3 (t:TE):TO:=λ σ H Q=>t σ H λ x H1=>∃ i,x=.int i /\ Q (some i) H1
section
variable {X:Cx} {e:Expr} {te:TE} {lo hi:Option Expr} {tl th:TO} {pos p2:Pos}
theorem zk2:PO X none wg2:=by
 intro pins s σ H Q I h
 rw [evalPart_none]
 exact wpAny_pure ⟨none,H,I,.none,h⟩
theorem yk2 (h:PE X e te):PO X (some e) (vk3 te):=by
 intro pins s σ H Q I hw
 rw [evalPart_some]
 refine thn (h pins s σ H _ I hw) λ u s1 ⟨x,H1,I1,r1,q1⟩=>?_
 obtain ⟨i,rfl,q⟩:=q1
 obtain ⟨t,rfl⟩:=r1
 exact ⟨some i,H1,I1,.int i t,q⟩
noncomputable def SlR (X:Cx) (r:V->Option Int->Option Int->Hp->VK->Prop):Prop :=
 ∀ (pins:List (Addr × Obj)) (s:Shared) (σ:St) (H:Hp) (x:V) (v vl vu:Value) (lo hi:Option Int) (sl:Addr) (Q:VK),Inv X pins σ H s->RelV x v->s.heap.IsSliceOf sl vl vu .none->IsPart vl lo->IsPart vu hi->r x lo hi H Q ->
  ∃ T id,typeLookup (.type T) "__getitem__" = pure (some (.builtin id)) /\ s.TypeIs v T /\ wpAny (model X.prog X.w) X.A (getItem v (.ref sl)) (EP X pins σ Q) X.xe s
theorem SlR.or {r r':V->Option Int->Option Int->Hp->VK->Prop} (h:SlR X r) (h':SlR X r'):SlR X (λ x lo hi H Q=>r x lo hi H Q \/ r' x lo hi H Q):=by
 intro pins s σ H x v vl vu lo hi sl Q I rx hs pl pu q
 rcases q with q | q
 ·exact h pins s σ H x v vl vu lo hi sl Q I rx hs pl pu q
 ·exact h' pins s σ H x v vl vu lo hi sl Q I rx hs pl pu q
noncomputable def tSl (r:V->Option Int->Option Int->Hp->VK->Prop) (te:TE) (tl th:TO):TE:=λ σ H Q=>te σ H λ x H1=>tl σ H1 λ l H2=>th σ H2 λ u H3=>r x l u H3 Q
theorem vw1 {r:V->Option Int->Option Int->Hp->VK->Prop} (hr:SlR X r) (he:PE X e te) (hl:PO X lo tl) (hu:PO X hi th):PE X (.Subscript e (.Slice lo hi none p2) pos) (tSl r te tl th):=by
 intro pins s σ H Q I h
 refine Subscript_ (thn (he pins s σ H _ I h) λ v s1 ⟨x,H1,I1,r1,q1⟩=>?_)
 refine wpAny_Slice (thn (hl pins s1 σ H1 _ I1 q1) λ vl s2 ⟨l,H2,I2,pl,q2⟩=>thn (hu pins s2 σ H2 _ I2 q2) λ vu s3 ⟨u,H3,I3,pu,q3⟩=>?_)
 rw [evalPart_none]
 refine wpAny_pure ?_
 have I4:Inv X pins σ H3 { s3 with heap:=s3.heap.push { cls:=.type "slice",data:=.fields #[vl,vu,.none] } }:=I3.kept (t':=s3.toks) λ b ob q=>Heap.get?_push_of_some _ q
 obtain ⟨T,id,hT,ht,hg⟩:=hr pins { s3 with heap:=s3.heap.push { cls:=.type "slice",data:=.fields #[vl,vu,.none] } } σ H3 x v vl vu l u s3.heap.objs.size Q I4 r1 (Heap.IsSliceOf.new ..) pl pu q3
 show wpAny (model X.prog X.w) X.A (subscriptTail e (.Slice lo hi none p2) v (.ref s3.heap.objs.size)) (EP X pins σ Q) X.xe { s3 with heap:=s3.heap.push { cls:=.type "slice",data:=.fields #[vl,vu,.none] } }
 exact tail_any (ops:=[.ref s3.heap.objs.size,v]) ht hT hg (by with_unfolding_all rfl)
noncomputable def cutV (xs:List V) (lo hi:Option Int):List V:=(xs.drop (HT.sIx xs.length 0 lo)).take (HT.sIx xs.length xs.length hi - HT.sIx xs.length 0 lo)
theorem vr0 (xs:List V) (lo hi:Option Int):(cutV xs lo hi).length<=xs.length:=by
 unfold cutV
 rw [List.length_take,List.length_drop]
 omega
noncomputable def rSlT (K:PySem.W.Frag):V->Option Int->Option Int->Hp->VK->Prop:=λ x lo hi H Q=>∃ a xs,x=.ref a /\ SqT K H a xs ∧
 ¬ (HT.sIx xs.length 0 lo=0 /\ HT.sIx xs.length xs.length hi=xs.length) /\ ∀ p,H p=none->Q (.ref p) (upd H p (.tup (cutV xs lo hi)))
theorem xt2:SlR X (rSlT X.K):=by
 intro pins s σ H x v vl vu lo hi sl Q I rx hs pl pu h
 obtain ⟨a,xs,rfl,hx,hw,q⟩:=h
 cases rx
 obtain ⟨its,r,ht,hz⟩:=I.tuple hx
 have hlen:its.toArray.size=xs.length:=by rw [List.size_toArray]; exact r.length.symm
 refine ⟨"tuple",_,PyProof.Rows.slot_tuple_getitem.lookup,ht.typeIs,?_⟩
 refine HT.getItem_tuple_cut ht hs pl pu (by rw [hlen]; exact hw) ?_ (by rw [hlen]; exact hz)
 rw [hlen]
 refine ⟨.ref s.heap.objs.size,_,I.laid (t':=s.toks) (o:=.tup (cutV xs lo hi)) (λ b ob q=>Heap.get?_push_of_some _ q) (Nat.le_refl _) ?_,rfl,q _ (I.hok.fresh (Nat.le_refl _))⟩
 exact ⟨Nat.le_trans (vr0 xs lo hi) hz,_,(r.drop (HT.sIx xs.length 0 lo)).take (HT.sIx xs.length xs.length hi - HT.sIx xs.length 0 lo),IsTup.new _ _⟩
noncomputable def so3 (K:PySem.W.Frag):R2:=λ x y H Q=>∃ a b xs ys,x=.ref a /\ y=.ref b /\ SqT K H a xs /\ SqT K H b ys /\ xs ≠ [] /\ xs.length + ys.length<=sizeLine ∧
 (ys=[]->Q (.ref a) H) /\ (ys ≠ []->∀ p,H p=none->Q (.ref p) (upd H p (.tup (xs ++ ys))))
theorem Vals.nil_iff {xs:List V} {us:List Value} (r:Vals xs us):us=[] ↔ xs=[]:=by
 cases r with
 | nil=>simp
 | cons _ _=>simp
theorem yl2:OpR X (binaryOp .Add) (so3 X.K):=by
 intro pins s σ H x y v u Q I rx ry h
 obtain ⟨a,b,xs,ys,rfl,rfl,ha,hb,hx,hz,q1,q2⟩:=h
 cases rx
 cases ry
 obtain ⟨its,r1,p1,_⟩:=I.tuple ha
 obtain ⟨its2,r2,p2,_⟩:=I.tuple hb
 refine HT.cat_tup p1 p2 (λ z=>hx (r1.nil_iff.mp z)) (λ z=>⟨.ref a,H,I,rfl,q1 (r2.nil_iff.mp z)⟩) (λ z=>?_) (by rw [<- r1.length,<- r2.length]; exact hz)
 refine ⟨.ref s.heap.objs.size,_,I.laid (t':=s.toks) (o:=.tup (xs ++ ys)) (λ b ob q=>Heap.get?_push_of_some _ q) (Nat.le_refl _) ?_,rfl,q2 (λ w=>z (r2.nil_iff.mpr w)) _ (I.hok.fresh (Nat.le_refl _))⟩
 exact ⟨by rw [List.length_append]; exact hz,_,r1.append r2,IsTup.new _ _⟩
end
end L2
namespace L2
open PySem PySem.Spec PyProof.Rows
noncomputable def ixN (n:Nat) (i:Int):Option Nat:=if 0<=i then (if i < n then some i.toNat else none) else if -(n:Int)<=i then some (i + n).toNat else none
noncomputable def atI {α:Type} (xs:List α) (i:Int):Option α:=(ixN xs.length i).bind λ j=>xs[j]?
theorem vp1 {n:Nat} {i:Int} {j:Nat} (h:ixN n i=some j):seqIndex? i n=some j /\ j < n /\ -(n:Int)<=i /\ i < n:=by
 unfold ixN at h
 by_cases h0:0<=i
 ·rw [if_pos h0] at h
  by_cases h1:i < n
  ·rw [if_pos h1] at h
   have e:i.toNat=j:=Option.some.inj h
   exact ⟨by rw [seqIndex_of h0 h1,e],by omega,by omega,h1⟩
  ·rw [if_neg h1] at h; cases h
 ·rw [if_neg h0] at h
  by_cases h1 : -(n:Int)<=i
  ·rw [if_pos h1] at h
   have e:(i + n).toNat=j:=Option.some.inj h
   exact ⟨by rw [seqIndex_neg (by omega) h1,e],by omega,h1,by omega⟩
  ·rw [if_neg h1] at h; cases h
theorem ud1 {α:Type} {xs:List α} {i:Int} {v:α} (h:atI xs i=some v):∃ j,seqIndex? i xs.length=some j /\ xs[j]?=some v /\ j < xs.length /\ -(xs.length:Int)<=i /\ i < xs.length:=by
 unfold atI at h
 cases e:ixN xs.length i with
 | none=>rw [e] at h; cases h
 | some j =>
  rw [e] at h
  obtain ⟨h1,h2,h3,h4⟩:=vp1 e
  exact ⟨j,h1,h,h2,h3,h4⟩
noncomputable def ys1 (b:Expr):Prop:=∀ o i,subscripted b false o i=operate [o,i] (getItem o i)
noncomputable def IxR (X:Cx) (r:R2):Prop :=
 ∀ (value slice:Expr) (pins:List (Addr × Obj)) (s:Shared) (σ:St) (H:Hp) (x y:V) (v u:Value) (Q:VK),Inv X pins σ H s->RelV x v->RelV y u->r x y H Q ->
  subscripted slice false v u=operate [v,u] (getItem v u)->wpAny (model X.prog X.w) X.A (subscriptTail value slice v u) (EP X pins σ Q) X.xe s
noncomputable def MtR (X:Cx) (id:String) (r:V->List V->Hp->VK->Prop):Prop :=
 ∀ (pins:List (Addr × Obj)) (s:Shared) (σ:St) (H:Hp) (x:V) (xs:List V) (v:Value) (us:List Value) (Q:VK),Inv X pins σ H s->RelV x v->Vals xs us->r x xs H Q ->
  wpAny (model X.prog X.w) X.A (call (.builtin id) (v :: us)) (EP X pins σ Q) X.xe s
section
variable {X:Cx} {a b:Expr} {ta tb:TE} {pos:Pos}
theorem IxR.or {r r':R2} (h:IxR X r) (h':IxR X r'):IxR X (λ x y H Q=>r x y H Q \/ r' x y H Q):=by
 intro value slice pins s σ H x y v u Q I rx ry q hs
 rcases q with q | q
 ·exact h value slice pins s σ H x y v u Q I rx ry q hs
 ·exact h' value slice pins s σ H x y v u Q I rx ry q hs
theorem zq3 {r:R2} (hr:IxR X r) (ha:PE X a ta) (hb:PE X b tb) (hs:ys1 b):PE X (.Subscript a b pos) (tOp r ta tb):=by
 intro pins s σ H Q I h
 exact Subscript_ (binT ha hb I h λ v u s2 x y H2 I2 rx ry q=>hr a b pins s2 σ H2 x y v u Q I2 rx ry q (hs _ _))
noncomputable def rIxL (K:PySem.W.Frag):R2:=λ x y H Q=>∃ p xs i v,x=.ref p /\ y=.int i /\ SqL K H p xs /\ atI xs i=some v /\ Q v H
noncomputable def rIxT (K:PySem.W.Frag):R2:=λ x y H Q=>∃ p xs i v,x=.ref p /\ y=.int i /\ SqT K H p xs /\ atI xs i=some v /\ Q v H
noncomputable def rIxS:R2:=λ x y H Q=>∃ z i c,x=.str z /\ y=.int i /\ z.length<=sizeLine /\ atI z.cps.toList i=some c /\ Q (.str ⟨#[c]⟩) H
theorem ix_list:IxR X (rIxL X.K):=by
 intro value slice pins s σ H x y v u Q I rx ry h hs
 obtain ⟨p,xs,i,z,rfl,rfl,hq,he,q⟩:=h
 cases rx
 obtain ⟨t,rfl⟩:=ry
 obtain ⟨its,r,pl,hz⟩:=I.list hq
 obtain ⟨j,h1,h2,h3,h4,h5⟩:=ud1 he
 obtain ⟨w,ew,rw'⟩:=r.get h2
 have hl:=r.length
 have hn:=ut0
 have fin:EP X pins σ Q w s:=⟨z,H,I,rw',q⟩
 by_cases h0:0<=i
 ·have hj:i.toNat=j:=by
    rw [seqIndex_of h0 h5] at h1
    exact Option.some.inj h1
  exact item_listR pl.isList h0 (by omega) (by rw [hj]; simpa using ew) fin hs
 ·have hj:(i + (its.toArray.size:Int)).toNat=j:=by
    rw [seqIndex_neg (by omega) h4] at h1
    rw [List.size_toArray,<- hl]
    exact Option.some.inj h1
  exact subscriptTail_builtinR (x:=w) pl.isList.typeIs slot_list_getitem.lookup
   (wpAny_getItem_list_neg (Q:=λ r s'=>r=w /\ EP X pins σ Q r s') pl.isList (by omega) (by rw [List.size_toArray] <;> omega) (by omega) (by rw [hj]; simpa using ew) ⟨rfl,fin⟩) hs
theorem zg3:IxR X (rIxT X.K):=by
 intro value slice pins s σ H x y v u Q I rx ry h hs
 obtain ⟨p,xs,i,z,rfl,rfl,hq,he,q⟩:=h
 cases rx
 obtain ⟨t,rfl⟩:=ry
 obtain ⟨its,r,pl,hz⟩:=I.tuple hq
 obtain ⟨j,h1,h2,h3,h4,h5⟩:=ud1 he
 obtain ⟨w,ew,rw'⟩:=r.get h2
 have hl:=r.length
 have hn:=ut0
 have fin:EP X pins σ Q w s:=⟨z,H,I,rw',q⟩
 exact subscriptTail_builtinR (x:=w) pl.typeIs slot_tuple_getitem.lookup
  (getItem_tuple (j:=j) (Q:=λ r s'=>r=w /\ EP X pins σ Q r s') pl (by omega) (by omega) (by rw [List.size_toArray,<- hl]; exact h1) (by simpa using ew) ⟨rfl,fin⟩) hs
theorem wg3:IxR X rIxS:=by
 intro value slice pins s σ H x y v u Q I rx ry h hs
 obtain ⟨z,i,c,rfl,rfl,hz,he,q⟩:=h
 obtain ⟨t,rfl⟩:=rx
 obtain ⟨t',rfl⟩:=ry
 obtain ⟨j,h1,h2,h3,h4,h5⟩:=ud1 he
 have hl:z.cps.toList.length=z.length:=by simp [Str.length]
 rw [hl] at h1 h4 h5
 have hn:=ut0
 exact tail_any (typeIs_str s z t) slot_str_getitem.lookup (getItem_str (c:=c) (by
  have e1:decide (i < -(2 ^ 63:Int))=false:=decide_eq_false (by omega)
  have e2:decide (i ≥ 2 ^ 63)=false:=decide_eq_false (by omega)
  rw [e1,e2,Bool.or_false]) (by rw [h1]; simpa using h2) ⟨.str ⟨#[c]⟩,H,I.tok _,⟨_,rfl⟩,q⟩) hs
theorem yk1 (its:List Value) (n j:Nat) (u:Value):Obj.mapSeq (·.setIfInBounds j u) { cls:=.type "list",data:=.seq its.toArray n }={ cls:=.type "list",data:=.seq (its.set j u).toArray n }:=by
 simp [Obj.mapSeq]
theorem Inv.lst {pins:List (Addr × Obj)} {σ:St} {H:Hp} {s:Shared} {p:Addr} {xs:List V} (I:Inv X pins σ H s) (h:H p=some (.lst xs)) :
    ∃ (its:List Value) (n:Nat),Vals xs its /\ s.heap.get? p=some { cls:=.type "list",data:=.seq its.toArray n } /\ xs.length<=sizeLine:=by
 obtain ⟨z,its,n,r,e⟩:=I.hok p _ h
 exact ⟨its,n,r,e,z⟩
theorem Inv.lstUpd {pins:List (Addr × Obj)} {σ:St} {H:Hp} {s:Shared} {p:Addr} {xs ys:List V} {its its':List Value} {n n':Nat} {f:Obj->Obj} (I:Inv X pins σ H s) (h:H p=some (.lst xs))
    (ho:s.heap.get? p=some { cls:=.type "list",data:=.seq its.toArray n }) (hf:f { cls:=.type "list",data:=.seq its.toArray n }={ cls:=.type "list",data:=.seq its'.toArray n' }) (r:Vals ys its') (hz:ys.length<=sizeLine) (t:Nat) :
    Inv X pins σ (upd H p (.lst ys)) { s with heap:=s.heap.update p f,toks:=t }:=by
 have e:(s.heap.update p f).get? p=some { cls:=.type "list",data:=.seq its'.toArray n' }:=by
  rw [Heap.get?_update_self f ho (by rw [hf] <;> rfl),hf]
 refine I.write (x:=p) (e:=p) (by rw [h]; trivial) (.inl rfl) (λ b u hb q=>(Heap.get?_update_other _ _ (Ne.symm hb)).trans q) ⟨_,e⟩ ?_
 exact ⟨hz,its',n',r,e⟩
noncomputable def uo3:V->V->V->Hp->(Hp->Prop)->Prop:=λ o i v H Q=>∃ p xs k j,o=.ref p /\ i=.int k /\ H p=some (.lst xs) /\ ixN xs.length k=some j /\ Q (upd H p (.lst (xs.set j v)))
theorem zu1:PSet X uo3:=by
 intro pins s σ H o i v ov iv u Q I ro ri rv h
 obtain ⟨p,xs,k,j,rfl,rfl,hp,hj,q⟩:=h
 cases ro
 obtain ⟨t,rfl⟩:=ri
 obtain ⟨its,n,r,ho,hz⟩:=I.lst hp
 obtain ⟨h1,h2,h3,h4⟩:=vp1 hj
 have hl:=r.length
 have hn:=ut0
 have I':Inv X pins σ (upd H p (.lst (xs.set j v))) { s with heap:=s.heap.update p (Obj.mapSeq (·.setIfInBounds j u)) } :=
  I.lstUpd hp ho (yk1 its n j u) (r.set rv j) (by rw [List.length_set]; exact hz) s.toks
 by_cases h0:0<=k
 ·have hk:k.toNat=j:=by
    rw [seqIndex_of h0 h4] at h1
    exact Option.some.inj h1
  exact PySem.W.ki_setAt ho h0 (by omega) (by rw [List.size_toArray,<- hl]; exact h4) (by rw [hk]; exact ⟨_,I',q⟩)
 ·have hk:(k + (its.toArray.size:Int)).toNat=j:=by
    rw [seqIndex_neg (by omega) h3] at h1
    rw [List.size_toArray,<- hl]
    exact Option.some.inj h1
  exact PySem.W.ki_setBack ho (by omega) (by rw [List.size_toArray,<- hl]; exact h3) (by omega) (by rw [hk]; exact ⟨_,I',q⟩)
theorem yy0 (lo hi:Option Int) (n:Nat):(sliceBounds lo hi none n).1=((HT.sIx n 0 lo:Nat):Int) /\ (sliceBounds lo hi none n).2.1=((HT.sIx n n hi:Nat):Int) /\ (sliceBounds lo hi none n).2.2=1:=by
 refine ⟨?_,?_,rfl⟩
 ·cases lo with
  | none=>simp [sliceBounds,HT.sIx]
  | some i =>
   simp only [sliceBounds,HT.sIx,Option.getD_none,show (1:Int) > 0 by decide,if_true]
   by_cases h:i < 0
   ·simp only [h,if_true] <;> omega
   ·simp only [h,if_false] <;> omega
 ·cases hi with
  | none=>simp [sliceBounds,HT.sIx]
  | some i =>
   simp only [sliceBounds,HT.sIx,Option.getD_none,show (1:Int) > 0 by decide,if_true]
   by_cases h:i < 0
   ·simp only [h,if_true] <;> omega
   ·simp only [h,if_false] <;> omega
theorem wv0 (its:List Value) (lo hi:Option Int):slicePick its.toArray lo hi none=((its.drop (HT.sIx its.length 0 lo)).take (HT.sIx its.length its.length hi - HT.sIx its.length 0 lo)).toArray:=by
 obtain ⟨h1,h2,h3⟩:=yy0 lo hi its.toArray.size
 unfold slicePick
 rw [h1,h2,h3]
 simp only [sliceRange_one,pick_run,List.size_toArray] <;> rfl
noncomputable def rSlL (K:PySem.W.Frag):V->Option Int->Option Int->Hp->VK->Prop:=λ x lo hi H Q=>∃ a xs,x=.ref a /\ SqL K H a xs /\ ∀ p,H p=none->Q (.ref p) (upd H p (.lst (cutV xs lo hi)))
theorem yh2:SlR X (rSlL X.K):=by
 intro pins s σ H x v vl vu lo hi sl Q I rx hs pl pu h
 obtain ⟨a,xs,rfl,hx,q⟩:=h
 cases rx
 obtain ⟨its,r,ht,hz⟩:=I.list hx
 have hlen:=r.length
 refine ⟨"list",_,slot_list_getitem.lookup,ht.isList.typeIs,?_⟩
 refine wpAny_getItem_list_slice ht.isList hs pl pu .none (by simp) ?_ (by rw [List.size_toArray] <;> omega)
 rw [wv0,<- hlen]
 refine ⟨.ref s.heap.objs.size,_,I.laid (t':=s.toks) (o:=.lst (cutV xs lo hi)) (λ b ob q=>Heap.get?_push_of_some _ q) (Nat.le_refl _) ?_,rfl,q _ (I.hok.fresh (Nat.le_refl _))⟩
 exact ⟨Nat.le_trans (vr0 xs lo hi) hz,_,0,(r.drop (HT.sIx xs.length 0 lo)).take (HT.sIx xs.length xs.length hi - HT.sIx xs.length 0 lo),Heap.get?_push_size _ rfl⟩
noncomputable def vw0:V->Bool
 | .non=>true
 | .bl _=>true
 | .int _=>true
 | .str _=>true
 | _=>false
noncomputable def eqV:V->V->Bool
 | .non,.non=>true
 | .bl a,.bl b=>a == b
 | .bl a,.int b=>(if a then 1 else 0) == b
 | .int a,.bl b=>a == (if b then 1 else 0)
 | .int a,.int b=>a == b
 | .str a,.str b=>a == b
 | _,_=>false
theorem sh3 {A:Around} {s:Shared} {y x:V} {u v:Value} (ry:RelV y u) (rx:RelV x v) (fy:vw0 y=true) (fx:vw0 x=true):SeqAt.EqAt A s u v (eqV y x):=by
 cases y with
 | non =>
  cases ry
  cases x with
  | non=>cases rx; exact SeqAt.EqAt.same _
  | bl b=>cases rx; exact SeqAt.EqAt.none_bool b
  | int b=>obtain ⟨t,rfl⟩:=rx; exact SeqAt.EqAt.none_int b t
  | str b=>obtain ⟨t,rfl⟩:=rx; exact SeqAt.EqAt.none_str b t
  | _=>exact absurd (show false=true from fx) Bool.false_ne_true
 | bl a =>
  cases ry
  cases x with
  | non=>cases rx; exact SeqAt.EqAt.bool_none a
  | bl b=>cases rx; exact SeqAt.EqAt.bool_bool a b
  | int b=>obtain ⟨t,rfl⟩:=rx; exact SeqAt.EqAt.bool_int a b t
  | str b=>obtain ⟨t,rfl⟩:=rx; exact SeqAt.EqAt.bool_str a b t
  | _=>exact absurd (show false=true from fx) Bool.false_ne_true
 | int a =>
  obtain ⟨t',rfl⟩:=ry
  cases x with
  | non=>cases rx; exact SeqAt.EqAt.int_none a t'
  | bl b=>cases rx; exact SeqAt.EqAt.int_bool a t' b
  | int b=>obtain ⟨t,rfl⟩:=rx; exact SeqAt.EqAt.int_int a t' b t
  | str b=>obtain ⟨t,rfl⟩:=rx; exact SeqAt.EqAt.int_str a t' b t
  | _=>exact absurd (show false=true from fx) Bool.false_ne_true
 | str a =>
  obtain ⟨t',rfl⟩:=ry
  cases x with
  | non=>cases rx; exact SeqAt.EqAt.str_none a t'
  | bl b=>cases rx; exact SeqAt.EqAt.str_bool a t' b
  | int b=>obtain ⟨t,rfl⟩:=rx; exact SeqAt.EqAt.str_int a t' b t
  | str b=>obtain ⟨t,rfl⟩:=rx; exact SeqAt.EqAt.str_str a t' b t
  | _=>exact absurd (show false=true from fx) Bool.false_ne_true
 | _=>exact absurd (show false=true from fy) Bool.false_ne_true
noncomputable def eqU (x:V) (u:Value):Bool:=match u with
 | .none=>eqV .non x
 | .bool b=>eqV (.bl b) x
 | .int i _=>eqV (.int i) x
 | .str z _=>eqV (.str z) x
 | _=>false
theorem sd2 {x y:V} {u:Value} (r:RelV y u) (f:vw0 y=true):eqU x u=eqV y x:=by
 cases y with
 | non=>cases r; rfl
 | bl b=>cases r; rfl
 | int i=>obtain ⟨t,rfl⟩:=r; rfl
 | str z=>obtain ⟨t,rfl⟩:=r; rfl
 | _=>exact absurd (show false=true from f) Bool.false_ne_true
theorem xs0 {x:V}:∀ {xs:List V} {us:List Value},Vals xs us->xs.all vw0=true->us.any (eqU x)=xs.any λ y=>eqV y x
 | _,_,.nil,_=>rfl
 | y :: xs,u :: us,.cons r t,f=>by
  rw [List.all_cons,Bool.and_eq_true] at f
  rw [List.any_cons,List.any_cons,sd2 r f.1,xs0 t f.2]
theorem tl0 {A:Around} {s:Shared} {x:V} {v:Value} (rx:RelV x v) (fx:vw0 x=true):∀ {xs:List V} {us:List Value},Vals xs us->xs.all vw0=true->∀ u ∈ us,SeqAt.EqAt A s u v (eqU x u)
 | _,_,.nil,_=>λ u hu=>by cases hu
 | y :: xs,u :: us,.cons r t,f=>λ u' hu=>by
  rw [List.all_cons,Bool.and_eq_true] at f
  rcases List.mem_cons.mp hu with rfl | hu
  ·rw [sd2 r f.1]; exact sh3 r rx f.1 fx
  ·exact tl0 rx fx t f.2 u' hu
noncomputable def inV (x:V) (xs:List V):Bool:=xs.any λ y=>eqV y x
noncomputable def rIn (K:PySem.W.Frag) (neg:Bool):R2:=λ x y H Q=>∃ p xs,y=.ref p /\ (SqL K H p xs \/ SqT K H p xs) /\ vw0 x=true /\ xs.all vw0=true /\ Q (.bl (if neg then !inV x xs else inV x xs)) H
theorem op_in_seq:OpR X (compareOp .In) (rIn X.K false):=by
 intro pins s σ H x y v u Q I rx ry h
 obtain ⟨p,xs,rfl,hq,fx,fs,q⟩:=h
 cases ry
 rcases hq with hq | hq
 ·obtain ⟨its,r,pl,hz⟩:=I.list hq
  refine SeqAt.in_listAt (eqU x) pl.isList (λ w hw=>tl0 rx fx r fs w (by simpa using hw)) ⟨.bl _,H,I,rfl,?_⟩
  rw [show its.toArray.any (eqU x)=its.any (eqU x) by simp,xs0 r fs]
  exact q
 ·obtain ⟨its,r,pl,hz⟩:=I.tuple hq
  refine SeqAt.in_tupleAt (eqU x) pl (λ w hw=>tl0 rx fx r fs w (by simpa using hw)) ⟨.bl _,H,I,rfl,?_⟩
  rw [show its.toArray.any (eqU x)=its.any (eqU x) by simp,xs0 r fs]
  exact q
theorem xz0:OpR X (compareOp .NotIn) (rIn X.K true):=by
 intro pins s σ H x y v u Q I rx ry h
 obtain ⟨p,xs,rfl,hq,fx,fs,q⟩:=h
 cases ry
 rcases hq with hq | hq
 ·obtain ⟨its,r,pl,hz⟩:=I.list hq
  refine SeqAt.notIn_listAt (eqU x) pl.isList (λ w hw=>tl0 rx fx r fs w (by simpa using hw)) ⟨.bl _,H,I,rfl,?_⟩
  rw [show its.toArray.any (eqU x)=its.any (eqU x) by simp,xs0 r fs]
  exact q
 ·obtain ⟨its,r,pl,hz⟩:=I.tuple hq
  refine SeqAt.notIn_tupleAt (eqU x) pl (λ w hw=>tl0 rx fx r fs w (by simpa using hw)) ⟨.bl _,H,I,rfl,?_⟩
  rw [show its.toArray.any (eqU x)=its.any (eqU x) by simp,xs0 r fs]
  exact q
theorem call_len_seq:CallR X (.builtin "len") (λ xs H Q=>∃ p ys,xs=[.ref p] /\ (SqL X.K H p ys \/ SqT X.K H p ys) /\ Q (.int ys.length) H):=by
 intro pins s σ H xs us Q I r h
 obtain ⟨p,ys,rfl,hq,q⟩:=h
 obtain ⟨u,rfl,rx⟩:=vu0 r
 cases rx
 have hn:=ut0
 rcases hq with hq | hq
 ·obtain ⟨its,r',pl,hz⟩:=I.list hq
  have hlen:=r'.length
  exact Calls.call_len_list pl.isList (by simp only [List.size_toArray] <;> omega) ⟨.int ys.length,H,I.tok _,⟨s.toks + 1,by rw [List.size_toArray,hlen]⟩,q⟩
 ·obtain ⟨its,r',pl,hz⟩:=I.tuple hq
  have hlen:=r'.length
  exact len_tuple pl (by simp only [List.size_toArray] <;> omega) ⟨.int ys.length,H,I.tok _,⟨s.toks + 1,by rw [List.size_toArray,hlen]⟩,q⟩
theorem sz0:CallR X (.builtin "len") (λ xs H Q=>∃ z,xs=[.str z] /\ z.length<=sizeLine /\ Q (.int z.length) H):=by
 intro pins s σ H xs us Q I r h
 obtain ⟨z,rfl,hz,q⟩:=h
 obtain ⟨u,rfl,t,rfl⟩:=vu0 r
 have hn:=ut0
 exact len_str (by omega) ⟨.int z.length,H,I.tok _,⟨_,rfl⟩,q⟩
theorem CallR.or {f:Value} {r r':List V->Hp->VK->Prop} (h:CallR X f r) (h':CallR X f r'):CallR X f (λ xs H Q=>r xs H Q \/ r' xs H Q):=by
 intro pins s σ H xs us Q I rs q
 rcases q with q | q
 ·exact h pins s σ H xs us Q I rs q
 ·exact h' pins s σ H xs us Q I rs q
theorem wx0:CallR X (.type "tuple") (λ xs H Q=>∃ p ys,xs=[.ref p] /\ ((SqL X.K H p ys /\ ∀ l,H l=none->Q (.ref l) (upd H l (.tup ys))) \/ (SqT X.K H p ys /\ Q (.ref p) H))):=by
 intro pins s σ H xs us Q I r h
 obtain ⟨p,ys,rfl,h⟩:=h
 obtain ⟨u,rfl,rx⟩:=vu0 r
 cases rx
 rcases h with ⟨hq,q⟩ | ⟨hq,q⟩
 ·obtain ⟨its,r',pl,hz⟩:=I.list hq
  have hlen:=r'.length
  refine call_tuple_list pl.isList (λ h' kp=>?_) (by simp only [List.size_toArray] <;> omega)
  have I1:Inv X pins σ H { s with heap:=h' }:=I.kept (t':=s.toks) kp
  have I2:Inv X pins σ (upd H h'.objs.size (.tup ys)) { s with heap:=h'.push { cls:=.type "tuple",data:=.seq its.toArray } } :=
   I1.laid (t':=s.toks) (λ b o e=>Heap.get?_push_of_some _ e) (Nat.le_refl _) (show ObjOk X.prog X.w _ _ _ (.tup ys) from ⟨hz,its,r',IsTup.new _ _⟩)
  exact ⟨.ref h'.objs.size,_,I2,rfl,q _ (I1.hok.fresh (Nat.le_refl _))⟩
 ·obtain ⟨its,r',pl,hz⟩:=I.tuple hq
  exact call_tuple_same pl ⟨.ref p,H,I,rfl,q⟩
noncomputable def tyV (K:PySem.W.Frag) (T:String) (x:V) (H:Hp):Prop:=match x with
 | .str _=>T = "str"
 | .int _=>T = "int"
 | .ref p=>(T = "list" /\ ∃ xs,SqL K H p xs) \/ (T = "tuple" /\ ∃ o,K.lookup p=some o /\ o.cls=.type "tuple" /\ o.dict=none) ∨
     (T = "dict" /\ ((∃ kvs,H p=some (.dK kvs)) \/ ∃ kvs,H p=some (.dT kvs))) \/ (T = "set" /\ ∃ S n,H p=some (.set S n))
 | _=>False
theorem zc2 {pins:List (Addr × Obj)} {σ:St} {H:Hp} {s:Shared} {T:String} {x:V} {v:Value} (I:Inv X pins σ H s) (r:RelV x v) (ty:tyV X.K T x H) :
    s.TypeIs v T /\ ∀ a,v=.ref a->∃ ob,s.heap.get? a=some ob /\ ob.dict=none:=by
 cases x with
 | str z =>
  obtain ⟨t,rfl⟩:=r
  cases (show T = "str" from ty)
  exact ⟨typeIs_str s z t,λ _ e=>nomatch e⟩
 | int i =>
  obtain ⟨t,rfl⟩:=r
  cases (show T = "int" from ty)
  exact ⟨typeIs_int s i t,λ _ e=>nomatch e⟩
 | ref p =>
  cases r
  rcases ty with ⟨rfl,xs,hq⟩ | ⟨rfl,o,hk,hc,hd⟩ | ⟨rfl,hk⟩ | ⟨rfl,S,n,hk⟩
  ·obtain ⟨its,_,pl,_⟩:=I.list hq
   refine ⟨pl.isList.typeIs,λ a e=>?_⟩
   cases e
   obtain ⟨o,n,e,c,hd,_⟩:=pl
   exact ⟨o,e,hd⟩
  ·refine ⟨⟨o,I.kIn p o hk,hc⟩,λ a e=>?_⟩
   cases e
   exact ⟨o,I.kIn _ o hk,hd⟩
  ·have z:∃ o,s.heap.get? p=some o /\ o.ExactDict:=by
     rcases hk with ⟨kvs,hk⟩ | ⟨kvs,hk⟩
     ·obtain ⟨_,_,_,_,o,_,_,e,ex,_⟩:=I.hok p _ hk
      exact ⟨o,e,ex⟩
     ·obtain ⟨_,_,_,_,o,_,_,e,ex,_⟩:=I.hok p _ hk
      exact ⟨o,e,ex⟩
   obtain ⟨o,e,ex⟩:=z
   refine ⟨⟨o,e,ex.1⟩,λ a e2=>?_⟩
   cases e2
   exact ⟨o,e,ex.2.1⟩
  ·obtain ⟨o,_,_,_,e,ex,_⟩:=I.hok p _ hk
   refine ⟨⟨o,e,ex.1⟩,λ a e2=>?_⟩
   cases e2
   exact ⟨o,e,ex.2.1⟩
 | _=>exact False.elim ty
noncomputable def tBM0 (K:PySem.W.Frag) (T:String) (r:V->List V->Hp->VK->Prop) (to:TE):TE:=λ σ H Q=>to σ H λ x H1=>tyV K T x H1 /\ r x [] H1 Q
noncomputable def tBM (K:PySem.W.Frag) (T:String) (r:V->List V->Hp->VK->Prop) (to:TE) (t:TA):TE:=λ σ H Q=>to σ H λ x H1=>tyV K T x H1 /\ t σ H1 λ xs H2=>r x xs H2 Q
variable {o e:Expr} {es:List Expr} {to:TE} {t:TA} {name:Str} {apos cpos:Pos} {T id:String} {r:V->List V->Hp->VK->Prop}
theorem yd3 (pa:PlainAttrs T) (slot:Slot T name id) (hty:typeOf (.builtin id)=pure (.type "method_descriptor")) (hm:MtR X id r) (ho:PE X o to)
    (hbase:attributeBase o name X.env (eval o X.env)=eval o X.env:=by rfl) (hline:(apos.endLine == cpos.line)=true:=by rfl):PE X (.Call (.Attribute o name apos) [] [] cpos) (tBM0 X.K T r to):=by
 intro pins s σ H Q I h
 refine wpAny_Call_method0_late hbase hline (thn (ho pins s σ H _ I h) λ v s1 ⟨x,H1,I1,r1,ty,q1⟩=>?_)
 obtain ⟨h1,h2⟩:=zc2 I1 r1 ty
 exact ⟨T,id,pa,slot,hty,h1,h2,Calls.callWith_builtin rfl (PySem.evalArgs_none (hm pins s1 σ H1 x [] v [] Q I1 r1 .nil q1))⟩
theorem zd3 (pa:PlainAttrs T) (slot:Slot T name id) (hty:typeOf (.builtin id)=pure (.type "method_descriptor")) (hm:MtR X id r) (ho:PE X o to) (ha:PA X (e :: es) t)
    (hbase:attributeBase o name X.env (eval o X.env)=eval o X.env:=by rfl)
    (hfew:((backTo cpos (starEach (e :: es) X.env)).all (λ x=>!x.1) && (backToKw cpos (keywordEach [] X.env)).all (λ x=>x.1.isSome)
     && decide ((e :: es).length + ([]:List Keyword).length + (if ([]:List Keyword).isEmpty then 0 else 1) < 30))=true:=by rfl)
    (hline:(apos.endLine == cpos.line)=true:=by rfl) (hs:starEach (e :: es) X.env=(false,eval e X.env) :: starEach es X.env:=by rfl) (hplain:(backTo cpos (starEach es X.env)).any (·.1)=false:=by rfl) :
    PE X (.Call (.Attribute o name apos) (e :: es) [] cpos) (tBM X.K T r to t):=by
 intro pins s σ H Q I h
 refine wpAny_Call_method_late hbase hfew hline rfl (thn (ho pins s σ H _ I h) λ v s1 ⟨x,H1,I1,r1,ty,q1⟩=>?_)
 obtain ⟨h1,h2⟩:=zc2 I1 r1 ty
 refine ⟨T,id,pa,slot,hty,h1,h2,?_⟩
 have hA:=ha cpos pins s1 σ H1 _ I1 q1
 rw [hs] at hA ⊢
 refine Calls.callWith_builtin (by show (false || (backTo cpos (starEach es X.env)).any (·.1))=false; rw [hplain] <;> rfl) (Calls.evalArgs_plain ?_)
 exact thn hA λ us s2 ⟨vs,H2,I2,r2,q2⟩=>hm pins s2 σ H2 x vs v us Q I2 r1 r2 q2
end
end L2
namespace L2
open PySem PySem.Spec PyProof.Rows
noncomputable def MtM (X:Cx) (id:String) (r:V->List V->Hp->VK->Prop):Prop :=
 ∀ (pins:List (Addr × Obj)) (s:Shared) (σ:St) (H:Hp) (x:V) (xs:List V) (v:Value) (us:List Value) (Q:VK),Inv X pins σ H s->RelV x v->Vals xs us->r x xs H Q ->
  wpAny (model X.prog X.w) X.A (call (.builtin id) (v :: us)) (EP X pins σ Q) X.xe s
theorem Vals.one:∀ {x:V} {us:List Value},Vals [x] us->∃ u,us=[u] /\ RelV x u
 | _,_,.cons r .nil=>⟨_,rfl,r⟩
theorem Vals.zero:∀ {us:List Value},Vals [] us->us=[]
 | _,.nil=>rfl
theorem Vals.dropLast {xs:List V} {us:List Value} (h:Vals xs us):Vals xs.dropLast us.dropLast:=by
 induction h with
 | nil=>exact .nil
 | cons r t ih =>
  cases t with
  | nil=>exact .nil
  | cons q t'=>exact .cons r ih
theorem Vals.rep {xs:List V} {us:List Value} (h:Vals xs us):∀ k:Nat,Vals (List.replicate k xs).flatten (List.replicate k us).flatten
 | 0=>.nil
 | k + 1=>by
  rw [List.replicate_succ,List.replicate_succ,List.flatten_cons,List.flatten_cons]
  exact Vals.append h (Vals.rep h k)
theorem wk1 {α:Type} (l:List α):l.eraseIdx (l.length - 1)=l.dropLast:=by
 induction l with
 | nil=>rfl
 | cons a r ih =>
  cases r with
  | nil=>rfl
  | cons b r =>
   have e:(a :: b :: r).length - 1=((b :: r).length - 1) + 1:=by
    have h1:(a :: b :: r).length=r.length + 2:=rfl
    have h2:(b :: r).length=r.length + 1:=rfl
    omega
   rw [e,List.eraseIdx_cons_succ,ih]
   all_goals rfl
theorem uq0 (its:List Value):∀ (k:Nat) (acc:List Value),
    List.foldl (λ x1 x2=>x1 ++ x2) acc.toArray (List.replicate k its.toArray)=(acc ++ (List.replicate k its).flatten).toArray
 | 0,acc=>by simp
 | k + 1,acc=>by
  have e:acc.toArray ++ its.toArray=(acc ++ its).toArray:=by simp
  have e2:(acc ++ its) ++ (List.replicate k its).flatten=acc ++ (List.replicate (k + 1) its).flatten:=by
   rw [List.replicate_succ,List.flatten_cons,List.append_assoc]
  rw [<- e2,<- uq0 its k (acc ++ its),<- e,List.replicate_succ,List.foldl_cons]
section
variable {X:Cx} {pins:List (Addr × Obj)} {σ:St} {H:Hp} {s:Shared} {l b:Addr} {xs ys zs:List V}
theorem Inv.lset {its its':List Value} {n:Nat} {f:Array Value->Array Value} {t':Nat} (I:Inv X pins σ H s) (hH:H l=some (.lst xs))
    (e:s.heap.get? l=some { cls:=.type "list",data:=.seq its.toArray n }) (hf:f its.toArray=its'.toArray) (hv:Vals ys its') (hz:ys.length<=sizeLine) :
    Inv X pins σ (upd H l (.lst ys)) { s with heap:=s.heap.update l (Obj.mapSeq f),toks:=t' }:=by
 have q:=PySem.IsL.update e f
 rw [hf] at q
 refine I.write (x:=l) (e:=l) (by rw [hH]; exact trivial) (.inl rfl) (λ b' u hb hu=>(Heap.get?_update_other s.heap (Obj.mapSeq f) (Ne.symm hb)).trans hu) ⟨_,q⟩ ?_
 exact ⟨hz,its',_,hv,q⟩
theorem Inv.lnew {its:List Value} {t':Nat} (I:Inv X pins σ H s) (hv:Vals ys its) (hz:ys.length<=sizeLine) :
    Inv X pins σ (upd H s.heap.objs.size (.lst ys)) { s with heap:=s.heap.push { cls:=.type "list",data:=.seq its.toArray },toks:=t' } :=
 I.laid (λ _ _ q=>Heap.get?_push_of_some _ q) (Nat.le_refl _) ⟨hz,its,0,hv,Heap.get?_push_size _ rfl⟩
theorem Inv.fresh (I:Inv X pins σ H s):H s.heap.objs.size=none:=I.hok.fresh (Nat.le_refl _)
theorem Inv.lstM (I:Inv X pins σ H s) (hH:H l=some (.lst xs)):xs.length<=sizeLine /\ ∃ (its:List Value) (n:Nat),Vals xs its /\ xs.length=its.length /\ s.heap.get? l=some { cls:=.type "list",data:=.seq its.toArray n }:=by
 obtain ⟨z,its,n,r,e⟩:=I.hok l _ hH
 exact ⟨z,its,n,r,r.length,e⟩
theorem vf1 {n:Nat} (h:n<=sizeLine):Builtin.List.listTooLong n=false:=by
 unfold Builtin.List.listTooLong
 exact decide_eq_false (by omega)
end
section
variable {X:Cx}
noncomputable def wi2:V->List V->Hp->VK->Prop:=λ x vs H Q=>∃ l xs y,x=.ref l /\ vs=[y] /\ H l=some (.lst xs) /\ xs.length < sizeLine /\ Q .non (upd H l (.lst (xs ++ [y])))
theorem yq0:MtM X "list.append" wi2:=by
 intro pins s σ H x vs v us Q I rx rv h
 obtain ⟨l,xs,y,rfl,rfl,hH,hz,q⟩:=h
 cases rx
 obtain ⟨u,rfl,ru⟩:=rv.one
 obtain ⟨z,its,n,r,hl,e⟩:=I.lstM hH
 refine call_meets F.slot_list_append ⟨_,e,rfl⟩ F.entry_list_append (F.args_list_append_2 _ _) (PySem.list_append l its.toArray n u (by rw [List.size_toArray]; omega)) ⟨e,?_⟩
 refine ⟨.non,_,I.lset (its':=its ++ [u]) hH e (by simp) (r.append (.cons ru .nil)) ?_,rfl,q⟩
 rw [List.length_append,List.length_singleton]
 omega
noncomputable def zi2:V->List V->Hp->VK->Prop:=λ x vs H Q=>∃ l b xs zs,x=.ref l /\ vs=[.ref b] /\ H l=some (.lst xs) /\ H b=some (.lst zs) /\ xs.length + zs.length<=sizeLine /\ Q .non (upd H l (.lst (xs ++ zs)))
theorem yp1:MtM X "list.extend" zi2:=by
 intro pins s σ H x vs v us Q I rx rv h
 obtain ⟨l,b,xs,zs,rfl,rfl,hH,hB,hz,q⟩:=h
 cases rx
 obtain ⟨u,rfl,ru⟩:=rv.one
 cases ru
 obtain ⟨z,its,n,r,hl,e⟩:=I.lstM hH
 obtain ⟨z2,its2,n2,r2,hl2,e2⟩:=I.lstM hB
 have hsz:its.toArray.size + its2.toArray.size<=sizeLine:=by rw [List.size_toArray,List.size_toArray]; omega
 have hlong:¬ (!its.toArray.isEmpty && Builtin.List.listTooLong (its.toArray.size + its2.toArray.size))=true:=by
  rw [vf1 hsz,Bool.and_false]
  exact Bool.false_ne_true
 refine call_meets F.slot_list_extend ⟨_,e,rfl⟩ F.entry_list_extend (F.args_list_extend_2 _ _)
  (AutoSeq1.list_extend_list_list_0 l its.toArray n b its2.toArray n2 hlong (by rw [List.size_toArray]; omega) (by omega)) ⟨e,e2,?_⟩
 refine ⟨.non,_,I.lset (its':=its ++ its2) hH e (by simp) (r.append r2) ?_,rfl,q⟩
 rw [List.length_append]
 omega
noncomputable def rPop:V->List V->Hp->VK->Prop:=λ x vs H Q=>∃ l xs y,x=.ref l /\ vs=[] /\ H l=some (.lst xs) /\ xs[xs.length - 1]?=some y /\ Q y (upd H l (.lst xs.dropLast))
theorem wf3:MtM X "list.pop" rPop:=by
 intro pins s σ H x vs v us Q I rx rv h
 obtain ⟨l,xs,y,rfl,rfl,hH,hy,q⟩:=h
 cases rx
 have hus:=rv.zero
 subst hus
 obtain ⟨z,its,n,r,hl,e⟩:=I.lstM hH
 obtain ⟨u,hu,ru⟩:=r.get hy
 have hy':its.toArray[its.toArray.size - 1]?=some u:=by
  show its.toArray[its.length - 1]?=some u
  rw [<- Array.getElem?_toList,<- hl]
  exact hu
 refine call_meets F.slot_list_pop ⟨_,e,rfl⟩ F.entry_list_pop (F.args_list_pop_1 _) (MeetsSeq.list_pop_last l its.toArray n u hy' (by rw [List.size_toArray]; omega)) ⟨e,?_⟩
 refine ⟨y,_,I.lset (its':=its.dropLast) hH e ?_ r.dropLast ?_,ru,q⟩
 ·show its.toArray.eraseIdxIfInBounds (its.toArray.size - 1)=its.dropLast.toArray
  rw [List.size_toArray,List.eraseIdxIfInBounds_toArray,wk1]
 ·rw [List.length_dropLast]
  omega
noncomputable def rCat:R2:=λ x y H Q=>∃ l b xs zs,x=.ref l /\ y=.ref b /\ H l=some (.lst xs) /\ H b=some (.lst zs) /\ xs.length + zs.length<=sizeLine /\ ∀ p,H p=none->Q (.ref p) (upd H p (.lst (xs ++ zs)))
theorem op_cat:OpR X (binaryOp .Add) rCat:=by
 intro pins s σ H x y v u Q I rx ry h
 obtain ⟨l,b,xs,zs,rfl,rfl,hH,hB,hz,q⟩:=h
 cases rx
 cases ry
 obtain ⟨z,its,n,r,hl,e⟩:=I.lstM hH
 obtain ⟨z2,its2,n2,r2,hl2,e2⟩:=I.lstM hB
 refine PySem.P.add_list e e2 ?_ (by rw [List.size_toArray,List.size_toArray]; omega)
 have ea:its.toArray ++ its2.toArray=(its ++ its2).toArray:=by simp
 rw [ea]
 exact ⟨.ref _,_,I.lnew (t':=s.toks) (r.append r2) (by rw [List.length_append]; omega),rfl,q _ I.fresh⟩
noncomputable def rRep:R2:=λ x y H Q=>∃ l k xs,x=.ref l /\ y=.int k /\ H l=some (.lst xs) /\ -(2 ^ 63)<=k /\ k < 2 ^ 63 /\ xs.length * k.toNat<=sizeLine ∧
 ∀ p,H p=none->Q (.ref p) (upd H p (.lst (List.replicate k.toNat xs).flatten))
theorem vc1 {α:Type} (xs:List α) (k:Nat):(List.replicate k xs).flatten.length=k * xs.length:=by
 induction k with
 | zero=>simp
 | succ k ih=>rw [List.replicate_succ,List.flatten_cons,List.length_append,ih,Nat.succ_mul,Nat.add_comm]
theorem ud3:OpR X (binaryOp .Mult) rRep:=by
 intro pins s σ H x y v u Q I rx ry h
 obtain ⟨l,k,xs,rfl,rfl,hH,h1,h2,hz,q⟩:=h
 cases rx
 obtain ⟨t,rfl⟩:=ry
 obtain ⟨z,its,n,r,hl,e⟩:=I.lstM hH
 have hlen:its.toArray.size * k.toNat<=sizeLine:=by rw [List.size_toArray,<- hl]; exact hz
 have hcap:¬ its.toArray.size * k.toNat > (2 ^ 63 - 1) / 8:=by
  have:(sizeLine:Nat)<=(2 ^ 63 - 1) / 8:=by decide
  omega
 have hfit:¬ (!Builtin.List.listFitsIndex k)=true:=by
  rw [fitsIndex_both h1 h2]
  exact Bool.false_ne_true
 have hlong:¬ Builtin.List.listTooLong (its.toArray.size * k.toNat)=true:=by
  rw [vf1 hlen]
  exact Bool.false_ne_true
 have hnew:List.foldl (λ x1 x2=>x1 ++ x2) #[] (List.replicate (if its.toArray.isEmpty=true then 0 else k.toNat) its.toArray)=(List.replicate k.toNat its).flatten.toArray:=by
  have f0:∀ m:Nat,List.foldl (λ x1 x2=>x1 ++ x2) #[] (List.replicate m its.toArray)=(List.replicate m its).flatten.toArray:=λ m=>by
   have:=uq0 its m []
   rw [List.nil_append] at this
   exact this
  rw [f0]
  cases its with
  | nil=>simp
  | cons a r'=>rw [if_neg (by simp)]
 refine wpAny_binaryOp_repeat_ref (T := "list") (U := "int") (by decide) ⟨_,e,rfl⟩ (λ s'=>typeIs_int s' k t) noFill_list_mul F.fills_int_mul F.slot_int_rmul repeat_list F.slot_int_index.lookup
  (call_meets F.slot_int_rmul (typeIs_int s k t) F.entry_int_rmul (F.args_int_rmul_2 _ _) (int___rmul___int_list k t l its.toArray n)
   ⟨e,rfl,⟨_,e,rfl⟩,call_meets F.slot_list_mul ⟨_,e,rfl⟩ F.entry_list_mul (F.args_list_mul_2 _ _) (AutoListH.list___mul___list_int_3 l its.toArray n k t hfit hcap hlong) ⟨e,?_⟩⟩)
 rw [hnew]
 exact ⟨.ref _,_,I.lnew (t':=s.toks) (r.rep k.toNat) (by rw [vc1,Nat.mul_comm]; exact hz),rfl,q _ I.fresh⟩
end
section
variable {prog:Program} {w:World} {A:Around} {E:Value->Shared->Prop} {s:Shared}
end
section
variable {X:Cx}
end
end L2
namespace Att
open PySem PySem.W PySem.Calls PyProof.Rows
theorem wq0 {P:Params} {h:Heap}:∀ (ns:List Int) (vs:List Value),WellAll P h vs (ns.map WData.int)->IntsAre vs ns:=by
 intro ns
 induction ns with
 | nil =>
  intro vs w
  rw [List.map_nil] at w
  cases w
  exact .nil
 | cons n ns ih =>
  intro vs w
  rw [List.map_cons] at w
  cases w with
  | cons a b =>
   cases a
   exact .cons _ _ (ih _ b)
theorem um1 {l:OpenLaw} {n:Nat} (hn:l.most=some n) {P:Params} {h:Heap} {args:List WData} {vals:List Value}
    (hpre:l.row.toRowW.claim.pre args=true) (hwl:WellAll P h vals args) :
    ∃ a vs ns,vals=[Value.ref a] /\ args=[WData.list (ns.map WData.int)] /\ h.get? a=some { cls:=.type "list",data:=.seq vs.toArray } /\ IntsAre vs ns /\ ns.length<=n:=by
 have hsh:WShape.hasAll [] args [.list .int]=true:=(pre_splitW hpre).1
 have hc:l.pre.holds [] { args:=args }=true:=(pre_splitW hpre).2
 obtain ⟨d,r,rfl,h1,h2⟩:=hasAllW_cons hsh
 obtain rfl:=hasAllW_nil h2
 obtain ⟨xs,rfl,h3⟩:=hasW_list h1
 obtain ⟨ns,rfl⟩:=items_int h3
 have hlen:ns.length<=n:=by
  unfold OpenLaw.pre at hc
  have h4:(WTm.not (.lt (.lit (.int (n:Int))) (.len (.arg 0)))).holds [] { args:=[.list (ns.map .int)] }=true:=by
   have h4:=(holds_andW hc).1
   rw [hn] at h4
   exact h4
  have h5:=condW_of h4 (w_not (w_lt w_lit (w_len_list (w_arg rfl))))
  rw [List.length_map] at h5
  refine Nat.le_of_not_lt λ q=>?_
  have q':(n:Int) < ((ns.length:Nat):Int):=by omega
  first
   | (rw [decide_eq_true q'] at h5; exact absurd h5 (by decide))
   | (simp at h5; omega)
 cases hwl with
 | cons w1 w2 =>
  cases w2
  cases w1 with
  | list ho hall=>exact ⟨_,_,ns,rfl,rfl,ho,wq0 ns _ hall,hlen⟩
theorem xo1 (l:OpenLaw) (args:List WData):l.row.toRowW.claim.post args (.bool true) args=true :=
 postW_of (r:=l.row.toRowW) (X:=(true == true))
  (show WShape.has [] (.bool true) .bool=true by first | rfl | decide | simp [WShape.has,WShape.arms,WShape.armsAll])
  (show (WTm.eq .res (.lit (.bool true))).value [] { args:=args,res:=some (.bool true),after:=args }=some (.bool (true == true)) from w_eq_bool (w_res rfl) w_lit) rfl
theorem attach_call {l:OpenLaw} {n:Nat} {q:Program} {loose:List Str} {XP:(Str->Option Value)->Heap->Prop} {YP:World->Heap->Prop} {d:DefRec}
    (hn:l.most=some n) (hdf:d.params.defaults=[])
    (call:∀ (w:World) (s₀ s₁:Shared) (mg mb:Str->Option Value) (fa:Addr) (o:Obj) (pm cd doc:Value) (a:Addr) (vs:List Value) (ns:List Int),
     Ground q loose [] XP w s₀ mg mb s₁.heap->YP w s₁.heap ->
     s₁.heap.get? fa=some o->o.data=.func (docDef d.name d.params d.body d.scope pm cd doc)->s₁.heap.CodeRec cd d.name->mg d.name=some (.ref fa) ->
     s₁.heap.get? a=some { cls:=.type "list",data:=.seq vs.toArray }->IntsAre vs ns->ns.length<=n->s₁.gens = #[] ->
     codeAny (model l.prog w) callerA (.call (.ref fa) ⟨[.ref a],[]⟩) (λ r s'=>r=.ok (.ret (.bool true)) /\ OldK s₁.heap s'.heap /\ s'.os=s₁.os /\ AllBare s'.gens) s₁) :
    WalkO q loose XP YP l.row.toRowW d [] (λ f vs=>PySem.call f vs):=by
 intro w s₀ s₁ mg mb G Y fa o pm cd doc dV kV ho hd hcd hD hmg hg args vals as hpre hlay hrd hwl hlo
 obtain rfl:dV=.none:=Dflts.none hD hdf
 obtain rfl:kV=.none:=Dflts.noKw hD
 obtain ⟨a,vs,ns,rfl,rfl,hobj,hints,hlen⟩:=um1 hn hpre hwl
 refine enter_call (codeAny_mono (call w s₀ s₁ mg mb fa o pm cd doc a vs ns G Y ho (fd_plain hd) hcd hmg hobj hints hlen hg) λ r s' hq=>?_)
 obtain ⟨rfl,h2,h3,h4⟩:=hq
 exact ⟨.inl ⟨.bool true,.bool true,[],rfl,λ _=>rfl,.bool true,xo1 l _,λ _=>⟨List.Pairwise.nil,λ _ hm=>(nomatch hm)⟩⟩,h2,h3,h4⟩
section
variable {prog:Program} {w:World} {A:Around} {E:Value->Shared->Prop} {s:Shared} {K:Frag}
noncomputable def ledger (h:Heap) (L d:Addr):List (Addr × Obj):=(List.range h.objs.size).filterMap λ a=>if a=L \/ a=d then none else (h.get? a).map λ o=>(a,o)
end
end Att
namespace L2
open PySem PySem.Spec PyProof.Rows
theorem sx0:∀ {vs:List Value} {ns:List Int},IntsAre vs ns->Vals (ns.map V.int) vs
 | _,_,.nil=>.nil
 | _,_,.cons n t h=>.cons ⟨t,rfl⟩ (sx0 h)
noncomputable def Only (H:Hp):Prop:=∀ b,H b=none \/ ∃ o xs,H b=some (.frz o (.lst xs))
theorem ux1 {P:Program} {w:World} {K:PySem.W.Frag} {mg mb:Str->Option Value} {CX:CXT} {k:Nat} {fa a:Addr} {fd:FuncData} {x:Str} {sp:Sp} {s₁:Shared} {vs:List Value} {ns:List Int}
    (KX:K.In s₁.heap) (hns:s₁.heap.Ns mainGlobals mg) (hb:s₁.heap.Ns builtinsNs mb) (hbb:∀ x:Str,x ≠ "__name__" -> mb x=bootBuiltins x) (hlim:s₁.heap.NoLimit) (hg:s₁.gens = #[])
    (ha:s₁.heap.get? a=some { cls:=.type "list",data:=.seq vs.toArray }) (hi:IntsAre vs ns) (hl:ns.length<=sizeLine) (hr:Room k callerA)
    (F:∀ base:Heap,K.In base->base.Ns mainGlobals mg->FnOk P w K mg base CX k fa fd [x] sp) (hbind:∀ (s:Shared) (u:Value),BindsTo s fd ⟨[u],[]⟩ [(x,u)])
    (hsp:∀ H:Hp,Only H->SqL K H a (ns.map V.int)->sp [.ref a] H (λ v _=>v=.bl true) λ _ _ _=>False)
    (hCX:∀ H e s',CX [] H s₁ (λ _ _ _=>False) e s'->False) :
    codeAny (model P w) callerA (.call (.ref fa) ⟨[.ref a],[]⟩) (λ r s'=>r=.ok (.ret (.bool true)) /\ OldK s₁.heap s'.heap /\ s'.os=s₁.os /\ AllBare s'.gens) s₁:=by
 have rv:=sx0 hi
 have lenV:=hi.length
 have core:∀ H:Hp,Only H->SqL K H a (ns.map V.int)->HOk P w H s₁.heap->(∀ b,H b ≠ none->b=a)->(H a ≠ none->K.lookup a=none) ->
     codeAny (model P w) callerA (.call (.ref fa) ⟨[.ref a],[]⟩) (λ r s'=>r=.ok (.ret (.bool true)) /\ OldK s₁.heap s'.heap /\ s'.os=s₁.os /\ AllBare s'.gens) s₁:=by
  intro H hO hS hok hA hK
  have base_of:∀ {b:Addr} {o:Obj},s₁.heap.get? b=some o->H b=none->(hidT s₁.heap H).get? b=some o:=λ e n=>xz1 e n
  have noA:∀ {b:Addr} {o:Obj} {es:Array DictEntry} {ep:Nat},s₁.heap.get? b=some o->o.data=.dict es ep->H b=none:=λ {b o es ep} e d=>by
   cases q:H b with
   | none=>rfl
   | some u =>
    have e':b=a:=hA b (by rw [q]; simp)
    subst e'
    rw [ha] at e; cases e
    have d':Data.seq vs.toArray _=Data.dict es ep:=d
    cases d'
  have nsK:∀ {b:Addr} {m:Str->Option Value},s₁.heap.Ns b m->(hidT s₁.heap H).Ns b m:=λ {b m} ⟨o,es,ep,e,d,r⟩=>⟨o,es,ep,base_of e (noA e d),d,r⟩
  have hKb:K.In (hidT s₁.heap H):=λ b o e=>base_of (KX b o e) (by
   cases q:H b with
   | none=>rfl
   | some u =>
    have e':b=a:=hA b (by rw [q]; simp)
    subst e'
    rw [hK (by rw [q]; simp)] at e; cases e)
  have hM:Mod K mg (hidT s₁.heap H):=⟨hKb,nsK hns,⟨mb,nsK hb,hbb⟩,let ⟨mc,h1,h2⟩:=hlim; ⟨mc,nsK h1,h2⟩⟩
  have e0:Env0 P w K mg (hidT s₁.heap H) callerA [] s₁ H:=⟨rfl,hM,λ b o e=>vl2 e,Nat.le_of_eq (sp1 _ _),trivial,λ b hb=>absurd (show b ∈ ([]:List Addr) from hb) (by simp),hok,.of_eq hg⟩
  refine codeAny_mono ((F _ hKb (nsK hns)).run callerA [] s₁ H ⟨[.ref a],[]⟩ [.ref a] [.ref a] _ _ hr e0 (hbind s₁ (.ref a)) (.cons rfl .nil) (hsp H hO hS)) λ r s' h=>?_
  cases r with
  | error e=>exact (hCX H e s' h).elim
  | ok fl =>
   cases fl with
   | next=>exact False.elim h
   | brk=>exact False.elim h
   | cont=>exact False.elim h
   | ret u =>
    obtain ⟨v,H',os,bare,un,hok',r',q⟩:=h
    have q':v=.bl true:=q
    subst q'
    obtain rfl:u=Value.bool true:=r'
    refine ⟨rfl,OldK.of_keep λ b o e=>?_,os,bare⟩
    cases q:H b with
    | none=>exact un.keep b o e q (by intro z; exact absurd (show b ∈ ([]:List Addr) from z) (by simp)) (by simp)
    | some u =>
     rcases hO b with z | ⟨ob,xs,z⟩
     ·rw [q] at z; cases z
     ·have z2:=un.frzs b ob _ z
      obtain ⟨e1,_⟩:=hok b _ z
      obtain ⟨e2,_⟩:=hok' b _ z2
      rw [e] at e1; cases e1
      exact e2
 cases hk:K.lookup a with
 | some o =>
  have e:=KX a o hk
  rw [ha] at e
  cases e
  refine core (λ _=>none) (λ _=>.inl rfl) (.inr ⟨_,vs.toArray,_,hk,rfl,rfl,rfl,by rw [List.size_toArray,lenV]; exact hl,by simpa using rv⟩) (λ b u z=>by have z':(none:Option HO)=some u:=z; cases z') (λ b z=>absurd rfl z) λ z=>absurd rfl z
 | none =>
  refine core (λ b=>if b=a then some (.frz { cls:=.type "list",data:=.seq vs.toArray } (.lst (ns.map V.int))) else none) (λ b=>?_) (.inl (.inr ⟨{ cls:=.type "list",data:=.seq vs.toArray },if_pos rfl⟩)) (λ b u z=>?_) (λ b z=>?_) λ _=>hk
  ·by_cases hb:b=a
   ·exact .inr ⟨_,_,if_pos hb⟩
   ·exact .inl (if_neg hb)
  ·by_cases hb:b=a
   ·have z':=(if_pos hb).symm.trans z
    cases z'
    subst hb
    exact ⟨ha,by rw [List.length_map]; exact hl,vs,_,rv,ha⟩
   ·have z':=(if_neg hb).symm.trans z
    cases z'
  ·by_cases hb:b=a
   ·exact hb
   ·exact absurd (if_neg hb) z
end L2
namespace L2
open PySem PySem.Spec PyProof.Rows
noncomputable abbrev KOf {K:PySem.W.Frag} {h:Heap} (_:K.In h):PySem.W.Frag:=K
theorem walk_of {l:PySem.W.OpenLaw} {n k:Nat} {q:Program} {loose:List Str} {XP:(Str->Option Value)->Heap->Prop} {YP:World->Heap->Prop} {d:DefRec} {K:Params->PySem.W.Frag} {CX:World->CXT} {sp:World->Sp} {x:Str}
    (hn:l.most=some n) (hn2:n<=sizeLine) (hdf:d.params.defaults=[]) (hr:Room k callerA)
    (hY:∀ (w:World) (h:Heap),YP w h->(K w.params).In h)
    (F:∀ (w:World) (mg:Str->Option Value) (fa:Addr) (h:Heap),(K w.params).In h->h.Ns mainGlobals mg->mg d.name=some (.ref fa) ->
     ∃ fd:FuncData,(∀ (s:Shared) (u:Value),BindsTo s fd ⟨[u],[]⟩ [(x,u)]) ∧
      ∀ base:Heap,(K w.params).In base->base.Ns mainGlobals mg->FnOk l.prog w (K w.params) mg base (CX w) k fa fd [x] (sp w))
    (hsp:∀ (w:World) (H:Hp) (a:Addr) (ns:List Int),ns.length<=n->Only H->SqL (K w.params) H a (ns.map V.int)->sp w [.ref a] H (λ v _=>v=.bl true) λ _ _ _=>False)
    (hCX:∀ (w:World) (H:Hp) (s:Shared) (e:Value) (s':Shared),CX w [] H s (λ _ _ _=>False) e s'->False) :
    PySem.W.WalkO q loose XP YP l.row.toRowW d [] (λ f vs=>PySem.call f vs):=by
 refine Att.attach_call hn hdf λ w s₀ s₁ mg mb fa o pm cd doc a vs ns G Y ho hd hcd hmg hobj hints hlen hg=>?_
 have KX:=hY w _ Y
 obtain ⟨fd,hb,hF⟩:=F w mg fa _ KX G.T.g hmg
 exact ux1 KX G.T.g G.T.b G.T.builtins G.T.nolimit hg hobj hints (Nat.le_trans hlen hn2) hr hF hb (λ H hO hS=>hsp w H a ns hlen hO hS) λ H e s'=>hCX w H s₁ e s'
end L2
namespace L2
open PySem PySem.Spec PyProof.Rows
noncomputable abbrev CX0:CXT:=λ _ _ _ _ _ _=>False
noncomputable abbrev E0:XK:=λ _ _ _=>False
theorem vq3 {X:Cx}:ua1 CX0 X E0:=λ _ _ _ _ _ _ _ h=>h.elim
structure Fun (K:PySem.W.Frag) (x qual:Str) (st:Stmt) (f:Addr) (fd:FuncData):Prop where
 ex:∃ (oc:Value) (od:Option Addr) (kV doc pm:Value) (an:Option Addr) (cdv ct:Value) (osl:Array (Option Value)),
  fd=PySem.W.fnOf x qual (zj0 st) (ub0 st) (wa0 st) .none kV doc pm an cdv ct /\ K.lookup f=some ⟨oc,od,.func fd,osl⟩ /\ PySem.W.codeIn K cdv qual=true
 kp:PySem.W.keepIn K (.ref f)=true
section
variable {P:Program} {w:World} {K:PySem.W.Frag} {mg:Str->Option Value} {base:Heap}
theorem Fun.ok {x qual:Str} {st:Stmt} {f:Addr} {fd:FuncData} {N ps:List Str} {k:Nat} {sp:Sp} (F:Fun K x qual st f fd) (S:FnScope N ps (wa0 st)) (len:∀ vs H Q E,sp vs H Q E->vs.length=ps.length)
    (hbody:∀ (cdv:Value) (A:Around) (outer:List Env) (s:Shared) (H:Hp) (vs:List V) (Q:VK) (E:XK),Room k (A.deeper (envOfC qual (wa0 st) s.heap.objs.size f cdv))->sp vs H Q E ->
     ∃ t,PSs (cxOf CX0 P w K mg base N qual (wa0 st) f cdv A outer s H E).nox (ub0 st) t /\ t { nx:=λ _ H'=>Q .non H',rt:=Q } (start N vs) H):FnOk P w K mg base CX0 (k + 1) f fd ps sp:=by
 obtain ⟨oc,od,kV,doc,pm,an,cdv,ct,osl,rfl,lk,hcd⟩:=F.ex
 refine wh3 lk hcd S len λ A outer s H vs Q E hr hsp=>?_
 obtain ⟨t,h,q⟩:=hbody cdv A outer s H vs Q E hr hsp
 exact ⟨t,h.nox,q⟩
theorem Fun.binds {x qual:Str} {st:Stmt} {f:Addr} {fd:FuncData} {ps:List Str} (F:Fun K x qual st f fd)
    (h:∀ (kV doc pm:Value) (an:Option Addr) (cdv ct:Value) (us:List Value),us.length=ps.length->bindArgs (PySem.W.fnOf x qual (zj0 st) (ub0 st) (wa0 st) .none kV doc pm an cdv ct) ⟨us,[]⟩=pure (ps.zip us)):Binds K fd ps []:=by
 obtain ⟨oc,od,kV,doc,pm,an,cdv,ct,osl,rfl,lk,hcd⟩:=F.ex
 exact .all (h kV doc pm an cdv ct)
theorem td2 {x qual:Str} {st:Stmt} {f:Addr} {oc:Value} {od an:Option Addr} {osl:Array (Option Value)} {kV doc pm cdv ct:Value} (l:K.lookup f=some ⟨oc,od,.func (PySem.W.fnOf x qual (zj0 st) (ub0 st) (wa0 st) .none kV doc pm an cdv ct),osl⟩)
    (c:PySem.W.codeIn K cdv qual=true) (k:PySem.W.keepIn K (.ref f)=true):Fun K x qual st f (PySem.W.fnOf x qual (zj0 st) (ub0 st) (wa0 st) .none kV doc pm an cdv ct):=⟨⟨oc,od,kV,doc,pm,an,cdv,ct,osl,rfl,l,c⟩,k⟩
end
section
variable {X:Cx}
end
end L2
namespace Pv
open PySem
inductive D where
 | non | bl (b:Bool) | int (i:Int) | str (x:Str) | tup (l:List D) | fls (l:List D) | ref (a:Addr) | ty (n:String) | exc (c:Str)
 | ktp (l:List D)
inductive MO where
 | lst (xs:List D)
 | ins (c:Str) (fs:List (Str × D))
 | dct (kvs:List ((Int × Int × Int) × D))
 | dcl (kvs:List (List Int × D))
 | dck (kvs:List (Sum Int Str × D))
noncomputable abbrev Mu:=Addr->Option MO
noncomputable def updM (μ:Mu) (a:Addr) (o:MO):Mu:=λ b=>if b=a then some o else μ b
theorem za0 {μ:Mu} {a:Addr} {o:MO}:updM μ a o a=some o:=by unfold updM; rw [if_pos rfl]
theorem xb0 {μ:Mu} {a b:Addr} {o:MO} (h:b ≠ a):updM μ a o b=μ b:=by unfold updM; rw [if_neg h]
theorem uk0 {μ:Mu} {a:Addr} {o u:MO}:updM (updM μ a o) a u=updM μ a u:=by
 funext b; unfold updM; by_cases h:b=a <;> simp [h]
noncomputable def Ext (μ μ':Mu):Prop:=∀ a o,μ a=some o->μ' a=some o
theorem Ext.refl (μ:Mu):Ext μ μ:=λ _ _ h=>h
theorem Ext.trans {a b c:Mu} (h:Ext a b) (k:Ext b c):Ext a c:=λ x o q=>k x o (h x o q)
theorem Ext.new {μ:Mu} {p:Addr} {o:MO} (h:μ p=none):Ext μ (updM μ p o):=λ a u q=>by
 rw [xb0]; exact q
 intro e; subst e; rw [h] at q; cases q
theorem Ext.free {μ μ':Mu} {p:Addr} (e:Ext μ μ') (h:μ' p=none):μ p=none:=by
 cases q:μ p with
 | none=>rfl
 | some o=>rw [e p o q] at h; cases h
noncomputable def ExtB (p:Addr) (μ μ':Mu):Prop:=∀ a o,a ≠ p->μ a=some o->μ' a=some o
theorem ExtB.refl (p:Addr) (μ:Mu):ExtB p μ μ:=λ _ _ _ h=>h
theorem ExtB.trans {p:Addr} {a b c:Mu} (h:ExtB p a b) (k:ExtB p b c):ExtB p a c:=λ x o n q=>k x o n (h x o n q)
theorem ExtB.upd {μ:Mu} {p:Addr} {o:MO}:ExtB p μ (updM μ p o):=λ a u n q=>by rw [xb0 n]; exact q
theorem zb0 {μ:Mu} {p q:Addr} {o:MO} (h:μ p=some o) (k:μ q=none):p ≠ q:=by
 intro e; subst e; rw [h] at k; cases k
noncomputable abbrev St3:=List (Option D)
noncomputable def getI:St3->Nat->Option D
 | [],_=>none
 | o :: _,0=>o
 | _ :: r,i + 1=>getI r i
theorem uc1:∀ (ρ:St3) (i:Nat),getI ρ i=(ρ[i]?).getD none
 | [],i=>by simp [getI]
 | o :: _,0=>by simp [getI]
 | _ :: r,i + 1=>by simp [getI,uc1 r i]
noncomputable abbrev VK3:=D->Mu->Prop
noncomputable abbrev TE3:=St3->Mu->VK3->Prop
noncomputable abbrev TT3:=St3->Mu->(Bool->Mu->Prop)->Prop
noncomputable abbrev TA3:=St3->Mu->(List D->Mu->Prop)->Prop
structure Ends3 where
 nx:St3->Mu->Prop
 rt:VK3
 bk:St3->Mu->Prop:=λ _ _=>False
 ct:St3->Mu->Prop:=λ _ _=>False
noncomputable abbrev TS3:=Ends3->St3->Mu->Prop
noncomputable abbrev R3:=D->D->Mu->VK3->Prop
noncomputable abbrev Sp3:=List D->Mu->VK3->Prop
noncomputable abbrev C3:=List D->Mu->VK3->Prop
noncomputable abbrev TG3:=D->St3->Mu->(St3->Mu->Prop)->Prop
noncomputable abbrev TGs3:=List D->St3->Mu->(St3->Mu->Prop)->Prop
noncomputable abbrev TI3:=St3->Mu->(List D->(Mu->Prop)->Mu->Prop)->Prop
noncomputable def v3 (i:Nat):TE3:=λ ρ μ Q=>match getI ρ i with
 | some d=>Q d μ
 | none=>False
noncomputable def c3 (d:D):TE3:=λ _ μ Q=>Q d μ
noncomputable def o3 (r:R3) (ta tb:TE3):TE3:=λ ρ μ Q=>ta ρ μ λ x μ1=>tb ρ μ1 λ y μ2=>r x y μ2 Q
noncomputable def un3 (r:D->Mu->VK3->Prop) (ta:TE3):TE3:=λ ρ μ Q=>ta ρ μ λ x μ1=>r x μ1 Q
noncomputable def b3 (t:TE3):TT3:=λ ρ μ Q=>t ρ μ λ d μ1=>match d with
 | .bl c=>Q c μ1
 | _=>False
noncomputable def and3 (t u:TT3):TT3:=λ ρ μ Q=>t ρ μ λ c μ1=>if c=true then u ρ μ1 Q else Q false μ1
noncomputable def or3 (t u:TT3):TT3:=λ ρ μ Q=>t ρ μ λ c μ1=>if c=true then Q true μ1 else u ρ μ1 Q
noncomputable def not3 (t:TT3):TT3:=λ ρ μ Q=>t ρ μ λ c μ1=>Q (!c) μ1
noncomputable def andV3 (t u:TE3):TE3:=λ ρ μ Q=>t ρ μ λ d μ1=>match d with
 | .bl c=>if c=true then u ρ μ1 Q else Q (.bl false) μ1
 | _=>False
noncomputable def orV3 (t u:TE3):TE3:=λ ρ μ Q=>t ρ μ λ d μ1=>match d with
 | .bl c=>if c=true then Q (.bl true) μ1 else u ρ μ1 Q
 | _=>False
noncomputable def notV3 (t:TE3):TE3:=λ ρ μ Q=>t ρ μ λ d μ1=>match d with
 | .bl c=>Q (.bl (!c)) μ1
 | _=>False
noncomputable def if3 (c:TT3) (t u:TE3):TE3:=λ ρ μ Q=>c ρ μ λ b μ1=>if b=true then t ρ μ1 Q else u ρ μ1 Q
noncomputable def nil3:TA3:=λ _ μ Q=>Q [] μ
noncomputable def cons3 (t:TE3) (u:TA3):TA3:=λ ρ μ Q=>t ρ μ λ d μ1=>u ρ μ1 λ ds μ2=>Q (d :: ds) μ2
noncomputable def tup3 (t:TA3):TE3:=λ ρ μ Q=>t ρ μ λ ds μ1=>ds.length<=sizeLine /\ Q (.tup ds) μ1
noncomputable def lst3 (t:TA3):TE3:=λ ρ μ Q=>t ρ μ λ ds μ1=>ds.length<=sizeLine /\ ∀ p,μ1 p=none->Q (.ref p) (updM μ1 p (.lst ds))
noncomputable def call3 (sp:Sp3) (t:TA3):TE3:=λ ρ μ Q=>t ρ μ λ ds μ1=>sp ds μ1 Q
noncomputable def mt3 (r:D->List D->Mu->VK3->Prop) (to:TE3) (t:TA3):TE3:=λ ρ μ Q=>to ρ μ λ x μ1=>match x with
 | .ref p=>match μ1 p with
  | some (.lst _)=>t ρ μ1 λ ds μ2=>r (.ref p) ds μ2 Q
  | _=>False
 | _=>False
noncomputable abbrev TO3:=St3->Mu->(Option Int->Mu->Prop)->Prop
noncomputable def np3:TO3:=λ _ μ Q=>Q none μ
noncomputable def pt3 (t:TE3):TO3:=λ ρ μ Q=>t ρ μ λ d μ1=>match d with
 | .int i=>Q (some i) μ1
 | _=>False
noncomputable def sl3 (r:D->Option Int->Option Int->Mu->VK3->Prop) (te:TE3) (tl th:TO3):TE3:=λ ρ μ Q=>te ρ μ λ x μ1=>tl ρ μ1 λ l μ2=>th ρ μ2 λ u μ3=>r x l u μ3 Q
noncomputable def sIx3 (n d:Nat):Option Int->Nat
 | none=>d
 | some v=>if v < 0 then (v + (n:Int)).toNat else min v.toNat n
noncomputable def cut3 {α:Type} (xs:List α) (lo hi:Option Int):List α:=(xs.drop (sIx3 xs.length 0 lo)).take (sIx3 xs.length xs.length hi - sIx3 xs.length 0 lo)
noncomputable def slR:D->Option Int->Option Int->Mu->VK3->Prop:=λ x lo hi μ Q=>match x with
 | .tup l=>Q (.tup (cut3 l lo hi)) μ
 | .str z=>z.length<=sizeLine /\ Q (.str ⟨(cut3 z.cps.toList lo hi).toArray⟩) μ
 | .ref p=>match μ p with
  | some (.lst l)=>∀ r,μ r=none->Q (.ref r) (updM μ r (.lst (cut3 l lo hi)))
  | _=>False
 | .fls l=>∀ r,μ r=none->Q (.ref r) (updM μ r (.lst (cut3 l lo hi)))
 | _=>False
noncomputable def next3:TS3:=λ D ρ μ=>D.nx ρ μ
noncomputable def never3:TS3:=λ _ _ _=>False
noncomputable def brk3:TS3:=λ D ρ μ=>D.bk ρ μ
noncomputable def cnt3:TS3:=λ D ρ μ=>D.ct ρ μ
noncomputable def seq3 (t u:TS3):TS3:=λ D ρ μ=>t { D with nx:=u D } ρ μ
noncomputable def drop3 (t:TE3):TS3:=λ D ρ μ=>t ρ μ λ _ μ1=>D.nx ρ μ1
noncomputable def ret3 (t:TE3):TS3:=λ D ρ μ=>t ρ μ D.rt
noncomputable def retN3:TS3:=λ D _ μ=>D.rt .non μ
noncomputable def ifs3 (c:TT3) (t u:TS3):TS3:=λ D ρ μ=>c ρ μ λ b μ1=>if b=true then t D ρ μ1 else u D ρ μ1
noncomputable def gn3 (i:Nat):TG3:=λ d ρ μ Q=>Q (ρ.set i (some d)) μ
noncomputable def gnil3:TGs3:=λ ds ρ μ Q=>match ds with
 | []=>Q ρ μ
 | _=>False
noncomputable def gcons3 (t:TG3) (u:TGs3):TGs3:=λ ds ρ μ Q=>match ds with
 | d :: r=>t d ρ μ λ ρ1 μ1=>u r ρ1 μ1 Q
 | []=>False
noncomputable def gtup3 (n:Nat) (t:TGs3):TG3:=λ d ρ μ Q=>match d with
 | .tup l=>l.length=n /\ t l ρ μ Q
 | _=>False
noncomputable def set3 (i:Nat) (t:TE3):TS3:=λ D ρ μ=>t ρ μ λ d μ1=>D.nx (ρ.set i (some d)) μ1
noncomputable def asg3 (t:TE3) (g:TG3):TS3:=λ D ρ μ=>t ρ μ λ d μ1=>g d ρ μ1 D.nx
noncomputable def par3 (i j:Nat) (t:TA3):TS3:=λ D ρ μ=>t ρ μ λ ds μ1=>match ds with
 | [v,w]=>D.nx ((ρ.set i (some v)).set j (some w)) μ1
 | _=>False
noncomputable def ixN (n:Nat) (i:Int):Option Nat:=if 0<=i then (if i < n then some i.toNat else none) else if -(n:Int)<=i then some (i + n).toNat else none
noncomputable def atI {α:Type} (xs:List α) (i:Int):Option α:=(ixN xs.length i).bind λ j=>xs[j]?
noncomputable def sub3 (to ti:TE3):TG3:=λ d ρ μ Q=>to ρ μ λ o μ1=>ti ρ μ1 λ i μ2=>match o,i with
 | .ref p,.int k=>match μ2 p with
  | some (.lst xs)=>match ixN xs.length k with
   | some j=>Q ρ (updM μ2 p (.lst (xs.set j d)))
   | none=>False
  | _=>False
 | _,_=>False
noncomputable def zz1 (S:Mu->Prop) (g:TG3) (tb:TS3) (D':Ends3):List D->St3->Mu->Prop
 | [],ρ,μ=>S μ /\ D'.nx ρ μ
 | x :: r,ρ,μ=>S μ /\ ∃ N:St3->Mu->Prop,(∀ ρ' μ',N ρ' μ'->zz1 S g tb D' r ρ' μ') /\ g x ρ μ λ ρ1 μ1=>tb { D' with nx:=N,ct:=N,bk:=D'.nx } ρ1 μ1
noncomputable def for3 (ti:TI3) (g:TG3) (tb:TS3):TS3:=λ D' ρ μ=>ti ρ μ λ l S μ1=>zz1 S g tb D' l ρ μ1
theorem vq0 {S:Mu->Prop} {g:TG3} {tb:TS3} {D':Ends3} (W:List D->St3->Mu->Prop) {l:List D} {ρ:St3} {μ:Mu} (h0:W l ρ μ) (hS:∀ l ρ μ,W l ρ μ->S μ) (hn:∀ ρ μ,W [] ρ μ->D'.nx ρ μ)
    (hs:∀ x r ρ μ,W (x :: r) ρ μ->g x ρ μ λ ρ1 μ1=>tb { D' with nx:=W r,ct:=W r,bk:=D'.nx } ρ1 μ1):zz1 S g tb D' l ρ μ:=by
 induction l generalizing ρ μ with
 | nil=>exact ⟨hS _ _ _ h0,hn _ _ h0⟩
 | cons x r ih=>exact ⟨hS _ _ _ h0,W r,λ ρ' μ' q=>ih q,hs x r ρ μ h0⟩
noncomputable def is3 (t:TE3):TI3:=λ ρ μ R=>t ρ μ λ d μ1=>match d with
 | .tup l=>R l (λ _=>True) μ1
 | .fls l=>R l (λ _=>True) μ1
 | .str z=>R (z.cps.toList.map λ c=>D.str ⟨#[c]⟩) (λ _=>True) μ1
 | .ref p=>match μ1 p with
  | some (.lst l)=>R l (λ μ=>μ p=some (.lst l)) μ1
  | _=>False
 | _=>False
noncomputable def rngD (lo:Int) (n:Nat):List D:=(List.range n).map λ i=>.int (lo + (i:Nat))
theorem yn1 (lo:Int) (n:Nat):rngD lo (n + 1)=.int lo :: rngD (lo + 1) n:=by
 unfold rngD
 rw [List.range_succ_eq_map,List.map_cons,List.map_map]
 have e0:lo + ((0:Nat):Int)=lo:=by simp
 rw [e0]
 congr 1
 apply List.map_congr_left
 intro a _
 show D.int (lo + ((a + 1:Nat):Int))=D.int (lo + 1 + (a:Int))
 have e1:lo + ((a + 1:Nat):Int)=lo + 1 + (a:Int):=by omega
 rw [e1]
noncomputable def ir3 (t:TA3):TI3:=λ ρ μ R=>t ρ μ λ ds μ1=>match ds with
 | [.int j]=>(-(2 ^ 62)<=j /\ j < 2 ^ 62) /\ R (rngD 0 j.toNat) (λ _=>True) μ1
 | _=>False
noncomputable def ir23 (t:TA3):TI3:=λ ρ μ R=>t ρ μ λ ds μ1=>match ds with
 | [.int i,.int j]=>(-(2 ^ 62)<=i /\ i < 2 ^ 62 /\ -(2 ^ 62)<=j /\ j < 2 ^ 62) /\ R (rngD i (j - i).toNat) (λ _=>True) μ1
 | _=>False
noncomputable def uo2 (S:Mu->Prop) (p:Addr) (g:TG3) (tc:TT3) (te:TE3) (Q:VK3) (l:List D) (ρ0:St3) (μ0:Mu):Prop :=
 ∃ W:List D->List D->St3->Mu->Prop,W l [] ρ0 μ0 /\ (∀ l ys ρ μ,W l ys ρ μ->S μ /\ μ p=some (.lst ys)) /\ (∀ ys ρ μ,W [] ys ρ μ->Q (.ref p) μ) ∧
  ∀ x r ys ρ μ,W (x :: r) ys ρ μ->ys.length < sizeLine /\ g x ρ μ λ ρ1 μ1=>tc ρ1 μ1 λ b μ2 =>
   if b=true then te ρ1 μ2 λ d μ3=>μ3 p=some (.lst ys) /\ W r (ys ++ [d]) ρ1 (updM μ3 p (.lst (ys ++ [d]))) else W r ys ρ1 μ2
noncomputable def comp3 (js:List (Option Nat)) (ti:TI3) (g:TG3) (tc:TT3) (te:TE3):TE3:=λ ρ μ Q=>ti ρ μ λ l S μ1=>∀ p,μ1 p=none->uo2 S p g tc te Q l (js.map λ j=>j.bind (getI ρ)) (updM μ1 p (.lst []))
noncomputable def tt3:TT3:=λ _ μ Q=>Q true μ
theorem ug1 {S:Mu->Prop} {p:Addr} {te:TE3} {Q:VK3} {l:List D} {o:Option D} {rest:St3} {μ:Mu} (f:D->D) (hp:μ p=none) (hl:l.length<=sizeLine) (hS:∀ μ',Ext μ μ'->S μ')
    (hx:∀ x ∈ l,∀ μ' R,Ext μ μ'->(∀ μ2,Ext μ' μ2->R (f x) μ2)->te (some x :: rest) μ' R) (hQ:∀ μ',Ext μ μ'->μ' p=some (.lst (l.map f))->Q (.ref p) μ') :
    uo2 S p (gn3 0) tt3 te Q l (o :: rest) (updM μ p (.lst [])):=by
 refine ⟨λ r ys ρ μ'=>Ext μ μ' /\ μ' p=some (.lst ys) /\ (∃ o',ρ=o' :: rest) /\ ∃ a,a ++ r=l /\ ys=a.map f,?_,?_,?_,?_⟩
 ·exact ⟨Ext.new hp,za0,⟨o,rfl⟩,[],rfl,rfl⟩
 ·rintro r ys ρ μ' ⟨h1,h2,_⟩
  exact ⟨hS _ h1,h2⟩
 ·rintro ys ρ μ' ⟨h1,h2,_,a,e,rfl⟩
  rw [List.append_nil] at e
  subst e
  exact hQ _ h1 h2
 ·rintro x r ys ρ μ' ⟨h1,h2,⟨o',rfl⟩,a,e,rfl⟩
  refine ⟨by rw [List.length_map]; rw [<- e,List.length_append,List.length_cons] at hl; omega,?_⟩
  show te (some x :: rest) μ' _
  refine hx x (by rw [<- e]; simp) μ' _ h1 λ μ2 h3=>⟨h3 _ _ h2,λ b u hb=>?_,za0,⟨_,rfl⟩,a ++ [x],by simp [<- e],by simp⟩
  rw [xb0 (zb0 hb hp)]
  exact h3 _ _ (h1 _ _ hb)
noncomputable def CPow (i j:Int):Prop:=0<=j /\ j<=1000000 /\ i.natAbs < 2 ^ 64
noncomputable def Big:Nat:=2 ^ 1000
noncomputable def CMul (i j:Int):Prop:=((-(2 ^ 64) < i /\ i < 2 ^ 64) \/ (-(2 ^ 64) < j /\ j < 2 ^ 64)) \/ (i.natAbs < Big /\ j.natAbs < Big)
noncomputable def int2 (C:Int->Int->Prop) (g:Int->Int->D):R3:=λ x y μ Q=>match x,y with
 | .int i,.int j=>C i j /\ Q (g i j) μ
 | _,_=>False
noncomputable def int20 (g:Int->Int->D):R3:=λ x y μ Q=>match x,y with
 | .int i,.int j=>Q (g i j) μ
 | _,_=>False
noncomputable def subR:R3:=int20 λ i j=>.int (i - j)
noncomputable def mulR:R3:=λ x y μ Q=>match x,y with
 | .int i,.int j=>CMul i j /\ Q (.int (i * j)) μ
 | .tup l,.int k=>((-(2 ^ 62)<=k /\ k < 2 ^ 62) /\ l.length * k.toNat<=1000000) /\ Q (.tup (List.replicate k.toNat l).flatten) μ
 | .ref p,.int k=>match μ p with
  | some (.lst l)=>((-(2 ^ 62)<=k /\ k < 2 ^ 62) /\ l.length * k.toNat<=1000000) /\ ∀ r,μ r=none->Q (.ref r) (updM μ r (.lst (List.replicate k.toNat l).flatten))
  | _=>False
 | _,_=>False
noncomputable def modR:R3:=int2 (λ _ j=>0 < j) λ i j=>.int (i % j)
noncomputable def fdivR:R3:=int2 (λ _ j=>0 < j /\ j < 2 ^ 120) λ i j=>.int (i / j)
noncomputable def powR:R3:=int2 CPow λ i j=>.int (i ^ j.toNat)
noncomputable def ltR:R3:=int20 λ i j=>.bl (decide (i < j))
noncomputable def leR:R3:=int20 λ i j=>.bl (decide (i<=j))
noncomputable def gtR:R3:=int20 λ i j=>.bl (decide (j < i))
noncomputable def geR:R3:=int20 λ i j=>.bl (decide (j<=i))
noncomputable def negR:D->Mu->VK3->Prop:=λ x μ Q=>match x with
 | .int i=>Q (.int (-i)) μ
 | _=>False
noncomputable def addR:R3:=λ x y μ Q=>match x,y with
 | .int i,.int j=>Q (.int (i + j)) μ
 | .str i,.str j=>i.length + j.length<=sizeLine /\ Q (.str (i ++ j)) μ
 | .ref p,.ref q=>match μ p,μ q with
  | some (.lst xs),some (.lst ys)=>xs.length + ys.length<=sizeLine /\ ∀ r,μ r=none->Q (.ref r) (updM μ r (.lst (xs ++ ys)))
  | _,_=>False
 | .tup l,.tup m=>l.length + m.length<=sizeLine /\ Q (.tup (l ++ m)) μ
 | _,_=>False
noncomputable def eqS:D->D->Option Bool
 | .int i,.int j=>some (decide (i=j))
 | .bl i,.bl j=>some (decide (i=j))
 | .str i,.str j=>some (decide (i=j))
 | .non,.non=>some true
 | .non,.int _=>some false
 | .int _,.non=>some false
 | .non,.str _=>some false
 | .str _,.non=>some false
 | .int _,.str _=>some false
 | .str _,.int _=>some false
 | _,_=>none
mutual
noncomputable def dat:D->Option PyData
 | .non=>some .none
 | .bl b=>some (.bool b)
 | .int i=>some (.int i)
 | .str x=>if PyData.strOk x=true then some (.str x) else none
 | .tup l=>match dats l with
  | some ps=>some (.tuple ps)
  | none=>none
 | .ktp l=>match dats l with
  | some ps=>some (.tuple ps)
  | none=>none
 | _=>none
noncomputable def dats:List D->Option (List PyData)
 | []=>some []
 | d :: r=>match dat d with
  | some p=>match dats r with
   | some ps=>some (p :: ps)
   | none=>none
  | none=>none
end
noncomputable def datM (μ:Mu):D->Option PyData
 | .ref p=>match μ p with
  | some (.lst l)=>match dats l with
   | some ps=>some (.list ps)
   | none=>none
  | _=>none
 | d=>dat d
noncomputable def eqR:R3:=λ x y μ Q=>match eqS x y with
 | some c=>Q (.bl c) μ
 | none=>match datM μ x,datM μ y with
  | some p,some q=>(p.depth<=64 /\ q.depth<=64) /\ Q (.bl (PyData.eqv p q)) μ
  | _,_=>False
noncomputable def neR:R3:=λ x y μ Q=>match eqS x y with
 | some c=>Q (.bl (!c)) μ
 | none=>match datM μ x,datM μ y with
  | some p,some q=>(p.depth<=64 /\ q.depth<=64) /\ Q (.bl (!PyData.eqv p q)) μ
  | _,_=>False
theorem eqR_ii (i j:Int) (μ:Mu) (Q:VK3):eqR (.int i) (.int j) μ Q=Q (.bl (decide (i=j))) μ:=rfl
theorem eqR_ss (i j:Str) (μ:Mu) (Q:VK3):eqR (.str i) (.str j) μ Q=Q (.bl (decide (i=j))) μ:=rfl
theorem eqR_bb (i j:Bool) (μ:Mu) (Q:VK3):eqR (.bl i) (.bl j) μ Q=Q (.bl (decide (i=j))) μ:=rfl
theorem eqR_is (i:Int) (j:Str) (μ:Mu) (Q:VK3):eqR (.int i) (.str j) μ Q=Q (.bl false) μ:=rfl
theorem neR_ii (i j:Int) (μ:Mu) (Q:VK3):neR (.int i) (.int j) μ Q=Q (.bl (!decide (i=j))) μ:=rfl
theorem neR_ss (i j:Str) (μ:Mu) (Q:VK3):neR (.str i) (.str j) μ Q=Q (.bl (!decide (i=j))) μ:=rfl
theorem neR_bb (i j:Bool) (μ:Mu) (Q:VK3):neR (.bl i) (.bl j) μ Q=Q (.bl (!decide (i=j))) μ:=rfl
theorem wn2 {x y:D} {μ:Mu} {Q:VK3} {p q:PyData} (e:eqS x y=none) (h1:datM μ x=some p) (h2:datM μ y=some q) (d1:p.depth<=64) (d2:q.depth<=64):eqR x y μ Q=Q (.bl (PyData.eqv p q)) μ:=by
 unfold eqR; rw [e]; simp only [h1,h2,d1,d2,true_and,and_self]
theorem so1 {x y:D} {μ:Mu} {Q:VK3} {p q:PyData} (e:eqS x y=none) (h1:datM μ x=some p) (h2:datM μ y=some q) (d1:p.depth<=64) (d2:q.depth<=64):neR x y μ Q=Q (.bl (!PyData.eqv p q)) μ:=by
 unfold neR; rw [e]; simp only [h1,h2,d1,d2,true_and,and_self]
noncomputable def strs?:List D->Option (List Str)
 | []=>some []
 | .str x :: r=>match strs? r with
  | some l=>some (x :: l)
  | none=>none
 | _ :: _=>none
noncomputable def inD (neg:Bool):R3:=λ x y μ Q=>match datM μ x,datM μ y with
 | some d,some (.list xs)=>(d.depth<=64 /\ (PyData.list xs).depth<=64) /\ Q (.bl (if neg then !(xs.any λ e=>PyData.eqv e d) else xs.any λ e=>PyData.eqv e d)) μ
 | some d,some (.tuple xs)=>(d.depth<=64 /\ (PyData.tuple xs).depth<=64) /\ Q (.bl (if neg then !(xs.any λ e=>PyData.eqv e d) else xs.any λ e=>PyData.eqv e d)) μ
 | _,_=>False
noncomputable def inR (neg:Bool):R3:=λ x y μ Q=>match x,y with
 | .str z,.tup l=>match strs? l with
  | some zs=>Q (.bl (if neg then !zs.contains z else zs.contains z)) μ
  | none=>inD neg (.str z) (.tup l) μ Q
 | .str z,.ktp l=>match strs? l with
  | some zs=>Q (.bl (if neg then !zs.contains z else zs.contains z)) μ
  | none=>inD neg (.str z) (.ktp l) μ Q
 | .str z,.str y=>Q (.bl (if neg then !(!(Builtin.Str.occurrences y z 0 y.length 1).isEmpty) else !(Builtin.Str.occurrences y z 0 y.length 1).isEmpty)) μ
 | x,y=>inD neg x y μ Q
noncomputable def ixR:R3:=λ x y μ Q=>match x,y with
 | .tup l,.int i=>match atI l i with
  | some d=>Q d μ
  | none=>False
 | .ktp l,.int i=>match atI l i with
  | some d=>Q d μ
  | none=>False
 | .fls l,.int i=>match atI l i with
  | some d=>Q d μ
  | none=>False
 | .ref p,.int i=>match μ p with
  | some (.lst l)=>match atI l i with
   | some d=>Q d μ
   | none=>False
  | _=>False
 | _,_=>False
noncomputable def lenR:C3:=λ ds μ Q=>match ds with
 | [.tup l]=>Q (.int l.length) μ
 | [.fls l]=>Q (.int l.length) μ
 | [.str z]=>z.length<=sizeLine /\ Q (.int z.length) μ
 | [.ref p]=>match μ p with
  | some (.lst l)=>Q (.int l.length) μ
  | _=>False
 | _=>False
noncomputable def absR:C3:=λ ds μ Q=>match ds with
 | [.int i]=>Q (.int (if i < 0 then -i else i)) μ
 | _=>False
noncomputable def intR:C3:=λ ds μ Q=>match ds with
 | [.int i]=>Q (.int i) μ
 | [.bl b]=>Q (.int (if b then 1 else 0)) μ
 | [.str z]=>match PySem.intText? z with
  | some n=>z.length<=640 /\ Q (.int n) μ
  | none=>False
 | _=>False
noncomputable def strR:C3:=λ ds μ Q=>match ds with
 | [.int i]=>i.natAbs.log2 < 1920 /\ Q (.str (toString i)) μ
 | _=>False
noncomputable def smt3 (r:Str->List D->Mu->VK3->Prop) (to:TE3) (t:TA3):TE3:=λ ρ μ Q=>to ρ μ λ x μ1=>match x with
 | .str z=>t ρ μ1 λ ds μ2=>r z ds μ2 Q
 | _=>False
noncomputable def joinR:Str->List D->Mu->VK3->Prop:=λ z ds μ Q=>match ds with
 | [.ref p]=>match μ p with
  | some (.lst l)=>match strs? l with
   | some ys=>(z.length<=16 /\ (ys.map (·.length)).sum + ys.length<=1048576) /\ Q (.str (Str.join z ys)) μ
   | none=>False
  | _=>False
 | _=>False
noncomputable def splitR:Str->List D->Mu->VK3->Prop:=λ z ds μ Q=>match ds with
 | [.str y]=>((y.length == 0)=false /\ z.length<=1000000) /\ ∀ r,μ r=none->Q (.ref r) (updM μ r (.lst ((Txt.split z y).map D.str)))
 | _=>False
noncomputable def startsR:Str->List D->Mu->VK3->Prop:=λ z ds μ Q=>match ds with
 | [.str y]=>Q (.bl (Txt.startswith z y)) μ
 | _=>False
noncomputable def pop3 (to:TE3):TE3:=λ ρ μ Q=>to ρ μ λ x μ1=>match x with
 | .ref p=>match μ1 p with
  | some (.lst l)=>match l.reverse with
   | d :: r=>Q d (updM μ1 p (.lst r.reverse))
   | []=>False
  | _=>False
 | _=>False
noncomputable def lrev3 (to:TE3):TE3:=λ ρ μ Q=>cons3 to nil3 ρ μ λ ds μ1=>match ds with
 | [.ref p]=>match μ1 p with
  | some (.lst l)=>∀ r,μ1 r=none->Q (.ref r) (updM μ1 r (.lst l.reverse))
  | _=>False
 | _=>False
noncomputable def tupR:C3:=λ ds μ Q=>match ds with
 | [.tup l]=>Q (.tup l) μ
 | [.ref p]=>match μ p with
  | some (.lst l)=>Q (.tup l) μ
  | _=>False
 | _=>False
noncomputable def ints?:List D->Option (List Int)
 | []=>some []
 | .int x :: r=>match ints? r with
  | some l=>some (x :: l)
  | none=>none
 | _ :: _=>none
noncomputable def sumR:C3:=λ ds μ Q=>match ds with
 | [.ref p]=>match μ p with
  | some (.lst l)=>match ints? l with
   | some ns=>Q (.int ns.sum) μ
   | none=>False
  | _=>False
 | _=>False
noncomputable def bls?:List D->Option (List Bool)
 | []=>some []
 | .bl x :: r=>match bls? r with
  | some l=>some (x :: l)
  | none=>none
 | _ :: _=>none
noncomputable def allR:C3:=λ ds μ Q=>match ds with
 | [.ref p]=>match μ p with
  | some (.lst l)=>match bls? l with
   | some bs=>Q (.bl (bs.all id)) μ
   | none=>False
  | _=>False
 | _=>False
noncomputable def tyN (μ:Mu):D->Option String
 | .int _=>some "int"
 | .bl _=>some "bool"
 | .str _=>some "str"
 | .tup _=>some "tuple"
 | .non=>some "NoneType"
 | .ref p=>match μ p with
  | some (.lst _)=>some "list"
  | _=>none
 | _=>none
noncomputable def isIn (t T:String):Option Bool :=
 if t=T then some true
 else if t = "bool" /\ T = "int" then some true
 else if (t = "int" \/ t = "str" \/ t = "tuple" \/ t = "bool" \/ t = "NoneType" \/ t = "list") /\ (T = "int" \/ T = "str" \/ T = "tuple" \/ T = "bool" \/ T = "list") then some false
 else none
noncomputable def isiR:C3:=λ ds μ Q=>match ds with
 | [d,.ty T]=>match tyN μ d with
  | some t=>match isIn t T with
   | some b=>Q (.bl b) μ
   | none=>False
  | none=>False
 | _=>False
noncomputable def appR:D->List D->Mu->VK3->Prop:=λ x ds μ Q=>match x,ds with
 | .ref p,[d]=>match μ p with
  | some (.lst l)=>l.length < sizeLine /\ Q .non (updM μ p (.lst (l ++ [d])))
  | _=>False
 | _,_=>False
noncomputable def extR:D->List D->Mu->VK3->Prop:=λ x ds μ Q=>match x,ds with
 | .ref p,[.ref q]=>match μ p,μ q with
  | some (.lst l),some (.lst m)=>l.length + m.length<=sizeLine /\ Q .non (updM μ p (.lst (l ++ m)))
  | _,_=>False
 | _,_=>False
theorem atI0 {α:Type} {a:α} {r:List α}:atI (a :: r) 0=some a:=by
 unfold atI ixN; rw [if_pos (by decide),if_pos (by simp only [List.length_cons]; omega)]; rfl
theorem atI1 {α:Type} {a b:α} {r:List α}:atI (a :: b :: r) 1=some b:=by
 unfold atI ixN; rw [if_pos (by decide),if_pos (by simp only [List.length_cons]; omega)]; rfl
theorem atI2 {α:Type} {a b c:α} {r:List α}:atI (a :: b :: c :: r) 2=some c:=by
 unfold atI ixN; rw [if_pos (by decide),if_pos (by simp only [List.length_cons]; omega)]; rfl
theorem ixN0 {n:Nat}:ixN (n + 1) 0=some 0:=by
 unfold ixN; rw [if_pos (by decide),if_pos (by omega)]; rfl
theorem ixN1 {n:Nat}:ixN (n + 1 + 1) 1=some 1:=by
 unfold ixN; rw [if_pos (by decide),if_pos (by omega)]; rfl
theorem ixN2 {n:Nat}:ixN (n + 1 + 1 + 1) 2=some 2:=by
 unfold ixN; rw [if_pos (by decide),if_pos (by omega)]; rfl
theorem ve2 {α:Type} {l:List α} {i:Int} (h0:0<=i) (h1:i < l.length):∃ d,d ∈ l /\ atI l i=some d:=by
 have hn:i.toNat < l.length:=by omega
 refine ⟨l[i.toNat],List.getElem_mem hn,?_⟩
 unfold atI ixN
 rw [if_pos h0,if_pos h1]
 exact List.getElem?_eq_getElem hn
noncomputable def start3 (N:List Str) (ds:List D):St3:=ds.map some ++ List.replicate (N.length - ds.length) none
noncomputable def xl1 (c:TT3) (tb:TS3):TS3:=λ D ρ μ=>∃ W:Nat->St3->Mu->Prop,(∃ m,W m ρ μ) /\ ∀ m ρ μ,W m ρ μ ->
 c ρ μ λ b μ1=>if b=true then ∃ N:St3->Mu->Prop,(∀ ρ' μ',N ρ' μ'->∃ m',m' < m /\ W m' ρ' μ') /\ tb { D with nx:=N,ct:=N,bk:=D.nx } ρ μ1 else D.nx ρ μ1
end Pv
namespace Pv
open PySem L2
noncomputable abbrev Fg:=PySem.W.Frag
structure Kp (H H':Hp):Prop where
 tup:∀ b xs,H b=some (.tup xs)->H' b=some (.tup xs)
 frz:∀ b o u,H b=some (.frz o u)->H' b=some (.frz o u)
theorem Kp.refl (H:Hp):Kp H H:=⟨λ _ _ h=>h,λ _ _ _ h=>h⟩
theorem Kp.trans {a b c:Hp} (h:Kp a b) (k:Kp b c):Kp a c:=⟨λ x xs q=>k.tup x xs (h.tup x xs q),λ x o u q=>k.frz x o u (h.frz x o u q)⟩
theorem Kp.new {H:Hp} {p:Addr} {o:HO} (h:H p=none):Kp H (upd H p o) :=
 ⟨λ b xs q=>by rw [vc0 (tf0 q h)]; exact q,λ b o u q=>by rw [vc0 (tf0 q h)]; exact q⟩
theorem Kp.wr {H:Hp} {p:Addr} {o:HO} {xs:List V} (h:H p=some (.lst xs)):Kp H (upd H p o) :=
 ⟨λ b ys q=>by rw [vc0 (zf3 q h (by intro z; cases z))]; exact q,λ b o u q=>by rw [vc0 (zf3 q h (by intro z; cases z))]; exact q⟩
noncomputable def SqF (K:Fg) (H:Hp) (a:Addr) (xs:List V):Prop :=
 (∃ o,H a=some (.frz o (.lst xs))) \/ ∃ (o:Obj) (its:Array Value) (n:Nat),K.lookup a=some o /\ o.cls=.type "list" /\ o.dict=none /\ o.data=.seq its n /\ its.size<=sizeLine /\ Vals xs its.toList
theorem SqF.l {K:Fg} {H:Hp} {a:Addr} {xs:List V} (h:SqF K H a xs):SqL K H a xs:=by
 rcases h with ⟨o,h⟩ | h
 ·exact .inl (.inr ⟨o,h⟩)
 ·exact .inr h
theorem SqF.mono {K:Fg} {H H':Hp} {a:Addr} {xs:List V} (k:Kp H H') (h:SqF K H a xs):SqF K H' a xs:=by
 rcases h with ⟨o,h⟩ | h
 ·exact .inl ⟨o,k.frz _ _ _ h⟩
 ·exact .inr h
theorem SqT.mono {K:Fg} {H H':Hp} {a:Addr} {xs:List V} (k:Kp H H') (h:SqT K H a xs):SqT K H' a xs:=by
 rcases h with h | h
 ·rcases h with h | ⟨o,h⟩
  ·exact .inl (.inl (k.tup _ _ h))
  ·exact .inl (.inr ⟨o,k.frz _ _ _ h⟩)
 ·exact .inr h
mutual
inductive RelD (K:Fg) (H:Hp):D->V->Prop where
 | non:RelD K H .non .non
 | bl (b:Bool):RelD K H (.bl b) (.bl b)
 | int (i:Int):RelD K H (.int i) (.int i)
 | str (x:Str):RelD K H (.str x) (.str x)
 | ref (a:Addr):RelD K H (.ref a) (.ref a)
 | ty (n:String):RelD K H (.ty n) (.ty n)
 | tup {a:Addr} {l:List D} {vs:List V}:H a=some (.tup vs)->RelDs K H l vs->RelD K H (.tup l) (.ref a)
 | ktp {a:Addr} {l:List D} {vs:List V}:SqT K H a vs->RelDs K H l vs->RelD K H (.ktp l) (.ref a)
 | fls {a:Addr} {l:List D} {vs:List V}:SqF K H a vs->RelDs K H l vs->RelD K H (.fls l) (.ref a)
 | exc {a C:Addr} {c:Str} {ob:Obj} {u:HO}:H a=some (.frz ob u)->ob.cls=.ref C->PySem.W.nsIn K mainGlobals c=some (some (.ref C))->RelD K H (.exc c) (.ref a)
inductive RelDs (K:Fg) (H:Hp):List D->List V->Prop where
 | nil:RelDs K H [] []
 | cons {d:D} {v:V} {l:List D} {vs:List V}:RelD K H d v->RelDs K H l vs->RelDs K H (d :: l) (v :: vs)
end
mutual
theorem RelD.mono {K:Fg} {H H':Hp} (k:Kp H H'):∀ {d:D} {v:V},RelD K H d v->RelD K H' d v
 | _,_,.non=>.non
 | _,_,.bl b=>.bl b
 | _,_,.int b=>.int b
 | _,_,.str b=>.str b
 | _,_,.ref b=>.ref b
 | _,_,.ty b=>.ty b
 | _,_,.tup h r=>.tup (k.tup _ _ h) (RelDs.mono k r)
 | _,_,.ktp h r=>.ktp (SqT.mono k h) (RelDs.mono k r)
 | _,_,.fls h r=>.fls (SqF.mono k h) (RelDs.mono k r)
 | _,_,.exc h r1 r2=>.exc (k.frz _ _ _ h) r1 r2
theorem RelDs.mono {K:Fg} {H H':Hp} (k:Kp H H'):∀ {d:List D} {v:List V},RelDs K H d v->RelDs K H' d v
 | _,_,.nil=>.nil
 | _,_,.cons h r=>.cons (RelD.mono k h) (RelDs.mono k r)
end
theorem RelDs.length {K:Fg} {H:Hp}:∀ {l:List D} {vs:List V},RelDs K H l vs->l.length=vs.length
 | _,_,.nil=>rfl
 | _,_,.cons _ r=>congrArg (· + 1) r.length
theorem RelDs.get {K:Fg} {H:Hp}:∀ {l:List D} {vs:List V} {i:Nat} {d:D},RelDs K H l vs->l[i]?=some d->∃ v,vs[i]?=some v /\ RelD K H d v
 | _,_,_,_,.nil,e=>by simp at e
 | _,_,0,_,.cons h _,e=>by simp at e; subst e; exact ⟨_,rfl,h⟩
 | _,_,i + 1,d,.cons _ r,e=>by
  obtain ⟨v,h1,h2⟩:=RelDs.get (i:=i) (d:=d) r (by simpa using e)
  exact ⟨v,by simpa using h1,h2⟩
theorem RelDs.append {K:Fg} {H:Hp}:∀ {l m:List D} {vs us:List V},RelDs K H l vs->RelDs K H m us->RelDs K H (l ++ m) (vs ++ us)
 | _,_,_,_,.nil,q=>q
 | _,_,_,_,.cons h r,q=>.cons h (RelDs.append r q)
theorem RelDs.set {K:Fg} {H:Hp} {d:D} {v:V} (hd:RelD K H d v):∀ {l:List D} {vs:List V} (i:Nat),RelDs K H l vs->RelDs K H (l.set i d) (vs.set i v)
 | _,_,_,.nil=>.nil
 | _,_,0,.cons _ r=>.cons hd r
 | _,_,i + 1,.cons h r=>.cons h (RelDs.set hd i r)
theorem RelDs.take {K:Fg} {H:Hp}:∀ {l:List D} {vs:List V} (n:Nat),RelDs K H l vs->RelDs K H (l.take n) (vs.take n)
 | _,_,0,r=>by simp only [List.take_zero]; exact .nil
 | _,_,n + 1,.nil=>by simp only [List.take_nil]; exact .nil
 | _,_,n + 1,.cons h r=>by simp only [List.take_succ_cons]; exact .cons h (RelDs.take n r)
theorem RelDs.drop {K:Fg} {H:Hp}:∀ {l:List D} {vs:List V} (n:Nat),RelDs K H l vs->RelDs K H (l.drop n) (vs.drop n)
 | _,_,0,r=>by simp only [List.drop_zero]; exact r
 | _,_,n + 1,.nil=>by simp only [List.drop_nil]; exact .nil
 | _,_,n + 1,.cons h r=>by simp only [List.drop_succ_cons]; exact RelDs.drop n r
theorem RelDs.rep {K:Fg} {H:Hp} {l:List D} {vs:List V} (r:RelDs K H l vs):∀ k:Nat,RelDs K H (List.replicate k l).flatten (List.replicate k vs).flatten
 | 0=>.nil
 | k + 1=>by rw [List.replicate_succ,List.replicate_succ,List.flatten_cons,List.flatten_cons]; exact r.append (RelDs.rep r k)
inductive RelFs (K:Fg) (H:Hp):List (Str × D)->List (Str × V)->Prop where
 | nil:RelFs K H [] []
 | cons {f:Str} {d:D} {v:V} {l:List (Str × D)} {vs:List (Str × V)}:RelD K H d v->RelFs K H l vs->RelFs K H ((f,d) :: l) ((f,v) :: vs)
theorem RelFs.mono {K:Fg} {H H':Hp} (k:Kp H H') {l:List (Str × D)} {vs:List (Str × V)} (r:RelFs K H l vs):RelFs K H' l vs:=by
 induction r with
 | nil=>exact .nil
 | cons h _ ih=>exact .cons (h.mono k) ih
noncomputable def kT (t:Int × Int × Int):List Key:=[.inl t.1,.inl t.2.1,.inl t.2.2]
inductive RelKs (K:Fg) (H:Hp):List ((Int × Int × Int) × D)->List (List Key × V)->Prop where
 | nil:RelKs K H [] []
 | cons {t:Int × Int × Int} {d:D} {v:V} {l:List ((Int × Int × Int) × D)} {vs:List (List Key × V)}:RelD K H d v->RelKs K H l vs->RelKs K H ((t,d) :: l) ((kT t,v) :: vs)
theorem RelKs.mono {K:Fg} {H H':Hp} (k:Kp H H') {l:List ((Int × Int × Int) × D)} {vs:List (List Key × V)} (r:RelKs K H l vs):RelKs K H' l vs:=by
 induction r with
 | nil=>exact .nil
 | cons h _ ih=>exact .cons (h.mono k) ih
noncomputable def kL (k:List Int):List Key:=k.map Sum.inl
inductive RelKl (K:Fg) (H:Hp):List (List Int × D)->List (List Key × V)->Prop where
 | nil:RelKl K H [] []
 | cons {t:List Int} {d:D} {v:V} {l:List (List Int × D)} {vs:List (List Key × V)}:RelD K H d v->RelKl K H l vs->RelKl K H ((t,d) :: l) ((kL t,v) :: vs)
theorem RelKl.mono {K:Fg} {H H':Hp} (k:Kp H H') {l:List (List Int × D)} {vs:List (List Key × V)} (r:RelKl K H l vs):RelKl K H' l vs:=by
 induction r with
 | nil=>exact .nil
 | cons h _ ih=>exact .cons (h.mono k) ih
inductive RelKk (K:Fg) (H:Hp):List (Key × D)->List (Key × V)->Prop where
 | nil:RelKk K H [] []
 | cons {t:Key} {d:D} {v:V} {l:List (Key × D)} {vs:List (Key × V)}:RelD K H d v->RelKk K H l vs->RelKk K H ((t,d) :: l) ((t,v) :: vs)
theorem RelKk.mono {K:Fg} {H H':Hp} (k:Kp H H') {l:List (Key × D)} {vs:List (Key × V)} (r:RelKk K H l vs):RelKk K H' l vs:=by
 induction r with
 | nil=>exact .nil
 | cons h _ ih=>exact .cons (h.mono k) ih
structure RelM (K:Fg) (μ:Mu) (H:Hp):Prop where
 lst:∀ p xs,μ p=some (.lst xs)->∃ vs,H p=some (.lst vs) /\ RelDs K H xs vs
 ins:∀ p c fs,μ p=some (.ins c fs)->∃ C dx vs,PySem.W.nsIn K mainGlobals c=some (some (.ref C)) /\ H p=some (.ins C dx vs) /\ H dx=some (.own p) /\ RelFs K H fs vs
 dct:∀ p kvs,μ p=some (.dct kvs)->∃ vs,H p=some (.dT vs) /\ RelKs K H kvs vs
 dcl:∀ p kvs,μ p=some (.dcl kvs)->∃ vs,H p=some (.dT vs) /\ RelKl K H kvs vs
 dck:∀ p kvs,μ p=some (.dck kvs)->∃ vs,H p=some (.dK vs) /\ RelKk K H kvs vs
instance {K:Fg} {μ:Mu} {H:Hp}:CoeFun (RelM K μ H) (λ _=>∀ p xs,μ p=some (.lst xs)->∃ vs,H p=some (.lst vs) /\ RelDs K H xs vs):=⟨RelM.lst⟩
theorem RelM.free {K:Fg} {μ:Mu} {H:Hp} (m:RelM K μ H) {p:Addr} (h:H p=none):μ p=none:=by
 cases e:μ p with
 | none=>rfl
 | some o =>
  cases o with
  | lst xs =>
   obtain ⟨vs,q,_⟩:=m.lst p xs e
   rw [h] at q; cases q
  | ins c fs =>
   obtain ⟨C,dx,vs,_,q,_⟩:=m.ins p c fs e
   rw [h] at q; cases q
  | dct kvs =>
   obtain ⟨vs,q,_⟩:=m.dct p kvs e
   rw [h] at q; cases q
  | dcl kvs =>
   obtain ⟨vs,q,_⟩:=m.dcl p kvs e
   rw [h] at q; cases q
  | dck kvs =>
   obtain ⟨vs,q,_⟩:=m.dck p kvs e
   rw [h] at q; cases q
theorem RelM.newT {K:Fg} {μ:Mu} {H:Hp} {p:Addr} {o:HO} (h:H p=none) (m:RelM K μ H):RelM K μ (upd H p o):=by
 have ne:∀ {q:Addr} {u:HO},H q=some u->q ≠ p:=λ {q u} e z=>by subst z; rw [h] at e; cases e
 refine ⟨λ q xs e=>?_,λ q c fs e=>?_,λ q kvs e=>?_,λ q kvs e=>?_,λ q kvs e=>?_⟩
 ·obtain ⟨vs,q1,r⟩:=m.lst q xs e
  exact ⟨vs,by rw [vc0 (ne q1)]; exact q1,r.mono (Kp.new h)⟩
 ·obtain ⟨C,dx,vs,n,q1,q2,r⟩:=m.ins q c fs e
  exact ⟨C,dx,vs,n,by rw [vc0 (ne q1)]; exact q1,by rw [vc0 (ne q2)]; exact q2,r.mono (Kp.new h)⟩
 ·obtain ⟨vs,q1,r⟩:=m.dct q kvs e
  exact ⟨vs,by rw [vc0 (ne q1)]; exact q1,r.mono (Kp.new h)⟩
 ·obtain ⟨vs,q1,r⟩:=m.dcl q kvs e
  exact ⟨vs,by rw [vc0 (ne q1)]; exact q1,r.mono (Kp.new h)⟩
 ·obtain ⟨vs,q1,r⟩:=m.dck q kvs e
  exact ⟨vs,by rw [vc0 (ne q1)]; exact q1,r.mono (Kp.new h)⟩
theorem RelM.newL {K:Fg} {μ:Mu} {H:Hp} {p:Addr} {xs:List D} {vs:List V} (h:H p=none) (r:RelDs K H xs vs) (m:RelM K μ H):RelM K (updM μ p (.lst xs)) (upd H p (.lst vs)):=by
 have m':=m.newT (o:=.lst vs) h
 refine ⟨λ q ys e=>?_,λ q c fs e=>?_,λ q kvs e=>?_,λ q kvs e=>?_,λ q kvs e=>?_⟩
 ·by_cases z:q=p
  ·subst z
   rw [za0] at e; cases e
   exact ⟨vs,xf0,r.mono (Kp.new h)⟩
  ·rw [xb0 z] at e
   exact m'.lst q ys e
 ·by_cases z:q=p
  ·subst z
   rw [za0] at e; cases e
  ·rw [xb0 z] at e
   exact m'.ins q c fs e
 ·by_cases z:q=p
  ·subst z
   rw [za0] at e; cases e
  ·rw [xb0 z] at e
   exact m'.dct q kvs e
 ·by_cases z:q=p
  ·subst z
   rw [za0] at e; cases e
  ·rw [xb0 z] at e
   exact m'.dcl q kvs e
 ·by_cases z:q=p
  ·subst z
   rw [za0] at e; cases e
  ·rw [xb0 z] at e
   exact m'.dck q kvs e
theorem RelM.wr {K:Fg} {μ:Mu} {H:Hp} {p:Addr} {xs:List D} {vs ws:List V} (h:H p=some (.lst ws)) (r:RelDs K H xs vs) (m:RelM K μ H):RelM K (updM μ p (.lst xs)) (upd H p (.lst vs)):=by
 refine ⟨λ q ys e=>?_,λ q c fs e=>?_,λ q kvs e=>?_,λ q kvs e=>?_,λ q kvs e=>?_⟩
 ·by_cases z:q=p
  ·subst z
   rw [za0] at e; cases e
   exact ⟨vs,xf0,r.mono (Kp.wr h)⟩
  ·rw [xb0 z] at e
   rw [vc0 z]
   obtain ⟨us,q1,r1⟩:=m.lst q ys e
   exact ⟨us,q1,r1.mono (Kp.wr h)⟩
 ·by_cases z:q=p
  ·subst z
   rw [za0] at e; cases e
  ·rw [xb0 z] at e
   obtain ⟨C,dx,us,n,q1,q2,r1⟩:=m.ins q c fs e
   refine ⟨C,dx,us,n,by rw [vc0 z]; exact q1,?_,r1.mono (Kp.wr h)⟩
   rw [vc0]
   ·exact q2
   ·intro y; subst y; rw [h] at q2; cases q2
 ·by_cases z:q=p
  ·subst z
   rw [za0] at e; cases e
  ·rw [xb0 z] at e
   rw [vc0 z]
   obtain ⟨us,q1,r1⟩:=m.dct q kvs e
   exact ⟨us,q1,r1.mono (Kp.wr h)⟩
 ·by_cases z:q=p
  ·subst z
   rw [za0] at e; cases e
  ·rw [xb0 z] at e
   rw [vc0 z]
   obtain ⟨us,q1,r1⟩:=m.dcl q kvs e
   exact ⟨us,q1,r1.mono (Kp.wr h)⟩
 ·by_cases z:q=p
  ·subst z
   rw [za0] at e; cases e
  ·rw [xb0 z] at e
   rw [vc0 z]
   obtain ⟨us,q1,r1⟩:=m.dck q kvs e
   exact ⟨us,q1,r1.mono (Kp.wr h)⟩
structure RSt (K:Fg) (H:Hp) (ρ:St3) (σ:St):Prop where
 len:ρ.length=σ.length
 at':∀ i d,getI ρ i=some d->∃ v,σ[i]?=some (some v) /\ RelD K H d v
theorem RSt.mono {K:Fg} {H H':Hp} {ρ:St3} {σ:St} (k:Kp H H') (s:RSt K H ρ σ):RSt K H' ρ σ:=⟨s.len,λ i d e=>let ⟨v,h,r⟩:=s.at' i d e; ⟨v,h,r.mono k⟩⟩
theorem ww0:∀ (ρ:St3) (i j:Nat) (d:Option D),getI (ρ.set i d) j=if i=j /\ i < ρ.length then d else getI ρ j
 | [],i,j,d=>by simp [getI]
 | o :: r,0,0,d=>by simp [getI]
 | o :: r,0,j + 1,d=>by simp [getI]
 | o :: r,i + 1,0,d=>by simp [getI]
 | o :: r,i + 1,j + 1,d=>by simp only [List.set_cons_succ,getI,ww0 r i j d,List.length_cons]; simp
theorem RSt.set {K:Fg} {H:Hp} {ρ:St3} {σ:St} {d:D} {v:V} (i:Nat) (r:RelD K H d v) (s:RSt K H ρ σ):RSt K H (ρ.set i (some d)) (σ.set i (some v)):=by
 refine ⟨by simp [s.len],λ j e h=>?_⟩
 rw [ww0] at h
 split at h
 ·next c =>
  obtain ⟨rfl,c2⟩:=c
  cases h
  exact ⟨v,by rw [List.getElem?_set_self (by rw [<- s.len]; exact c2)],r⟩
 ·next c =>
  obtain ⟨u,q,r'⟩:=s.at' j e h
  have hj:j < σ.length:=(List.getElem?_eq_some_iff.mp q).1
  by_cases z:i=j
  ·subst z; exact absurd ⟨rfl,by rw [s.len]; exact hj⟩ c
  ·exact ⟨u,by rw [List.getElem?_set_ne z]; exact q,r'⟩
theorem RSt.start {K:Fg} {H:Hp} {ds:List D} {vs:List V} (N:List Str) (r:RelDs K H ds vs):RSt K H (start3 N ds) (L2.start N vs):=by
 have hl:=r.length
 refine ⟨by simp [start3,L2.start,hl],λ i d e=>?_⟩
 rw [uc1] at e
 unfold start3 at e
 unfold L2.start
 by_cases c:i < ds.length
 ·rw [List.getElem?_append_left (by simpa using c),List.getElem?_map] at e
  cases q:ds[i]? with
  | none=>rw [q] at e; cases e
  | some d' =>
   rw [q] at e
   have e':d'=d:=by simpa using e
   subst e'
   obtain ⟨v,h1,h2⟩:=r.get q
   exact ⟨v,by rw [List.getElem?_append_left (by rw [List.length_map]; omega),List.getElem?_map,h1]; rfl,h2⟩
 ·rw [List.getElem?_append_right (by simpa using c),List.getElem?_replicate] at e
  split at e <;> simp at e
noncomputable abbrev Ks (K:Fg) (H:Hp) (Q3:VK3) (Q:VK):Prop:=∀ d μ' v H',Q3 d μ'->Kp H H'->RelD K H' d v->RelM K μ' H'->Q v H'
theorem Ks.after {K:Fg} {H H1:Hp} {Q3:VK3} {Q:VK} (k:Ks K H Q3 Q) (e:Kp H H1):Ks K H1 Q3 Q:=λ d μ v H' q e'=>k d μ v H' q (e.trans e')
noncomputable def RdE (K:Fg) (tv:TE) (t:TE3):Prop:=∀ σ H Q ρ μ Q3,RSt K H ρ σ->RelM K μ H->t ρ μ Q3->Ks K H Q3 Q->tv σ H Q
noncomputable def RE (X:Cx) (e:Expr) (t:TE3):Prop:=∃ tv,PE X e tv /\ RdE X.K tv t
noncomputable def RdT (K:Fg) (tv:TT) (t:TT3):Prop:=∀ σ H Q ρ μ Q3,RSt K H ρ σ->RelM K μ H->t ρ μ Q3->(∀ b μ' H',Q3 b μ'->Kp H H'->RelM K μ' H'->Q b H')->tv σ H Q
noncomputable def RT (X:Cx) (e:Expr) (t:TT3):Prop:=∃ tv,PT X e tv /\ RdT X.K tv t
noncomputable def RW (X:Cx) (e:Expr) (t:TT3):Prop:=∃ tv,PW X e tv /\ RdT X.K tv t
noncomputable def RdA (K:Fg) (tv:TA) (t:TA3):Prop:=∀ σ H Q ρ μ Q3,RSt K H ρ σ->RelM K μ H->t ρ μ Q3->(∀ ds μ' vs H',Q3 ds μ'->Kp H H'->RelDs K H' ds vs->RelM K μ' H'->Q vs H')->tv σ H Q
noncomputable def RA (X:Cx) (es:List Expr) (t:TA3):Prop:=∃ tv,PA X es tv /\ RdA X.K tv t
structure KsD (K:Fg) (H:Hp) (D3:Ends3) (D:Ends):Prop where
 nx:∀ ρ μ σ H',D3.nx ρ μ->Kp H H'->RSt K H' ρ σ->RelM K μ H'->D.nx σ H'
 bk:∀ ρ μ σ H',D3.bk ρ μ->Kp H H'->RSt K H' ρ σ->RelM K μ H'->D.bk σ H'
 ct:∀ ρ μ σ H',D3.ct ρ μ->Kp H H'->RSt K H' ρ σ->RelM K μ H'->D.ct σ H'
 rt:Ks K H D3.rt D.rt
theorem KsD.after {K:Fg} {H H1:Hp} {D3:Ends3} {D:Ends} (k:KsD K H D3 D) (e:Kp H H1):KsD K H1 D3 D :=
 ⟨λ ρ μ σ H' q e'=>k.nx ρ μ σ H' q (e.trans e'),λ ρ μ σ H' q e'=>k.bk ρ μ σ H' q (e.trans e'),λ ρ μ σ H' q e'=>k.ct ρ μ σ H' q (e.trans e'),k.rt.after e⟩
noncomputable def RdS (K:Fg) (tv:TS) (t:TS3):Prop:=∀ σ H D ρ μ D3,RSt K H ρ σ->RelM K μ H->t D3 ρ μ->KsD K H D3 D->tv D σ H
noncomputable def RS (X:Cx) (st:Stmt) (t:TS3):Prop:=∃ tv,PS X st tv /\ RdS X.K tv t
noncomputable def RSs (X:Cx) (st:List Stmt) (t:TS3):Prop:=∃ tv,PSs X st tv /\ RdS X.K tv t
noncomputable def RdG (K:Fg) (tv:TG) (t:TG3):Prop:=∀ v d σ H Q ρ μ Q3,RSt K H ρ σ->RelM K μ H->RelD K H d v->t d ρ μ Q3->(∀ ρ' μ' σ' H',Q3 ρ' μ'->Kp H H'->RSt K H' ρ' σ'->RelM K μ' H'->Q σ' H')->tv v σ H Q
noncomputable def RG (X:Cx) (e:Expr) (t:TG3):Prop:=∃ tv,PG X e tv /\ RdG X.K tv t
noncomputable def RdO (K:Fg) (r:R2) (r3:R3):Prop:=∀ x y v u H Q μ Q3,RelM K μ H->RelD K H x v->RelD K H y u->r3 x y μ Q3->Ks K H Q3 Q->r v u H Q
noncomputable def RO (X:Cx) (f:Value->Value->Sem Value) (r3:R3):Prop:=∃ r,OpR X f r /\ RdO X.K r r3
noncomputable def RdU (K:Fg) (r:V->Hp->VK->Prop) (r3:D->Mu->VK3->Prop):Prop:=∀ x v H Q μ Q3,RelM K μ H->RelD K H x v->r3 x μ Q3->Ks K H Q3 Q->r v H Q
noncomputable def RU (X:Cx) (f:Value->Sem Value) (r3:D->Mu->VK3->Prop):Prop:=∃ r,UnR X f r /\ RdU X.K r r3
noncomputable def RdC (K:Fg) (r:List V->Hp->VK->Prop) (r3:C3):Prop:=∀ xs vs H Q μ Q3,RelM K μ H->RelDs K H xs vs->r3 xs μ Q3->Ks K H Q3 Q->r vs H Q
noncomputable def RC (X:Cx) (f:Value) (r3:C3):Prop:=∃ r,CallR X f r /\ RdC X.K r r3
noncomputable def RX (X:Cx) (r3:R3):Prop:=∃ r,IxR X r /\ RdO X.K r r3
end Pv
namespace Pv
open PySem L2
section
variable {X:Cx} {a b c e:Expr} {ta tb tc te:TE3} {pos:Pos}
theorem ya0 (i:Nat) {x:Str} (hN:X.N[i]?=some x:=by rfl) (hv:Vis X.env.scope x:=by first | exact Or.inl rfl | exact Or.inr (Or.inl rfl) | exact Or.inr (Or.inr rfl)) (hd:(x == ("__debug__" : Str))=false:=by decide)
    (hcd:(x == ("__classdict__" : Str))=false:=by decide):RE X (.Name x pos) (v3 i):=by
 refine ⟨_,yc3 hN hv hd hcd,λ σ H Q ρ μ Q3 s m h k=>?_⟩
 unfold v3 at h
 cases q:getI ρ i with
 | none=>rw [q] at h; exact h.elim
 | some d =>
  rw [q] at h
  obtain ⟨v,e,r⟩:=s.at' i d q
  exact ⟨v,e,k d μ v H h (Kp.refl H) r m⟩
theorem RdE.cst {K:Fg} {d:D} {v:V} (r:∀ H,RelD K H d v):RdE K (tC v) (c3 d):=λ σ H Q ρ μ Q3 s m h k=>k d μ v H h (Kp.refl H) (r H) m
theorem ta0 {i:Int} {j}:RE X (.Constant (.int i) j pos) (c3 (.int i)):=⟨_,xd3,RdE.cst λ _=>.int i⟩
theorem vb1 {i:Bool} {j}:RE X (.Constant (.bool i) j pos) (c3 (.bl i)):=⟨_,wq3,RdE.cst λ _=>.bl i⟩
theorem ti0 {j}:RE X (.Constant .none j pos) (c3 .non):=⟨_,uc3,RdE.cst λ _=>.non⟩
theorem yb0 {x:Str} {j}:RE X (.Constant (.str x) j pos) (c3 (.str x)):=⟨_,wc3,RdE.cst λ _=>.str x⟩
noncomputable def Gd (K:Fg) (mg:Str->Option Value) (x:Str) (d:D):Prop:=∃ u v,mg x=some u /\ RelV v u /\ ∀ H,RelD K H d v
theorem re_g {x:Str} {d:D} (g:Gd X.K X.mg x d) (hg:Gl X x:=by rfl) (hd:(x == ("__debug__" : Str))=false:=by decide):RE X (.Name x pos) (c3 d):=by
 obtain ⟨u,v,hm,r,rd⟩:=g
 exact ⟨_,uk2 hg hm r hd,RdE.cst rd⟩
theorem xv1 {x:Str} {T:String} (hm:X.mg x=none) (hv:bootBuiltins x=some (.type T)) (hg:Gl X x:=by rfl) (hn:x ≠ "__name__" := by decide) (hd:(x == ("__debug__" : Str))=false:=by decide):RE X (.Name x pos) (c3 (.ty T)) :=
 ⟨_,wo1 hg hm hv (show RelV (.ty T) (.type T) from rfl) hn hd,RdE.cst λ _=>.ty T⟩
theorem vb0 {op:Operator} {r3:R3} (ho:RO X (binaryOp op) r3) (ha:RE X a ta) (hb:RE X b tb):RE X (.BinOp a op b pos) (o3 r3 ta tb):=by
 obtain ⟨r,po,ro⟩:=ho
 obtain ⟨va,pa,ra⟩:=ha
 obtain ⟨vb,pb,rb⟩:=hb
 exact ⟨_,yq3 po pa pb,λ σ H Q ρ μ Q3 s m h k=>ra σ H _ ρ μ _ s m h λ x μ1 v H1 h1 k1 r1 m1=>rb σ H1 _ ρ μ1 _ (s.mono k1) m1 h1 λ y μ2 u H2 h2 k2 r2 m2 =>
  ro x y v u H2 Q μ2 Q3 m2 (r1.mono k2) r2 h2 (k.after (k1.trans k2))⟩
theorem su1 {op:UnaryOp} {r3:D->Mu->VK3->Prop} (ho:RU X (unaryOp op) r3) (ha:RE X a ta):RE X (.UnaryOp op a pos) (un3 r3 ta):=by
 obtain ⟨r,po,ro⟩:=ho
 obtain ⟨va,pa,ra⟩:=ha
 exact ⟨_,sp3 po pa,λ σ H Q ρ μ Q3 s m h k=>ra σ H _ ρ μ _ s m h λ x μ1 v H1 h1 k1 r1 m1=>ro x v H1 Q μ1 Q3 m1 r1 h1 (k.after k1)⟩
theorem RdE.op {K:Fg} {r:R2} {r3:R3} {va vb:TE} (ra:RdE K va ta) (rb:RdE K vb tb) (ro:RdO K r r3):RdE K (tOp r va vb) (o3 r3 ta tb):=λ σ H Q ρ μ Q3 s m h k =>
 ra σ H _ ρ μ _ s m h λ x μ1 v H1 h1 k1 r1 m1=>rb σ H1 _ ρ μ1 _ (s.mono k1) m1 h1 λ y μ2 u H2 h2 k2 r2 m2=>ro x y v u H2 Q μ2 Q3 m2 (r1.mono k2) r2 h2 (k.after (k1.trans k2))
theorem RdT.test {K:Fg} {va:TE} (ra:RdE K va ta):RdT K (ws2 va) (b3 ta):=λ σ H Q ρ μ Q3 s m h k=>by
 refine ra σ H _ ρ μ _ s m h λ d μ1 v H1 h1 k1 r1 m1=>?_
 cases r1 with
 | bl c=>exact ⟨c,rfl,k c μ1 H1 h1 k1 m1⟩
 | _=>exact False.elim h1
theorem ty0 {op:CmpOp} {r3:R3} (ho:RO X (compareOp op) r3) (ha:RE X a ta) (hb:RE X b tb) (hm:behindInMarks op b=false:=by first | exact xd2 _ | with_unfolding_all rfl):RE X (.Compare a [op] [b] pos) (o3 r3 ta tb):=by
 obtain ⟨r,po,ro⟩:=ho
 obtain ⟨va,pa,ra⟩:=ha
 obtain ⟨vb,pb,rb⟩:=hb
 exact ⟨_,sk2 po pa pb hm,ra.op rb ro⟩
theorem wb0 {op:CmpOp} {r3:R3} (ho:RO X (compareOp op) r3) (ha:RE X a ta) (hb:RE X b tb) (hm:behindInMarks op b=false:=by first | exact xd2 _ | with_unfolding_all rfl):RT X (.Compare a [op] [b] pos) (b3 (o3 r3 ta tb)):=by
 obtain ⟨r,po,ro⟩:=ho
 obtain ⟨va,pa,ra⟩:=ha
 obtain ⟨vb,pb,rb⟩:=hb
 exact ⟨_,yj2 po pa pb hm,RdT.test (ra.op rb ro)⟩
theorem vl0 (ha:RE X a ta) (he:∀ whole,isTrue a X.env whole=(do let v <- whole; standAt a.pos; holding [v] (truthy v)):=by intro _; rfl):RT X a (b3 ta):=by
 obtain ⟨va,pa,ra⟩:=ha
 exact ⟨_,yb3 pa he,RdT.test ra⟩
variable {tA tB':TT3} {rest:List Expr}
theorem RW.pt (h:RW X a tA):RT X a tA:=let ⟨t,p,r⟩:=h; ⟨t,p.pt,r⟩
theorem zk0 (h:RW X a tA):RT X a tA:=h.pt
theorem wk0 (h:RT X a tA):RW X (.BoolOp .And [a] pos) tA:=let ⟨t,p,r⟩:=h; ⟨t,ti2 p,r⟩
theorem yn0 (h:RT X a tA):RW X (.BoolOp .Or [a] pos) tA:=let ⟨t,p,r⟩:=h; ⟨t,sa3 p,r⟩
theorem zp0 (ha:RT X a tA) (hb:RW X (.BoolOp .And (b :: rest) pos) tB'):RW X (.BoolOp .And (a :: b :: rest) pos) (and3 tA tB'):=by
 obtain ⟨va,pa,ra⟩:=ha
 obtain ⟨vb,pb,rb⟩:=hb
 refine ⟨_,xb3 pa pb,λ σ H Q ρ μ Q3 s m h k=>ra σ H _ ρ μ _ s m h λ c μ1 H1 h1 k1 m1=>?_⟩
 cases c with
 | true=>exact rb σ H1 Q ρ μ1 Q3 (s.mono k1) m1 h1 λ b μ' H' q e=>k b μ' H' q (k1.trans e)
 | false=>exact k _ _ _ h1 k1 m1
theorem um0 (ha:RT X a tA) (hb:RW X (.BoolOp .Or (b :: rest) pos) tB'):RW X (.BoolOp .Or (a :: b :: rest) pos) (or3 tA tB'):=by
 obtain ⟨va,pa,ra⟩:=ha
 obtain ⟨vb,pb,rb⟩:=hb
 refine ⟨_,up3 pa pb,λ σ H Q ρ μ Q3 s m h k=>ra σ H _ ρ μ _ s m h λ c μ1 H1 h1 k1 m1=>?_⟩
 cases c with
 | true=>exact k _ _ _ h1 k1 m1
 | false=>exact rb σ H1 Q ρ μ1 Q3 (s.mono k1) m1 h1 λ b μ' H' q e=>k b μ' H' q (k1.trans e)
theorem yt0 (ha:RT X a tA):RT X (.UnaryOp .Not a pos) (not3 tA):=by
 obtain ⟨va,pa,ra⟩:=ha
 exact ⟨_,zb3 pa,λ σ H Q ρ μ Q3 s m h k=>ra σ H _ ρ μ _ s m h λ c μ1 H1 h1 k1 m1=>k _ _ _ h1 k1 m1⟩
theorem wc2 {op} (h:RE X a ta):RE X (.BoolOp op [a] pos) ta:=let ⟨t,p,r⟩:=h; ⟨t,vc3 p,r⟩
theorem sx2 (ha:RE X a ta) (hb:RE X (.BoolOp .And (b :: rest) pos) tb):RE X (.BoolOp .And (a :: b :: rest) pos) (andV3 ta tb):=by
 obtain ⟨va,pa,ra⟩:=ha
 obtain ⟨vb,pb,rb⟩:=hb
 refine ⟨_,wd3 pa pb,λ σ H Q ρ μ Q3 s m h k=>ra σ H _ ρ μ _ s m h λ d μ1 v H1 h1 k1 r1 m1=>?_⟩
 cases r1 with
 | bl c =>
  refine ⟨c,rfl,?_⟩
  cases c with
  | true=>exact rb σ H1 Q ρ μ1 Q3 (s.mono k1) m1 h1 (k.after k1)
  | false=>exact k _ _ _ _ h1 k1 (.bl _) m1
 | _=>exact False.elim h1
theorem xn3 (ha:RE X a ta) (hb:RE X (.BoolOp .Or (b :: rest) pos) tb):RE X (.BoolOp .Or (a :: b :: rest) pos) (orV3 ta tb):=by
 obtain ⟨va,pa,ra⟩:=ha
 obtain ⟨vb,pb,rb⟩:=hb
 refine ⟨_,xq3 pa pb,λ σ H Q ρ μ Q3 s m h k=>ra σ H _ ρ μ _ s m h λ d μ1 v H1 h1 k1 r1 m1=>?_⟩
 cases r1 with
 | bl c =>
  refine ⟨c,rfl,?_⟩
  cases c with
  | true=>exact k _ _ _ _ h1 k1 (.bl _) m1
  | false=>exact rb σ H1 Q ρ μ1 Q3 (s.mono k1) m1 h1 (k.after k1)
 | _=>exact False.elim h1
theorem yn3 (hc:RT X c tA) (ha:RE X a ta) (hb:RE X b tb):RE X (.IfExp c a b pos) (if3 tA ta tb):=by
 obtain ⟨vc,pc,rc⟩:=hc
 obtain ⟨va,pa,ra⟩:=ha
 obtain ⟨vb,pb,rb⟩:=hb
 refine ⟨_,uw1 pc pa pb,λ σ H Q ρ μ Q3 s m h k=>rc σ H _ ρ μ _ s m h λ c μ1 H1 h1 k1 m1=>?_⟩
 cases c with
 | true=>exact ra σ H1 Q ρ μ1 Q3 (s.mono k1) m1 h1 (k.after k1)
 | false=>exact rb σ H1 Q ρ μ1 Q3 (s.mono k1) m1 h1 (k.after k1)
variable {es:List Expr} {t:TA3}
theorem ua0:RA X [] nil3:=⟨_,uc2,λ σ H Q ρ μ Q3 s m h k=>k [] μ [] H h (Kp.refl H) .nil m⟩
theorem xa0 (ha:RE X e te) (hr:RA X es t) (hs:starEach (e :: es) X.env=(false,eval e X.env) :: starEach es X.env:=by rfl):RA X (e :: es) (cons3 te t):=by
 obtain ⟨va,pa,ra⟩:=ha
 obtain ⟨vb,pb,rb⟩:=hr
 exact ⟨_,zc1 pa pb hs,λ σ H Q ρ μ Q3 s m h k=>ra σ H _ ρ μ _ s m h λ d μ1 v H1 h1 k1 r1 m1=>rb σ H1 _ ρ μ1 _ (s.mono k1) m1 h1 λ ds μ2 vs H2 h2 k2 r2 m2 =>
  k _ _ _ _ h2 (k1.trans k2) (.cons (r1.mono k2) r2) m2⟩
theorem xj0 {x1} (h:RA X es t):RE X (.Tuple es x1 pos) (tup3 t):=by
 obtain ⟨va,pa,ra⟩:=h
 refine ⟨_,zc3 pa,λ σ H Q ρ μ Q3 s m h k=>ra σ H _ ρ μ _ s m h λ ds μ1 vs H1 h1 k1 r1 m1=>⟨by rw [<- r1.length]; exact h1.1,λ p hp=>?_⟩⟩
 exact k _ _ _ _ h1.2 (k1.trans (Kp.new hp)) (.tup xf0 (r1.mono (Kp.new hp))) (m1.newT hp)
theorem vd0 (h:RA X es t):RE X (.List es pos) (lst3 t):=by
 obtain ⟨va,pa,ra⟩:=h
 refine ⟨_,sc3 pa,λ σ H Q ρ μ Q3 s m h k=>ra σ H _ ρ μ _ s m h λ ds μ1 vs H1 h1 k1 r1 m1=>⟨by rw [<- r1.length]; exact h1.1,λ p hp=>?_⟩⟩
 exact k _ _ _ _ (h1.2 p (m1.free hp)) (k1.trans (Kp.new hp)) (.ref p) (m1.newL hp r1)
variable {st:Stmt} {sts:List Stmt} {t3 u3:TS3}
theorem tb0:RSs X [] next3:=⟨_,wj2,λ σ H D ρ μ D3 s m h k=>k.nx ρ μ σ H h (Kp.refl H) s m⟩
theorem sa0 (h:RS X st t3):RSs X [st] t3:=let ⟨t,p,r⟩:=h; ⟨t,zj2 p,r⟩
theorem va0 (h1:RS X st t3) (h2:RSs X sts u3):RSs X (st :: sts) (seq3 t3 u3):=by
 obtain ⟨va,pa,ra⟩:=h1
 obtain ⟨vb,pb,rb⟩:=h2
 refine ⟨_,sv1 pa pb,λ σ H D ρ μ D3 s m h k=>ra σ H _ ρ μ _ s m h ⟨λ ρ1 μ1 σ1 H1 h1 k1 s1 m1=>rb σ1 H1 D ρ1 μ1 D3 s1 m1 h1 (k.after k1),k.bk,k.ct,k.rt⟩⟩
theorem yf0 (he:RE X e te) (hs:swapsWith e none pos.line X.env=pure false:=by rfl):RS X (.Expr e pos) (drop3 te):=by
 obtain ⟨va,pa,ra⟩:=he
 exact ⟨_,sj2 pa hs,λ σ H D ρ μ D3 s m h k=>ra σ H _ ρ μ _ s m h λ d μ1 v H1 h1 k1 r1 m1=>k.nx ρ μ1 σ H1 h1 k1 (s.mono k1) m1⟩
theorem xc0 (he:RE X e te):RS X (.Return (some e) pos) (ret3 te):=by
 obtain ⟨va,pa,ra⟩:=he
 exact ⟨_,vb3 pa,λ σ H D ρ μ D3 s m h k=>ra σ H _ ρ μ _ s m h k.rt⟩
theorem tc0 {as bs:List Stmt} (hc:RT X c tA) (ha:RSs X as t3) (hb:RSs X bs u3):RS X (.If c as bs pos) (ifs3 tA t3 u3):=by
 obtain ⟨vc,pc,rc⟩:=hc
 obtain ⟨va,pa,ra⟩:=ha
 obtain ⟨vb,pb,rb⟩:=hb
 refine ⟨_,tp3 pc pa pb,λ σ H D ρ μ D3 s m h k=>rc σ H _ ρ μ _ s m h λ c μ1 H1 h1 k1 m1=>?_⟩
 cases c with
 | true=>exact ra σ H1 D ρ μ1 D3 (s.mono k1) m1 h1 (k.after k1)
 | false=>exact rb σ H1 D ρ μ1 D3 (s.mono k1) m1 h1 (k.after k1)
theorem si0 {i:Nat} {x:Str} (hN:X.N.Nodup) (hi:X.N[i]?=some x:=by rfl) (hx:Loc X.env.scope x:=by first | exact Or.inl rfl | exact Or.inr rfl) (hf:X.fn x=true \/ X.env.scope.names.lookup x=some .local:=by first | exact .inl rfl | exact .inr rfl) :
    RG X (.Name x pos) (gn3 i):=⟨_,wk2 hN hi hx hf,λ v d σ H Q ρ μ Q3 s m r h k=>k _ _ _ _ h (Kp.refl H) (s.set i r) m⟩
theorem sb0 {i:Nat} {x:Str} {pos':Pos} (hN:X.N.Nodup) (he:RE X e te) (hi:X.N[i]?=some x:=by rfl) (hx:Loc X.env.scope x:=by first | exact Or.inl rfl | exact Or.inr rfl) (hs:swapsWith e (some (.Name x pos')) pos.line X.env=pure false:=by rfl)
    (hf:X.fn x=true \/ X.env.scope.names.lookup x=some .local:=by first | exact .inl rfl | exact .inr rfl):RS X (.Assign [.Name x pos'] e pos) (set3 i te):=by
 obtain ⟨va,pa,ra⟩:=he
 exact ⟨_,wb3 hN hi hx pa hs hf,λ σ H D ρ μ D3 s m h k=>ra σ H _ ρ μ _ s m h λ d μ1 v H1 h1 k1 r1 m1=>k.nx _ _ _ _ h1 k1 ((s.mono k1).set i r1) m1⟩
theorem xn1 {tg:Expr} {g:TG3} (he:RE X e te) (hg:RG X tg g) (hs:swapsWithSole [tg] e pos.line X.env=pure false:=by rfl) (hw:swappedStores [tg] e X.env=pure none:=by rfl)
    (h1:(assignEach [tg] X.env).map (·.2)=[assign tg X.env]:=by rfl):RS X (.Assign [tg] e pos) (asg3 te g):=by
 obtain ⟨va,pa,ra⟩:=he
 obtain ⟨vg,pg,rg⟩:=hg
 exact ⟨_,tb3 pa pg hs hw h1,λ σ H D ρ μ D3 s m h k=>ra σ H _ ρ μ _ s m h λ d μ1 v H1 h1 k1 r1 m1=>rg v d σ H1 _ ρ μ1 _ (s.mono k1) m1 r1 h1 λ ρ' μ' σ' H' q e=>k.nx ρ' μ' σ' H' q (k1.trans e)⟩
theorem vg3 (n:Nat) (i:Int):L2.ixN n i=ixN n i:=rfl
theorem zn1 {o i:Expr} {to ti:TE3} (ho:RE X o to) (hi:RE X i ti)
    (ha:∀ v,assign (.Subscript o i pos) X.env v=(do
     let ov <- holding [v] (eval o X.env)
     let iv <- holding [v,ov] (eval i X.env)
     standAt pos
     holding [v,ov,iv] (setItem ov iv v)
     release [v,ov,iv] []):=by intro _; rfl):RG X (.Subscript o i pos) (sub3 to ti):=by
 obtain ⟨va,pa,ra⟩:=ho
 obtain ⟨vb,pb,rb⟩:=hi
 refine ⟨_,xc3 pa pb zu1 ha,λ v d σ H Q ρ μ Q3 s m r h k=>ra σ H _ ρ μ _ s m h λ o' μ1 ov H1 h1 k1 r1 m1=>rb σ H1 _ ρ μ1 _ (s.mono k1) m1 h1 λ i' μ2 iv H2 h2 k2 r2 m2=>?_⟩
 cases r1 with
 | ref p =>
  cases r2 with
  | int kk =>
   dsimp only at h2
   cases e:μ2 p with
   | none=>rw [e] at h2; exact h2.elim
   | some oo =>
    cases oo with
    | ins _ _=>rw [e] at h2; exact h2.elim
    | dct _=>rw [e] at h2; exact h2.elim
    | dcl _=>rw [e] at h2; exact h2.elim
    | dck _=>rw [e] at h2; exact h2.elim
    | lst xs =>
     rw [e] at h2
     dsimp only at h2
     cases e2:ixN xs.length kk with
     | none=>rw [e2] at h2; exact h2.elim
     | some j =>
      rw [e2] at h2
      obtain ⟨vs,hv,rv⟩:=m2 p xs e
      have kk':=k1.trans k2
      refine ⟨p,vs,kk,j,rfl,rfl,hv,by rw [<- rv.length]; exact e2,k _ _ _ _ h2 (kk'.trans (Kp.wr hv)) (s.mono (kk'.trans (Kp.wr hv))) (m2.wr hv (rv.set (r.mono kk') j))⟩
  | _=>exact False.elim h2
 | _=>cases r2 <;> exact False.elim h2
end
end Pv
namespace Pv
open PySem PySem.Spec PyProof.Rows L2
noncomputable def ItOk (K:Fg) (J:It) (l:List D) (S:Mu->Prop) (H0:Hp):Prop:=∀ i H μ,Kp H0 H->RelM K μ H->S μ ->
 (∀ d,l[i]?=some d->J.go i H /\ ∀ x H2,J.yld i H x H2->Kp H H2 /\ RelM K μ H2 /\ RelD K H2 d x) /\ (l.length<=i->J.stop i H)
noncomputable def RdI (K:Fg) (wi:TI) (ti:TI3):Prop:=∀ σ H R ρ μ R3,RSt K H ρ σ->RelM K μ H->ti ρ μ R3->(∀ l S μ' J H',R3 l S μ'->Kp H H'->RelM K μ' H'->ItOk K J l S H'->R J H')->wi σ H R
noncomputable def RI (X:Cx) (tg iter:Expr) (ti:TI3):Prop:=∃ wi,PI X tg iter wi /\ RdI X.K wi ti
section
variable {X:Cx} {tg iter a b c e:Expr} {ta tb te:TE3} {pos:Pos}
noncomputable def Its (z:Str):It:=⟨λ i _=>i < z.cps.size,λ i H x H'=>H'=H /\ ∃ c,z.cps[i]?=some c /\ x=.str ⟨#[c]⟩,λ i _=>z.cps.size<=i⟩
theorem xe1 {P:Program} {w:World} {K:Fg} {tg:Expr} (T:String) (x:Str) (t:Tok) (it:Addr)
    (hT:["enumerate", "zip", "dict_itemiterator", "dict_reverseitemiterator", "odict_iterator", "itertools.zip_longest", "itertools.pairwise"].contains T=false)
    (W:∀ A:Around,A.handled=none->Walks P w A it [it] [it] x.cps.size (SignAt x) (λ i h=>h.IsStrIter it T x t i))
    (sf:∀ (A:Around) (i:Nat) (s:Shared) (Q:Value->Shared->Prop) (E:Value->Shared->Prop),s.heap.IsStrIter it T x t i->Q (.ref it) s->wpAny (model P w) A (pyIter (.ref it)) Q E s) :
    Turn P w K tg (Its x) [it] it (λ i h=>h.IsStrIter it T x t i /\ i<=x.cps.size) where
 mem:=by simp
 obj:=λ i h st b hb=>by
  have e:b=it:=by simpa using hb
  subst e
  obtain ⟨⟨o,e,c,d⟩,_⟩:=st
  exact ⟨o,e,λ v z=>by rw [d] at z; cases z⟩
 keep:=λ i h h' st k=>by
  obtain ⟨⟨o,e,c,d⟩,l⟩:=st
  exact ⟨⟨o,k it (by simp) o e,c,d⟩,l⟩
 item:=by
  intro X hP hw hK hc i pins s σ H E I hf st hg
  subst hP hw hK
  obtain ⟨f0,f1,f2,f3,f4,f5⟩:=hf it (by simp)
  refine (W X.A (I.ok.hd hc)).item i s _ E hg st.1 λ v h' tk hP hst' hk=>?_
  obtain ⟨c,u,ec,rfl⟩:=hP
  have I1:Inv X pins σ H { s with heap:=h',toks:=tk }:=I.turned (t':=tk) (λ b o hb e=>hk b o (by simpa using hb) e) f0 f1 f3 f4 f5
  obtain ⟨o,e,c1,d⟩:=id hst'
  exact ⟨_,rfl,yz1 (s:={ s with heap:=h',toks:=tk }) e c1 d hT ⟨.str ⟨#[c]⟩,H,I1,⟨u,rfl⟩,⟨rfl,c,ec,rfl⟩,⟨hst',hg⟩,λ b hb=>(hf b hb).1⟩⟩
 done:=by
  intro X hP hw hK hc i pins s σ H E I hf st hg
  subst hP hw hK
  have hg':x.cps.size<=i:=hg
  obtain ⟨f0,f1,f2,f3,f4,f5⟩:=hf it (by simp)
  have e1:i=x.cps.size:=Nat.le_antisymm st.2 hg'
  subst e1
  exact (W X.A (I.ok.hd hc)).done s _ E st.1 λ h' tk hk=>⟨rfl,I.turned (t':=tk) (λ b o hb e=>hk b o (by simpa using hb) e) f0 f1 f3 f4 f5⟩
 self:=λ A i s Q E st h=>sf A i s Q E st.1 h
noncomputable def iSeq (K:Fg) (tl:TE):TI:=λ σ H R=>tl σ H λ x H1=>(∃ z,x=.str z /\ R (Its z) H1) \/ ∃ a,x=.ref a /\ (((∃ xs,SqL K H1 a xs) /\ R (Itl K a) H1) \/ ((∃ xs,SqT K H1 a xs) /\ R (Itt K a) H1))
theorem sb3 {l:Expr} {tl:TE} (hl:PE X l tl):PI X tg l (iSeq X.K tl):=by
 intro pins s σ H R I h
 refine thn (hl pins s σ H _ I h) λ v s1 ⟨x,H1,I1,r1,q1⟩=>?_
 have fp:∀ b ∈ [s1.heap.objs.size],FpOk X pins H1 b:=λ b hb=>by
  have e:b=s1.heap.objs.size:=by simpa using hb
  subst e
  exact I1.fpOk (Nat.le_refl _) (I1.hok.fresh (Nat.le_refl _))
 rcases q1 with ⟨z,e,q⟩ | ⟨a,e,q⟩
 ·subst e
  obtain ⟨t,rfl⟩:=r1
  cases ha:z.cps.all (· < 128)
  ·refine wpAny_pyIter_wide ha ?_
   exact ⟨s1.heap.objs.size,[s1.heap.objs.size],_,_,H1,rfl,I1.kept (t':=s1.toks) λ b o e=>Heap.get?_push_of_some _ e,xe1 "str_iterator" z t _ (by decide) (λ A hA=>Walks.strWide hA _ z t) (λ _ _ _ _ _ st h=>wpAny_pyIter_striter_wide st h),⟨⟨_,Heap.get?_push_size _ rfl,rfl,rfl⟩,Nat.zero_le _⟩,fp,q⟩
  ·refine wpAny_pyIter_ascii ha ?_
   exact ⟨s1.heap.objs.size,[s1.heap.objs.size],_,_,H1,rfl,I1.kept (t':=s1.toks) λ b o e=>Heap.get?_push_of_some _ e,xe1 "str_ascii_iterator" z t _ (by decide) (λ A hA=>Walks.strAscii hA _ z t) (λ _ _ _ _ _ st h=>wpAny_pyIter_striter_ascii st h),⟨⟨_,Heap.get?_push_size _ rfl,rfl,rfl⟩,Nat.zero_le _⟩,fp,q⟩
 subst e
 cases r1
 rcases q with ⟨⟨xs,hq⟩,q⟩ | ⟨⟨xs,hq⟩,q⟩
 ·obtain ⟨its,rv,p,hz⟩:=I1.list hq
  refine wpAny_pyIter_list p.isList ?_
  exact ⟨s1.heap.objs.size,[s1.heap.objs.size],_,_,H1,rfl,I1.kept (t':=s1.toks) λ b o e=>Heap.get?_push_of_some _ e,zl1 a _,⟨_,Heap.get?_push_size _ rfl,rfl,rfl⟩,fp,q⟩
 ·obtain ⟨its,rv,p,hz⟩:=I1.tuple hq
  refine wpAny_pyIter_tuple (show s1.heap.IsTuple a its.toArray from p) ?_
  exact ⟨s1.heap.objs.size,[s1.heap.objs.size],_,_,H1,rfl,I1.kept (t':=s1.toks) λ b o e=>Heap.get?_push_of_some _ e,xh1 a _,⟨_,Heap.get?_push_size _ rfl,rfl,rfl⟩,fp,q⟩
theorem xy1 {K:Fg} {H0:Hp} {a:Addr} {l:List D} {vs:List V} (h:SqT K H0 a vs) (r:RelDs K H0 l vs):ItOk K (Itt K a) l (λ _=>True) H0:=λ i H μ k m _=>by
 refine ⟨λ d e=>?_,λ hl=>⟨vs,SqT.mono k h,by rw [<- r.length]; exact hl⟩⟩
 obtain ⟨v,e1,r1⟩:=r.get e
 refine ⟨⟨vs,v,SqT.mono k h,e1⟩,λ x H2 y=>?_⟩
 obtain ⟨rfl,y⟩:=y
 have e2:=y vs (SqT.mono k h)
 rw [e1] at e2; cases e2
 exact ⟨Kp.refl _,m,r1.mono k⟩
theorem vy1 {K:Fg} {H0:Hp} {a:Addr} {l:List D} {vs:List V} (h:SqF K H0 a vs) (r:RelDs K H0 l vs):ItOk K (Itl K a) l (λ _=>True) H0:=λ i H μ k m _=>by
 refine ⟨λ d e=>?_,λ hl=>⟨vs,(SqF.mono k h).l,by rw [<- r.length]; exact hl⟩⟩
 obtain ⟨v,e1,r1⟩:=r.get e
 refine ⟨⟨vs,v,(SqF.mono k h).l,e1⟩,λ x H2 y=>?_⟩
 obtain ⟨rfl,y⟩:=y
 have e2:=y vs (SqF.mono k h).l
 rw [e1] at e2; cases e2
 exact ⟨Kp.refl _,m,r1.mono k⟩
theorem wy1 {K:Fg} {H0:Hp} {a:Addr} {l:List D}:ItOk K (Itl K a) l (λ μ=>μ a=some (.lst l)) H0:=λ i H μ k m s=>by
 obtain ⟨vs,h,r⟩:=m a l s
 refine ⟨λ d e=>?_,λ hl=>⟨vs,SqL.of h,by rw [<- r.length]; exact hl⟩⟩
 obtain ⟨v,e1,r1⟩:=r.get e
 refine ⟨⟨vs,v,SqL.of h,e1⟩,λ x H2 y=>?_⟩
 obtain ⟨rfl,y⟩:=y
 have e2:=y vs (SqL.of h)
 rw [e1] at e2; cases e2
 exact ⟨Kp.refl _,m,r1⟩
theorem yy1 {K:Fg} {H0:Hp} (z:Str):ItOk K (Its z) (z.cps.toList.map λ c=>D.str ⟨#[c]⟩) (λ _=>True) H0:=λ i H μ k m _=>by
 refine ⟨λ d e=>?_,λ hl=>by show z.cps.size<=i; simpa using hl⟩
 rw [List.getElem?_map,Array.getElem?_toList] at e
 cases ec:z.cps[i]? with
 | none=>rw [ec] at e; cases e
 | some c =>
  rw [ec] at e
  cases e
  refine ⟨?_,λ x H2 y=>?_⟩
  ·show i < z.cps.size
   rcases Nat.lt_or_ge i z.cps.size with h | h
   ·exact h
   ·rw [Array.getElem?_eq_none h] at ec; cases ec
  ·obtain ⟨rfl,c',ec',rfl⟩:=y
   rw [ec] at ec'; cases ec'
   exact ⟨Kp.refl _,m,.str _⟩
theorem vy0 (ha:RE X a ta):RI X tg a (is3 ta):=by
 obtain ⟨va,pa,ra⟩:=ha
 refine ⟨_,sb3 pa,λ σ H R ρ μ R3 s m h k=>ra σ H _ ρ μ _ s m h λ d μ1 v H1 h1 k1 r1 m1=>?_⟩
 cases r1 with
 | str z=>exact .inl ⟨z,rfl,k _ _ _ _ _ h1 k1 m1 (yy1 z)⟩
 | tup hq rs=>exact .inr ⟨_,rfl,.inr ⟨⟨_,(SqT.of hq)⟩,k _ _ _ _ _ h1 k1 m1 (xy1 (SqT.of hq) rs)⟩⟩
 | fls hq rs=>exact .inr ⟨_,rfl,.inl ⟨⟨_,hq.l⟩,k _ _ _ _ _ h1 k1 m1 (vy1 hq rs)⟩⟩
 | ref p =>
  dsimp only at h1
  cases e:μ1 p with
  | none=>rw [e] at h1; exact h1.elim
  | some oo =>
   cases oo with
   | ins _ _=>rw [e] at h1; exact h1.elim
   | dct _=>rw [e] at h1; exact h1.elim
   | dcl _=>rw [e] at h1; exact h1.elim
   | dck _=>rw [e] at h1; exact h1.elim
   | lst xs =>
    rw [e] at h1
    obtain ⟨vs,hv,rv⟩:=m1 p xs e
    exact .inr ⟨_,rfl,.inl ⟨⟨_,SqL.of hv⟩,k _ _ _ _ _ h1 k1 m1 wy1⟩⟩
 | _=>exact False.elim h1
theorem tu1 (lo:Int) (n i:Nat):(rngD lo n)[i]?=if i < n then some (.int (lo + i)) else none:=by
 unfold rngD
 rw [List.getElem?_map]
 by_cases h:i < n
 ·rw [List.getElem?_range h,if_pos h]; rfl
 ·rw [List.getElem?_eq_none (by simpa using h),if_neg h]; rfl
theorem uu1 (lo:Int) (n:Nat):(rngD lo n).length=n:=by simp [rngD]
theorem zy1 {K:Fg} {H0:Hp} (lo:Int) (n:Nat):ItOk K (Itr lo n) (rngD lo n) (λ _=>True) H0:=λ i H μ k m _=>by
 refine ⟨λ d e=>?_,λ hl=>by rw [uu1] at hl; exact hl⟩
 rw [tu1] at e
 split at e
 ·next h =>
  cases e
  refine ⟨h,λ x H2 y=>?_⟩
  obtain ⟨rfl,rfl⟩:=y
  exact ⟨Kp.refl _,m,.int _⟩
 ·cases e
theorem wp0 {p:Pos} (hm:X.mg "range" = none) (ha:RE X a ta) (hg:Gl X "range" := by rfl) (hs:starEach [a] X.env=[(false,eval a X.env)]:=by rfl):RI X tg (.Call (.Name "range" p) [a] [] pos) (ir3 (cons3 ta nil3)):=by
 obtain ⟨va,pa,ra⟩:=xa0 ha ua0 hs
 refine ⟨_,yo1 hg hm pa hs,λ σ H R ρ μ R3 s m h k=>ra σ H _ ρ μ _ s m h λ ds μ1 vs H1 h1 k1 r1 m1=>?_⟩
 cases r1 with
 | nil=>exact False.elim h1
 | cons r1 r2 =>
  cases r2 with
  | cons _ _=>cases r1 <;> exact False.elim h1
  | nil =>
   cases r1 with
   | int j=>exact ⟨j,rfl,h1.1.1,h1.1.2,k _ _ _ _ _ h1.2 k1 m1 (zy1 _ _)⟩
   | _=>exact False.elim h1
theorem wy0 {body:List Stmt} {ti:TI3} {g:TG3} {tb:TS3} (hp:PassesOwn (model X.prog X.w) X.A X.env X.xe) (hc:X.calm=true) (hi:RI X tg iter ti) (hg:RG X tg g) (hb:RSs X body tb)
    (hs:∀ x,foldedSetIterable iter X.env x=pure x:=by intro _; rfl):RS X (.For tg iter body [] pos) (for3 ti g tb):=by
 obtain ⟨wi,pi,ri⟩:=hi
 obtain ⟨vg,pg,rg⟩:=hg
 obtain ⟨vb,pb,rb⟩:=hb
 refine ⟨_,ub3 hp hc pi pg pb hs,λ σ H D ρ μ D3 s m h k=>ri σ H _ ρ μ _ s m h λ l S μ1 J H1 h1 k1 m1 ok=>?_⟩
 refine ⟨λ i n σ2 H2=>n=l.length - i /\ i<=l.length /\ ∃ ρ2 μ2,RSt X.K H2 ρ2 σ2 /\ RelM X.K μ2 H2 /\ Kp H1 H2 /\ zz1 S g tb D3 (l.drop i) ρ2 μ2,⟨l.length,rfl,Nat.zero_le _,ρ,μ1,s.mono k1,m1,Kp.refl _,h1⟩,?_⟩
 rintro i n σ2 H2 ⟨rfl,hi,ρ2,μ2,s2,m2,k2,h2⟩
 by_cases hlt:i < l.length
 ·rw [List.drop_eq_getElem_cons hlt] at h2
  obtain ⟨hS,N,hN,h2⟩:=h2
  obtain ⟨ok1,_⟩:=ok i H2 μ2 k2 m2 hS
  obtain ⟨go,yl⟩:=ok1 l[i] (List.getElem?_eq_getElem hlt)
  refine .inr ⟨go,λ σ3 H3=>∃ ρ3 μ3,N ρ3 μ3 /\ RSt X.K H3 ρ3 σ3 /\ RelM X.K μ3 H3 /\ Kp H1 H3,λ σ3 H3 ⟨ρ3,μ3,hn,s3,m3,k3⟩=>⟨l.length - (i + 1),by omega,rfl,hlt,ρ3,μ3,s3,m3,k3,hN _ _ hn⟩,λ x H3 y=>?_⟩
  obtain ⟨k3,m3,r3⟩:=yl x H3 y
  refine rg x l[i] σ2 H3 _ ρ2 μ2 _ (s2.mono k3) m3 r3 h2 λ ρ4 μ4 σ4 H4 h4 k4 s4 m4=>?_
  have k14:Kp H1 H4:=k2.trans (k3.trans k4)
  exact rb σ4 H4 _ ρ4 μ4 _ s4 m4 h4 ⟨λ ρ5 μ5 σ5 H5 h5 k5 s5 m5=>⟨ρ5,μ5,h5,s5,m5,k14.trans k5⟩,λ ρ5 μ5 σ5 H5 h5 k5 s5 m5=>k.nx _ _ _ _ h5 (k1.trans (k14.trans k5)) s5 m5,
   λ ρ5 μ5 σ5 H5 h5 k5 s5 m5=>⟨ρ5,μ5,h5,s5,m5,k14.trans k5⟩,λ d μ5 v H5 h5 k5 r5 m5=>k.rt _ _ _ _ h5 (k1.trans (k14.trans k5)) r5 m5⟩
 ·have e:i=l.length:=by omega
  subst e
  rw [List.drop_length] at h2
  obtain ⟨hS,h2⟩:=h2
  exact .inl ⟨(ok _ H2 μ2 k2 m2 hS).2 (Nat.le_refl _),k.nx _ _ _ _ h2 (k1.trans k2) s2 m2⟩
theorem te1 {body:List Stmt} {tc:TT3} {tb:TS3} (hp:PassesOwn (model X.prog X.w) X.A X.env X.xe) (hc:RT X c tc) (hb:RSs X body tb):RS X (.While c body [] pos) (xl1 tc tb):=by
 obtain ⟨vc,pc,rc⟩:=hc
 obtain ⟨vb,pb,rb⟩:=hb
 refine ⟨_,xw1 hp pc pb,λ σ H D ρ μ D3 s m h k=>?_⟩
 obtain ⟨W,⟨n0,w0⟩,turn⟩:=h
 refine ⟨λ n σ2 H2=>∃ ρ2 μ2,W n ρ2 μ2 /\ RSt X.K H2 ρ2 σ2 /\ RelM X.K μ2 H2 /\ Kp H H2,⟨n0,ρ,μ,w0,s,m,Kp.refl _⟩,?_⟩
 rintro n σ2 H2 ⟨ρ2,μ2,w2,s2,m2,k2⟩
 refine rc σ2 H2 _ ρ2 μ2 _ s2 m2 (turn n ρ2 μ2 w2) λ b μ3 H3 h3 k3 m3=>?_
 cases b with
 | true =>
  obtain ⟨N,hN,h3⟩:=h3
  have k23:=k2.trans k3
  refine ⟨λ σ4 H4=>∃ ρ4 μ4,N ρ4 μ4 /\ RSt X.K H4 ρ4 σ4 /\ RelM X.K μ4 H4 /\ Kp H H4,λ σ4 H4 ⟨ρ4,μ4,hn,s4,m4,k4⟩=>?_,?_⟩
  ·obtain ⟨n',hl,w4⟩:=hN _ _ hn
   exact ⟨n',hl,ρ4,μ4,w4,s4,m4,k4⟩
  ·exact rb σ2 H3 _ ρ2 μ3 _ (s2.mono k3) m3 h3 ⟨λ ρ5 μ5 σ5 H5 h5 k5 s5 m5=>⟨ρ5,μ5,h5,s5,m5,k23.trans k5⟩,λ ρ5 μ5 σ5 H5 h5 k5 s5 m5=>k.nx _ _ _ _ h5 (k23.trans k5) s5 m5,
     λ ρ5 μ5 σ5 H5 h5 k5 s5 m5=>⟨ρ5,μ5,h5,s5,m5,k23.trans k5⟩,λ d μ5 v H5 h5 k5 r5 m5=>k.rt _ _ _ _ h5 (k23.trans k5) r5 m5⟩
 | false=>exact k.nx _ _ _ _ h3 (k2.trans k3) (s2.mono k3) m3
noncomputable def lift (K:Fg) (sp:Sp3):Sp:=λ vs H Q _=>∃ ds μ Q3,RelDs K H ds vs /\ RelM K μ H /\ sp ds μ Q3 /\ Ks K H Q3 Q
noncomputable def Cal (P:Program) (w:World) (K:Fg) (mg:Str->Option Value) (base:Heap) (k:Nat) (x:Str) (ps:List Str) (sp:Sp3):Prop :=
 ∃ f fd,FnOk P w K mg base CX0 k f fd ps (lift K sp) /\ mg x=some (.ref f) /\ PySem.W.keepIn K (.ref f)=true /\ Binds K fd ps []
theorem Cal.mono {P:Program} {w:World} {K:Fg} {mg:Str->Option Value} {base:Heap} {j k:Nat} {x:Str} {ps:List Str} {sp:Sp3} (c:Cal P w K mg base j x ps sp) (h:j<=k):Cal P w K mg base k x ps sp:=by
 obtain ⟨f,fd,F,r⟩:=c
 exact ⟨f,fd,F.mono h,r⟩
variable {es:List Expr} {t:TA3} {x:Str} {p:Pos}
theorem zc0 {k:Nat} {ps:List Str} {sp:Sp3} (c:Cal X.prog X.w X.K X.mg X.base k x ps sp) (hr:Room k X.A) (ha:RA X (e :: es) t) (hg:Gl X x:=by rfl) (hdb:(x == ("__debug__" : Str))=false:=by decide)
    (he:starEach (e :: es) X.env=(false,eval e X.env) :: starEach es X.env:=by rfl) (hpl:(backTo pos (starEach es X.env)).any (·.1)=false:=by rfl):RE X (.Call (.Name x p) (e :: es) [] pos) (call3 sp t):=by
 obtain ⟨f,fd,F,hm,hk,hb⟩:=c
 obtain ⟨va,pa,ra⟩:=ha
 refine ⟨_,yc1 F hr hg hm hk hb .nil vq3 pa hdb he hpl,λ σ H Q ρ μ Q3 s m h k=>ra σ H _ ρ μ _ s m h λ ds μ1 vs H1 h1 k1 r1 m1=>?_⟩
 rw [List.append_nil]
 exact ⟨ds,μ1,Q3,r1,m1,h1,k.after k1⟩
theorem yc0 {r:C3} {id:String} (hc:RC X (.builtin id) r) (hm:X.mg x=none) (hv:bootBuiltins x=some (.builtin id)) (ha:RA X (e :: es) t) (hg:Gl X x:=by rfl) (hn:x ≠ "__name__" := by decide) (hdb:(x == ("__debug__" : Str))=false:=by decide)
    (he:starEach (e :: es) X.env=(false,eval e X.env) :: starEach es X.env:=by rfl) (hpl:(backTo pos (starEach es X.env)).any (·.1)=false:=by rfl):RE X (.Call (.Name x p) (e :: es) [] pos) (call3 r t):=by
 obtain ⟨r',pc,rc⟩:=hc
 obtain ⟨va,pa,ra⟩:=ha
 exact ⟨_,zf1 pc hg hm hv pa hn hdb he hpl,λ σ H Q ρ μ Q3 s m h k=>ra σ H _ ρ μ _ s m h λ ds μ1 vs H1 h1 k1 r1 m1=>rc ds vs H1 Q μ1 Q3 m1 r1 h1 (k.after k1)⟩
theorem sg0 {r:C3} {T:String} (hc:RC X (.type T) r) (hm:X.mg x=none) (hv:bootBuiltins x=some (.type T)) (ha:RA X (e :: es) t) (hg:Gl X x:=by rfl) (hn:x ≠ "__name__" := by decide) (hdb:(x == ("__debug__" : Str))=false:=by decide)
    (he:starEach (e :: es) X.env=(false,eval e X.env) :: starEach es X.env:=by rfl) (hpl:(backTo pos (starEach es X.env)).any (·.1)=false:=by rfl):RE X (.Call (.Name x p) (e :: es) [] pos) (call3 r t):=by
 obtain ⟨r',pc,rc⟩:=hc
 obtain ⟨va,pa,ra⟩:=ha
 exact ⟨_,zo1 pc hg hm hv pa hn hdb he hpl,λ σ H Q ρ μ Q3 s m h k=>ra σ H _ ρ μ _ s m h λ ds μ1 vs H1 h1 k1 r1 m1=>rc ds vs H1 Q μ1 Q3 m1 r1 h1 (k.after k1)⟩
theorem ud0 {r3:R3} (hx:RX X r3) (ha:RE X a ta) (hb:RE X b tb) (hs:ys1 b:=by intro _ _; rfl):RE X (.Subscript a b pos) (o3 r3 ta tb):=by
 obtain ⟨r,po,ro⟩:=hx
 obtain ⟨va,pa,ra⟩:=ha
 obtain ⟨vb,pb,rb⟩:=hb
 exact ⟨_,zq3 po pa pb hs,ra.op rb ro⟩
end
section
variable {P:Program} {w:World} {K:Fg} {mg:Str->Option Value} {base:Heap}
theorem yq1 {x:Str} {st:Stmt} {f:Addr} {fd:FuncData} {N ps:List Str} {k:Nat} {sp:Sp3} {t:TS3} (F:Fun K x x st f fd) (S:FnScope N ps (wa0 st))
    (len:∀ ds μ Q,sp ds μ Q->ds.length=ps.length)
    (body:∀ (cdv:Value) (A:Around) (outer:List Env) (s:Shared) (H:Hp) (E:XK),Room k (A.deeper (envOfC x (wa0 st) s.heap.objs.size f cdv))->RSs (cxOf CX0 P w K mg base N x (wa0 st) f cdv A outer s H E).nox (ub0 st) t)
    (rd:∀ ds μ Q,sp ds μ Q->t { nx:=λ _ μ'=>Q .non μ',rt:=Q } (start3 N ds) μ):FnOk P w K mg base CX0 (k + 1) f fd ps (lift K sp):=by
 refine F.ok S (λ vs H Q E h=>?_) (λ cdv A outer s H vs Q E hr h=>?_)
 ·obtain ⟨ds,μ,Q3,r,m,q,ks⟩:=h
  rw [<- r.length]; exact len _ _ _ q
 ·obtain ⟨ds,μ,Q3,r,m,q,ks⟩:=h
  obtain ⟨tv,p,rt⟩:=body cdv A outer s H E hr
  exact ⟨tv,p,rt _ H _ _ μ _ (RSt.start N r) m (rd ds μ Q3 q) ⟨λ ρ μ' σ H' h' k' s' m'=>ks _ _ _ _ h' k' .non m',λ ρ μ' σ H' h'=>False.elim h',λ ρ μ' σ H' h'=>False.elim h',ks⟩⟩
theorem wg0 {x:Str} {st:Stmt} {f:Addr} {fd:FuncData} {N ps:List Str} {k:Nat} {sp:Sp3} {t:TS3} (F:Fun K x x st f fd) (hm:mg x=some (.ref f)) (hb:Binds K fd ps []) (S:FnScope N ps (wa0 st))
    (len:∀ ds μ Q,sp ds μ Q->ds.length=ps.length)
    (body:∀ (cdv:Value) (A:Around) (outer:List Env) (s:Shared) (H:Hp) (E:XK),Room k (A.deeper (envOfC x (wa0 st) s.heap.objs.size f cdv))->RSs (cxOf CX0 P w K mg base N x (wa0 st) f cdv A outer s H E).nox (ub0 st) t)
    (rd:∀ ds μ Q,sp ds μ Q->t { nx:=λ _ μ'=>Q .non μ',rt:=Q } (start3 N ds) μ):Cal P w K mg base (k + 1) x ps sp :=
 ⟨f,fd,yq1 F S len body rd,hm,F.kp,hb⟩
theorem to0 {x:Str} {st:Stmt} {f:Addr} {fd:FuncData} {ps:List Str} {sp:Sp3} (F:Fun K x x st f fd) (hm:mg x=some (.ref f)) (hb:Binds K fd ps []) (no:∀ ds μ Q,¬ sp ds μ Q):Cal P w K mg base 0 x ps sp:=by
 have no':∀ vs H Q E,¬ lift K sp vs H Q E:=λ vs H Q E ⟨ds,μ,Q3,_,_,q,_⟩=>no _ _ _ q
 exact ⟨f,fd,⟨λ vs H Q E h=>absurd h (no' vs H Q E),λ A outer s H args us vs Q E _ _ _ _ h=>absurd h (no' vs H Q E)⟩,hm,F.kp,hb⟩
end
end Pv
namespace Pv
open PySem PySem.Spec PyProof.Rows L2
section
variable {X:Cx}
theorem RdO.i0 {K:Fg} {g3:Int->Int->D} {g:Int->Int->V} (hg:∀ i j H,RelD K H (g3 i j) (g i j)):RdO K (rI0 g) (int20 g3):=λ x y v u H Q μ Q3 m rx ry h k=>by
 cases rx with
 | int i =>
  cases ry with
  | int j=>exact ⟨i,j,rfl,rfl,k _ _ _ _ h (Kp.refl _) (hg i j H) m⟩
  | _=>exact False.elim h
 | _=>cases ry <;> exact False.elim h
theorem RdO.i2 {K:Fg} {C:Int->Int->Prop} {g3:Int->Int->D} {g:Int->Int->V} (hg:∀ i j H,RelD K H (g3 i j) (g i j)):RdO K (rI C g) (int2 C g3):=λ x y v u H Q μ Q3 m rx ry h k=>by
 cases rx with
 | int i =>
  cases ry with
  | int j=>exact ⟨i,j,rfl,rfl,h.1,k _ _ _ _ h.2 (Kp.refl _) (hg i j H) m⟩
  | _=>exact False.elim h
 | _=>cases ry <;> exact False.elim h
theorem sn1:RO X (binaryOp .Sub) subR:=⟨_,vd3,RdO.i0 λ _ _ _=>.int _⟩
theorem tj1:RO X (binaryOp .Mod) modR:=⟨_,xe3,RdO.i2 λ _ _ _=>.int _⟩
theorem vi2:RO X (binaryOp .Pow) powR:=⟨_,td3,RdO.i2 λ _ _ _=>.int _⟩
theorem log2_lt {n k:Nat} (hk:0 < k) (h:n < 2 ^ k):n.log2 < k:=by
 rcases Nat.eq_zero_or_pos n with h0 | hp
 ·rw [h0]; simpa using hk
 ·exact (Nat.log2_lt (Nat.ne_of_gt hp)).mpr h
theorem sw1:OpR X (binaryOp .FloorDiv) (rI (λ _ j=>0 < j /\ j < 2 ^ 120) λ i j=>.int (i / j)):=opI λ i j _ _ _ _ _ hc q=>by
 have h1:(0:Int) < j:=hc.1
 have h2:j < 2 ^ 120:=hc.2
 refine floordiv_int (by omega) (by rw [Int.fdiv_eq_ediv_of_nonneg i (by omega)]; exact q) (.inl (PyProof.noPylong_of_log2 ?_))
 have h3:j.natAbs < 2 ^ 120:=by omega
 exact Nat.lt_trans (log2_lt (by decide) h3) (by decide)
theorem vc2:RO X (binaryOp .FloorDiv) fdivR:=⟨_,sw1,RdO.i2 λ _ _ _=>.int _⟩
theorem CMul.mulok {i j:Int} (h:CMul i j):IntMulOk i j:=by
 rcases h with h | ⟨h1,h2⟩
 ·exact L2.CMul.ok h
 ·unfold IntMulOk
  intro e
  rw [Bool.and_eq_true] at e
  have e2:=e.2
  unfold Builtin.Int.intTooBig at e2
  have hb:∀ x:Int,x.natAbs < Big->Builtin.Int.intBits x<=1000:=λ x hx=>by
   unfold Builtin.Int.intBits
   split
   ·exact Nat.zero_le _
   ·exact log2_lt (by decide) hx
  have b1:=hb i h1
  have b2:=hb j h2
  have e3:=of_decide_eq_true e2
  have e4:(2000:Nat) < bitsLine:=by decide
  omega
theorem op_mulB:OpR X (binaryOp .Mult) (rI CMul λ i j=>.int (i * j)):=opI λ _ _ _ _ _ _ _ hc q=>mul_int q hc.mulok
theorem vv1:RU X (unaryOp .USub) negR:=⟨_,tq2,λ x v H Q μ Q3 m r h k=>by
 cases r with
 | int i=>exact ⟨i,rfl,k _ _ _ _ h (Kp.refl _) (.int _) m⟩
 | _=>exact False.elim h⟩
theorem q_lt:RO X (compareOp .Lt) ltR:=⟨_,uq3,RdO.i0 λ _ _ _=>.bl _⟩
theorem q_gt:RO X (compareOp .Gt) gtR:=⟨_,tq3,RdO.i0 λ _ _ _=>.bl _⟩
theorem q_ge:RO X (compareOp .GtE) geR:=⟨_,sq3,RdO.i0 λ _ _ _=>.bl _⟩
noncomputable def xp3 (K:Fg):R2:=λ x y H Q=>∃ a b xs ys,x=.ref a /\ y=.ref b /\ SqT K H a xs /\ SqT K H b ys /\ xs.length + ys.length<=sizeLine ∧
 (xs=[]->Q (.ref b) H) /\ (ys=[]->Q (.ref a) H) /\ (∀ p,H p=none->Q (.ref p) (upd H p (.tup (xs ++ ys))))
theorem zl2:OpR X (binaryOp .Add) (xp3 X.K):=by
 intro pins s σ H x y v u Q I rx ry h
 obtain ⟨a,b,xs,ys,rfl,rfl,ha,hb,hz,q1,q2,q3⟩:=h
 by_cases hx:xs=[]
 ·cases rx
  cases ry
  obtain ⟨its,r,ht,_⟩:=I.tuple ha
  obtain ⟨its2,r2,ht2,_⟩:=I.tuple hb
  have hi:its=[]:=by subst hx; cases r; rfl
  obtain ⟨⟨cls,dd,data,sl⟩,ho,hc,n,hd⟩:=id ht
  obtain ⟨⟨cls2,dd2,data2,sl2⟩,ho2,hc2,n2,hd2⟩:=id ht2
  simp only at hc hd hc2 hd2
  subst hc hd hc2 hd2
  exact concat_meets ⟨_,ho,rfl⟩ ⟨_,ho2,rfl⟩ noFill_tuple_add seq_tuple_add PySem.F.slot_tuple_add PySem.F.entry_tuple_add (PySem.F.args_tuple_add_2 _ _)
   (tuple_addW0 a b its.toArray its2.toArray n n2 dd dd2 sl sl2 (by simp [hi])) ⟨ho,ho2,⟨.ref b,H,I,rfl,q1 hx⟩⟩
 ·exact yl2 pins s σ H _ _ v u Q I rx ry ⟨a,b,xs,ys,rfl,rfl,ha,hb,hx,hz,q2,λ _=>q3⟩
theorem wc0:RO X (binaryOp .Add) addR:=by
 refine ⟨_,(op_add.or xk1).or (op_cat.or zl2),λ x y v u H Q μ Q3 m rx ry h k=>?_⟩
 cases rx with
 | int i =>
  cases ry with
  | int j=>exact .inl (.inl ⟨i,j,rfl,rfl,k _ _ _ _ h (Kp.refl _) (.int _) m⟩)
  | _=>exact False.elim h
 | str i =>
  cases ry with
  | str j=>exact .inl (.inr ⟨i,j,rfl,rfl,h.1,k _ _ _ _ h.2 (Kp.refl _) (.str _) m⟩)
  | _=>exact False.elim h
 | ref p =>
  cases ry with
  | ref q =>
   dsimp only [addR] at h
   cases e:μ p with
   | none=>rw [e] at h; exact h.elim
   | some oo =>
    cases oo with
    | ins _ _=>rw [e] at h; exact h.elim
    | dct _=>rw [e] at h; exact h.elim
    | dcl _=>rw [e] at h; exact h.elim
    | dck _=>rw [e] at h; exact h.elim
    | lst xs =>
     cases e2:μ q with
     | none=>rw [e,e2] at h; exact h.elim
     | some o2 =>
      cases o2 with
      | ins _ _=>rw [e,e2] at h; exact h.elim
      | dct _=>rw [e,e2] at h; exact h.elim
      | dcl _=>rw [e,e2] at h; exact h.elim
      | dck _=>rw [e,e2] at h; exact h.elim
      | lst ys =>
       rw [e,e2] at h
       obtain ⟨vs,hv,rv⟩:=m p xs e
       obtain ⟨us,hu,ru⟩:=m q ys e2
       refine .inr (.inl ⟨p,q,vs,us,rfl,rfl,hv,hu,by rw [<- rv.length,<- ru.length]; exact h.1,λ t ht=>?_⟩)
       exact k _ _ _ _ (h.2 t (m.free ht)) (Kp.new ht) (.ref t) (m.newL ht (rv.append ru))
  | _=>exact False.elim h
 | tup hq rs =>
  cases ry with
  | tup hq2 rs2 =>
   rename_i a l vs b l2 us
   refine .inr (.inr ⟨a,b,vs,us,rfl,rfl,(SqT.of hq),(SqT.of hq2),by rw [<- rs.length,<- rs2.length]; exact h.1,λ e=>?_,λ e=>?_,λ t ht=>?_⟩)
   ·subst e; cases rs
    exact k _ _ _ _ h.2 (Kp.refl _) (.tup hq2 rs2) m
   ·subst e; cases rs2
    have h2:=h.2
    rw [List.append_nil] at h2
    exact k _ _ _ _ h2 (Kp.refl _) (.tup hq rs) m
   ·exact k _ _ _ _ h.2 (Kp.new ht) (.tup xf0 ((rs.append rs2).mono (Kp.new ht))) (m.newT ht)
  | _=>exact False.elim h
 | _=>cases ry <;> exact False.elim h
theorem RelDs.atI {K:Fg} {H:Hp} {l:List D} {vs:List V} {i:Int} {d:D} (r:RelDs K H l vs) (e:Pv.atI l i=some d):∃ v,L2.atI vs i=some v /\ RelD K H d v:=by
 unfold Pv.atI at e
 unfold L2.atI
 rw [vg3,<- r.length]
 cases q:ixN l.length i with
 | none=>rw [q] at e; cases e
 | some j =>
  rw [q] at e
  exact r.get e
theorem q_ix:RX X ixR:=by
 refine ⟨_,ix_list.or zg3,λ x y v u H Q μ Q3 m rx ry h k=>?_⟩
 cases ry with
 | int i =>
  cases rx with
  | tup hq rs =>
   rename_i a l vs
   dsimp only [ixR] at h
   cases e:Pv.atI l i with
   | none=>rw [e] at h; exact h.elim
   | some d =>
    rw [e] at h
    obtain ⟨w,e1,r1⟩:=rs.atI e
    exact .inr ⟨a,vs,i,w,rfl,rfl,(SqT.of hq),e1,k _ _ _ _ h (Kp.refl _) r1 m⟩
  | ktp hq rs =>
   rename_i a l vs
   dsimp only [ixR] at h
   cases e:Pv.atI l i with
   | none=>rw [e] at h; exact h.elim
   | some d =>
    rw [e] at h
    obtain ⟨w,e1,r1⟩:=rs.atI e
    exact .inr ⟨a,vs,i,w,rfl,rfl,hq,e1,k _ _ _ _ h (Kp.refl _) r1 m⟩
  | fls hq rs =>
   rename_i a l vs
   dsimp only [ixR] at h
   cases e:Pv.atI l i with
   | none=>rw [e] at h; exact h.elim
   | some d =>
    rw [e] at h
    obtain ⟨w,e1,r1⟩:=rs.atI e
    exact .inl ⟨a,vs,i,w,rfl,rfl,hq.l,e1,k _ _ _ _ h (Kp.refl _) r1 m⟩
  | ref p =>
   dsimp only [ixR] at h
   cases e0:μ p with
   | none=>rw [e0] at h; exact h.elim
   | some oo =>
    cases oo with
    | ins _ _=>rw [e0] at h; exact h.elim
    | dct _=>rw [e0] at h; exact h.elim
    | dcl _=>rw [e0] at h; exact h.elim
    | dck _=>rw [e0] at h; exact h.elim
    | lst l =>
     rw [e0] at h
     dsimp only at h
     obtain ⟨vs,hv,rs⟩:=m p l e0
     cases e:Pv.atI l i with
     | none=>rw [e] at h; exact h.elim
     | some d =>
      rw [e] at h
      obtain ⟨w,e1,r1⟩:=rs.atI e
      exact .inl ⟨p,vs,i,w,rfl,rfl,SqL.of hv,e1,k _ _ _ _ h (Kp.refl _) r1 m⟩
  | _=>exact False.elim h
 | _=>cases rx <;> exact False.elim h
theorem wl0 {K:Fg} {H:Hp}:∀ {l:List D} {vs:List V} {zs:List Str},RelDs K H l vs->strs? l=some zs->vs=zs.map V.str
 | _,_,zs,.nil,e=>by simp [strs?] at e; subst e; rfl
 | _,_,zs,.cons h r,e=>by
  cases h with
  | str x =>
   simp only [strs?] at e
   split at e
   ·next ys e1 =>
    simp only [Option.some.injEq] at e
    subst e
    rw [wl0 r e1]; rfl
   ·cases e
  | _=>simp [strs?] at e
theorem zw0 (z:Str) (zs:List Str):inV (.str z) (zs.map V.str)=zs.contains z:=by
 unfold inV
 rw [List.any_map]
 induction zs with
 | nil=>rfl
 | cons y r ih =>
  rw [List.any_cons,ih,List.contains_cons]
  congr 1
  show (y == z)=(z == y)
  rw [Bool.eq_iff_iff,beq_iff_eq,beq_iff_eq]
  exact eq_comm
theorem tq0 (zs:List Str):(zs.map V.str).all vw0=true:=by
 rw [List.all_map,List.all_eq_true]; intro _ _; rfl
theorem wh0:RC X (.builtin "len") lenR:=by
 refine ⟨_,call_len_seq.or sz0,λ xs vs H Q μ Q3 m r h k=>?_⟩
 cases r with
 | nil=>exact False.elim h
 | cons r1 r2 =>
  cases r2 with
  | cons _ _=>cases r1 <;> exact False.elim h
  | nil =>
   cases r1 with
   | tup hq rs =>
    rename_i a l vs
    refine .inl ⟨a,vs,rfl,.inr (SqT.of hq),?_⟩
    rw [<- rs.length]
    exact k _ _ _ _ h (Kp.refl _) (.int _) m
   | fls hq rs =>
    rename_i a l vs
    refine .inl ⟨a,vs,rfl,.inl hq.l,?_⟩
    rw [<- rs.length]
    exact k _ _ _ _ h (Kp.refl _) (.int _) m
   | str z=>exact .inr ⟨z,rfl,h.1,k _ _ _ _ h.2 (Kp.refl _) (.int _) m⟩
   | ref p =>
    dsimp only [lenR] at h
    cases e:μ p with
    | none=>rw [e] at h; exact h.elim
    | some oo =>
     cases oo with
     | ins _ _=>rw [e] at h; exact h.elim
     | dct _=>rw [e] at h; exact h.elim
     | dcl _=>rw [e] at h; exact h.elim
     | dck _=>rw [e] at h; exact h.elim
     | lst l =>
      rw [e] at h
      obtain ⟨vs,hv,rs⟩:=m p l e
      refine .inl ⟨p,vs,rfl,.inl (SqL.of hv),?_⟩
      rw [<- rs.length]
      exact k _ _ _ _ h (Kp.refl _) (.int _) m
   | _=>exact False.elim h
theorem vp3:RC X (.builtin "abs") absR:=by
 refine ⟨_,ua2,λ xs vs H Q μ Q3 m r h k=>?_⟩
 cases r with
 | nil=>exact False.elim h
 | cons r1 r2 =>
  cases r2 with
  | cons _ _=>cases r1 <;> exact False.elim h
  | nil =>
   cases r1 with
   | int i=>exact ⟨i,rfl,k _ _ _ _ h (Kp.refl _) (.int _) m⟩
   | _=>exact False.elim h
theorem tb1:RC X (.type "tuple") tupR:=by
 refine ⟨_,wx0,λ xs vs H Q μ Q3 m r h k=>?_⟩
 cases r with
 | nil=>exact False.elim h
 | cons r1 r2 =>
  cases r2 with
  | cons _ _=>cases r1 <;> exact False.elim h
  | nil =>
   cases r1 with
   | tup hq rs=>exact ⟨_,_,rfl,.inr ⟨(SqT.of hq),k _ _ _ _ h (Kp.refl _) (.tup hq rs) m⟩⟩
   | ref p =>
    dsimp only [tupR] at h
    cases e:μ p with
    | none=>rw [e] at h; exact h.elim
    | some oo =>
     cases oo with
     | ins _ _=>rw [e] at h; exact h.elim
     | dct _=>rw [e] at h; exact h.elim
     | dcl _=>rw [e] at h; exact h.elim
     | dck _=>rw [e] at h; exact h.elim
     | lst l =>
      rw [e] at h
      obtain ⟨vs,hv,rs⟩:=m p l e
      exact ⟨p,vs,rfl,.inl ⟨SqL.of hv,λ t ht=>k _ _ _ _ h (Kp.new ht) (.tup xf0 (rs.mono (Kp.new ht))) (m.newT ht)⟩⟩
   | _=>exact False.elim h
end
end Pv
namespace Pv
open PySem PySem.Spec PyProof.Rows L2
section
variable {X:Cx} {pins:List (Addr × Obj)} {σ:L2.St} {H:Hp} {s:Shared}
mutual
theorem ug0 (I:Inv X pins σ H s):∀ {d:D} {v:V} {p:PyData} {u:Value},RelD X.K H d v->dat d=some p->RelV v u->∃ as,Reads s.heap u p as
 | _,_,p,u,.non,e,r=>by simp only [dat,Option.some.injEq] at e; subst e; cases r; exact ⟨_,Reads.none⟩
 | _,_,p,u,.bl b,e,r=>by simp only [dat,Option.some.injEq] at e; subst e; cases r; exact ⟨_,Reads.bool b⟩
 | _,_,p,u,.int i,e,r=>by simp only [dat,Option.some.injEq] at e; subst e; obtain ⟨t,rfl⟩:=r; exact ⟨_,Reads.int i t⟩
 | _,_,p,u,.str x,e,r=>by
  simp only [dat] at e
  split at e
  ·simp only [Option.some.injEq] at e; subst e; obtain ⟨t,rfl⟩:=r; exact ⟨_,Reads.str x t⟩
  ·cases e
 | _,_,p,u,.ref a,e,r=>by simp [dat] at e
 | _,_,p,u,.ty n,e,r=>by simp [dat] at e
 | _,_,p,u,.fls _ _,e,r=>by simp [dat] at e
 | _,_,p,u,.exc _ _ _,e,r=>by simp [dat] at e
 | _,_,p,u,.tup hq rs,e,r=>by
  simp only [dat] at e
  split at e
  ·next ps e1 =>
   simp only [Option.some.injEq] at e; subst e
   cases r
   obtain ⟨its,rv,⟨o,ho,hc,n,hd⟩,hz⟩:=I.tuple (SqT.of hq)
   obtain ⟨as,q⟩:=zi0 I rs e1 rv
   exact ⟨_,Reads.tuple ho hc hd (by simpa using q)⟩
  ·cases e
 | _,_,p,u,.ktp hq rs,e,r=>by
  simp only [dat] at e
  split at e
  ·next ps e1 =>
   simp only [Option.some.injEq] at e; subst e
   cases r
   obtain ⟨its,rv,⟨o,ho,hc,n,hd⟩,hz⟩:=I.tuple hq
   obtain ⟨as,q⟩:=zi0 I rs e1 rv
   exact ⟨_,Reads.tuple ho hc hd (by simpa using q)⟩
  ·cases e
theorem zi0 (I:Inv X pins σ H s):∀ {l:List D} {vs:List V} {ps:List PyData} {us:List Value},RelDs X.K H l vs->dats l=some ps->Vals vs us->∃ as,ReadsAll s.heap us ps as
 | _,_,ps,us,.nil,e,r=>by simp only [dats,Option.some.injEq] at e; subst e; cases r; exact ⟨_,ReadsAll.nil⟩
 | _,_,ps,us,.cons h rs,e,r=>by
  simp only [dats] at e
  split at e
  ·next p e1 =>
   split at e
   ·next qs e2 =>
    simp only [Option.some.injEq] at e; subst e
    cases r with
    | cons r1 r2 =>
     obtain ⟨as,q1⟩:=ug0 I h e1 r1
     obtain ⟨bs,q2⟩:=zi0 I rs e2 r2
     exact ⟨_,ReadsAll.cons q1 q2⟩
   ·cases e
  ·cases e
end
theorem th0 (I:Inv X pins σ H s) {μ:Mu} (m:RelM X.K μ H) {d:D} {v:V} {p:PyData} {u:Value} (h:RelD X.K H d v) (e:datM μ d=some p) (r:RelV v u):∃ as,Reads s.heap u p as:=by
 cases h with
 | ref a =>
  simp only [datM] at e
  split at e
  ·next l e0 =>
   split at e
   ·next ps e1 =>
    simp only [Option.some.injEq] at e; subst e
    cases r
    obtain ⟨vs,hv,rs⟩:=m a l e0
    obtain ⟨its,rv,pl,hz⟩:=I.list (SqL.of hv)
    obtain ⟨o,ho,hc,n,hd⟩:=pl.isList
    obtain ⟨as,q⟩:=zi0 I rs e1 rv
    exact ⟨_,Reads.list ho hc hd (by simpa using q)⟩
   ·cases e
  ·cases e
 | non=>exact ug0 I .non e r
 | bl b=>exact ug0 I (.bl b) e r
 | int i=>exact ug0 I (.int i) e r
 | str x=>exact ug0 I (.str x) e r
 | ty n=>exact ug0 I (.ty n) e r
 | tup hq rs=>exact ug0 I (.tup hq rs) e r
 | ktp hq rs=>exact ug0 I (.ktp hq rs) e r
 | fls hq rs=>exact ug0 I (.fls hq rs) e r
 | exc a1 a2 a3=>simp [datM,dat] at e
mutual
theorem ye0:∀ (d:D) (p:PyData),dat d=some p->p.canLay0=true
 | .non,p,e=>by simp only [dat,Option.some.injEq] at e; subst e; rfl
 | .bl b,p,e=>by simp only [dat,Option.some.injEq] at e; subst e; rfl
 | .int b,p,e=>by simp only [dat,Option.some.injEq] at e; subst e; rfl
 | .str x,p,e=>by
  simp only [dat] at e
  split at e
  ·next h=>simp only [Option.some.injEq] at e; subst e; exact h
  ·cases e
 | .tup l,p,e=>by
  simp only [dat] at e
  split at e
  ·next ps e1=>simp only [Option.some.injEq] at e; subst e; simp only [PyData.canLay0]; exact wi0 l ps e1
  ·cases e
 | .ktp l,p,e=>by
  simp only [dat] at e
  split at e
  ·next ps e1=>simp only [Option.some.injEq] at e; subst e; simp only [PyData.canLay0]; exact wi0 l ps e1
  ·cases e
 | .fls _,p,e=>by simp [dat] at e
 | .ref _,p,e=>by simp [dat] at e
 | .ty _,p,e=>by simp [dat] at e
theorem wi0:∀ (l:List D) (ps:List PyData),dats l=some ps->PyData.canLayAll0 ps=true
 | [],ps,e=>by simp only [dats,Option.some.injEq] at e; subst e; rfl
 | d :: r,ps,e=>by
  simp only [dats] at e
  split at e
  ·next p e1 =>
   split at e
   ·next qs e2 =>
    simp only [Option.some.injEq] at e; subst e
    simp only [PyData.canLayAll0,Bool.and_eq_true]
    exact ⟨ye0 d p e1,wi0 r qs e2⟩
   ·cases e
  ·cases e
end
theorem wd1 {μ:Mu} {d:D} {p:PyData} (e:datM μ d=some p):p.canLay0=true:=by
 cases d with
 | ref a =>
  simp only [datM] at e
  split at e
  ·next l e0 =>
   split at e
   ·next ps e1=>simp only [Option.some.injEq] at e; subst e; simp only [PyData.canLay0]; exact wi0 l ps e1
   ·cases e
  ·cases e
 | non=>exact ye0 _ p e
 | bl b=>exact ye0 _ p e
 | int i=>exact ye0 _ p e
 | str x=>exact ye0 _ p e
 | ty n=>exact ye0 _ p e
 | tup l=>exact ye0 _ p e
 | ktp l=>exact ye0 _ p e
 | fls l=>exact ye0 _ p e
 | exc c=>simp [datM,dat] at e
theorem te0 {μ:Mu} {d:D} {p:PyData} (e:datM μ d=some p) (h:p.depth<=64):PySem.SeqAt.shaped p=true:=by
 unfold PySem.SeqAt.shaped
 rw [wd1 e,decide_eq_true h]; rfl
noncomputable def rEqD (K:Fg) (neg:Bool):R2:=λ x y H Q=>∃ d e μ p q,RelM K μ H /\ RelD K H d x /\ RelD K H e y /\ datM μ d=some p /\ datM μ e=some q /\ p.depth<=64 /\ q.depth<=64 /\ Q (.bl (if neg then !PyData.eqv p q else PyData.eqv p q)) H
theorem we3 (hu:X.A.units + 64 < cLine):OpR X (compareOp .Eq) (rEqD X.K false):=by
 intro pins s σ H x y v u Q I rx ry h
 obtain ⟨d,e,μ,p,q,m,rd,re,e1,e2,h1,h2,k⟩:=h
 obtain ⟨as,q1⟩:=th0 I m rd e1 rx
 obtain ⟨bs,q2⟩:=th0 I m re e2 ry
 exact eq_dataH q1 q2 (te0 e1 h1) (te0 e2 h2) hu ⟨.bl _,H,I,rfl,k⟩
theorem sd3 (hu:X.A.units + 64 < cLine):OpR X (compareOp .NotEq) (rEqD X.K true):=by
 intro pins s σ H x y v u Q I rx ry h
 obtain ⟨d,e,μ,p,q,m,rd,re,e1,e2,h1,h2,k⟩:=h
 obtain ⟨as,q1⟩:=th0 I m rd e1 rx
 obtain ⟨bs,q2⟩:=th0 I m re e2 ry
 exact ne_dataH q1 q2 (te0 e1 h1) (te0 e2 h2) hu ⟨.bl _,H,I,rfl,k⟩
theorem th3 {K:Fg} {H:Hp} {x y:D} {v u:V} {c:Bool} (rx:RelD K H x v) (ry:RelD K H y u) (e:eqS x y=some c):scal v u=true /\ decide (v=u)=c:=by
 unfold eqS at e
 split at e <;> first | (cases e; done) | (cases rx; cases ry; cases e; exact ⟨rfl,rfl⟩) | (cases rx; cases ry; cases e; refine ⟨rfl,?_⟩; simp)
theorem hu64 {A:Around} {k:Nat} (hr:Room k A):A.units + 64 < cLine:=by have:=hr.un; omega
noncomputable def rInD (K:Fg) (neg:Bool):R2:=λ x y H Q=>∃ d e μ p xs,∃ b:Bool,RelM K μ H /\ RelD K H d x /\ RelD K H e y /\ datM μ d=some p /\ datM μ e=some (if b then .list xs else .tuple xs) /\ p.depth<=64 /\ (if b then PyData.list xs else PyData.tuple xs).depth<=64 ∧
 Q (.bl (if neg then !(xs.any λ e=>PyData.eqv e p) else xs.any λ e=>PyData.eqv e p)) H
theorem ze3 (hu:X.A.units + 65 < cLine):OpR X (compareOp .In) (rInD X.K false):=by
 intro pins s σ H x y v u Q I rx ry h
 obtain ⟨d,e,μ,p,xs,b,m,rd,re,e1,e2,h1,h2,k⟩:=h
 obtain ⟨as,q1⟩:=th0 I m rd e1 rx
 obtain ⟨bs,q2⟩:=th0 I m re e2 ry
 cases b
 ·exact PySem.SeqAt.in_tuple_reads q2 q1 (PySem.SeqAt.canLay_of_shaped (te0 e2 h2)) (PySem.SeqAt.canLay_of_shaped (te0 e1 h1)) (room_in_shaped (te0 e1 h1) hu) ⟨.bl _,H,I,rfl,k⟩
 ·exact PySem.SeqAt.in_list_reads q2 q1 (PySem.SeqAt.canLay_of_shaped (te0 e2 h2)) (PySem.SeqAt.canLay_of_shaped (te0 e1 h1)) (room_in_shaped (te0 e1 h1) hu) ⟨.bl _,H,I,rfl,k⟩
theorem hu65 {A:Around} {k:Nat} (hr:Room k A):A.units + 65 < cLine:=by have:=hr.un; omega
theorem um2 {K:Fg} {neg:Bool} {x y:D} {v u:V} {H:Hp} {Q:VK} {μ:Mu} {Q3:VK3} (m:RelM K μ H) (rx:RelD K H x v) (ry:RelD K H y u) (h:inD neg x y μ Q3) (k:Ks K H Q3 Q):rInD K neg v u H Q:=by
 unfold inD at h
 split at h
 ·next d xs e1 e2=>exact ⟨x,y,μ,d,xs,true,m,rx,ry,e1,e2,h.1.1,h.1.2,k _ _ _ _ h.2 (Kp.refl _) (.bl _) m⟩
 ·next d xs e1 e2=>exact ⟨x,y,μ,d,xs,false,m,rx,ry,e1,e2,h.1.1,h.1.2,k _ _ _ _ h.2 (Kp.refl _) (.bl _) m⟩
 ·exact h.elim
theorem RdO.inn {K:Fg} {neg:Bool}:RdO K (λ x y H Q=>(rIn K neg x y H Q \/ ∃ i j,x=.str i /\ y=.str j /\ Q (.bl (if neg then !(!(Builtin.Str.occurrences j i 0 j.length 1).isEmpty) else !(Builtin.Str.occurrences j i 0 j.length 1).isEmpty)) H) \/ rInD K neg x y H Q) (inR neg):=λ x y v u H Q μ Q3 m rx ry h k=>by
 unfold inR at h
 split at h
 ·next z l =>
  cases e:strs? l with
  | none=>rw [e] at h; exact .inr (um2 m rx ry h k)
  | some zs =>
   rw [e] at h
   cases rx
   cases ry with
   | tup hq rs =>
    rename_i a vs
    have ev:=wl0 rs e
    refine .inl <| .inl ⟨a,vs,rfl,.inr (SqT.of hq),rfl,by rw [ev]; exact tq0 zs,?_⟩
    rw [ev,zw0]
    exact k _ _ _ _ h (Kp.refl _) (.bl _) m
 ·next z l =>
  cases e:strs? l with
  | none=>rw [e] at h; exact .inr (um2 m rx ry h k)
  | some zs =>
   rw [e] at h
   cases rx
   cases ry with
   | ktp hq rs =>
    rename_i a vs
    have ev:=wl0 rs e
    refine .inl <| .inl ⟨a,vs,rfl,.inr hq,rfl,by rw [ev]; exact tq0 zs,?_⟩
    rw [ev,zw0]
    exact k _ _ _ _ h (Kp.refl _) (.bl _) m
 ·next z y =>
  cases rx
  cases ry
  exact .inl <| .inr ⟨z,y,rfl,rfl,k _ _ _ _ h (Kp.refl _) (.bl _) m⟩
 ·exact .inr (um2 m rx ry h k)
theorem q_in (hu:X.A.units + 65 < cLine):RO X (compareOp .In) (inR false):=⟨_,(op_in_seq.or vo1).or (ze3 hu),RdO.inn⟩
theorem q_eq (hu:X.A.units + 64 < cLine):RO X (compareOp .Eq) eqR:=by
 refine ⟨_,op_eq.or (we3 hu),λ x y v u H Q μ Q3 m rx ry h k=>?_⟩
 unfold eqR at h
 cases e:eqS x y with
 | some c =>
  rw [e] at h
  obtain ⟨h1,h2⟩:=th3 rx ry e
  refine .inl ⟨h1,?_⟩
  rw [h2]
  exact k _ _ _ _ h (Kp.refl _) (.bl _) m
 | none =>
  rw [e] at h
  dsimp only at h
  cases e1:datM μ x with
  | none=>rw [e1] at h; exact h.elim
  | some p =>
   cases e2:datM μ y with
   | none=>rw [e1,e2] at h; exact h.elim
   | some q =>
    rw [e1,e2] at h
    exact .inr ⟨x,y,μ,p,q,m,rx,ry,e1,e2,h.1.1,h.1.2,k _ _ _ _ h.2 (Kp.refl _) (.bl _) m⟩
theorem q_ne (hu:X.A.units + 64 < cLine):RO X (compareOp .NotEq) neR:=by
 refine ⟨_,op_ne.or (sd3 hu),λ x y v u H Q μ Q3 m rx ry h k=>?_⟩
 unfold neR at h
 cases e:eqS x y with
 | some c =>
  rw [e] at h
  obtain ⟨h1,h2⟩:=th3 rx ry e
  refine .inl ⟨h1,?_⟩
  rw [h2]
  exact k _ _ _ _ h (Kp.refl _) (.bl _) m
 | none =>
  rw [e] at h
  dsimp only at h
  cases e1:datM μ x with
  | none=>rw [e1] at h; exact h.elim
  | some p =>
   cases e2:datM μ y with
   | none=>rw [e1,e2] at h; exact h.elim
   | some q =>
    rw [e1,e2] at h
    exact .inr ⟨x,y,μ,p,q,m,rx,ry,e1,e2,h.1.1,h.1.2,k _ _ _ _ h.2 (Kp.refl _) (.bl _) m⟩
theorem wm2 (K:Fg):∀ t ∈ ["int", "str", "tuple", "bool", "NoneType", "list"],∀ T ∈ ["int", "str", "tuple", "bool", "list"],PySem.W.kitOne K (.type t) (.type T)=some (t == T || (t == "bool" && T == "int")):=by
 intro t ht T hT
 simp only [List.mem_cons,List.not_mem_nil,or_false] at ht hT
 rcases ht with rfl | rfl | rfl | rfl | rfl | rfl <;> rcases hT with rfl | rfl | rfl | rfl | rfl <;> with_unfolding_all rfl
theorem ug3 {K:Fg} {t T:String} {b:Bool} (e:isIn t T=some b) (ht:t ∈ ["int", "str", "tuple", "bool", "NoneType", "list"]) (hT:T ∈ ["int", "str", "tuple", "bool", "list"]):PySem.W.kitOne K (.type t) (.type T)=some b:=by
 rw [wm2 K t ht T hT]
 simp only [List.mem_cons,List.not_mem_nil,or_false] at ht hT
 rcases ht with rfl | rfl | rfl | rfl | rfl | rfl <;> rcases hT with rfl | rfl | rfl | rfl | rfl <;> simp [isIn] at e <;> subst e <;> rfl
theorem tg3 {t T:String} {b:Bool} (e:isIn t T=some b) (ht:t ∈ ["int", "str", "tuple", "bool", "NoneType", "list"]):T ∈ ["int", "str", "tuple", "bool", "list"] \/ (t=T /\ b=true):=by
 unfold isIn at e
 simp only [List.mem_cons,List.not_mem_nil,or_false] at ht ⊢
 split at e
 ·next h=>simp only [Option.some.injEq] at e; exact .inr ⟨h,e.symm⟩
 ·split at e
  ·next h=>rw [h.2]; simp
  ·split at e
   ·next h=>rcases h.2 with rfl | rfl | rfl | rfl | rfl <;> simp
   ·cases e
theorem sx1 (K:Fg) (t:String):PySem.W.kitOne K (.type t) (.type t)=some true:=by
 unfold PySem.W.kitOne
 rw [if_pos (by simp)]
noncomputable def rIsi (K:Fg):List V->Hp->VK->Prop:=λ xs H Q=>∃ d v μ t T b,xs=[v,.ty T] /\ RelM K μ H /\ RelD K H d v /\ tyN μ d=some t /\ isIn t T=some b /\ Q (.bl b) H
theorem va2:CallR X (.builtin "isinstance") (rIsi X.K):=by
 intro pins s σ H xs us Q I r h
 obtain ⟨d,v,μ,t,T,b,rfl,m,rd,e1,e2,q⟩:=h
 obtain ⟨u,w',rfl,rx,ry⟩:=uq2 r
 cases ry
 have fin:∀ tk,EP X pins σ Q (.bool b) { s with toks:=tk }:=λ tk=>⟨.bl b,H,I.tok tk,rfl,q⟩
 have hk:∀ t',t' ∈ ["int", "str", "tuple", "bool", "NoneType", "list"]->isIn t' T=some b->PySem.W.kitOne X.K (.type t') (.type T)=some b:=λ t' h1 h2=>by
  rcases tg3 h2 h1 with z | ⟨rfl,rfl⟩
  ·exact ug3 h2 h1 z
  ·exact sx1 _ _
 cases rd with
 | non=>simp only [tyN,Option.some.injEq] at e1; subst e1; cases rx; exact PySem.W.kia_one PySem.W.kitx_none I.kIn True.intro (hk _ (by simp) e2) (λ z=>nomatch z) fin
 | bl y=>simp only [tyN,Option.some.injEq] at e1; subst e1; cases rx; exact PySem.W.kia_one PySem.W.kitx_bool I.kIn True.intro (hk _ (by simp) e2) (λ z=>nomatch z) fin
 | int i=>simp only [tyN,Option.some.injEq] at e1; subst e1; obtain ⟨tk,rfl⟩:=rx; exact PySem.W.kia_one PySem.W.kitx_int I.kIn True.intro (hk _ (by simp) e2) (λ z=>nomatch z) fin
 | str y=>simp only [tyN,Option.some.injEq] at e1; subst e1; obtain ⟨tk,rfl⟩:=rx; exact PySem.W.kia_one PySem.W.kitx_str I.kIn True.intro (hk _ (by simp) e2) (λ z=>nomatch z) fin
 | tup hq rs =>
  simp only [tyN,Option.some.injEq] at e1; subst e1; cases rx
  obtain ⟨its,rv,⟨o,ho,hc,_⟩,hz⟩:=I.tuple (SqT.of hq)
  exact PySem.W.kia_one PySem.W.kitx_tuple I.kIn ⟨o,ho,hc⟩ (hk _ (by simp) e2) (λ z=>nomatch z) fin
 | ref p =>
  simp only [tyN] at e1
  split at e1
  ·next l e0 =>
   simp only [Option.some.injEq] at e1; subst e1; cases rx
   obtain ⟨vs,hv,rs⟩:=m p l e0
   obtain ⟨its,rv,pl,hz⟩:=I.list (SqL.of hv)
   obtain ⟨o,ho,hc,_⟩:=pl.isList
   exact PySem.W.kia_one PySem.W.kitx_list I.kIn ⟨o,ho,hc⟩ (hk _ (by simp) e2) (λ z=>nomatch z) fin
  ·cases e1
 | ty n=>simp [tyN] at e1
 | fls _ _=>simp [tyN] at e1
 | ktp _ _=>simp [tyN] at e1
 | exc _ _ _=>simp [tyN] at e1
theorem uv1:RC X (.builtin "isinstance") isiR:=by
 refine ⟨_,va2,λ xs vs H Q μ Q3 m r h k=>?_⟩
 cases r with
 | nil=>exact False.elim h
 | cons r1 r2 =>
  cases r2 with
  | nil=>exact False.elim h
  | cons r2 r3 =>
   cases r3 with
   | cons _ _=>cases r2 <;> exact False.elim h
   | nil =>
    cases r2 with
    | ty T =>
     rename_i d v
     dsimp only [isiR] at h
     cases e:tyN μ d with
     | none=>rw [e] at h; exact h.elim
     | some t =>
      rw [e] at h
      dsimp only at h
      cases e2:isIn t T with
      | none=>rw [e2] at h; exact h.elim
      | some b =>
       rw [e2] at h
       exact ⟨d,v,μ,t,T,b,rfl,m,r1,e,e2,k _ _ _ _ h (Kp.refl _) (.bl _) m⟩
    | _=>exact False.elim h
variable {o e:Expr} {es:List Expr} {to:TE3} {t:TA3} {apos cpos:Pos}
theorem tx2 {name:Str} {id:String} {r:V->List V->Hp->VK->Prop} {r3:D->List D->Mu->VK3->Prop} (slot:Slot "list" name id) (hty:typeOf (.builtin id)=pure (.type "method_descriptor")) (hm:MtR X id r)
    (hrd:∀ p xs v vs H Q μ Q3,RelM X.K μ H->RelD X.K H (.ref p) v->RelDs X.K H xs vs->r3 (.ref p) xs μ Q3->Ks X.K H Q3 Q->r v vs H Q) (ho:RE X o to) (ha:RA X (e :: es) t)
    (hbase:attributeBase o name X.env (eval o X.env)=eval o X.env)
    (hfew:((backTo cpos (starEach (e :: es) X.env)).all (λ x=>!x.1) && (backToKw cpos (keywordEach [] X.env)).all (λ x=>x.1.isSome)
     && decide ((e :: es).length + ([]:List Keyword).length + (if ([]:List Keyword).isEmpty then 0 else 1) < 30))=true)
    (hline:(apos.endLine == cpos.line)=true) (hs:starEach (e :: es) X.env=(false,eval e X.env) :: starEach es X.env) (hplain:(backTo cpos (starEach es X.env)).any (·.1)=false) :
    RE X (.Call (.Attribute o name apos) (e :: es) [] cpos) (mt3 r3 to t):=by
 obtain ⟨va,pa,ra⟩:=ho
 obtain ⟨vb,pb,rb⟩:=ha
 refine ⟨_,zd3 PySem.F.plainAttrs_list slot hty hm pa pb hbase hfew hline hs hplain,λ σ H Q ρ μ Q3 s m h k=>ra σ H _ ρ μ _ s m h λ d μ1 v H1 h1 k1 r1 m1=>?_⟩
 cases r1 with
 | ref p =>
  dsimp only at h1
  cases e0:μ1 p with
  | none=>rw [e0] at h1; exact h1.elim
  | some oo =>
   cases oo with
   | ins _ _=>rw [e0] at h1; exact h1.elim
   | dct _=>rw [e0] at h1; exact h1.elim
   | dcl _=>rw [e0] at h1; exact h1.elim
   | dck _=>rw [e0] at h1; exact h1.elim
   | lst l =>
    rw [e0] at h1
    obtain ⟨vs,hv,rs⟩:=m1 p l e0
    refine ⟨.inl ⟨rfl,vs,SqL.of hv⟩,rb σ H1 _ ρ μ1 _ (s.mono k1) m1 h1 λ xs μ2 ys H2 h2 k2 r2 m2=>?_⟩
    exact hrd p xs _ ys H2 Q μ2 Q3 m2 (.ref p) r2 h2 (k.after (k1.trans k2))
 | _=>exact False.elim h1
theorem xh0 (ho:RE X o to) (ha:RA X (e :: es) t) (hbase:attributeBase o "append" X.env (eval o X.env)=eval o X.env:=by rfl)
    (hfew:((backTo cpos (starEach (e :: es) X.env)).all (λ x=>!x.1) && (backToKw cpos (keywordEach [] X.env)).all (λ x=>x.1.isSome)
     && decide ((e :: es).length + ([]:List Keyword).length + (if ([]:List Keyword).isEmpty then 0 else 1) < 30))=true:=by rfl)
    (hline:(apos.endLine == cpos.line)=true:=by rfl) (hs:starEach (e :: es) X.env=(false,eval e X.env) :: starEach es X.env:=by rfl) (hplain:(backTo cpos (starEach es X.env)).any (·.1)=false:=by rfl) :
    RE X (.Call (.Attribute o "append" apos) (e :: es) [] cpos) (mt3 appR to t):=by
 refine tx2 PySem.F.slot_list_append PySem.F.type_list_append yq0 (λ p xs v vs H Q μ Q3 m rp rx h k=>?_) ho ha hbase hfew hline hs hplain
 cases rp
 cases rx with
 | nil=>exact False.elim h
 | cons r1 r2 =>
  cases r2 with
  | cons _ _=>exact False.elim h
  | nil =>
   dsimp only [appR] at h
   cases e0:μ p with
   | none=>rw [e0] at h; exact h.elim
   | some oo =>
    cases oo with
    | ins _ _=>rw [e0] at h; exact h.elim
    | dct _=>rw [e0] at h; exact h.elim
    | dcl _=>rw [e0] at h; exact h.elim
    | dck _=>rw [e0] at h; exact h.elim
    | lst l =>
     rw [e0] at h
     obtain ⟨vs,hv,rs⟩:=m p l e0
     exact ⟨p,vs,_,rfl,rfl,hv,by rw [<- rs.length]; exact h.1,k _ _ _ _ h.2 (Kp.wr hv) .non (m.wr hv (rs.append (.cons r1 .nil)))⟩
theorem uy0 (ho:RE X o to) (ha:RA X (e :: es) t) (hbase:attributeBase o "extend" X.env (eval o X.env)=eval o X.env:=by rfl)
    (hfew:((backTo cpos (starEach (e :: es) X.env)).all (λ x=>!x.1) && (backToKw cpos (keywordEach [] X.env)).all (λ x=>x.1.isSome)
     && decide ((e :: es).length + ([]:List Keyword).length + (if ([]:List Keyword).isEmpty then 0 else 1) < 30))=true:=by rfl)
    (hline:(apos.endLine == cpos.line)=true:=by rfl) (hs:starEach (e :: es) X.env=(false,eval e X.env) :: starEach es X.env:=by rfl) (hplain:(backTo cpos (starEach es X.env)).any (·.1)=false:=by rfl) :
    RE X (.Call (.Attribute o "extend" apos) (e :: es) [] cpos) (mt3 extR to t):=by
 refine tx2 PySem.F.slot_list_extend PySem.F.type_list_extend yp1 (λ p xs v vs H Q μ Q3 m rp rx h k=>?_) ho ha hbase hfew hline hs hplain
 cases rp
 cases rx with
 | nil=>exact False.elim h
 | cons r1 r2 =>
  cases r2 with
  | cons _ _=>cases r1 <;> exact False.elim h
  | nil =>
   cases r1 with
   | ref q =>
    dsimp only [extR] at h
    cases e0:μ p with
    | none=>rw [e0] at h; exact h.elim
    | some oo =>
     cases oo with
     | ins _ _=>rw [e0] at h; exact h.elim
     | dct _=>rw [e0] at h; exact h.elim
     | dcl _=>rw [e0] at h; exact h.elim
     | dck _=>rw [e0] at h; exact h.elim
     | lst l =>
      cases e2:μ q with
      | none=>rw [e0,e2] at h; exact h.elim
      | some o2 =>
       cases o2 with
       | ins _ _=>rw [e0,e2] at h; exact h.elim
       | dct _=>rw [e0,e2] at h; exact h.elim
       | dcl _=>rw [e0,e2] at h; exact h.elim
       | dck _=>rw [e0,e2] at h; exact h.elim
       | lst l2 =>
        rw [e0,e2] at h
        obtain ⟨vs,hv,rs⟩:=m p l e0
        obtain ⟨us,hu,ru⟩:=m q l2 e2
        exact ⟨p,q,vs,us,rfl,rfl,hv,hu,by rw [<- rs.length,<- ru.length]; exact h.1,k _ _ _ _ h.2 (Kp.wr hv) .non (m.wr hv (rs.append ru))⟩
   | _=>exact False.elim h
end
end Pv
namespace Pv
open PySem PySem.Spec PyProof.Rows L2
noncomputable abbrev sc0 (X:Cx) (NN:List Str) (scope:Scope) (cl:List (Str × Addr)) (C:Addr) (fp:List Addr) (s₀:Shared) (H₀:Hp) (pn:List (Addr × Obj)):Cx :=
 { X with N:=NN,s₀:=s₀,H₀:=H₀,env:=compEnvC scope cl C X.env,outer:=X.stack,ex:=fp,fn:=λ _=>false,pn:=pn,xe:=λ _ _=>False }
structure CompSc (X:Cx) (NN:List Str) (scope:Scope) (cl:List (Str × Addr)) (js:List (Option Nat)):Prop where
 clos:closureFor scope X.env=pure cl
 cell:∀ y ∈ scope.names,y.2 ≠ .cell
 kind:scope.kind=.function
 names:∀ y ∈ scope.names,y.2=.local->scope.names.lookup y.1=some .local
 sub:∀ x c,cl.lookup x=some c->X.env.cells.lookup x=some c
 has:∀ x,((relabel scope X.env).names.lookup x=some .cell \/ (relabel scope X.env).names.lookup x=some .free)->∃ c,cl.lookup x=some c
 len:js.length=NN.length
 out:∀ (i j:Nat),js[i]?=some (some j)->∃ x,NN[i]?=some x /\ X.N[j]?=some x /\ Vis X.env.scope x /\ X.env.scope.names.lookup x ≠ some .local /\ ((relabel scope X.env).names.lookup x=some .cell \/ (relabel scope X.env).names.lookup x=some .free)
theorem sh0 {α:Type} {x:Str} {k:α}:∀ {l:List (Str × α)},l.lookup x=some k->(x,k) ∈ l
 | [],h=>by simp at h
 | (n,k') :: r,h=>by
  rw [List.lookup_cons] at h
  split at h
  ·next e=>simp only [Option.some.injEq] at h; subst h; rw [eq_of_beq e]; exact List.mem_cons_self
  ·exact List.mem_cons_of_mem _ (sh0 h)
theorem CompSc.closed {X:Cx} {NN:List Str} {scope:Scope} (hf:∀ y ∈ scope.names,y.2 ≠ .free) (hc:∀ y ∈ scope.names,y.2 ≠ .cell) (hk:scope.kind=.function) (hn:∀ y ∈ scope.names,y.2=.local->scope.names.lookup y.1=some .local) :
    CompSc X NN scope [] (NN.map λ _=>none) where
 clos:=closureFor_none hf
 cell:=hc
 kind:=hk
 names:=hn
 sub:=λ x c h=>by simp at h
 has:=λ x h=>by
  exfalso
  have e:(relabel scope X.env).names=scope.names:=map_eq_self (l:=scope.names) (λ y hy=>by
   obtain ⟨n,k⟩:=y
   have:(k == NameKind.free)=false:=by simpa using hf _ hy
   simp [this])
  rw [e] at h
  rcases h with h | h
  ·exact hc _ (sh0 h) rfl
  ·exact hf _ (sh0 h) rfl
 len:=by simp
 out:=λ i j h=>by
  rw [List.getElem?_map] at h
  cases q:NN[i]? with
  | none=>rw [q] at h; cases h
  | some y=>rw [q] at h; simp at h
noncomputable def sm0 (js:List (Option Nat)) (σ:L2.St):L2.St:=js.map λ j=>j.bind λ j=>(σ[j]?).bind id
noncomputable def PTs (X:Cx) (ifs:List Expr) (t:TT):Prop:=∀ (pins:List (Addr × Obj)) (s:Shared) (σ:L2.St) (H:Hp) (Q:Bool->Hp->Prop),Inv X pins σ H s->t σ H Q ->
 wpAny (model X.prog X.w) X.A (forIn ifs true λ c r=>if r=true then do let ok <- isTrue c X.env (eval c X.env); pure (ForInStep.yield ok) else pure (ForInStep.yield r)) (TP X pins σ Q) X.xe s
theorem xj2 {X:Cx}:PTs X [] (λ _ H Q=>Q true H):=λ _ _ _ H _ I h=>wpAny_tests_nil ⟨H,I,h⟩
theorem si2 {X:Cx} {c:Expr} {t:TT} (h:PT X c t):PTs X [c] t:=λ pins s σ H Q I q=>wpAny_tests_one (h pins s σ H Q I q)
noncomputable def tl1 (js:List (Option Nat)) (wi:TI) (g:TG) (tc:TT) (te:TE):TE:=λ σ H Q=>wi σ H λ J H1=>∀ p,H1 p=none ->
 ∃ W:Nat->Nat->L2.St->Hp->Prop,(∃ m,W 0 m (sm0 js σ) (upd H1 p (.lst []))) /\ ∀ i m σ' H',W i m σ' H' ->
  ((J.stop i H' /\ Q (.ref p) H') \/ (J.go i H' /\ ∀ x H2,J.yld i H' x H2->g x σ' H2 λ σ3 H3=>tc σ3 H3 λ b H4 =>
   if b=true then te σ3 H4 λ y H5=>∃ ys,H5 p=some (.lst ys) /\ ys.length < sizeLine /\ ∃ m',m' < m /\ W (i + 1) m' σ3 (upd H5 p (.lst (ys ++ [y]))) else ∃ m',m' < m /\ W (i + 1) m' σ3 H4))
section
variable {X:Cx} {NN:List Str} {scope:Scope} {cl:List (Str × Addr)} {js:List (Option Nat)}
theorem wo2 {pins:List (Addr × Obj)} {σ:L2.St} {H:Hp} {s:Shared} {fp:List Addr} {pn:List (Addr × Obj)} (hc:X.calm=true) (S:CompSc X NN scope cl js) (I:Inv X pins σ H s) (f:∀ b ∈ fp,FpOk X pins H b /\ b < s.heap.objs.size) :
    (sc0 X NN scope cl s.heap.objs.size fp s H pn).Ok where
 mod:=I.ok.mod
 kind:=S.kind
 glob:=I.ok.glob
 blt:=I.ok.blt
 above:=Nat.le_refl _
 inj:=λ x y c h1 h2=>I.ok.inj x y c (S.sub x c h1) (S.sub y c h2)
 has:=λ x h=>S.has x h
 cab:=λ x c h=>by cases h
 hd:=λ _=>I.ok.hd hc
 frames:=I.ok.frames
 stk:=.inl rfl
 exf:=λ b hb=>⟨Nat.ne_of_lt (f b hb).2,λ x c e=>(f b hb).1.2.2.2.2.1 x c (S.sub x c e)⟩
 bs:=I.bs
 bsz:=Nat.le_trans I.ok.bsz I.sz
 noex:=λ b o e hb=>by
  rcases (f b hb).1.2.2.2.1 with z | z
  ·exact I.ok.noex b o e z
  ·exact absurd (Nat.lt_of_lt_of_le (Heap.lt_size e) (Nat.le_trans I.ok.bsz z)) (Nat.lt_irrefl _)
 exfs:=λ b hb hfs=>by
  rcases List.mem_cons.mp (I.stkSub b hfs) with z | z
  ·exact (f b hb).1.2.1 z
  ·exact (f b hb).1.2.2.1 z
 funs:=I.stack
 frf:=I.stkFree
theorem tp1 {js:List (Option Nat)} {σ:L2.St} {i:Nat} {v:V} (h:(sm0 js σ)[i]?=some (some v)):∃ j,js[i]?=some (some j) /\ σ[j]?=some (some v):=by
 unfold sm0 at h
 rw [List.getElem?_map] at h
 cases q:js[i]? with
 | none=>rw [q] at h; cases h
 | some o =>
  rw [q] at h
  cases o with
  | none=>simp at h
  | some j =>
   refine ⟨j,rfl,?_⟩
   simp only [Option.map_some,Option.bind_some,Option.some.injEq] at h
   cases e:σ[j]? with
   | none=>rw [e] at h; simp at h
   | some w=>rw [e] at h; simp only [Option.bind_some,id] at h; rw [h]
theorem uz0 {pins:List (Addr × Obj)} {σ:L2.St} {H:Hp} {s:Shared} {fp:List Addr} {h₁:Heap} {m:Str->Option Value} {tk:Nat} (hc:X.calm=true) (S:CompSc X NN scope cl js) (I:Inv X pins σ H s) (f:∀ b ∈ fp,FpOk X pins H b /\ b < s.heap.objs.size)
    (hn:h₁.Ns s.heap.objs.size m) (k:∀ b u,s.heap.get? b=some u->h₁.get? b=some u):Inv (sc0 X NN scope cl s.heap.objs.size fp s H (X.pn ++ pins)) [] (sm0 js σ) H { s with heap:=h₁,toks:=tk } where
 ok:=wo2 hc S I f
 os:=rfl
 bare:=I.bare
 base:=Un.kept k
 loc:=by
  refine ⟨m,hn,λ i x v h1 h2 h3=>?_⟩
  obtain ⟨j,e1,e2⟩:=tp1 h2
  obtain ⟨y,q1,q2,q3,q4,q5⟩:=S.out i j e1
  have q1':NN[i]?=some x:=h1
  rw [q1] at q1'; cases q1'
  obtain ⟨mX,_,hl⟩:=I.loc
  obtain ⟨u,r,l⟩:=hl j x v q2 e2 q3
  refine ⟨u,r,.inr ⟨q5,?_⟩⟩
  rcases l with ⟨z,_⟩ | ⟨_,c,hc',hcell⟩
  ·exact absurd z q4
  ·obtain ⟨c',hc2⟩:=S.has x q5
   have e:=S.sub x c' hc2
   rw [hc'] at e; cases e
   obtain ⟨o,ho,hd⟩:=hcell
   exact ⟨c,hc2,o,k _ _ ho,hd⟩
 cell:=λ x c e=>by
  obtain ⟨v,o,ho,hd⟩:=I.cell x c (S.sub x c e)
  exact ⟨v,o,k _ _ ho,hd⟩
 free:=I.hok.fresh (Nat.le_refl _)
 freeC:=λ x c e=>I.freeC x c (S.sub x c e)
 pin:=λ p hp=>by
  have hp':p ∈ X.pn ++ pins:=by simpa using hp
  obtain ⟨h1,h2,h3,h4,h5⟩:=I.pin p hp'
  refine ⟨k _ _ h1,h2,Nat.ne_of_lt (Heap.lt_size h1),λ z=>?_,h5⟩
  rcases List.mem_cons.mp (I.stkSub _ z) with z | z
  ·exact h3 z
  ·exact h4 z
 hok:=I.hok.kept k
 len:=by show (sm0 js σ).length=NN.length; unfold sm0; rw [List.length_map]; exact S.len
theorem tk2 {elt target iter:Expr} {ifs:List Expr} {pos:Pos} {wi:TI} {g:TG} {tc:TT} {te:TE} (hc:X.calm=true) (S:CompSc X NN scope cl js) (hi:PI X target iter wi)
    (hg:∀ C fp s₀ H₀ pn,PG (sc0 X NN scope cl C fp s₀ H₀ pn) target g) (ht:∀ C fp s₀ H₀ pn,PTs (sc0 X NN scope cl C fp s₀ H₀ pn) ifs tc) (he:∀ C fp s₀ H₀ pn,PE (sc0 X NN scope cl C fp s₀ H₀ pn) elt te)
    (hs:∀ x,foldedSetIterable iter X.env x=pure x):PE X (.ListComp elt [⟨target,iter,ifs,0⟩] scope pos) (tl1 js wi g tc te):=by
 intro pins s σ H Q I h
 rw [eval_ListComp]
 refine wpAny_comprehension_free (use:=none) rfl hs S.clos S.kind S.names (thn (hi pins s σ H _ I h) λ xv s1 h1=>thn h1 λ itv s2 h2=>?_)
 obtain ⟨it,fp,tn,J,H2,rfl,I2,T,st2,f2,hW⟩:=h2
 refine wpAny_newObj_type (wpAny_newFunctionEnv S.cell (by intro y hy; simp at hy) (λ h₁ hns₁ hsb₁=>?_) S.kind)
 dsimp only at hns₁ hsb₁ ⊢
 have hD:H2 s2.heap.objs.size=none:=I2.hok.fresh (Nat.le_refl _)
 have I3:Inv X pins σ (upd H2 s2.heap.objs.size (.lst [])) { s2 with heap:=s2.heap.push { cls:=.type "list",dict:=none,data:=.seq ([]:List Value).toArray } } :=
  I2.lnew (t':=s2.toks) (its:=[]) .nil (by rw [sizeLine_eq]; decide)
 generalize hsD:({ s2 with heap:=s2.heap.push { cls:=.type "list",dict:=none,data:=.seq ([]:List Value).toArray } }:Shared)=sD at I3
 have eh:sD.heap=s2.heap.push { cls:=.type "list",dict:=none,data:=.seq ([]:List Value).toArray }:=by rw [<- hsD]
 have es:∀ (h:Heap) (tk:Nat),({ s2 with heap:=h,toks:=tk }:Shared)={ sD with heap:=h,toks:=tk }:=λ h tk=>by rw [<- hsD]
 have hsz:s2.heap.objs.size < sD.heap.objs.size:=by rw [eh,Heap.size_push]; exact Nat.lt_succ_self _
 rw [<- eh] at hns₁ hsb₁ ⊢
 generalize hp0:s2.heap.objs.size=p0 at *
 have up:∀ b u,s2.heap.get? b=some u->sD.heap.get? b=some u:=λ b u e=>by rw [eh]; exact Heap.get?_push_of_some _ e
 have k:∀ b u,sD.heap.get? b=some u->h₁.get? b=some u:=λ b u e=>hsb₁.extBut b u (Nat.ne_of_lt (Heap.lt_size e)) (Heap.get?_push_of_some _ e)
 have f3:∀ b ∈ fp,FpOk X pins (upd H2 p0 (.lst [])) b /\ b < sD.heap.objs.size:=λ b hb=>by
  obtain ⟨o,ho,_⟩:=T.obj 0 _ st2 b hb
  have hlt:b < p0:=by rw [<- hp0]; exact Heap.lt_size ho
  refine ⟨⟨?_,(f2 b hb).2⟩,Nat.lt_trans hlt hsz⟩
  rw [vc0 (Nat.ne_of_lt hlt)]; exact (f2 b hb).1
 obtain ⟨W,⟨m0,w0⟩,turn⟩:=hW p0 hD
 have I4:=uz0 (tk:=s2.toks + ([]:List (Str × Value)).length) hc S I3 f3 hns₁ k
 have st4:tn 0 h₁:=T.keep 0 _ _ st2 λ b _ o e=>k b o (up b o e)
 rw [es]
 generalize hX':sc0 X NN scope cl sD.heap.objs.size fp sD (upd H2 p0 (.lst [])) (X.pn ++ pins)=X' at I4
 have a1:X'.env=compEnvC scope cl sD.heap.objs.size X.env:=by rw [<- hX']
 have a2:X'.prog=X.prog:=by rw [<- hX']
 have a3:X'.w=X.w:=by rw [<- hX']
 have a4:X'.A=X.A:=by rw [<- hX']
 have a5:X'.K=X.K:=by rw [<- hX']
 have a6:X'.calm=true:=by rw [<- hX']; exact hc
 have a7:X'.xe=λ _ _=>False:=by rw [<- hX']
 have a8:X'.ex=fp:=by rw [<- hX']
 have T':Turn X'.prog X'.w X'.K target J fp it tn:=by rw [a2,a3,a5]; exact T
 have hg':PG X' target g:=by rw [<- hX']; exact hg _ _ _ _ _
 have ht':PTs X' ifs tc:=by rw [<- hX']; exact ht _ _ _ _ _
 have he':PE X' elt te:=by rw [<- hX']; exact he _ _ _ _ _
 have fin:∀ {σ':L2.St} {H':Hp} {s':Shared},Inv X' [] σ' H' s'->Q (.ref p0) H'->compPost (model X.prog X.w) X.A X.xe none (EP X pins σ Q) (.ref p0) sD.heap.objs.size (.ok .next) s':=λ {σ' H' s'} I' q=>by
  obtain ⟨m',hn',_⟩:=I'.loc
  rw [a1] at hn'
  refine ⟨m',hn',λ h' sb=>?_⟩
  have u:Un (frs X.stack) fp (upd H2 p0 (.lst [])) H' sD.heap s'.heap:=by
   have:=I'.base
   rw [<- hX'] at this
   exact this
  have hch:∀ b ∈ fp,(b ∈ X.ex \/ X.s₀.heap.objs.size<=b) /\ b ≠ X.env.locals /\ (∀ x c,X.env.cells.lookup x=some c->c ≠ b) /\ ∀ p ∈ X.pn ++ pins,p.1 ≠ b:=λ b hb=>by
   obtain ⟨_,z1,_,z3,z4,z5⟩:=(f3 b hb).1
   exact ⟨z3,z1,z4,z5⟩
  have os':s'.os=sD.os:=by
   have:=I'.os
   rw [<- hX'] at this
   exact this
  have hok':HOk X.prog X.w H' s'.heap:=by
   have:=I'.hok
   rw [<- hX'] at this
   exact this
  have I5:Inv X pins σ H' s':=I3.call' os' u hok' I'.bare hch
  have hC:H' sD.heap.objs.size=none:=by
   have:=I'.free
   rw [a1] at this
   exact this
  refine ⟨.ref p0,H',I5.turned (t':=s'.toks) (it:=sD.heap.objs.size) (λ b o hb e=>sb.extBut b o hb e) hC (Nat.ne_of_gt I3.lt) (.inr I3.sz) (λ x c e=>?_) (λ p hp=>?_),rfl,q⟩
  ·obtain ⟨v,o,ho,_⟩:=I3.cell x c e
   exact Nat.ne_of_lt (Heap.lt_size ho)
  ·exact Nat.ne_of_lt (Heap.lt_size (I3.pin p hp).1)
 have fp4:∀ {H':Hp},(∀ b ∈ fp,H' b=none)->∀ b ∈ fp,FpOk X' [] H' b:=λ hn b hb=>by
  obtain ⟨_,z1,z2,z3,z4,z5⟩:=(f3 b hb).1
  rw [<- hX']
  refine ⟨hn b hb,Nat.ne_of_lt (f3 b hb).2,λ z=>?_,.inl hb,λ x c e=>z4 x c (S.sub x c e),λ p hp=>z5 p (by simpa using hp)⟩
  rcases List.mem_cons.mp (I3.stkSub _ z) with z | z
  ·exact z1 z
  ·exact z2 z
 have loop:∀ s₃:Shared,Inv X' [] (sm0 js σ) (upd H2 p0 (.lst [])) s₃->tn 0 s₃.heap ->
     codeAny (model X.prog X.w) X.A (.compLoop (.ListComp elt [⟨target,iter,ifs,0⟩] scope pos) 0 (.ref it) (.ref p0) (compEnvC scope cl sD.heap.objs.size X.env)) (compPost (model X.prog X.w) X.A X.xe none (EP X pins σ Q) (.ref p0) sD.heap.objs.size) s₃:=by
  intro s₃ I₃ st₃
  refine codeAny_loop rfl (λ n s'=>∃ i σ' H',Inv X' [] σ' H' s' /\ tn i s'.heap /\ (∀ b ∈ fp,H' b=none) /\ W i n σ' H') (λ n s' hI=>?_) m0 ⟨0,sm0 js σ,_,I₃,st₃,λ b hb=>(f3 b hb).1.1,w0⟩
  obtain ⟨i,σ3,H3,J3,st3,fr3,w3⟩:=hI
  have tr:=turn i n σ3 H3 w3
  show wpAny _ X.A ((compTurn (.ListComp elt [⟨target,iter,ifs,0⟩] scope pos) 0 (.ref it) (.ref p0) (compEnvC scope cl sD.heap.objs.size X.env)).onRaise (λ x=>do noteFrame x (compEnvC scope cl sD.heap.objs.size X.env); theTreesLotGoes x)) _ _ s'
  refine wpAny_noted ?_
  rw [compTurn_list,<- a1,<- a2,<- a3,<- a4]
  have nof:∀ {α:Type} {t:Sem α} {Q':α->Shared->Prop} {s'':Shared} {E:Value->Shared->Prop},wpAny (model X'.prog X'.w) X'.A t Q' X'.xe s''->wpAny (model X'.prog X'.w) X'.A t Q' E s'':=λ h=>wpAny_mono h (λ _ _ q=>q) λ _ _ z=>by rw [a7] at z; exact z.elim
  rcases tr with ⟨stop,qn⟩ | ⟨go,step⟩
  ·refine wpAny_bind (wpAny_standAt (wpAny_bind (nof (thn (T'.done X' rfl rfl rfl a6 i [] s' σ3 H3 X'.xe J3 (fp4 fr3) st3 stop) λ r s4 ⟨hr,J4⟩=>?_))))
   subst hr
   exact wpAny_pure (fin J4 qn)
  ·refine wpAny_bind (wpAny_standAt (wpAny_bind (nof (thn (T'.item X' rfl rfl rfl a6 i [] s' σ3 H3 X'.xe J3 (fp4 fr3) st3 go) λ r s4 ⟨u,hr,h4⟩=>?_))))
   subst hr
   refine wpAny_bind (nof (thn h4 λ _ s5 ⟨x,H5,I5,r5,y5,st5,fr5⟩=>?_))
   have I5':=I5.pinned (fp4 fr5) (T.obj _ _ st5)
   refine wpAny_bind (nof (thn (hg' _ s5 σ3 H5 x u _ I5' r5 (step x H5 y5)) λ _ s6 ⟨σ6,H6,I6,q6⟩=>?_))
   refine wpAny_bind (nof (thn (ht' _ s6 σ6 H6 _ I6 q6) λ ok s7 ⟨H7,I7,q7⟩=>?_))
   have again:∀ {s8:Shared} {σ8:L2.St} {H8:Hp},Inv X' ([] ++ zt0 fp s5.heap) σ8 H8 s8->(∃ m',m' < n /\ W (i + 1) m' σ8 H8)->∃ m,m < n /\ ∃ i σ' H',Inv X' [] σ' H' s8 /\ tn i s8.heap /\ (∀ b ∈ fp,H' b=none) /\ W i m σ' H':=λ {s8 σ8 H8} I8 ⟨m',hm,w8⟩=>by
    refine ⟨m',hm,i + 1,σ8,H8,I8.unpinned,T.keep _ _ _ st5 λ b hb o e=>(I8.pin (b,o) (List.mem_append_right _ (List.mem_append_right _ (tg0 hb e)))).1,λ b hb=>?_,w8⟩
    obtain ⟨o,e,d⟩:=T.obj _ _ st5 b hb
    exact (I8.pin (b,o) (List.mem_append_right _ (List.mem_append_right _ (tg0 hb e)))).2.1
   cases ok with
   | false=>exact wpAny_pure ⟨rfl,again I7 q7⟩
   | true =>
    refine wpAny_bind (wpAny_bind (nof (thn (he' _ s7 σ6 H7 _ I7 q7) λ xv s8 ⟨y,H8,I8,r8,ys,q8,hlen,q9⟩=>wpAny_bind (nof ?_))))
    refine thn (yq0 (X:=X') _ s8 σ6 H8 (.ref p0) [y] (.ref p0) [xv] (λ v H9=>v=.non /\ H9=upd H8 p0 (.lst (ys ++ [y]))) I8 rfl (.cons r8 .nil) ⟨p0,ys,y,rfl,rfl,q8,hlen,rfl,rfl⟩) λ rv s9 ⟨v9,H9,I9,_,_,e9⟩=>?_
    subst e9
    exact wpAny_pure (wpAny_pure ⟨rfl,again I9 q9⟩)
 exact codeAny_compStart_list (loop _ I4 st4) (T.self X.A 0 _ _ _ st4 (loop _ I4 st4))
end
end Pv
namespace Pv
open PySem PySem.Spec PyProof.Rows L2
theorem we0:bootBuiltins "len" = some (.builtin "len"):=by decide +kernel
theorem tj3:bootBuiltins "abs" = some (.builtin "abs"):=by decide +kernel
theorem vf0:bootBuiltins "isinstance" = some (.builtin "isinstance"):=by decide +kernel
theorem uj0:bootBuiltins "tuple" = some (.type "tuple"):=by decide +kernel
theorem tg1:bootBuiltins "int" = some (.type "int"):=by decide +kernel
theorem vj3:bootBuiltins "str" = some (.type "str"):=by decide +kernel
theorem so2:bootBuiltins "list" = some (.type "list"):=by decide +kernel
theorem uj3:bootBuiltins "all" = some (.builtin "all"):=by decide +kernel
theorem vd1:bootBuiltins "reversed" = some (.type "reversed"):=by decide +kernel
noncomputable def RTs (X:Cx) (ifs:List Expr) (t:TT3):Prop:=∃ tv,PTs X ifs tv /\ RdT X.K tv t
theorem sm1 {X:Cx}:RTs X [] tt3:=⟨_,xj2,λ σ H Q ρ μ Q3 s m h k=>k _ _ _ h (Kp.refl _) m⟩
theorem uh2 {X:Cx} {c:Expr} {t:TT3} (h:RT X c t):RTs X [c] t:=let ⟨tv,p,r⟩:=h; ⟨tv,si2 p,r⟩
theorem sy1 {K:Fg} {H:Hp} {ρ:St3} {σ:L2.St} (s:RSt K H ρ σ) (js:List (Option Nat)):RSt K H (js.map λ j=>j.bind (getI ρ)) (sm0 js σ):=by
 refine ⟨by simp [sm0],λ i d e=>?_⟩
 rw [uc1,List.getElem?_map] at e
 unfold sm0
 rw [List.getElem?_map]
 cases q:js[i]? with
 | none=>rw [q] at e; cases e
 | some o =>
  rw [q] at e
  cases o with
  | none=>simp at e
  | some j =>
   have e':getI ρ j=some d:=by simpa using e
   obtain ⟨v,h1,h2⟩:=s.at' j d e'
   exact ⟨v,by simp [h1],h2⟩
theorem RdE.comp {K:Fg} {js:List (Option Nat)} {wi:TI} {g:TG} {tc:TT} {te:TE} {ti:TI3} {g3:TG3} {tc3:TT3} {te3:TE3} (ri:RdI K wi ti) (rg:RdG K g g3) (rt:RdT K tc tc3) (re:RdE K te te3):RdE K (tl1 js wi g tc te) (comp3 js ti g3 tc3 te3):=by
 intro σ H Q ρ μ Q3 s m h k
 refine ri σ H _ ρ μ _ s m h λ l S μ1 J H1 h1 k1 m1 ok p hp=>?_
 obtain ⟨W,w0,hS,hn,hs⟩:=h1 p (m1.free hp)
 have kn:Kp H1 (upd H1 p (.lst [])):=Kp.new hp
 refine ⟨λ i n σ2 H2=>n=l.length - i /\ i<=l.length /\ ∃ ρ2 μ2 ys,RSt K H2 ρ2 σ2 /\ RelM K μ2 H2 /\ Kp H1 H2 /\ W (l.drop i) ys ρ2 μ2,⟨l.length,rfl,Nat.zero_le _,_,_,[],(sy1 (s.mono k1) js).mono kn,m1.newL hp .nil,kn,w0⟩,?_⟩
 rintro i n σ2 H2 ⟨rfl,hi,ρ2,μ2,ys,s2,m2,k2,w2⟩
 obtain ⟨hS2,hp2⟩:=hS _ _ _ _ w2
 by_cases hlt:i < l.length
 ·rw [List.drop_eq_getElem_cons hlt] at w2
  obtain ⟨hz,h2⟩:=hs _ _ _ _ _ w2
  obtain ⟨ok1,_⟩:=ok i H2 μ2 k2 m2 hS2
  obtain ⟨go,yl⟩:=ok1 l[i] (List.getElem?_eq_getElem hlt)
  refine .inr ⟨go,λ x H3 y=>?_⟩
  obtain ⟨k3,m3,r3⟩:=yl x H3 y
  refine rg x l[i] σ2 H3 _ ρ2 μ2 _ (s2.mono k3) m3 r3 h2 λ ρ4 μ4 σ4 H4 h4 k4 s4 m4=>?_
  refine rt σ4 H4 _ ρ4 μ4 _ s4 m4 h4 λ b μ5 H5 h5 k5 m5=>?_
  have k15:Kp H1 H5:=k2.trans (k3.trans (k4.trans k5))
  cases b with
  | false=>exact ⟨l.length - (i + 1),by omega,rfl,hlt,ρ4,μ5,ys,s4.mono k5,m5,k15,h5⟩
  | true =>
   refine re σ4 H5 _ ρ4 μ5 _ (s4.mono k5) m5 h5 λ d μ6 v H6 h6 k6 r6 m6=>?_
   obtain ⟨vs,hv,rv⟩:=m6 p ys h6.1
   refine ⟨vs,hv,by rw [<- rv.length]; exact hz,l.length - (i + 1),by omega,rfl,hlt,ρ4,_,_,((s4.mono k5).mono k6).mono (Kp.wr hv),m6.wr hv (rv.append (.cons r6 .nil)),(k15.trans k6).trans (Kp.wr hv),h6.2⟩
 ·have e:i=l.length:=by omega
  subst e
  rw [List.drop_length] at w2
  exact .inl ⟨(ok _ H2 μ2 k2 m2 hS2).2 (Nat.le_refl _),k _ _ _ _ (hn _ _ _ w2) (k1.trans k2) (.ref p) m2⟩
section
variable {X:Cx} {elt target iter:Expr} {ifs:List Expr} {pos:Pos} {ti:TI3} {g:TG3} {tc:TT3} {te:TE3} {NN:List Str} {scope:Scope} {cl:List (Str × Addr)} {js:List (Option Nat)}
theorem se1 (hc:X.calm=true) (S:CompSc X NN scope cl js) (hi:RI X target iter ti) (hg:∀ C fp s₀ H₀ pn,RG (sc0 X NN scope cl C fp s₀ H₀ pn) target g)
    (ht:∀ C fp s₀ H₀ pn,RTs (sc0 X NN scope cl C fp s₀ H₀ pn) ifs tc) (he:∀ C fp s₀ H₀ pn,RE (sc0 X NN scope cl C fp s₀ H₀ pn) elt te)
    (hs:∀ x,foldedSetIterable iter X.env x=pure x):RE X (.ListComp elt [⟨target,iter,ifs,0⟩] scope pos) (comp3 js ti g tc te):=by
 obtain ⟨wi,pi,ri⟩:=hi
 let gU:TG:=λ v σ H Q=>∀ (r:TG3),r=g->∃ d ρ μ Q3,RSt X.K H ρ σ /\ RelM X.K μ H /\ RelD X.K H d v /\ g d ρ μ Q3 /\ (∀ ρ' μ' σ' H',Q3 ρ' μ'->Kp H H'->RSt X.K H' ρ' σ'->RelM X.K μ' H'->Q σ' H')
 let tU:TT:=λ σ H Q=>∃ ρ μ Q3,RSt X.K H ρ σ /\ RelM X.K μ H /\ tc ρ μ Q3 /\ (∀ b μ' H',Q3 b μ'->Kp H H'->RelM X.K μ' H'->Q b H')
 let eU:TE:=λ σ H Q=>∃ ρ μ Q3,RSt X.K H ρ σ /\ RelM X.K μ H /\ te ρ μ Q3 /\ Ks X.K H Q3 Q
 have hg':∀ C fp s₀ H₀ pn,PG (sc0 X NN scope cl C fp s₀ H₀ pn) target gU:=λ C fp s₀ H₀ pn=>by
  obtain ⟨tv,p,r⟩:=hg C fp s₀ H₀ pn
  intro pins s σ H v u Q I rv h
  obtain ⟨d,ρ,μ,Q3,a1,a2,a3,a4,a5⟩:=h g rfl
  exact p pins s σ H v u Q I rv (r v d σ H Q ρ μ Q3 a1 a2 a3 a4 a5)
 have ht':∀ C fp s₀ H₀ pn,PTs (sc0 X NN scope cl C fp s₀ H₀ pn) ifs tU:=λ C fp s₀ H₀ pn=>by
  obtain ⟨tv,p,r⟩:=ht C fp s₀ H₀ pn
  intro pins s σ H Q I h
  obtain ⟨ρ,μ,Q3,a1,a2,a3,a4⟩:=h
  exact p pins s σ H Q I (r σ H Q ρ μ Q3 a1 a2 a3 a4)
 have he':∀ C fp s₀ H₀ pn,PE (sc0 X NN scope cl C fp s₀ H₀ pn) elt eU:=λ C fp s₀ H₀ pn=>by
  obtain ⟨tv,p,r⟩:=he C fp s₀ H₀ pn
  intro pins s σ H Q I h
  obtain ⟨ρ,μ,Q3,a1,a2,a3,a4⟩:=h
  exact p pins s σ H Q I (r σ H Q ρ μ Q3 a1 a2 a3 a4)
 exact ⟨_,tk2 hc S pi hg' ht' he' hs,RdE.comp ri (λ v d σ H Q ρ μ Q3 a1 a2 a3 a4 a5 _ _=>⟨d,ρ,μ,Q3,a1,a2,a3,a4,a5⟩) (λ σ H Q ρ μ Q3 a1 a2 a3 a4=>⟨ρ,μ,Q3,a1,a2,a3,a4⟩) (λ σ H Q ρ μ Q3 a1 a2 a3 a4=>⟨ρ,μ,Q3,a1,a2,a3,a4⟩)⟩
theorem yi2 (hf:∀ y ∈ scope.names,y.2 ≠ .free) (hcl:∀ y ∈ scope.names,y.2 ≠ .cell) (hn:∀ y ∈ scope.names,y.2=.local->scope.names.lookup y.1=some .local) (hi:RI X target iter ti) (hg:∀ C fp s₀ H₀ pn,RG (sc0 X NN scope [] C fp s₀ H₀ pn) target g)
    (ht:∀ C fp s₀ H₀ pn,RTs (sc0 X NN scope [] C fp s₀ H₀ pn) ifs tc) (he:∀ C fp s₀ H₀ pn,RE (sc0 X NN scope [] C fp s₀ H₀ pn) elt te) (hc:X.calm=true:=by rfl) (hk:scope.kind=.function:=by rfl)
    (hs:∀ x,foldedSetIterable iter X.env x=pure x:=by intro _; rfl):RE X (.ListComp elt [⟨target,iter,ifs,0⟩] scope pos) (comp3 (NN.map λ _=>none) ti g tc te) :=
 se1 hc (CompSc.closed hf hcl hk hn) hi hg ht he hs
end
end Pv
namespace Pv
open PySem PySem.Spec PyProof.Rows L2
mutual
inductive TupK (K:Fg):List D->Addr->Prop where
 | mk {a:Addr} {l:List D} {its:Array Value} {n:Nat} {od:Option Addr} {sl:Array (Option Value)}:K.lookup a=some ⟨.type "tuple",od,.seq its n,sl⟩->its.size<=sizeLine->ItK K l its.toList->TupK K l a
inductive ItK (K:Fg):List D->List Value->Prop where
 | nil:ItK K [] []
 | int {i:Int} {t:Tok} {l:List D} {us:List Value}:ItK K l us->ItK K (.int i :: l) (.int i t :: us)
 | str {x:Str} {t:Tok} {l:List D} {us:List Value}:ItK K l us->ItK K (.str x :: l) (.str x t :: us)
 | bl {b:Bool} {l:List D} {us:List Value}:ItK K l us->ItK K (.bl b :: l) (.bool b :: us)
 | tup {a:Addr} {l' l:List D} {us:List Value}:TupK K l' a->ItK K l us->ItK K (.ktp l' :: l) (.ref a :: us)
end
mutual
theorem TupK.rel {K:Fg}:∀ {l:List D} {a:Addr},TupK K l a->∀ H,RelD K H (.ktp l) (.ref a)
 | _,_,.mk h1 h2 h3,H=>by
  obtain ⟨vs,r,rd⟩:=h3.rel
  exact .ktp (.inr ⟨_,_,_,h1,rfl,rfl,h2,r⟩) (rd H)
theorem ItK.rel {K:Fg}:∀ {l:List D} {us:List Value},ItK K l us->∃ vs,Vals vs us /\ ∀ H,RelDs K H l vs
 | _,_,.nil=>⟨[],.nil,λ _=>.nil⟩
 | _,_,.int h=>let ⟨vs,r,rd⟩:=h.rel; ⟨_,.cons (show RelV (.int _) _ from ⟨_,rfl⟩) r,λ H=>.cons (.int _) (rd H)⟩
 | _,_,.str h=>let ⟨vs,r,rd⟩:=h.rel; ⟨_,.cons (show RelV (.str _) _ from ⟨_,rfl⟩) r,λ H=>.cons (.str _) (rd H)⟩
 | _,_,.bl h=>let ⟨vs,r,rd⟩:=h.rel; ⟨_,.cons (show RelV (.bl _) _ from rfl) r,λ H=>.cons (.bl _) (rd H)⟩
 | _,_,.tup h0 h=>let ⟨vs,r,rd⟩:=h.rel; ⟨_,.cons (show RelV (.ref _) _ from rfl) r,λ H=>.cons (h0.rel H) (rd H)⟩
end
section
variable {K:Fg} {h:Heap} {mg:Str->Option Value} {x:Str}
theorem zg1 {i:Int} {t:Tok} (X:K.In h) (G:h.Ns mainGlobals mg) (e:PySem.W.nsIn K mainGlobals x=some (some (.int i t))):Gd K mg x (.int i):=⟨_,.int i,PySem.W.mg_of X G e,⟨_,rfl⟩,λ _=>.int i⟩
theorem yh3 {i:Str} {t:Tok} (X:K.In h) (G:h.Ns mainGlobals mg) (e:PySem.W.nsIn K mainGlobals x=some (some (.str i t))):Gd K mg x (.str i):=⟨_,.str i,PySem.W.mg_of X G e,⟨_,rfl⟩,λ _=>.str i⟩
theorem ud2 {a:Addr} {l:List D} (X:K.In h) (G:h.Ns mainGlobals mg) (e:PySem.W.nsIn K mainGlobals x=some (some (.ref a))) (r:TupK K l a):Gd K mg x (.ktp l):=⟨_,.ref a,PySem.W.mg_of X G e,rfl,λ H=>r.rel H⟩
end
theorem wz0 {K:Fg} {H:Hp}:∀ ns:List Int,RelDs K H (ns.map D.int) (ns.map V.int)
 | []=>.nil
 | n :: r=>.cons (.int n) (wz0 r)
theorem vx1 {K:Fg} {H:Hp} {a:Addr} {ns:List Int} {sp:Sp3} (hO:Only H) (hS:SqL K H a (ns.map V.int)) (h:sp [.fls (ns.map D.int)] (λ _=>none) (λ d _=>d=.bl true)) :
    lift K sp [.ref a] H (λ v _=>v=.bl true) λ _ _ _=>False:=by
 have hF:SqF K H a (ns.map V.int):=by
  rcases hS with (h1 | ⟨o,h1⟩) | h1
  ·rcases hO a with z | ⟨o,xs,z⟩
   ·rw [h1] at z; cases z
   ·rw [h1] at z; cases z
  ·exact .inl ⟨o,h1⟩
  ·exact .inr h1
 refine ⟨_,_,_,.cons (.fls hF (wz0 ns)) .nil,(⟨λ p xs e=>(by cases e),λ p c fs e=>(by cases e),λ p kvs e=>(by cases e),λ p kvs e=>(by cases e),λ p kvs e=>(by cases e)⟩),h,λ d μ' v H' q _ r _=>?_⟩
 subst q
 cases r
 rfl
end Pv
namespace Pv
open PySem PySem.Spec PyProof.Rows L2
open PySem.AutoSeq1 (wpAny_loadPart')
theorem yb1 (l:Addr) (items:Array Value) (n:Nat) (dd:Option Addr) (sl:Array (Option Value)) (x:Int) (u:Tok) (hc0:(decide (x < -(2 ^ 63)) || decide (x ≥ 2 ^ 63))=false) (hc1:(items.isEmpty || x == 1)=true) :
    Meets (Builtin.«tuple.__mul__» ⟨[.ref l,.int x u],[]⟩) (λ _ R s=>s.heap.get? l=some { cls:=.type "tuple",dict:=dd,data:=.seq items n,slots:=sl } /\ R (.ok (.ret (.ref l))) s) :=
 .of_wp λ prog w A R s h=>by
  obtain ⟨hp,g,d,tk,os⟩:=s; obtain ⟨hl,h⟩:=h
  have f1:=AutoSeq1.idx_int
  have f2:=AutoSeq1.sub_tuple_tuple
  wp_walk using wpAny_loadPart' hl
  refine wpAny_ite_false (decide_eq_false (by rw [hc0]; exact Bool.false_ne_true)) ?_
  wp_walk using wpAny_loadPart' hl
  exact ⟨_,rfl,h⟩
theorem xb1 (l:Addr) (items:Array Value) (n:Nat) (dd:Option Addr) (sl:Array (Option Value)) (x:Int) (u:Tok) (hc0:(decide (x < -(2 ^ 63)) || decide (x ≥ 2 ^ 63))=false) (hc1:(items.isEmpty || x == 1)=false) (hc2:(decide (x<=0) || items.isEmpty)=true) :
    Meets (Builtin.«tuple.__mul__» ⟨[.ref l,.int x u],[]⟩) (λ _ R s=>s.heap.get? l=some { cls:=.type "tuple",dict:=dd,data:=.seq items n,slots:=sl } /\ R (.ok (.ret (.ref s.heap.objs.size))) { s with heap:=s.heap.push { cls:=.type "tuple",data:=.seq #[] } }) :=
 .of_wp λ prog w A R s h=>by
  obtain ⟨hp,g,d,tk,os⟩:=s; obtain ⟨hl,h⟩:=h
  have f1:=AutoSeq1.idx_int
  have f2:=AutoSeq1.sub_tuple_tuple
  wp_walk using wpAny_loadPart' hl
  refine wpAny_ite_false (decide_eq_false (by rw [hc0]; exact Bool.false_ne_true)) ?_
  wp_walk using wpAny_loadPart' hl
  exact ⟨_,rfl,h⟩
theorem sa1 (l:Addr) (items:Array Value) (n:Nat) (dd:Option Addr) (sl:Array (Option Value)) (x:Int) (u:Tok) (hc0:(decide (x < -(2 ^ 63)) || decide (x ≥ 2 ^ 63))=false) (hc1:(items.isEmpty || x == 1)=false) (hc2:(decide (x<=0) || items.isEmpty)=false)
    (hc3:¬ ((items.size:Int) * x > (2 ^ 63 - 1) / 8)) (hc4:Builtin.Tuple.tupleTooMany ((items.size:Int) * x)=false) (hz:((List.replicate x.toNat items).foldl (· ++ ·) #[]).size<=sizeLine) :
    Meets (Builtin.«tuple.__mul__» ⟨[.ref l,.int x u],[]⟩) (λ _ R s=>s.heap.get? l=some { cls:=.type "tuple",dict:=dd,data:=.seq items n,slots:=sl } /\ R (.ok (.ret (.ref s.heap.objs.size))) { s with heap:=s.heap.push { cls:=.type "tuple",data:=.seq ((List.replicate x.toNat items).foldl (· ++ ·) #[]) } }) :=
 .of_wp λ prog w A R s h=>by
  obtain ⟨hp,g,d,tk,os⟩:=s; obtain ⟨hl,h⟩:=h
  have f1:=AutoSeq1.idx_int
  have f2:=AutoSeq1.sub_tuple_tuple
  wp_walk using wpAny_loadPart' hl
  refine wpAny_ite_false (decide_eq_false (by rw [hc0]; exact Bool.false_ne_true)) ?_
  wp_walk using wpAny_loadPart' hl
  refine wpAny_ite_false (decide_eq_false hc3) ?_
  wp_walk using wpAny_loadPart' hl
  all_goals try (refine wpAny_ite_false (decide_eq_false (by rw [hc4]; exact Bool.false_ne_true)) ?_)
  have hsz:((List.replicate x.toNat items).foldl (· ++ ·) #[]).size<=sizeLine:=hz
  wp_walk using wpAny_loadPart' hl
  exact ⟨_,rfl,h⟩
theorem xq0:fillsNumberSlot (.type "tuple") "mul" = pure false :=
 PySem.fillsNumberSlot_seq (id := "tuple.__mul__") (r:=some (.builtin "tuple.__rmul__")) F.slot_tuple_mul.lookup (by decide +kernel) F.slot_tuple_rmul.lookup (by decide +kernel)
theorem vp0:seqRepeat? (.type "tuple")=pure (some (.builtin "tuple.__mul__")):=by
 unfold seqRepeat?
 rw [PySem.seqSlot_of F.slot_tuple_mul.lookup (T := "tuple") (name := "__mul__") (id := "tuple.__mul__") (by decide +kernel),PySem.seqSlot_of F.slot_tuple_rmul.lookup (T := "tuple") (name := "__rmul__") (id := "tuple.__rmul__") (by decide +kernel)]
 rfl
theorem ws0 (a:Int) (t:Tok) (l:Addr) (its:Array Value) (n:Nat) (dd:Option Addr) (sl:Array (Option Value)) :
    Meets (Builtin.«int.__rmul__» ⟨[.int a t,.ref l],[]⟩) (λ _ R s=>s.heap.get? l=some ⟨.type "tuple",dd,.seq its n,sl⟩ /\ R (.ok (.ret .notImplemented)) s) :=
 .of_wp λ prog w A R s h=>by
  obtain ⟨hp,g,d,tk,os⟩:=s
  obtain ⟨hl,h⟩:=h
  wp_walk using wpAny_loadPart' hl
  exact ⟨_,rfl,h⟩
section
variable {X:Cx}
noncomputable def to3 (K:Fg):R2:=λ x y H Q=>∃ a k xs,x=.ref a /\ y=.int k /\ SqT K H a xs /\ -(2 ^ 62)<=k /\ k < 2 ^ 62 /\ xs.length * k.toNat<=1000000 /\ (xs=[] \/ k=1->Q (.ref a) H) /\ ∀ p,H p=none->Q (.ref p) (upd H p (.tup (List.replicate k.toNat xs).flatten))
theorem op_repT:OpR X (binaryOp .Mult) (to3 X.K):=by
 intro pins s σ H x y v u Q I rx ry h
 obtain ⟨a,k,xs,rfl,rfl,hq,h1,h2,hz,q1,q2⟩:=h
 cases rx
 obtain ⟨t,rfl⟩:=ry
 obtain ⟨its,r,⟨⟨cls,dd,data,sl⟩,ho,hc,n,hd⟩,hl⟩:=I.tuple hq
 simp only at hc hd
 subst hc hd
 have hlen:its.length=xs.length:=r.length.symm
 have c0:(decide (k < -(2 ^ 63)) || decide (k ≥ 2 ^ 63))=false:=by
  rw [decide_eq_false (by omega),decide_eq_false (by omega)]; rfl
 refine wpAny_binaryOp_repeat_ref (T := "tuple") (U := "int") (by decide) ⟨_,ho,rfl⟩ (λ s'=>typeIs_int s' k t) xq0 F.fills_int_mul F.slot_int_rmul vp0 F.slot_int_index.lookup
  (call_meets F.slot_int_rmul (typeIs_int s k t) F.entry_int_rmul (F.args_int_rmul_2 _ _) (ws0 k t a its.toArray n dd sl) ⟨ho,rfl,⟨_,ho,rfl⟩,?_⟩)
 by_cases e1:xs=[] \/ k=1
 ·refine call_meets F.slot_tuple_mul ⟨_,ho,rfl⟩ F.entry_tuple_mul (F.args_tuple_mul_2 _ _) (yb1 a its.toArray n dd sl k t c0 ?_) ⟨ho,⟨.ref a,H,I,rfl,q1 e1⟩⟩
  rcases e1 with e1 | e1
  ·subst e1; cases r; rfl
  ·subst e1; simp
 ·have hne:its ≠ []:=λ z=>e1 (.inl (by subst z; cases r; rfl))
  have hk1:k ≠ 1:=λ z=>e1 (.inr z)
  have c1:(its.toArray.isEmpty || k == 1)=false:=by simp [hne,hk1]
  have hf:H s.heap.objs.size=none:=I.hok.fresh (Nat.le_refl _)
  by_cases e2:k<=0
  ·have hk0:k.toNat=0:=by omega
   refine call_meets F.slot_tuple_mul ⟨_,ho,rfl⟩ F.entry_tuple_mul (F.args_tuple_mul_2 _ _) (xb1 a its.toArray n dd sl k t c0 c1 (by simp [e2])) ⟨ho,?_⟩
   refine ⟨.ref _,upd H s.heap.objs.size (.tup []),I.laid (t':=s.toks) (λ b ob q=>Heap.get?_push_of_some _ q) (Nat.le_refl _) ⟨by rw [sizeLine_eq]; decide,[],.nil,IsTup.new _ _⟩,rfl,?_⟩
   have:=q2 _ hf
   rw [hk0] at this
   exact this
  ·have fr:List.foldl (· ++ ·) #[] (List.replicate k.toNat its.toArray)=(List.replicate k.toNat its).flatten.toArray:=by
     have:=uq0 its k.toNat []
     rw [List.nil_append] at this
     exact this
   have hb:(1000000:Nat)<=sizeLine:=by rw [sizeLine_eq]; decide
   have hm:(its.toArray.size:Int) * k<=1000000:=by
    rw [List.size_toArray,hlen]
    have:((xs.length * k.toNat:Nat):Int)<=1000000:=by omega
    rw [Int.natCast_mul,Int.toNat_of_nonneg (by omega)] at this
    exact this
   have hsz:(List.replicate k.toNat its).flatten.length<=sizeLine:=by rw [vc1,Nat.mul_comm,hlen]; omega
   refine call_meets F.slot_tuple_mul ⟨_,ho,rfl⟩ F.entry_tuple_mul (F.args_tuple_mul_2 _ _) (sa1 a its.toArray n dd sl k t c0 c1 (by simp [hne]; omega) (by omega) ?_ (by rw [fr,List.size_toArray]; exact hsz)) ⟨ho,?_⟩
   ·unfold Builtin.Tuple.tupleTooMany
    rw [decide_eq_false (by omega)]
   ·rw [fr]
    refine ⟨.ref _,upd H s.heap.objs.size (.tup (List.replicate k.toNat xs).flatten),I.laid (t':=s.toks) (λ b ob q=>Heap.get?_push_of_some _ q) (Nat.le_refl _) ⟨?_,_,r.rep k.toNat,IsTup.new _ _⟩,rfl,q2 _ hf⟩
    rw [vc1,Nat.mul_comm]; omega
theorem uj1:RO X (binaryOp .Mult) mulR:=by
 refine ⟨_,op_mulB.or (op_repT.or ud3),λ x y v u H Q μ Q3 m rx ry h k=>?_⟩
 cases ry with
 | int j =>
  cases rx with
  | int i=>exact .inl ⟨i,j,rfl,rfl,h.1,k _ _ _ _ h.2 (Kp.refl _) (.int _) m⟩
  | tup hq rs =>
   rename_i a l vs
   refine .inr (.inl ⟨a,j,vs,rfl,rfl,(SqT.of hq),h.1.1.1,h.1.1.2,by rw [<- rs.length]; exact h.1.2,λ e=>?_,λ p hp=>?_⟩)
   ·rcases e with e | e
    ·subst e; cases rs
     have h2:=h.2
     have e:(List.replicate j.toNat ([]:List D)).flatten=[]:=by simp
     rw [e] at h2
     exact k _ _ _ _ h2 (Kp.refl _) (.tup hq .nil) m
    ·subst e
     have h2:=h.2
     have e:(List.replicate (1:Int).toNat l).flatten=l:=by simp
     rw [e] at h2
     exact k _ _ _ _ h2 (Kp.refl _) (.tup hq rs) m
   ·exact k _ _ _ _ h.2 (Kp.new hp) (.tup xf0 ((rs.rep _).mono (Kp.new hp))) (m.newT hp)
  | ref p =>
   dsimp only [mulR] at h
   cases e:μ p with
   | none=>rw [e] at h; exact h.elim
   | some oo =>
    cases oo with
    | ins _ _=>rw [e] at h; exact h.elim
    | dct _=>rw [e] at h; exact h.elim
    | dcl _=>rw [e] at h; exact h.elim
    | dck _=>rw [e] at h; exact h.elim
    | lst l =>
     rw [e] at h
     obtain ⟨vs,hv,rv⟩:=m p l e
     have hb:(1000000:Nat)<=sizeLine:=by rw [sizeLine_eq]; decide
     refine .inr (.inr ⟨p,j,vs,rfl,rfl,hv,by have:=h.1.1.1; omega,by have:=h.1.1.2; omega,by rw [<- rv.length]; exact Nat.le_trans h.1.2 hb,λ t ht=>?_⟩)
     exact k _ _ _ _ (h.2 t (m.free ht)) (Kp.new ht) (.ref t) (m.newL ht (rv.rep _))
  | _=>exact False.elim h
 | _=>cases rx <;> exact False.elim h
theorem tr1:CallR X (.type "int") (λ xs H Q=>∃ z n,xs=[.str z] /\ PySem.intText? z=some n /\ z.length<=640 /\ Q (.int n) H):=by
 intro pins s σ H xs us Q I r h
 obtain ⟨z,n,rfl,e,hl,q⟩:=h
 obtain ⟨u,rfl,t,rfl⟩:=vu0 r
 exact PySem.W.KIN.call_text e hl ⟨.int n,H,I.tok _,⟨_,rfl⟩,q⟩
theorem ui2:RC X (.type "int") intR:=by
 refine ⟨_,call_int1.or tr1,λ xs vs H Q μ Q3 m r h k=>?_⟩
 cases r with
 | nil=>exact False.elim h
 | cons r1 r2 =>
  cases r2 with
  | cons _ _=>cases r1 <;> exact False.elim h
  | nil =>
   cases r1 with
   | int i=>exact .inl (.inl ⟨i,rfl,k _ _ _ _ h (Kp.refl _) (.int _) m⟩)
   | bl b=>exact .inl (.inr ⟨b,rfl,k _ _ _ _ h (Kp.refl _) (.int _) m⟩)
   | str z =>
    dsimp only [intR] at h
    cases e:PySem.intText? z with
    | none=>rw [e] at h; exact h.elim
    | some n =>
     rw [e] at h
     exact .inr ⟨z,n,rfl,e,h.1,k _ _ _ _ h.2 (Kp.refl _) (.int _) m⟩
   | _=>exact False.elim h
theorem wl1 {prog:Program} {w:World} {A:Around} {E:Value->Shared->Prop} {s:Shared} {t sl:Addr} {items:Array Value} {vl vu:Value} {lo hi:Option Int} {Q:Value->Shared->Prop} (ht:IsTup s.heap t items) (hs:s.heap.IsSliceOf sl vl vu .none) (pl:IsPart vl lo) (pu:IsPart vu hi)
    (hw:HT.sIx items.size 0 lo=0 /\ HT.sIx items.size items.size hi=items.size) (h:Q (.ref t) s):wpAny (model prog w) A (getItem (.ref t) (.ref sl)) Q E s:=by
 obtain ⟨os,hos,hcs,hds⟩:=id hs
 have hTs:s.TypeIs (.ref sl) "slice" := ⟨os,hos,hcs⟩
 unfold getItem
 try with_reducible refine wpAny_holding ?_
 first | refine wpAny_bind (wpAny_pure ?_) | skip
 refine wpAny_bind (wpAny_sequenceKey ht.typeIs (by decide) ?_)
 refine wpAny_bind (wpAny_callSpecial?_slot ht.typeIs (name:=Str.ofString "__getitem__") PyProof.Rows.slot_tuple_getitem (wpAny_call_entry PyProof.Rows.slot_tuple_getitem ht.typeIs entry_tuple_getitem ?_ (args_tuple_getitem _ _)))
 show wpAny _ _ (Builtin.Tuple.tupleItemsOf (.ref t) >>= _) _ _ s
 refine wpAny_bind (tupleItemsOf_ ht ?_)
 refine wpAny_bind (wpAny_typeOf hTs ?_)
 rw [if_pos (by decide)]
 refine wpAny_bind (HT.sliceApplied_gen hs pl pu ?_)
 rw [hw.1,hw.2]
 show wpAny _ _ (if ((((0:Nat):Int) == 0 && (1:Int) == 1 && (items.size - 0) == items.size)=true) then _ else _) _ _ s
 rw [if_pos (by simp)]
 refine wpAny_bind (m:=Builtin.Tuple.tupleIsExact _) (wpAny_bind (wpAny_typeOf ht.typeIs (wpAny_pure ?_)))
 rw [if_pos (by decide)]
 refine wpAny_bind (wpAny_rule ?_)
 first
  | exact wpAny_pure ⟨_,rfl,wpAny_pure h⟩
  | exact wpAny_bind (wpAny_pure (wpAny_pure ⟨_,rfl,wpAny_pure h⟩))
  | exact wpAny_bind (wpAny_bind (wpAny_pure (wpAny_pure (wpAny_pure ⟨_,rfl,wpAny_pure h⟩))))
noncomputable def rSlA (K:Fg):V->Option Int->Option Int->Hp->VK->Prop:=λ x lo hi H Q=>∃ a xs,x=.ref a /\ SqT K H a xs /\ (cutV xs lo hi=xs->Q (.ref a) H) /\ ∀ p,H p=none->Q (.ref p) (upd H p (.tup (cutV xs lo hi)))
theorem sl_tupA:SlR X (rSlA X.K):=by
 intro pins s σ H x v vl vu lo hi sl Q I rx hs pl pu h
 obtain ⟨a,xs,rfl,hx,q1,q2⟩:=h
 by_cases hw:HT.sIx xs.length 0 lo=0 /\ HT.sIx xs.length xs.length hi=xs.length
 ·cases rx
  obtain ⟨its,r,ht,hz⟩:=I.tuple hx
  have hlen:its.toArray.size=xs.length:=by rw [List.size_toArray]; exact r.length.symm
  have e:cutV xs lo hi=xs:=by unfold cutV; rw [hw.1,hw.2]; simp
  exact ⟨"tuple",_,PyProof.Rows.slot_tuple_getitem.lookup,ht.typeIs,wl1 ht hs pl pu (by rw [hlen]; exact hw) ⟨.ref a,H,I,rfl,q1 e⟩⟩
 ·exact xt2 pins s σ H _ v vl vu lo hi sl Q I rx hs pl pu ⟨a,xs,rfl,hx,hw,q2⟩
theorem vh2:∀ (n d:Nat) (o:Option Int),HT.sIx n d o=sIx3 n d o
 | _,_,none=>rfl
 | _,_,some _=>rfl
theorem RelDs.cut {K:Fg} {H:Hp} {l:List D} {vs:List V} (r:RelDs K H l vs) (lo hi:Option Int):RelDs K H (cut3 l lo hi) (cutV vs lo hi):=by
 unfold cut3 cutV
 rw [<- r.length]
 simp only [vh2]
 exact (r.drop _).take _
noncomputable def RdP (K:Fg) (tv:TO) (t:TO3):Prop:=∀ σ H Q ρ μ Q3,RSt K H ρ σ->RelM K μ H->t ρ μ Q3->(∀ o μ' H',Q3 o μ'->Kp H H'->RelM K μ' H'->Q o H')->tv σ H Q
noncomputable def RP (X:Cx) (e:Option Expr) (t:TO3):Prop:=∃ tv,PO X e tv /\ RdP X.K tv t
theorem ue0:RP X none np3:=⟨_,zk2,λ σ H Q ρ μ Q3 s m h k=>k _ _ _ h (Kp.refl _) m⟩
theorem wd0 {e:Expr} {te:TE3} (h:RE X e te):RP X (some e) (pt3 te):=by
 obtain ⟨tv,p,r⟩:=h
 refine ⟨_,yk2 p,λ σ H Q ρ μ Q3 s m h k=>r σ H _ ρ μ _ s m h λ d μ1 v H1 h1 k1 r1 m1=>?_⟩
 cases r1 with
 | int i=>exact ⟨i,rfl,k _ _ _ h1 k1 m1⟩
 | _=>exact False.elim h1
noncomputable def RL (X:Cx) (r3:D->Option Int->Option Int->Mu->VK3->Prop):Prop:=∃ r,SlR X r /\ ∀ x v lo hi H Q μ Q3,RelM X.K μ H->RelD X.K H x v->r3 x lo hi μ Q3->Ks X.K H Q3 Q->r v lo hi H Q
noncomputable def rSlS:V->Option Int->Option Int->Hp->VK->Prop:=λ x lo hi H Q=>∃ z:Str,x=.str z /\ z.length<=sizeLine /\ Q (.str ⟨(cut3 z.cps.toList lo hi).toArray⟩) H
theorem ts2 (lo hi:Option Int) (n:Nat):Builtin.Str.strSliceIndices lo hi 1 n=sliceRange ((sIx3 n 0 lo:Nat):Int) ((sIx3 n n hi:Nat):Int) 1:=by
 unfold Builtin.Str.strSliceIndices
 have a1:∀ (d:Nat) (v:Option Int),(match v with | none=>((d:Nat):Int) | some i=>(if (1:Int) > 0 then max 0 (min (if i < 0 then i + (n:Int) else i) (n:Int)) else max (-1) (min (if i < 0 then i + (n:Int) else i) ((n:Int) - 1))))=((sIx3 n d v:Nat):Int):=λ d v=>by
  cases v with
  | none=>rfl
  | some i =>
   simp only [sIx3,show (1:Int) > 0 by decide,if_true]
   by_cases h:i < 0
   ·simp only [h,if_true]; omega
   ·simp only [h,if_false]; omega
 have e1:=a1 0 lo
 have e2:=a1 n hi
 simp only [show (1:Int) > 0 by decide,if_true] at e1 e2 ⊢
 rw [<- e1,<- e2]
 cases lo <;> cases hi <;> rfl
theorem zt2 (n:Nat) (o:Option Int):sIx3 n n o<=n:=by
 cases o with
 | none=>exact Nat.le_refl _
 | some v =>
  show (if v < 0 then (v + (n:Int)).toNat else min v.toNat n)<=n
  split <;> omega
theorem yt2:SlR X rSlS:=by
 intro pins s σ H x v vl vu lo hi sl Q I rx hs pl pu h
 obtain ⟨z,rfl,hz,q⟩:=h
 obtain ⟨t,rfl⟩:=rx
 refine ⟨"str",_,F.slot_str_getitem.lookup,typeIs_str _ _ _,?_⟩
 have hl:∃ l:Option (Int × Tok),partValue l=vl /\ l.map (·.1)=lo:=by
  cases pl with
  | none=>exact ⟨none,rfl,rfl⟩
  | int i t=>exact ⟨some (i,t),rfl,rfl⟩
 have hu:∃ u:Option (Int × Tok),partValue u=vu /\ u.map (·.1)=hi:=by
  cases pu with
  | none=>exact ⟨none,rfl,rfl⟩
  | int i t=>exact ⟨some (i,t),rfl,rfl⟩
 obtain ⟨l,rfl,rfl⟩:=hl
 obtain ⟨u,rfl,rfl⟩:=hu
 refine wpAny_getItem_str_slice (l:=l) (u:=u) (st:=none) hs rfl ?_
 have e:(slicePicked z l u none).filterMap (z.cps[·]?)=cut3 z.cps.toList (l.map (·.1)) (u.map (·.1)):=by
  unfold slicePicked
  show (Builtin.Str.strSliceIndices _ _ 1 z.length).filterMap (z.cps[·]?)=_
  rw [ts2,sliceRange_one,pick_run]
  unfold cut3
  rw [Array.length_toList]
  rfl
 unfold sliceMade
 split
 ·next hw =>
  have hlen:(slicePicked z l u none).length=z.length:=by
   rw [Bool.and_eq_true] at hw
   simpa using hw.2
  have ez:cut3 z.cps.toList (l.map (·.1)) (u.map (·.1))=z.cps.toList:=by
   have h1:(Builtin.Str.strSliceIndices (l.map (·.1)) (u.map (·.1)) 1 z.length).length=z.length:=hlen
   rw [ts2,sliceRange_one,List.length_map,List.length_range] at h1
   have h2:=zt2 z.length (u.map (·.1))
   have hs:z.length=z.cps.size:=rfl
   unfold cut3
   rw [Array.length_toList,<- hs]
   rcases Nat.eq_zero_or_pos z.length with h0 | h0
   ·have:z.cps.toList=[]:=List.eq_nil_of_length_eq_zero (by rw [Array.length_toList,<- hs]; exact h0)
    rw [this]; simp
   ·have ha:sIx3 z.length 0 (l.map (·.1))=0:=by omega
    rw [ha,List.drop_zero]
    exact List.take_of_length_le (by rw [Array.length_toList,<- hs]; omega)
  rw [ez] at q
  exact ⟨.str z,H,I,⟨t,rfl⟩,q⟩
 ·rw [e]
  refine ⟨?_,.str _,H,I.tok _,⟨_,rfl⟩,q⟩
  refine Nat.le_trans ?_ hz
  show (cut3 z.cps.toList (l.map (·.1)) (u.map (·.1))).toArray.size<=z.cps.size
  rw [List.size_toArray]
  unfold cut3
  rw [List.length_take,List.length_drop,Array.length_toList]
  omega
theorem q_sl:RL X slR:=by
 refine ⟨_,(sl_tupA.or yh2).or yt2,λ x v lo hi H Q μ Q3 m rx h k=>?_⟩
 cases rx with
 | str z=>exact .inr ⟨z,rfl,h.1,k _ _ _ _ h.2 (Kp.refl _) (.str _) m⟩
 | tup hq rs =>
  refine .inl <| .inl ⟨_,_,rfl,(SqT.of hq),λ e=>?_,λ p hp=>k _ _ _ _ h (Kp.new hp) (.tup xf0 ((rs.cut lo hi).mono (Kp.new hp))) (m.newT hp)⟩
  refine k _ _ _ _ h (Kp.refl _) (.tup hq ?_) m
  have:=rs.cut lo hi
  rw [e] at this
  exact this
 | fls hq rs=>exact .inl <| .inr ⟨_,_,rfl,hq.l,λ p hp=>k _ _ _ _ (h p (m.free hp)) (Kp.new hp) (.ref p) (m.newL hp (rs.cut lo hi))⟩
 | ref p =>
  dsimp only [slR] at h
  cases e:μ p with
  | none=>rw [e] at h; exact h.elim
  | some oo =>
   cases oo with
   | ins _ _=>rw [e] at h; exact h.elim
   | dct _=>rw [e] at h; exact h.elim
   | dcl _=>rw [e] at h; exact h.elim
   | dck _=>rw [e] at h; exact h.elim
   | lst l =>
    rw [e] at h
    obtain ⟨vs,hv,rs⟩:=m p l e
    exact .inl <| .inr ⟨p,vs,rfl,SqL.of hv,λ t ht=>k _ _ _ _ (h t (m.free ht)) (Kp.new ht) (.ref t) (m.newL ht (rs.cut lo hi))⟩
 | _=>exact False.elim h
theorem xd0 {e:Expr} {te:TE3} {lo hi:Option Expr} {tl th:TO3} {pos p2:Pos} {r3:D->Option Int->Option Int->Mu->VK3->Prop} (hr:RL X r3) (he:RE X e te) (hl:RP X lo tl) (hu:RP X hi th):RE X (.Subscript e (.Slice lo hi none p2) pos) (sl3 r3 te tl th):=by
 obtain ⟨r,pr,rr⟩:=hr
 obtain ⟨va,pa,ra⟩:=he
 obtain ⟨vb,pb,rb⟩:=hl
 obtain ⟨vc,pc,rc⟩:=hu
 exact ⟨_,vw1 pr pa pb pc,λ σ H Q ρ μ Q3 s m h k=>ra σ H _ ρ μ _ s m h λ x μ1 v H1 h1 k1 r1 m1=>rb σ H1 _ ρ μ1 _ (s.mono k1) m1 h1 λ l μ2 H2 h2 k2 m2=>rc σ H2 _ ρ μ2 _ ((s.mono k1).mono k2) m2 h2 λ u μ3 H3 h3 k3 m3 =>
  rr x v l u H3 Q μ3 Q3 m3 (r1.mono (k2.trans k3)) h3 (k.after (k1.trans (k2.trans k3)))⟩
theorem xs1 {K:Fg} {H:Hp}:∀ {l:List D} {vs:List V} {bs:List Bool},RelDs K H l vs->bls? l=some bs->vs=bs.map V.bl
 | _,_,bs,.nil,e=>by simp [bls?] at e; subst e; rfl
 | _,_,bs,.cons h r,e=>by
  cases h with
  | bl x =>
   simp only [bls?] at e
   split at e
   ·next ys e1 =>
    simp only [Option.some.injEq] at e
    subst e
    rw [xs1 r e1]; rfl
   ·cases e
  | _=>simp [bls?] at e
theorem sd1:∀ {bs:List Bool} {us:List Value},Vals (bs.map V.bl) us->us=bs.map Value.bool
 | [],_,r=>by cases r; rfl
 | b :: bs,_,r=>by
  cases r with
  | cons r1 r2=>cases r1; rw [sd1 r2]; rfl
theorem vl1 (prog:Program) (w:World) (A:Around) (bs:List Bool):TruthOf prog w A (λ i v=>(bs.map Value.bool).toArray[i]?=some v) (λ i=>bs.getD i false):=by
 intro i v s Q E hP hQ
 have hP':(bs.map Value.bool)[i]?=some v:=by simpa using hP
 rw [List.getElem?_map] at hP'
 cases e:bs[i]? with
 | none=>rw [e] at hP'; cases hP'
 | some b =>
  rw [e] at hP'
  simp only [Option.map_some,Option.some.injEq] at hP'
  subst hP'
  refine wpAny_truthy_bool ?_
  have:bs.getD i false=b:=by rw [List.getD_eq_getElem?_getD,e]; rfl
  dsimp only at hQ
  rw [this] at hQ
  exact hQ
theorem un1 (bs:List Bool):(List.range bs.length).all (λ i=>bs.getD i false)=bs.all id:=by
 rw [Bool.eq_iff_iff,List.all_eq_true,List.all_eq_true]
 constructor
 ·intro h x hx
  obtain ⟨i,hi,rfl⟩:=List.mem_iff_getElem.mp hx
  have:=h i (List.mem_range.mpr hi)
  rw [List.getD_eq_getElem?_getD,List.getElem?_eq_getElem hi] at this
  exact this
 ·intro h i hi
  have hi':=List.mem_range.mp hi
  rw [List.getD_eq_getElem?_getD,List.getElem?_eq_getElem hi']
  exact h _ (List.getElem_mem hi')
theorem sr1 (hc:X.calm=true):CallR X (.builtin "all") (λ xs H Q=>∃ (p:Addr) (bs:List Bool),xs=[.ref p] /\ SqL X.K H p (bs.map V.bl) /\ Q (.bl (bs.all id)) H):=by
 intro pins s σ H xs us Q I r h
 obtain ⟨p,bs,rfl,hq,q⟩:=h
 obtain ⟨u,rfl,rx⟩:=vu0 r
 cases rx
 obtain ⟨its,r',pl,hz⟩:=I.list hq
 have eu:=sd1 r'
 subst eu
 refine call_all_walk (wpAny_pyIter_list pl.isList ?_)
 have hlt:p < s.heap.objs.size:=by obtain ⟨o,ho,_⟩:=pl.isList; exact Heap.lt_size ho
 refine ⟨_,_,_,_,_,_,_,rfl,Walks.list (A:=X.A.in1) (I.ok.hd hc) _ p (Nat.ne_of_lt hlt) _,⟨⟨_,Heap.get?_push_size _ rfl,rfl,rfl⟩,pl.isList.at λ o e=>Heap.get?_push_of_some _ e⟩,vl1 _ _ _ bs,λ h' tk hk=>?_⟩
 have e:(bs.map Value.bool).toArray.size=bs.length:=by simp
 rw [e,un1]
 refine ⟨.bl _,H,I.kept (t':=tk) λ b o eb=>hk b o ?_ (Heap.get?_push_of_some _ eb),rfl,q⟩
 intro z
 rw [List.mem_singleton] at z
 rw [z] at eb
 exact absurd (Heap.lt_size eb) (Nat.lt_irrefl _)
theorem RdC.bools {K:Fg} {f:List Bool->Bool} {r3:C3} (hr:∀ ds μ Q3,r3 ds μ Q3->∃ p l bs,ds=[.ref p] /\ μ p=some (.lst l) /\ bls? l=some bs /\ Q3 (.bl (f bs)) μ) :
    RdC K (λ xs H Q=>∃ (p:Addr) (bs:List Bool),xs=[.ref p] /\ SqL K H p (bs.map V.bl) /\ Q (.bl (f bs)) H) r3:=λ xs vs H Q μ Q3 m r h k=>by
 obtain ⟨p,l,bs,rfl,e,e1,q⟩:=hr _ _ _ h
 cases r with
 | cons r1 r2 =>
  cases r2
  cases r1
  obtain ⟨us,hv,rs⟩:=m p l e
  have ev:=xs1 rs e1
  subst ev
  exact ⟨p,bs,rfl,SqL.of hv,k _ _ _ _ q (Kp.refl _) (.bl _) m⟩
theorem wp3 (hc:X.calm=true:=by rfl):RC X (.builtin "all") allR:=by
 refine ⟨_,sr1 hc,RdC.bools λ ds μ Q3 h=>?_⟩
 unfold allR at h
 split at h
 ·split at h
  ·next p _ l e =>
   split at h
   ·next bs e1=>exact ⟨p,l,bs,rfl,e,e1,h⟩
   ·exact h.elim
  ·exact h.elim
 ·exact h.elim
end
end Pv
namespace Pv
open PySem
noncomputable def isN:D->Bool
 | .non=>true
 | _=>false
noncomputable def isNR (neg:Bool):R3:=λ x y μ Q=>match y with
 | .non=>Q (.bl (if neg then !isN x else isN x)) μ
 | _=>False
end Pv
namespace Pv
open PySem PySem.Spec PyProof.Rows L2
section
variable {X:Cx}
theorem wr3 {K:Fg} {H:Hp} {x:D} {v:V} (r:RelD K H x v):decide (v=.non)=isN x:=by
 cases r <;> simp [isN]
theorem tv1:RO X (compareOp .Is) (isNR false):=by
 refine ⟨_,ye3,λ x y v u H Q μ Q3 m rx ry h k=>?_⟩
 cases ry with
 | non =>
  refine ⟨rfl,?_⟩
  rw [wr3 rx]
  exact k _ _ _ _ h (Kp.refl _) (.bl _) m
 | _=>exact False.elim h
end
end Pv
namespace L2
open PySem PySem.Spec PyProof.Rows
section
variable {κ:Type} [DecidableEq κ]
end
section
variable {prog:Program} {w:World} {K:Type} [DecidableEq K] {knd:HeapKind prog w K} {A:Around} {E:Value->Shared->Prop} {s:Shared}
end
section
variable {P:Program} {w:World} {H:Hp} {h:Heap} {a:Addr}
end
section
variable {X:Cx} {pins:List (Addr × Obj)} {σ:St} {H:Hp} {s:Shared} {a:Addr} {y v:V} {u r:Value} {o:Option V} {A:Around} {E:Value->Shared->Prop}
end
section
variable {X:Cx} {pins:List (Addr × Obj)} {σ:St} {H:Hp} {s:Shared} {a:Addr} {kvs:List (Key × V)} {k:Key} {u:Value} {A:Around} {E:Value->Shared->Prop}
end
section
variable {X:Cx} {o i e value:Expr} {pos pos' tpos:Pos} {td ty tv:TE}
end
section
variable {X:Cx} {pos:Pos}
end
structure M1 (X:Cx) (o:Expr) (m:Str) (apos:Pos) (e:Expr) (cpos:Pos):Prop where
 base:attributeBase o m X.env (eval o X.env)=eval o X.env
 few:((backTo cpos (starEach [e] X.env)).all (λ x=>!x.1) && (backToKw cpos (keywordEach [] X.env)).all (λ x=>x.1.isSome)
  && decide (([e]:List Expr).length + ([]:List Keyword).length + (if ([]:List Keyword).isEmpty then 0 else 1) < 30))=true
 line:(apos.endLine == cpos.line)=true
 trees:backTo cpos (starEach [e] X.env)=[(false,eval e X.env)]
structure M2 (X:Cx) (o:Expr) (m:Str) (apos:Pos) (e f:Expr) (cpos:Pos):Prop where
 base:attributeBase o m X.env (eval o X.env)=eval o X.env
 few:((backTo cpos (starEach [e,f] X.env)).all (λ x=>!x.1) && (backToKw cpos (keywordEach [] X.env)).all (λ x=>x.1.isSome)
  && decide (([e,f]:List Expr).length + ([]:List Keyword).length + (if ([]:List Keyword).isEmpty then 0 else 1) < 30))=true
 line:(apos.endLine == cpos.line)=true
 trees:backTo cpos (starEach [e,f] X.env)=[(false,eval e X.env),(false,eval f X.env)]
section
variable {X:Cx} {pins:List (Addr × Obj)} {σ:St} {H:Hp} {s:Shared} {a:Addr} {y d:V} {u r:Value} {o:Option V} {A:Around} {E:Value->Shared->Prop}
end
section
variable {X:Cx} {o e f:Expr} {apos cpos:Pos} {td ty tx:TE}
end
section
variable {X:Cx} {pins:List (Addr × Obj)} {σ:St} {H:Hp} {s:Shared} {a:Addr} {kvs:List (Key × V)} {A:Around} {E:Value->Shared->Prop}
end
section
variable {X:Cx} {pins:List (Addr × Obj)} {σ:St} {H:Hp} {s:Shared} {a:Addr} {y:V} {u:Value} {A:Around} {E:Value->Shared->Prop}
end
end L2
namespace Pv
open PySem
noncomputable abbrev XE3:=Str->Mu->Prop
noncomputable def se0 (XE:XE3) (x:Str) (t:TA3):TS3:=λ _ ρ μ=>t ρ μ λ ds μ1=>ds.length<=sizeLine /\ XE x μ1
noncomputable def isx3 (t:TE3) (sub:Str->Option Bool):TE3:=λ ρ μ Q=>t ρ μ λ d μ1=>match d with
 | .exc c=>match sub c with
  | some b=>Q (.bl b) μ1
  | _=>False
 | _=>False
noncomputable def try3 (i:Nat) (spx:XE3->Sp3) (st:D->St3->St3) (ok:Str->Bool) (ta:TA3) (ts:TS3):TS3:=λ D' ρ μ=>ta ρ μ λ ds μ1 =>
 spx (λ c μ2=>ok c=true /\ ts { nx:=λ ρ' μ'=>D'.nx (ρ'.set i none) μ',rt:=λ _ _=>False } (ρ.set i (some (.exc c))) μ2) ds μ1 (λ d μ2=>D'.nx (st d ρ) μ2)
noncomputable def NX:XE3:=λ _ _=>False
noncomputable def wh2 (j:Nat):D->St3->St3:=λ d ρ=>ρ.set j (some d)
end Pv
namespace Pv
open PySem PySem.Spec PyProof.Rows L2
open Sem (wp)
noncomputable def F2 (h:Heap) (e:Addr):Prop:=∃ oe vs,h.get? e=some oe /\ oe.data=.fields vs /\ vs[2]?=some .none
structure Kf {α:Type} (e:Addr) (t:Sem α):Prop where
 out:∀ (M:Model) (Γ:PySem.Ctx) (P:α->Pos->Shared->Prop) (E:Value->Pos->Shared->Prop) (p:Pos) (s:Shared),F2 s.heap e->wp M Γ t P E p s->wp M Γ t (λ a p' s'=>P a p' s' /\ F2 s'.heap e) E p s
namespace Kf
variable {α β:Type} {e:Addr}
theorem pure (a:α):Kf e (Pure.pure a:Sem α):=⟨λ _ _ _ _ _ _ f h=>⟨h,f⟩⟩
theorem uns (w:String):Kf e (unsupported w:Sem α):=⟨λ _ _ _ _ _ _ _ h=>h⟩
theorem bind {m:Sem α} {g:α->Sem β} (hm:Kf e m) (hg:∀ a,Kf e (g a)):Kf e (m >>= g):=⟨λ M Γ P E p s f h=>by
 rw [Sem.wp_bind'] at h ⊢
 exact Sem.wp_mono M Γ m (λ a p' s' ⟨h1,f1⟩=>(hg a).out M Γ P E p' s' f1 h1) (λ _ _ _ x=>x) p s (hm.out M Γ _ E p s f h)⟩
theorem ite {c:Prop} [Decidable c] {t u:Sem α} (ht:Kf e t) (hu:Kf e u):Kf e (if c then t else u):=by split <;> assumption
theorem load (a:Addr):Kf e (PySem.load a):=⟨λ _ _ _ _ _ _ f ⟨o,h1,h2⟩=>⟨o,h1,h2,f⟩⟩
theorem stack:Kf e PySem.stack:=⟨λ M Γ P E p s f h=>by
 unfold PySem.stack at h ⊢
 rw [Sem.wp_stack] at h ⊢
 exact ⟨h,f⟩⟩
theorem alloc (o:Obj):Kf e (PySem.alloc o):=⟨λ _ _ _ _ _ _ ⟨oe,vs,h1,h2,h3⟩ h=>⟨h,oe,vs,Heap.get?_push_of_some _ h1,h2,h3⟩⟩
theorem slots (a:Addr) (g:Obj->Array (Option Value)):Kf e (PySem.update a λ o=>{ o with slots:=g o }):=⟨λ _ _ _ _ _ s ⟨oe,vs,h1,h2,h3⟩ ⟨h,k⟩=>⟨h,k,by
 by_cases q:a=e
 ·subst q
  exact ⟨_,vs,Heap.get?_update_self (λ o=>{ o with slots:=g o }) h1 (Obj.isFreed_of_fields h2),h2,h3⟩
 ·exact ⟨oe,vs,(Heap.get?_update_ne _ _ _ _ (Ne.symm q)).trans h1,h2,h3⟩⟩⟩
theorem field (v:Value) (i:Nat):Kf e (PySem.field v i):=⟨λ _ Γ P E p s f h=>by
 rw [wp_field_iff] at h ⊢
 obtain ⟨a,o,vs,x,h1,h2,h3,h4,h5⟩:=h
 exact ⟨a,o,vs,x,h1,h2,h3,h4,h5,f⟩⟩
theorem setField (v:Value) {i:Nat} (x:Value) (hi:i ≠ 2):Kf e (PySem.setField v i x):=⟨λ _ Γ P E p s ⟨oe,vs,h1,h2,h3⟩ h=>by
 rw [wp_setField_iff] at h ⊢
 obtain ⟨a,o,ws,k1,k2,k3,k4,k5⟩:=h
 refine ⟨a,o,ws,k1,k2,k3,k4,k5,?_⟩
 by_cases q:a=e
 ·subst q
  have hd:=Obj.data_mapFields h2 (·.setIfInBounds i x)
  exact ⟨_,_,Heap.get?_update_self (Obj.mapFields (·.setIfInBounds i x)) h1 (Obj.isFreed_of_fields hd),hd,by rw [Array.getElem?_setIfInBounds_ne hi]; exact h3⟩
 ·exact ⟨oe,vs,(Heap.get?_update_ne _ _ _ _ (Ne.symm q)).trans h1,h2,h3⟩⟩
theorem vx2:∀ l:List Env,Kf e (readyFrames l)
 | []=>Kf.pure _
 | env :: outer=>by
  have ih:=vx2 outer
  unfold readyFrames
  unfold behindIsImport keptBack underTheClaimsCaller
  repeat' with_reducible first | assumption | exact Kf.pure _ | exact Kf.uns _ | exact Kf.field _ _ | exact Kf.load _ | exact Kf.stack | exact Kf.slots _ _ | apply Kf.ite | apply Kf.bind | intro _ | split
theorem note (v:Value) (env:Env):Kf e (noteFrame v env):=by
 have r:=λ l=>vx2 (e:=e) l
 unfold noteFrame EntryCells.newEntry newFields newObj newObjAsIs PySem.frameOf frameObject entryPlaceOf frameEnvs
 repeat' with_reducible first | assumption | exact Kf.pure _ | exact Kf.uns _ | exact Kf.field _ _ | exact Kf.load _ | exact Kf.stack | exact Kf.alloc _ | exact Kf.setField _ _ (by decide) | exact r _ | apply Kf.ite | apply Kf.bind | intro _ | split
theorem flight (v:Value) (o:Option Addr):Kf e (setFlight v o):=by
 unfold setFlight
 repeat' with_reducible first | exact Kf.pure _ | exact Kf.field _ _ | exact Kf.setField _ _ (by decide) | apply Kf.ite | apply Kf.bind | intro _ | split
theorem leav (v:Value) (env:Env):Kf e (leaving env v):=Kf.bind (note v env) λ _=>flight v none
theorem any {t:Sem α} (k:Kf e t) {M:Model} {A:Around} {Q:α->Shared->Prop} {E:Value->Shared->Prop} {s:Shared} (f:F2 s.heap e) (h:wpAny M A t Q E s):wpAny M A t (λ a s'=>Q a s' /\ F2 s'.heap e) E s :=
 λ Γ p hΓ=>k.out M Γ _ _ p s f (h Γ p hΓ)
theorem any' {o:Prop} {t:Sem α} (k:Kf e t) {M:Model} {A:Around} {Q:α->Shared->Prop} {E:Value->Shared->Prop} {s:Shared} (f:o->F2 s.heap e) (h:wpAny M A t Q E s):wpAny M A t (λ a s'=>Q a s' /\ (o->F2 s'.heap e)) E s:=by
 by_cases q:o
 ·exact wpAny_mono (k.any (f q) h) (λ _ _ z=>⟨z.1,λ _=>z.2⟩) λ _ _ z=>z
 ·exact wpAny_mono h (λ _ _ z=>⟨z,λ y=>absurd y q⟩) λ _ _ z=>z
end Kf
end Pv
namespace Pv
open PySem PySem.Spec PyProof.Rows L2
noncomputable def CXn (P:Program) (w:World):CXT:=λ outer H s E e s'=>∃ (ea:Addr) (cls a0:Value) (H':Hp) (B:Heap),e=.ref ea /\ s'.os=s.os /\ AllBare s'.gens /\ Un (frs outer) [] H H' s.heap s'.heap /\ HOk P w H' s'.heap ∧
 Heap.FlyingW B outer ea cls a0 s'.heap /\ H' ea=none /\ (∀ b o,s'.heap.get? b=some o->b ∉ frs outer->(∃ o',s.heap.get? b=some o')->B.get? b=some o) /\ (∀ b,H' b ≠ none->∃ o,s'.heap.get? b=some o /\ B.get? b=some o) /\ ∃ o:Option Addr,(o=none->F2 s'.heap ea) /\ E cls o H'
theorem tw1 {P:Program} {w:World} {K:Fg} {mg:Str->Option Value} {base:Heap} {N:List Str} {qual:Str} {scope:Scope} {f:Addr} {cd:Value} {A:Around} {outer:List Env} {s0:Shared} {H0:Hp} {E:XK} :
    ua1 (CXn P w) (cxOf (CXn P w) P w K mg base N qual scope f cd A outer s0 H0 E) E:=by
 intro pins σ H s e s' I h
 obtain ⟨ea,cls,a0,H',B,rfl,os,bare,u2,hok,fl,hea,cov1,cov2,oo,hf2,hE⟩:=h
 have u1:Un (frs outer) [] H0 H s0.heap s.heap:=I.base
 have habove:s0.heap.objs.size<=(envOfC qual scope s0.heap.objs.size f cd).locals:=I.ok.above
 have hloc:∀ {b:Addr} {o:Obj},s0.heap.get? b=some o->b ≠ (envOfC qual scope s0.heap.objs.size f cd).locals:=λ {b o} q z=>by
  have:=Heap.lt_size q
  rw [z] at this
  exact absurd this (Nat.not_lt.mpr habove)
 have hfs:frs ((envOfC qual scope s0.heap.objs.size f cd) :: outer)=(envOfC qual scope s0.heap.objs.size f cd).locals :: frs outer:=rfl
 have hfn:∀ {b:Addr} {o:Obj},s0.heap.get? b=some o->b ∉ frs outer->b ∉ frs ((envOfC qual scope s0.heap.objs.size f cd) :: outer):=λ {b o} q z hm=>by
  rw [hfs] at hm
  rcases List.mem_cons.mp hm with hm | hm
  ·exact hloc q hm
  ·exact z hm
 show wpAny (model P w) (A.deeper (envOfC qual scope s0.heap.objs.size f cd)) (leaving (envOfC qual scope s0.heap.objs.size f cd) (.ref ea)) _ _ s'
 refine wpAny_mono ((Kf.leav _ _).any' hf2 (wpAny_leaves_onW (Q:=λ _ z=>∃ h',z={ s' with heap:=h' } /\ Heap.FlyingW B outer ea cls a0 h' /\ s'.heap.UpToSlots h') I.ok.frames rfl fl λ h' fl' up=>⟨h',rfl,fl',up⟩)) (λ _ z hz=>?_) λ _ _ z=>z
 obtain ⟨⟨h',rfl,fl',up⟩,hf3⟩:=hz
 have far:∀ b o,s0.heap.get? b=some o->b ∉ frs outer->∃ o',s'.heap.get? b=some o' /\ B.get? b=some o' /\ h'.get? b=some o':=λ b o q hb=>by
  obtain ⟨o1,e1⟩:=u1.there b o q (by simp)
  obtain ⟨o2,e2⟩:=u2.there b o1 e1 (by simp)
  have e3:=cov1 b o2 e2 (hfn q hb) ⟨o1,e1⟩
  exact ⟨o2,e2,e3,fl'.1 b o2 e3⟩
 have frm:∀ b o,s'.heap.get? b=some o->b ∈ frs outer->∃ sl,h'.get? b=some { o with slots:=sl }:=λ b o q hb=>by
  have hm:b ∈ ((envOfC qual scope s0.heap.objs.size f cd) :: outer).filterMap (·.frame):=by
   show b ∈ frs _
   rw [hfs]; exact List.mem_cons_of_mem _ hb
  obtain ⟨_,o',ho,hnf⟩:=fl.2.2.1.mem hm
  rw [q] at ho; cases ho
  exact up b o q hnf
 refine ⟨ea,cls,a0,H',B,rfl,os.trans I.os,bare,?_,?_,fl',hea,?_,?_,oo,hf3,hE⟩
 ·refine ⟨λ b o q n hb _=>?_,λ b o q n hb _=>?_,λ b o q n _=>?_,λ b o q _=>?_,λ b xs q=>u2.tups b xs (u1.tups b xs q),λ b o u q=>u2.frzs b o u (u1.frzs b o u q),λ b ps q=>?_⟩
  ·have e1:=u1.keep b o q n hb (by simp)
   have e2:=u2.keep b o e1 (u1.free b o q n (by simp)) (hfn q hb) (by simp)
   obtain ⟨o',e3,_,e5⟩:=far b o q hb
   rw [e2] at e3; cases e3
   exact e5
  ·obtain ⟨sl,e1⟩:=u1.slot b o q n hb (by simp)
   obtain ⟨sl2,e2⟩:=u2.slot b _ e1 (u1.free b o q n (by simp)) (by show b ∈ frs ((envOfC qual scope s0.heap.objs.size f cd) :: outer); rw [hfs]; exact List.mem_cons_of_mem _ hb) (by simp)
   obtain ⟨sl3,e3⟩:=frm b _ e2 hb
   exact ⟨sl3,e3⟩
  ·obtain ⟨o1,e1⟩:=u1.there b o q (by simp)
   exact u2.free b o1 e1 (u1.free b o q n (by simp)) (by simp)
  ·by_cases hb:b ∈ frs outer
   ·obtain ⟨o1,e1⟩:=u1.there b o q (by simp)
    obtain ⟨o2,e2⟩:=u2.there b o1 e1 (by simp)
    obtain ⟨sl,e3⟩:=frm b o2 e2 hb
    exact ⟨_,e3⟩
   ·obtain ⟨o',_,_,e5⟩:=far b o q hb
    exact ⟨o',e5⟩
  ·obtain ⟨m1,e1⟩:=u1.tbls b ps q
   obtain ⟨m2,e2⟩:=u2.tbls b _ e1
   exact ⟨m1 ++ m2,by rw [e2,Array.append_assoc]⟩
 ·refine λ a o e=>(hok a o e).stay (λ b u hb q=>?_) (λ _ h=>h) (λ _ _ h=>h)
  have hne:H' b ≠ none:=by
   rcases hb with rfl | hb
   ·rw [e]; simp
   ·rw [hb]; simp
  obtain ⟨o',e1,e2⟩:=cov2 b hne
  rw [q] at e1; cases e1
  exact fl'.1 b _ e2
 ·intro b o q hb ⟨o',q'⟩
  obtain ⟨o2,_,e4,e5⟩:=far b o' q' hb
  have q2:h'.get? b=some o:=q
  rw [e5] at q2; cases q2
  exact e4
 ·intro b hb
  obtain ⟨o,e1,e2⟩:=cov2 b hb
  exact ⟨o,fl'.1 b o e2,e2⟩
theorem sp0 {P:Program} {w:World} {H:Hp} {h:Heap} {a:Addr} {o:HO} (x:ObjOk P w H h a o):∃ ob,h.get? a=some ob:=by
 induction o with
 | lst xs=>obtain ⟨z,its,n,r,e⟩:=x; exact ⟨_,e⟩
 | tup xs=>obtain ⟨z,its,r,ob,e,c⟩:=x; exact ⟨_,e⟩
 | dK kvs=>obtain ⟨z,y,vs,r,ob,es,ep,e,c⟩:=x; exact ⟨_,e⟩
 | dT kvs=>obtain ⟨z,y,xs,r,ob,es,ep,e,c⟩:=x; exact ⟨_,e⟩
 | set S n=>obtain ⟨ob,es,ep,t,e,c⟩:=x; exact ⟨_,e⟩
 | ins C dx fs=>obtain ⟨d,z,ne,e,mA,_,r⟩:=x; exact ⟨_,e⟩
 | own y=>obtain ⟨ob,e⟩:=x; exact ⟨_,e⟩
 | xd fs=>obtain ⟨mA,⟨od,es,ep,e,c⟩,r⟩:=x; exact ⟨_,e⟩
 | rng lo hi=>obtain ⟨t,u,v,e⟩:=x; exact ⟨_,e⟩
 | frz ob u ih=>obtain ⟨e,q⟩:=x; exact ⟨_,e⟩
 | tbl ps=>exact ⟨_,x⟩
 | met f y=>exact ⟨_,x⟩
 | ext φ=>obtain ⟨p,⟨o,e⟩,st⟩:=x; exact ⟨_,e⟩
section
variable {P:Program} {w:World} {K:Fg} {mg:Str->Option Value} {base:Heap} {N:List Str} {qual:Str} {scope:Scope} {f:Addr} {cd:Value} {A:Around} {outer:List Env} {s0:Shared} {H0:Hp} {E:XK}
theorem tn1 {pins:List (Addr × Obj)} {σ:L2.St} {H:Hp} {s:Shared} {h1:Heap} {e:Addr} {a0:Value} {oe:Obj} {ws:Array Value} {oo:Option Addr} (I:L2.Inv (cxOf (CXn P w) P w K mg base N qual scope f cd A outer s0 H0 E) pins σ H s) (hxk:∀ b o,s.heap.get? b=some o->h1.get? b=some o) (hxn:s.heap.get? e=none) (he:h1.get? e=some oe) (hd:oe.data=.fields ws) (hw1:ws[1]?=some .none) (hw0:ws[0]?=some a0) (hw2:oo=none->ws[2]?=some .none) (hE:E oe.cls oo H) :
    (cxOf (CXn P w) P w K mg base N qual scope f cd A outer s0 H0 E).xe (.ref e) { s with heap:=h1 }:=by
 have u1:Un (frs outer) [] H0 H s0.heap s.heap:=I.base
 have e0:=I.env0
 have habove:s0.heap.objs.size<=(envOfC qual scope s0.heap.objs.size f cd).locals:=I.ok.above
 have hfs:frs ((envOfC qual scope s0.heap.objs.size f cd) :: outer)=(envOfC qual scope s0.heap.objs.size f cd).locals :: frs outer:=rfl
 have hfn:∀ {b:Addr} {o:Obj},s0.heap.get? b=some o->b ∉ frs outer->b ∉ frs ((envOfC qual scope s0.heap.objs.size f cd) :: outer):=λ {b o} q z hm=>by
  rw [hfs] at hm
  rcases List.mem_cons.mp hm with hm | hm
  ·have:=Heap.lt_size q
   rw [hm] at this
   exact absurd this (Nat.not_lt.mpr habove)
  ·exact z hm
 have hin:∀ env ∈ ((envOfC qual scope s0.heap.objs.size f cd) :: outer),∀ b,env.frame=some b->b ∈ frs ((envOfC qual scope s0.heap.objs.size f cd) :: outer):=λ env he b hb=>List.mem_filterMap.mpr ⟨env,he,hb⟩
 have hfun:s.heap.FunFrames base ((envOfC qual scope s0.heap.objs.size f cd) :: outer):=e0.funs
 have hl:=PySem.W.funFrames_hide hfun hin
 show wpAny (model P w) (A.deeper (envOfC qual scope s0.heap.objs.size f cd)) (leaving (envOfC qual scope s0.heap.objs.size f cd) (.ref e)) _ _ _
 have hen:(PySem.W.hideAll s.heap (frs ((envOfC qual scope s0.heap.objs.size f cd) :: outer))).get? e=none:=by
  cases q:(PySem.W.hideAll s.heap (frs ((envOfC qual scope s0.heap.objs.size f cd) :: outer))).get? e with
  | none=>rfl
  | some o=>have:=PySem.W.of_hideAll _ q; rw [hxn] at this; cases this
 refine wpAny_mono ((Kf.leav _ _).any' (λ z=>⟨oe,ws,he,hd,hw2 z⟩) (wpAny_leaving_firstW (Q:=λ _ z=>∃ h',z={ s with heap:=h' } /\ Heap.FlyingW (PySem.W.hideAll s.heap (frs ((envOfC qual scope s0.heap.objs.size f cd) :: outer))) outer e oe.cls a0 h' /\ h1.UpToSlots h') (s:={ s with heap:=h1 }) (a0:=a0) I.ok.frames (hl.of_keeps λ b o hb _=>⟨o,hxk b o hb,rfl⟩) rfl he (λ b o q=>hxk b o (PySem.W.of_hideAll _ q)) hen hd hw1 hw0 λ h' hL=>?_)) (λ _ z hz=>?_) λ _ _ z=>z
 ·obtain ⟨k1,⟨_,_,k2⟩,k3,k4⟩:=hL
  exact ⟨h',rfl,⟨k1,hen,k2,k3⟩,k4⟩
 obtain ⟨⟨h',rfl,fl,up⟩,hf3⟩:=hz
 have inB:∀ b o,s.heap.get? b=some o->b ∉ frs ((envOfC qual scope s0.heap.objs.size f cd) :: outer)->(PySem.W.hideAll s.heap (frs ((envOfC qual scope s0.heap.objs.size f cd) :: outer))).get? b=some o:=λ b o q hb=>PySem.W.hideAll_get _ q hb
 have trk:∀ b,H b ≠ none->∃ o,s.heap.get? b=some o /\ b ∉ frs ((envOfC qual scope s0.heap.objs.size f cd) :: outer):=λ b hb=>by
  cases q:H b with
  | none=>exact absurd q hb
  | some ho =>
   obtain ⟨o,eo⟩:=sp0 (I.hok b ho q)
   refine ⟨o,eo,λ hm=>?_⟩
   have:=e0.frf b hm
   rw [q] at this; cases this
 have frm:∀ b o,s.heap.get? b=some o->b ∈ frs outer->∃ sl,h'.get? b=some { o with slots:=sl }:=λ b o q hb=>by
  have hm:b ∈ ((envOfC qual scope s0.heap.objs.size f cd) :: outer).filterMap (·.frame):=by
   show b ∈ frs _
   rw [hfs]; exact List.mem_cons_of_mem _ hb
  obtain ⟨_,o',ho,hnf⟩:=hfun.mem hm
  rw [q] at ho; cases ho
  exact up b o (hxk b o q) hnf
 refine ⟨e,oe.cls,a0,H,_,rfl,I.os,I.bare,?_,?_,fl,?_,?_,?_,oo,hf3,hE⟩
 ·refine ⟨λ b o q n hb _=>?_,λ b o q n hb _=>?_,λ b o q n _=>u1.free b o q n (by simp),λ b o q _=>?_,λ b xs q=>u1.tups b xs q,λ b o u q=>u1.frzs b o u q,λ b ps q=>u1.tbls b ps q⟩
  ·exact fl.1 b o (inB b o (u1.keep b o q n hb (by simp)) (hfn q hb))
  ·obtain ⟨sl,e1⟩:=u1.slot b o q n hb (by simp)
   obtain ⟨sl2,e2⟩:=frm b _ e1 hb
   exact ⟨sl2,e2⟩
  ·obtain ⟨o1,e1⟩:=u1.there b o q (by simp)
   by_cases hb:b ∈ frs outer
   ·obtain ⟨sl,e2⟩:=frm b o1 e1 hb
    exact ⟨_,e2⟩
   ·exact ⟨o1,fl.1 b o1 (inB b o1 e1 (hfn q hb))⟩
 ·refine λ a o ha=>(I.hok a o ha).stay (λ b u hb q=>?_) (λ _ h=>h) (λ _ _ h=>h)
  have hne:H b ≠ none:=by
   rcases hb with rfl | hb
   ·rw [ha]; simp
   ·rw [hb]; simp
  obtain ⟨o',e1,e2⟩:=trk b hne
  exact fl.1 b u (inB b u q e2)
 ·cases q:H e with
  | none=>rfl
  | some ho =>
   obtain ⟨o,eo⟩:=sp0 (I.hok e ho q)
   rw [hxn] at eo; cases eo
 ·intro b o q hb ⟨o',q'⟩
  obtain ⟨o1,e1⟩:=u1.there b o' q' (by simp)
  have e2:=inB b o1 e1 (hfn q' hb)
  have e3:=fl.1 b o1 e2
  have q2:h'.get? b=some o:=q
  rw [e3] at q2; cases q2
  exact e2
 ·intro b hb
  obtain ⟨o,e1,e2⟩:=trk b hb
  exact ⟨o,fl.1 b o (inB b o e1 e2),inB b o e1 e2⟩
theorem ua3 {pins:List (Addr × Obj)} {σ:L2.St} {H:Hp} {s:Shared} {h1:Heap} {e:Addr} {cls:Value} {us:List Value} (I:L2.Inv (cxOf (CXn P w) P w K mg base N qual scope f cd A outer s0 H0 E) pins σ H s) (hx:Heap.MadeExcOf s.heap h1 e cls us) (hE:E cls none H) :
    (cxOf (CXn P w) P w K mg base N qual scope f cd A outer s0 H0 E).xe (.ref e) { s with heap:=h1 }:=by
 obtain ⟨t,h2,_,_⟩:=hx.there
 exact tn1 (oo:=none) I hx.keeps hx.new h2 rfl rfl rfl (λ _=>rfl) hE
noncomputable def vs2 (E:XK) (C:Addr) (ta:TA):TS:=λ _ σ H=>ta σ H λ vs H1=>vs.length<=sizeLine /\ E (.ref C) none H1
theorem yw1 {x:Str} {C:Addr} {Bn B newId inN nid initId:String} {bm bmN:List Value} {e₀:Expr} {rest:List Expr} {np cpos pos:Pos} {ta:TA}
    (O:OwnCls x C bm newId mg base) (Fn:ExcBaseFacts Bn newId inN bmN) (hBn:bm.contains (.type Bn)=true) (FB:ExcBaseFacts B nid initId bm)
    (hg:Gl (cxOf (CXn P w) P w K mg base N qual scope f cd A outer s0 H0 E) x) (ha:PA (cxOf (CXn P w) P w K mg base N qual scope f cd A outer s0 H0 E) (e₀ :: rest) ta)
    (he:starEach (e₀ :: rest) (envOfC qual scope s0.heap.objs.size f cd)=(false,eval e₀ (envOfC qual scope s0.heap.objs.size f cd)) :: starEach rest (envOfC qual scope s0.heap.objs.size f cd):=by rfl)
    (hplain:(backTo cpos (starEach rest (envOfC qual scope s0.heap.objs.size f cd))).any (·.1)=false:=by rfl) (hd:(x == ("__debug__" : Str))=false:=by decide) :
    PS (cxOf (CXn P w) P w K mg base N qual scope f cd A outer s0 H0 E) (.Raise (some (.Call (.Name x np) (e₀ :: rest) [] cpos)) none pos) (vs2 E C ta):=by
 intro pins s σ H D I h
 obtain ⟨tl,NN,nm,q,bs,hdct,sn,sub,ab,col,dd,k0,k1,k2,k3,k5,mN,hC,hN,hni,T⟩:=O.obj
 refine wpAny_Raise_call_subU (C:=C) (nm:=nm) (q:=q) (N:=NN) (bs:=bs) (bm:=tl) (hdct:=hdct) (sn:=sn) (sub:=sub) (ab:=ab) (col:=col) (dd:=dd) (k0:=k0) (k1:=k1) (k2:=k2) (k3:=k3) (k5:=k5)
  Fn hBn FB (mN:=mN) (T.hasType FB.hasBase) (I.ok.hd rfl) (by
   show (backTo cpos (starEach (e₀ :: rest) (envOfC qual scope s0.heap.objs.size f cd))).any (·.1)=false
   rw [he]; show (false || (backTo cpos (starEach rest (envOfC qual scope s0.heap.objs.size f cd))).any (·.1))=false; rw [hplain]; rfl) hni (vh0 I hg O.bound ⟨rfl,?_⟩ hd)
 have hA:=ha cpos pins s σ H _ I h
 have he':starEach (e₀ :: rest) (cxOf (CXn P w) P w K mg base N qual scope f cd A outer s0 H0 E).env=_:=he
 rw [he'] at hA ⊢
 refine Calls.evalArgs_plain (thn hA λ us s2 ⟨vs,H2,I2,r2,q2⟩=>⟨rfl,?_,I2.bk _ _ hC,hN.keeps I2.bk,T.keeps I2.bk,λ h' e hx=>ua3 I2 hx q2.2⟩)
 rw [<- r2.length]; exact q2.1
noncomputable def EXok (K:Fg) (mg:Str->Option Value) (XE:XE3) (E:XK):Prop:=∀ x C μ' H' o,XE x μ'->mg x=some (.ref C)->RelM K μ' H'->(x = "NoWord" -> o=none)->E (.ref C) o H'
noncomputable def xm2 (K:Fg) (mg:Str->Option Value) (spx:XE3->Sp3):Sp:=λ vs H Q E=>∃ ds μ Q3 XE,RelDs K H ds vs /\ RelM K μ H /\ spx XE ds μ Q3 /\ Ks K H Q3 Q /\ EXok K mg XE E
noncomputable def CalX (P:Program) (w:World) (K:Fg) (mg:Str->Option Value) (base:Heap) (k:Nat) (x:Str) (ps:List Str) (spx:XE3->Sp3):Prop :=
 ∃ f fd,FnOk P w K mg base (CXn P w) k f fd ps (xm2 K mg spx) /\ mg x=some (.ref f) /\ PySem.W.keepIn K (.ref f)=true /\ Binds K fd ps []
theorem CalX.mono {j k:Nat} {x:Str} {ps:List Str} {spx:XE3->Sp3} (c:CalX P w K mg base j x ps spx) (h:j<=k):CalX P w K mg base k x ps spx:=by
 obtain ⟨f,fd,F,r⟩:=c
 exact ⟨f,fd,F.mono h,r⟩
variable {XE:XE3}
theorem sd0 {x:Str} {C:Addr} {Bn B newId inN nid initId:String} {bm bmN:List Value} {e₀:Expr} {rest:List Expr} {np cpos pos:Pos} {ta:TA3} (EX:EXok K mg XE E)
    (O:OwnCls x C bm newId mg base) (Fn:ExcBaseFacts Bn newId inN bmN) (hBn:bm.contains (.type Bn)=true) (FB:ExcBaseFacts B nid initId bm)
    (ha:RA (cxOf (CXn P w) P w K mg base N qual scope f cd A outer s0 H0 E) (e₀ :: rest) ta) (hg:Gl (cxOf (CXn P w) P w K mg base N qual scope f cd A outer s0 H0 E) x:=by rfl)
    (he:starEach (e₀ :: rest) (envOfC qual scope s0.heap.objs.size f cd)=(false,eval e₀ (envOfC qual scope s0.heap.objs.size f cd)) :: starEach rest (envOfC qual scope s0.heap.objs.size f cd):=by rfl)
    (hplain:(backTo cpos (starEach rest (envOfC qual scope s0.heap.objs.size f cd))).any (·.1)=false:=by rfl) (hd:(x == ("__debug__" : Str))=false:=by decide) :
    RS (cxOf (CXn P w) P w K mg base N qual scope f cd A outer s0 H0 E) (.Raise (some (.Call (.Name x np) (e₀ :: rest) [] cpos)) none pos) (se0 XE x ta):=by
 obtain ⟨va,pa,ra⟩:=ha
 exact ⟨_,yw1 O Fn hBn FB hg pa he hplain hd,λ σ H D ρ μ D3 s m h k=>ra σ H _ ρ μ _ s m h λ ds μ1 vs H1 h1 k1 r1 m1=>⟨by rw [<- r1.length]; exact h1.1,EX x C μ1 H1 none h1.2 O.bound m1 (λ _=>rfl)⟩⟩
theorem zd0 {k:Nat} {ps:List Str} {spx:XE3->Sp3} {x:Str} {e:Expr} {es:List Expr} {p pos:Pos} {t:TA3} (EX:EXok K mg XE E) (c:CalX P w K mg base k x ps spx) (hr:Room k (A.deeper (envOfC qual scope s0.heap.objs.size f cd)))
    (ha:RA (cxOf (CXn P w) P w K mg base N qual scope f cd A outer s0 H0 E) (e :: es) t) (hg:Gl (cxOf (CXn P w) P w K mg base N qual scope f cd A outer s0 H0 E) x:=by rfl) (hdb:(x == ("__debug__" : Str))=false:=by decide)
    (he:starEach (e :: es) (envOfC qual scope s0.heap.objs.size f cd)=(false,eval e (envOfC qual scope s0.heap.objs.size f cd)) :: starEach es (envOfC qual scope s0.heap.objs.size f cd):=by rfl) (hpl:(backTo pos (starEach es (envOfC qual scope s0.heap.objs.size f cd))).any (·.1)=false:=by rfl) :
    RE (cxOf (CXn P w) P w K mg base N qual scope f cd A outer s0 H0 E) (.Call (.Name x p) (e :: es) [] pos) (call3 (spx XE) t):=by
 obtain ⟨g,fd,F,hm,hk,hb⟩:=c
 obtain ⟨va,pa,ra⟩:=ha
 refine ⟨_,yc1 (X:=cxOf (CXn P w) P w K mg base N qual scope f cd A outer s0 H0 E) F hr hg hm hk hb .nil tw1 pa hdb he hpl,λ σ H Q ρ μ Q3 s m h k=>ra σ H _ ρ μ _ s m h λ ds μ1 vs H1 h1 k1 r1 m1=>?_⟩
 rw [List.append_nil]
 exact ⟨ds,μ1,Q3,XE,r1,m1,h1,k.after k1,EX⟩
theorem zh0 {x:Str} {st:Stmt} {g:Addr} {fd:FuncData} {NN ps:List Str} {k:Nat} {spx:XE3->Sp3} {t:XE3->TS3} (F:Fun K x x st g fd) (hm:mg x=some (.ref g)) (hb:Binds K fd ps []) (S:FnScope NN ps (wa0 st))
    (len:∀ XE ds μ Q,spx XE ds μ Q->ds.length=ps.length)
    (body:∀ (cdv:Value) (A:Around) (outer:List Env) (s:Shared) (H:Hp) (E:XK) (XE:XE3),Room k (A.deeper (envOfC x (wa0 st) s.heap.objs.size g cdv))->EXok K mg XE E ->
     RSs (cxOf (CXn P w) P w K mg base NN x (wa0 st) g cdv A outer s H E) (ub0 st) (t XE))
    (rd:∀ XE ds μ Q,spx XE ds μ Q->t XE { nx:=λ _ μ'=>Q .non μ',rt:=Q } (start3 NN ds) μ):CalX P w K mg base (k + 1) x ps spx:=by
 refine ⟨g,fd,?_,hm,F.kp,hb⟩
 obtain ⟨oc,od,kV,doc,pm,an,cdv,ct,osl,rfl,lk,hcd⟩:=F.ex
 refine wh3 lk hcd S (λ vs H Q E h=>?_) λ A outer s H vs Q E hr h=>?_
 ·obtain ⟨ds,μ,Q3,XE,r,m,q,ks,ex⟩:=h
  rw [<- r.length]; exact len _ _ _ _ q
 ·obtain ⟨ds,μ,Q3,XE,r,m,q,ks,ex⟩:=h
  obtain ⟨tv,p,rt⟩:=body cdv A outer s H E XE hr ex
  exact ⟨tv,p,rt _ H _ _ μ _ (RSt.start NN r) m (rd XE ds μ Q3 q) ⟨λ ρ μ' σ H' h' k' s' m'=>ks _ _ _ _ h' k' .non m',λ ρ μ' σ H' h'=>False.elim h',λ ρ μ' σ H' h'=>False.elim h',ks⟩⟩
end
end Pv
namespace Pv
open PySem PySem.Spec PyProof.Rows L2 PySem.Calls
section
variable {prog:Program} {w:World} {A:Around} {E:Value->Shared->Prop} {s:Shared} {K:PySem.W.Frag} {x D:Addr} {ox:Obj}
structure ExcK (K:PySem.W.Frag) (D:Addr):Prop where
 ga:PySem.W.findIn K (.ref D) "__getattribute__" = some (some (.builtin "BaseException.__getattribute__"))
 no:PySem.W.findIn K (.ref D) "__getattr__" = some none
 be:PySem.W.mroIn K D (.type "BaseException")=some true
 cd:(PySem.W.clsIn K D).isSome=true
 ca:PySem.W.findIn K (.ref D) "__class__" = some (some (.builtin "object.__class__"))
 gt:PySem.W.specialIn K (.builtin "object.__class__") "__get__" = some (some (.builtin "getset_descriptor.__get__"))
 tk:PySem.W.takesIn K (.builtin "object.__class__")=some true
 ob:PySem.W.mroIn K D (.type "object")=some true
noncomputable def ExcAt (x D:Addr) (h:Heap):Prop:=∃ ob,h.get? x=some ob /\ ob.cls=.ref D
theorem ExcAt.type {M:Model} {h:Heap} (I:ExcAt x D h):PySem.W.Looks M h (typeOf (.ref x)) (.ref D):=by
 obtain ⟨ob,h1,h2⟩:=I
 exact h2 ▸ (PySem.W.Looks.ld h1).andThen .now
theorem wz1 {M:Model} {h:Heap} (Z:ExcK K D) (X:K.In h):PySem.W.Looks M h (Builtin.ObjectAttr.find (.ref x) (.ref D) "__class__") (.bind (.builtin "getset_descriptor.__get__") (.builtin "object.__class__")):=by
 have L1:=PySem.W.looks_findIn (M:=M) X Z.ca
 have L2:=PySem.W.looks_specialIn (M:=M) X Z.gt
 have L3:=PySem.W.looks_takesIn (M:=M) X Z.tk
 refine L1.andThen (PySem.W.Looks.andThen (show PySem.W.Looks M h (Builtin.ObjectAttr.getOf (some (.builtin "object.__class__"))) (some (.builtin "getset_descriptor.__get__")) from L2) ?_)
 exact (show PySem.W.Looks M h (Builtin.ObjectAttr.dataDescriptor? (some (.builtin "object.__class__")) (some (.builtin "getset_descriptor.__get__"))) (some (.builtin "getset_descriptor.__get__",.builtin "object.__class__")) from L3.andThen .now).andThen (PySem.W.Looks.tag .now)
theorem zn2 {R:Result->Shared->Prop} {tp:Value} (Z:ExcK K D) (X:K.In s.heap) (I:ExcAt x D s.heap)
    (h:R (.ok (.ret (.ref D))) s):codeAny (model prog w) A (.call (.builtin "getset_descriptor.__get__") ⟨[.builtin "object.__class__",.ref x,tp],[]⟩) R s:=by
 obtain ⟨ob,h1,h2⟩:=I
 obtain ⟨hh,g,dr,t,os⟩:=s
 have L0:=ExcAt.type (M:=model prog w) (x:=x) (D:=D) (h:=hh) ⟨ob,h1,h2⟩
 have L1:=PySem.W.looks_mroIn (M:=model prog w) X Z.ob
 refine codeAny_call_builtin PySem.W.KF.slot_gs.plain PySem.W.KF.entry_gs (PySem.W.KF.slot_gs.check _ _ _ _ _ _ _ _ PySem.W.KF.type_class (PySem.W.KF.args_gs _ _ _) ?_)
 unfold Builtin.«getset_descriptor.__get__» Builtin.Getset_descriptor.descrGet
 rw [PySem.W.dga_obj]
 refine wpAny_bind (wpAny_pure ?_)
 unfold Builtin.Getset_descriptor.descrGetter Builtin.Getset_descriptor.descrCheckInstance Builtin.Getset_descriptor.descrNameAndClass isInstance
 simp only [PySem.W.KF.owner_class]
 repeat lk
 refine ⟨Code.quiet_builtin _ (by decide +kernel),codeAny_builtin PySem.W.KF.entry_class ?_⟩
 unfold Builtin.«object.__class__» shownTypeOf
 repeat lk
 exact h
theorem wq1 {Q:Option Value->Shared->Prop} (Z:ExcK K D) (X:K.In s.heap) (I:ExcAt x D s.heap) (h:Q (some (.ref D)) { s with toks:=s.toks + 1 }):wpAny (model prog w) A (getAttr? (.ref x) "__class__") Q E s:=by
 obtain ⟨hh,g,d,t,os⟩:=s
 have L0:=I.type (M:=model prog w)
 have L1:=PySem.W.looks_findIn (M:=model prog w) X Z.ga
 have L2:=PySem.W.looks_findIn (M:=model prog w) X Z.no
 have L3:=wz1 (M:=model prog w) (x:=x) Z X
 have L4:=PySem.W.looks_mroIn (M:=model prog w) X Z.be
 unfold getAttr? getAttrBy? getAttrBy
 refine wpAny_bind (wpAny_mkText (wpAny_bind (wpAny_attempt (wpAny_holding (wpAny_bind (L0.at (wpAny_bind (L1.at ?_))))))))
 have hx2:(Value.builtin "BaseException.__getattribute__" == Value.builtin "object.__getattribute__")=false:=by decide +kernel
 simp only [hx2,Bool.and_false,Bool.false_eq_true,if_false]
 unfold getAttrByItsOwn hookBefore
 have hh1:onTheHeap (Value.ref D)=true:=rfl
 simp only [hh1,if_true]
 refine wpAny_bind (L2.at (wpAny_bind (wpAny_attempt (wpAny_holding ?_))))
 unfold callGetattribute boundAndCalled
 simp only [Bool.false_and,Bool.false_eq_true,if_false]
 have hb:bindSpecial (.builtin "BaseException.__getattribute__") (.ref x)=pure (.builtin "BaseException.__getattribute__",[.ref x]):=PySem.F.attr_ValueError.ga.bind _
 rw [hb]
 refine wpAny_bind (wpAny_pure ?_)
 refine wpAny_call (codeAny_call_builtin PySem.F.attr_ValueError.ga.plain F.entry_bexc_ga ?_)
 have hk:builtinKind "BaseException.__getattribute__" = some .slot:=by decide +kernel
 have hsplit:splitId "BaseException.__getattribute__" = some ("BaseException", "__getattribute__"):=by decide +kernel
 have ha:=F.args_bexc_ga (.ref x) (.str "__class__" t)
 simp only [checkBuiltinCall,hk,hsplit]
 refine wpAny_bind ?_
 ·unfold isInstance
  refine wpAny_bind (L0.at (L4.at ?_))
  simp only [Bool.not_true,Bool.false_eq_true,if_false]
  obtain ⟨ob,I1,I2⟩:=id I
  dsimp only at I1
  repeat (any_goals (first | assumption | (with_reducible refine wpAny_loadPart_at I1 ?_; rw [I2]) | with_reducible refine L3.at ?_ | wp_step))
  refine zn2 (s:=⟨hh,g,d,t + 1,os⟩) Z X I (wpAny_pure ?_)
  exact PySem.W.handed_on rfl (wpAny_pure h)
theorem tx1 (Z:ExcK K D):PySem.W.KitX K (.ref x) (.ref D) (ExcAt x D) where
 ty:=λ _ _ _ I=>I.type
 it:=λ _ _ X _=>by
  obtain ⟨cdD,hcD⟩:=Option.isSome_iff_exists.mp Z.cd
  unfold PySem.W.clsIn at hcD
  split at hcD
  ·rename_i c' d' cd' sl' ho
   intro A' Q' E' s' k q
   unfold isType loadHead
   exact wpAny_bind (wpAny_loadPart (k _ _ (X _ _ ho)) (wpAny_pure q))
  ·cases hcD
 ne:=λ h tp dd its n sl X htp=>by
  obtain ⟨cdD,hcD⟩:=Option.isSome_iff_exists.mp Z.cd
  refine Bool.eq_false_iff.mpr λ q=>?_
  have e:D=tp:=Value.ref.inj (beq_iff_eq.mp q)
  subst e
  unfold PySem.W.clsIn at hcD
  split at hcD
  ·rename_i c' d' cd' sl' ho
   have z:=(X _ _ ho).symm.trans htp
   cases z
  ·cases hcD
 ca:=λ X I k=>wq1 Z X I k
end
section
variable {X:Cx} {e:Expr} {te:TE3} {p p2 pos:Pos}
theorem xn2 {P:Program} {w:World} {H:Hp} {h:Heap} (hok:HOk P w H h) {a:Addr} {ob:Obj} {u:HO} (e:H a=some (.frz ob u)):h.get? a=some ob:=(show ObjOk P w H h a (.frz ob u) from hok a _ e).1
theorem wa2 {cV:V} {cv:Value} (rc:∀ u,RelV cV u->u=cv):CallR X (.builtin "isinstance") (λ xs H Q=>∃ a C ob u b,xs=[.ref a,cV] /\ H a=some (.frz ob u) /\ ob.cls=.ref C /\ ExcK X.K C /\ PySem.W.kitOne X.K (.ref C) cv=some b /\ Q (.bl b) H):=by
 intro pins s σ H xs us Q I r h
 obtain ⟨a,C,ob,u,b,rfl,ha,h1,Z,hk,q⟩:=h
 obtain ⟨u1,u2,rfl,r1,r2⟩:=uq2 r
 cases r1
 cases rc _ r2
 have hg:=xn2 I.hok ha
 have hi:ExcAt a C s.heap:=⟨ob,hg,h1⟩
 exact PySem.W.kia_one (tx1 Z) I.kIn hi hk (λ z=>nomatch z) λ tk=>⟨.bl b,H,I.tok tk,rfl,q⟩
theorem wt0 {y:Str} {C:Addr} (hg:Gl X y) (hm:X.mg y=some (.ref C)) (hd:(y == ("__debug__" : Str))=false:=by decide):PE X (.Name y p2) (λ _ H Q=>Q (.ref C) H):=λ pins s σ H Q I h=>vh0 I hg hm ⟨.ref C,H,I,rfl,h⟩ hd
theorem tp0 {y:Str} {cV:V} {cv:Value} {sub:Str->Option Bool} (he:RE X e te) (hc:PE X (.Name y p2) (λ _ H Q=>Q cV H)) (rc:∀ u,RelV cV u->u=cv)
    (hsub:∀ c C b,sub c=some b->PySem.W.nsIn X.K mainGlobals c=some (some (.ref C))->ExcK X.K C /\ PySem.W.kitOne X.K (.ref C) cv=some b)
    (hm:X.mg "isinstance" = none) (hg:Gl X "isinstance" := by rfl)
    (hs:starEach [e,.Name y p2] X.env=(false,eval e X.env) :: starEach [.Name y p2] X.env:=by rfl) (hs2:starEach [.Name y p2] X.env=(false,eval (.Name y p2) X.env) :: starEach [] X.env:=by rfl)
    (hpl:(backTo pos (starEach [.Name y p2] X.env)).any (·.1)=false:=by rfl) :
    RE X (.Call (.Name "isinstance" p) [e,.Name y p2] [] pos) (isx3 te sub):=by
 obtain ⟨va,pa,ra⟩:=he
 refine ⟨_,zf1 (wa2 rc) hg hm vf0 (zc1 pa (zc1 hc uc2 hs2) hs) (by decide) (by decide) hs hpl,λ σ H Q ρ μ Q3 s m h k=>ra σ H _ ρ μ _ s m h λ d μ1 v H1 h1 k1 r1 m1=>?_⟩
 cases r1 with
 | exc a1 a2 a3 =>
  dsimp only at h1
  split at h1
  ·next b eb =>
   obtain ⟨z1,z2⟩:=hsub _ _ b eb a3
   exact ⟨_,_,_,_,b,rfl,a1,a2,z1,z2,k _ _ _ _ h1 k1 (.bl _) m1⟩
  ·exact h1.elim
 | _=>exact False.elim h1
end
end Pv
namespace Pv
open PySem PySem.Spec PyProof.Rows L2 PySem.Calls
section
variable {X:Cx} {pins:List (Addr × Obj)} {σ:L2.St} {H H':Hp} {s s':Shared}
noncomputable abbrev mark (X:Cx) (e:Value):Cx:={ X with A:=X.A.mark (some e),calm:=false,xe:=λ _ _=>False }
theorem xm0 (I:Inv X pins σ H s) (e:Value):Inv (mark X e) pins σ H s :=
 ⟨⟨I.ok.mod,I.ok.kind,I.ok.glob,I.ok.blt,I.ok.above,I.ok.inj,I.ok.has,I.ok.cab,(λ z=>Bool.noConfusion z),I.ok.frames,I.ok.stk,I.ok.exf,I.ok.bs,I.ok.bsz,I.ok.noex,I.ok.exfs,I.ok.funs,I.ok.frf⟩,I.os,I.bare,I.base,I.loc,I.cell,I.free,I.freeC,I.pin,I.hok,I.len⟩
theorem yu0 {e:Value} (ok:X.Ok) (I:Inv (mark X e) pins σ H s):Inv X pins σ H s :=
 ⟨ok,I.os,I.bare,I.base,I.loc,I.cell,I.free,I.freeC,I.pin,I.hok,I.len⟩
theorem ym0 {B h5:Heap} {ea:Addr} {cls a0:Value} (u2:Un (frs X.stack) [] H H' s.heap s'.heap)
    (cov1:∀ b o,s'.heap.get? b=some o->b ∉ frs X.stack->(∃ o',s.heap.get? b=some o')->B.get? b=some o)
    (fl:Heap.FlyingW B X.stack ea cls a0 s'.heap) (st:∀ b o,B.get? b=some o->h5.get? b=some o) (up:s'.heap.UpToSlots h5):Un (frs X.stack) [] H H' s.heap h5:=by
 have frm:∀ b o,s'.heap.get? b=some o->b ∈ frs X.stack->∃ sl,h5.get? b=some { o with slots:=sl }:=λ b o q hb=>by
  obtain ⟨_,o',ho,hnf⟩:=fl.2.2.1.mem hb
  rw [q] at ho; cases ho
  exact up b o q hnf
 refine ⟨λ b o q n hb _=>?_,λ b o q n hb _=>?_,λ b o q n hx=>u2.free b o q n hx,λ b o q hx=>?_,u2.tups,u2.frzs,u2.tbls⟩
 ·exact st b o (cov1 b o (u2.keep b o q n hb (by simp)) hb ⟨o,q⟩)
 ·obtain ⟨sl,e1⟩:=u2.slot b o q n hb (by simp)
  obtain ⟨sl2,e2⟩:=frm b _ e1 hb
  exact ⟨sl2,e2⟩
 ·obtain ⟨o1,e1⟩:=u2.there b o q hx
  by_cases hb:b ∈ frs X.stack
  ·obtain ⟨sl,e2⟩:=frm b o1 e1 hb
   exact ⟨_,e2⟩
  ·exact ⟨o1,st b o1 (cov1 b o1 e1 hb ⟨o,q⟩)⟩
theorem vj0 {B h5:Heap} {P:Program} {w:World} (hok:HOk P w H' s'.heap) (cov2:∀ b,H' b ≠ none->∃ o,s'.heap.get? b=some o /\ B.get? b=some o) (st:∀ b o,B.get? b=some o->h5.get? b=some o):HOk P w H' h5:=by
 refine λ a o e=>(hok a o e).stay (λ b u hb q=>?_) (λ _ h=>h) (λ _ _ h=>h)
 have hne:H' b ≠ none:=by
  rcases hb with rfl | hb
  ·rw [e]; simp
  ·rw [hb]; simp
 obtain ⟨o',e1,e2⟩:=cov2 b hne
 rw [q] at e1; cases e1
 exact st b _ e2
theorem yc2 {fs:List Addr} {h h5:Heap} {ea:Addr} {o:HO} (u:Un fs [] H H' h h5) (he:H' ea=none) (hn:h.get? ea=none):Un fs [] H (upd H' ea o) h h5:=by
 have ne:∀ {b ob},h.get? b=some ob->b ≠ ea:=λ {b ob} q z=>by subst z; rw [hn] at q; cases q
 have ne2:∀ {b u},H' b=some u->b ≠ ea:=λ {b u} q z=>by subst z; rw [he] at q; cases q
 refine ⟨u.keep,u.slot,λ b ob q n hx=>?_,u.there,λ b xs q=>?_,λ b ob v q=>?_,λ b ps q=>?_⟩
 ·rw [vc0 (ne q)]; exact u.free b ob q n hx
 ·have:=u.tups b xs q; rw [vc0 (ne2 this)]; exact this
 ·have:=u.frzs b ob v q; rw [vc0 (ne2 this)]; exact this
 ·obtain ⟨m,e⟩:=u.tbls b ps q; exact ⟨m,by rw [vc0 (ne2 e)]; exact e⟩
theorem yl1 {P:Program} {w:World} {h5:Heap} {ea:Addr} {oe:Obj} (hok:HOk P w H' h5) (he:H' ea=none) (hg:h5.get? ea=some oe):HOk P w (upd H' ea (.frz oe (.own 0))) h5:=by
 have ne2:∀ {b u},H' b=some u->b ≠ ea:=λ {b u} q z=>by subst z; rw [he] at q; cases q
 intro a o e
 by_cases ha:a=ea
 ·subst ha
  rw [xf0] at e
  cases e
  exact ⟨hg,⟨_,hg⟩⟩
 ·rw [vc0 ha] at e
  exact (hok a o e).stay (λ b u hb q=>q) (λ b q=>by rw [vc0 (ne2 q)]; exact q) (λ b xs q=>by rw [vc0 (ne2 q)]; exact q)
theorem sq0 {M:Model} {A:Around} {E:Value->Shared->Prop} {K:PySem.W.Frag} {ea C Pc:Addr} {ob:Obj} {Q:Bool->Shared->Prop} (Z:K.In s.heap) (h1:s.heap.get? ea=some ob) (h2:ob.cls=.ref C)
    (k1:PySem.W.kitCls K (.ref C) (.ref Pc)=some true) (k2:PySem.W.kitCls K (.ref Pc) (.type "BaseException")=some true) (k3:PySem.W.kitCls K (.type "type") (.type "tuple")=some false) (hq:Q true s):wpAny M A (excMatches (.ref ea) (.ref Pc)) Q E s:=by
 obtain ⟨a1,a2,a3⟩:=PySem.W.kit_cls (M:=M) Z k1
 obtain ⟨b1,b2,b3⟩:=PySem.W.kit_cls (M:=M) Z k2
 obtain ⟨c1,c2,c3⟩:=PySem.W.kit_cls (M:=M) Z k3
 have L0:=ExcAt.type (M:=M) (x:=ea) (D:=C) (h:=s.heap) ⟨ob,h1,h2⟩
 obtain ⟨hh,g,d,t,os⟩:=s
 unfold excMatches isInstance
 refine wpAny_bind (wpAny_bind (a1.at (c3.at ?_)))
 dsimp only
 simp only [Bool.false_eq_true,if_false,pure_bind,List.forIn_cons,List.forIn_nil]
 unfold isExcClass
 repeat (any_goals (first | assumption | with_reducible refine L0.at ?_ | with_reducible refine a3.at ?_ | with_reducible refine b3.at ?_ | with_reducible refine a2.at ?_ | with_reducible refine a1.at ?_ | wp_step))
theorem ya2 {e:Value} {E':XK} {n x:Str} {i:Nat} {Pc:Addr} {b₀:Stmt} {suite:List Stmt} {np pos:Pos} {Q:Flow->Shared->Prop} {EE:Value->Shared->Prop}
    (I:Inv X pins σ H s) (hst:X.stack=X.env :: X.outer) (hfr:X.env.frame=some X.env.locals) (h:CXn X.prog X.w X.stack H s E' e s')
    (hN:X.N.Nodup) (hi:X.N[i]?=some n) (hloc:X.env.scope.names.lookup n=some .local) (hg:Gl X x) (hm:X.mg x=some (.ref Pc)) (hd:(x == ("__debug__" : Str))=false)
    (hcls:∀ cls o H',E' cls o H'->∃ C,cls=.ref C /\ PySem.W.kitCls X.K (.ref C) (.ref Pc)=some true) (k2:PySem.W.kitCls X.K (.ref Pc) (.type "BaseException")=some true) (k3:PySem.W.kitCls X.K (.type "type") (.type "tuple")=some false)
    (k:∀ ea C H' ob s6 o,Kp H H'->E' (.ref C) o H'->H' ea=none->ob.cls=.ref C->Inv (mark X (.ref ea)) pins (σ.set i (some (.ref ea))) (upd H' ea (.frz ob (.own 0))) s6 ->
     wpAny (model X.prog X.w) (X.A.mark (some (.ref ea))) (execs (b₀ :: suite) X.env) (λ f s₄=>wpAny (model X.prog X.w) X.A (do bindName X.env n .none; unbindBehindTheSuite X.env n pos) (λ _ s₅=>Q f s₅) EE s₄) (λ _ _=>False) s6) :
    wpAny (model X.prog X.w) X.A (noteFrame e X.env) (λ _ s₂=>wpAny (model X.prog X.w) X.A (setFlight e none) (λ _ s₃ =>
     wpAny (model X.prog X.w) X.A (handleBy e X.env [.ExceptHandler (some (.Name x np)) (some n) (b₀ :: suite) pos]) Q EE s₃) EE s₂) EE s':=by
 obtain ⟨ea,cls,a0,H',B,rfl,os,bare,u2,hok,fl,hea,cov1,cov2,oo,hf2,hE⟩:=h
 obtain ⟨C,rfl,k1⟩:=hcls _ _ _ hE
 have fl0:=fl
 rw [hst] at fl
 refine wpAny_looks_onW (by rw [<- hst]; exact I.ok.frames) hfr fl λ h4 held4 sm4=>?_
 refine wpAny_landsW held4 λ h5 fl5 sm5=>?_
 have I5:Inv X pins σ H' { s' with heap:=h5 }:=I.call' (s':={ s' with heap:=h5 }) (ch:=[]) os (ym0 u2 cov1 fl0 fl5.1 (sm4.trans sm5)) (vj0 hok cov2 fl5.1) bare (λ b z=>absurd z (by simp))
 obtain ⟨ob5,hob5,hc5⟩:=fl5.there
 refine wpAny_handleBy_cons (codeAny_handlers_test (vh0 (xm0 I5 (.ref ea)) hg hm ?_ hd)) (by intro q; cases q)
 refine sq0 I5.kIn hob5 hc5 k1 k2 k3 ?_
 refine codeAny_handlers_suite_as ?_
 refine lands_againW (s:={ s' with heap:=h5 }) fl5 λ h6 fl6 sm6=>?_
 obtain ⟨oe,ws,hoe,hoec,hoed,hoe0⟩:=fl6.first
 have hsn:s.heap.get? ea=none:=by
  cases q:s.heap.get? ea with
  | none=>rfl
  | some o =>
   exfalso
   obtain ⟨o1,e1⟩:=u2.there ea o q (by simp)
   by_cases hb:ea ∈ frs X.stack
   ·obtain ⟨_,o',ho,hnf⟩:=fl0.2.2.1.mem hb
    obtain ⟨oe0,vs0,he0,_,hd0,_⟩:=fl0.first
    rw [he0] at ho; cases ho
    exact hnf _ hd0
   ·have:=cov1 ea o1 e1 hb ⟨o,q⟩
    rw [fl0.2.1] at this; cases this
 have I7:Inv X pins σ (upd H' ea (.frz oe (.own 0))) { s' with heap:=h6 }:=I.call' (s':={ s' with heap:=h6 }) (ch:=[]) os (yc2 (ym0 u2 cov1 fl0 fl6.1 ((sm4.trans sm5).trans sm6)) hea hsn) (yl1 (vj0 hok cov2 fl6.1) hea hoe) bare (λ b z=>absurd z (by simp))
 refine wo0 I7 hN hi (.inl hloc) (v:=.ref ea) (u:=.ref ea) rfl (λ s8 I8=>?_) (.inr hloc)
 exact wpAny_mono (k ea C H' oe s8 oo ⟨u2.tups,u2.frzs⟩ hE hea hoec (xm0 I8 (.ref ea))) (λ f s4 z=>z) (λ _ _ z=>z.elim)
theorem tm2 {M:Model} {A:Around} {E:Value->Shared->Prop} {i:Nat} {n:Str} {pos:Pos} {Q:Unit->Shared->Prop} (I:Inv X pins σ H s) (hN:X.N.Nodup) (hi:X.N[i]?=some n) (hk:X.env.scope.names.lookup n=some .local)
    (h:∀ s',Inv X pins (σ.set i none) H s'->Q () s'):wpAny M A (do bindName X.env n .none; unbindBehindTheSuite X.env n pos) Q E s:=by
 obtain ⟨m,hn,hl⟩:=id I.loc
 have hcls:(X.env.scope.kind == .class || (X.env.scope.kind == .module && X.env.locals != X.env.globals))=false:=by rw [I.ok.kind]; rfl
 have hiσ:i < σ.length:=by rw [I.len]; exact (List.getElem?_eq_some_iff.mp hi).1
 have cne:=I.cne
 have tracked:∀ {a:Addr} {h':Heap},(∃ o,s.heap.get? a=some o /\ H a=none)->Heap.SameBut a s.heap h'->HOk X.prog X.w H h':=λ {a h'} ha hs b ob e=>by
  obtain ⟨_,_,hfree⟩:=ha
  refine (I.hok b ob e).stay (λ c w' hc q=>(hs.2 c ?_).trans q) (λ _ q=>q) λ _ _ q=>q
  rintro rfl
  rcases hc with rfl | hc
  ·rw [hfree] at e; cases e
  ·rw [hfree] at hc; cases hc
 refine wpAny_nameGoes_keeps hk hn hcls λ h' v hn' hs=>?_
 obtain ⟨oL,_,_,hoL,_⟩:=id hn
 refine h _ ⟨I.ok,I.os,I.bare,⟨λ b o e n hb hx=>?_,λ b o e n hb hx=>?_,I.base.free,λ b o e hx=>?_,I.base.tups,I.base.frzs,I.base.tbls⟩,⟨_,hn',λ j y v' e1 e2 e3=>?_⟩,λ y c e=>?_,I.free,I.freeC,λ p hp=>?_,tracked ⟨oL,hoL,I.free⟩ hs,by simpa using I.len⟩
 ·exact (hs.2 b (Nat.ne_of_lt (Nat.lt_of_lt_of_le (Heap.lt_size e) I.ok.above))).trans (I.base.keep b o e n hb hx)
 ·obtain ⟨sl,e1⟩:=I.base.slot b o e n hb hx
  exact ⟨sl,(hs.2 b (Nat.ne_of_lt (Nat.lt_of_lt_of_le (Heap.lt_size e) I.ok.above))).trans e1⟩
 ·obtain ⟨o',e1⟩:=I.base.there b o e hx
  exact ⟨o',(hs.2 b (Nat.ne_of_lt (Nat.lt_of_lt_of_le (Heap.lt_size e) I.ok.above))).trans e1⟩
 ·by_cases hj:j=i
  ·subst hj
   rw [List.getElem?_set_self hiσ] at e2
   cases e2
  ·rw [List.getElem?_set_ne (Ne.symm hj)] at e2
   obtain ⟨u',r',q⟩:=hl j y v' e1 e2 e3
   refine ⟨u',r',?_⟩
   rcases q with ⟨k,e⟩ | ⟨k,c,e,z⟩
   ·refine .inl ⟨k,?_⟩
    have:y ≠ n:=λ e=>hj (sv0 hN e1 (e ▸ hi))
    simp [this,e]
   ·exact .inr ⟨k,c,e,z.sameBut hs (cne y c e)⟩
 ·obtain ⟨w',z⟩:=I.cell y c e
  exact ⟨w',z.sameBut hs (cne y c e)⟩
 ·obtain ⟨e,n,ne,nf,d⟩:=I.pin p hp
  exact ⟨(hs.2 p.1 ne).trans e,n,ne,nf,d⟩
noncomputable def tTry (K:Fg) (Pc:Addr) (i:Nat) (sp:Sp) (st:V->L2.St->L2.St) (ta:TA) (ts:Addr->TS):TS:=λ D σ H=>ta σ H λ vs H1=>sp vs H1 (λ v H2=>D.nx (st v σ) H2)
 (λ cls _ H2=>∃ C,cls=.ref C /\ PySem.W.kitCls K (.ref C) (.ref Pc)=some true /\ (Kp H1 H2->∀ ea ob,H2 ea=none->ob.cls=.ref C ->
  ts ea { nx:=λ σ' H'=>D.nx (σ'.set i none) H',rt:=λ _ _=>False,bk:=λ _ _=>False,ct:=λ _ _=>False } (σ.set i (some (.ref ea))) (upd H2 ea (.frz ob (.own 0)))))
variable {k:Nat} {f:Addr} {fd:FuncData} {ps:List Str} {sp:Sp} {fx n x:Str} {i:Nat} {Pc:Addr} {e:Expr} {es:List Expr} {b₀:Stmt} {suite:List Stmt} {p cpos np hpos pos epos:Pos} {ta:TA} {ts:Addr->TS}
theorem us1 {st:V->L2.St->L2.St} {QV:Value->Shared->Prop} {D:Ends} (F:FnOk X.prog X.w X.K X.mg X.base (CXn X.prog X.w) k f fd ps sp) (hr:Room k X.A) (hgf:Gl X fx) (hmf:X.mg fx=some (.ref f)) (hkf:PySem.W.keepIn X.K (.ref f)=true) (hb:Binds X.K fd ps []) (ha:PA X (e :: es) ta)
    (hsu:∀ ea,PSs (mark X (.ref ea)) (b₀ :: suite) (ts ea))
    (hN:X.N.Nodup) (hi:X.N[i]?=some n) (hloc:X.env.scope.names.lookup n=some .local) (hg:Gl X x) (hm:X.mg x=some (.ref Pc)) (hd:(x == ("__debug__" : Str))=false)
    (k2:PySem.W.kitCls X.K (.ref Pc) (.type "BaseException")=some true) (k3:PySem.W.kitCls X.K (.type "type") (.type "tuple")=some false) (hst:X.stack=X.env :: X.outer) (hfr:X.env.frame=some X.env.locals)
    (hxe:∀ v s,X.xe v s->False)
    (hdb:(fx == ("__debug__" : Str))=false) (he:starEach (e :: es) X.env=(false,eval e X.env) :: starEach es X.env) (hpl:(backTo cpos (starEach es X.env)).any (·.1)=false)
    (I:Inv X pins σ H s) (h:tTry X.K Pc i sp st ta ts D σ H) (kv:∀ v u H2 s2,RelV v u->Inv X pins σ H2 s2->D.nx (st v σ) H2->QV u s2) :
    wpAny (model X.prog X.w) X.A (eval (.Call (.Name fx p) (e :: es) [] cpos) X.env) QV
     (λ ex s₁=>wpAny (model X.prog X.w) X.A (noteFrame ex X.env) (λ _ s₂=>wpAny (model X.prog X.w) X.A (setFlight ex none) (λ _ s₃=>wpAny (model X.prog X.w) X.A (handleBy ex X.env [.ExceptHandler (some (.Name x np)) (some n) (b₀ :: suite) hpos]) (SP X pins D) X.xe s₃) X.xe s₂) X.xe s₁) s:=by
 refine wpAny_Call_Name_kw (vh0 I hgf hmf ?_ hdb)
 refine PySem.W.callWith_K (h₀:=X.base) I.ok.mod.kin hkf (wpAny_mono (ha cpos pins s σ H _ I h) (λ us s1 ⟨vs,H1,I1,r,q⟩=>⟨I1.kIn,?_⟩) λ _ _ z=>(hxe _ _ z).elim) he hpl
 have hl:(us ++ []).length=ps.length:=by rw [List.append_nil,<- r.length]; exact F.len _ _ _ _ q
 have hbb:=hb s1 us I1.kIn hl
 rw [List.append_nil] at hbb
 refine wpAny_call (codeAny_mono (F.run X.A X.stack s1 H1 ⟨us,[]⟩ us vs _ _ hr I1.env0 hbb r q) λ rr s' hq=>?_)
 cases rr with
 | error ex =>
  dsimp only [CR] at hq
  refine ya2 I1 hst hfr hq hN hi hloc hg hm hd (λ cls _ H' hE=>?_) k2 k3 λ ea C H' ob s6 _ hkp hE hea hob I6=>?_
  ·obtain ⟨C,e1,e2,_⟩:=hE
   exact ⟨C,e1,e2⟩
  ·obtain ⟨C',e1,e2,e3⟩:=hE
   cases e1
   refine wpAny_mono (hsu ea pins s6 _ _ _ I6 (e3 hkp ea ob hea hob)) (λ fl s4 z=>?_) λ _ _ z=>z
   cases fl with
   | next =>
    obtain ⟨σ',H4,I4,q4⟩:=z
    exact tm2 (yu0 I1.ok I4) hN hi hloc λ s5 I5=>⟨_,H4,I5,q4⟩
   | brk=>obtain ⟨_,_,_,z⟩:=z; exact z.elim
   | cont=>obtain ⟨_,_,_,z⟩:=z; exact z.elim
   | ret _=>obtain ⟨_,_,_,_,_,z⟩:=z; exact z.elim
 | ok fl =>
  cases fl with
  | ret u =>
   obtain ⟨v,H2,I2,rv,q2⟩:=I1.after hq
   exact kv v u H2 _ rv I2 q2
  | next=>exact False.elim hq
  | brk=>exact False.elim hq
  | cont=>exact False.elim hq
theorem uj2 {j:Nat} {y:Str} {py:Pos} (F:FnOk X.prog X.w X.K X.mg X.base (CXn X.prog X.w) k f fd ps sp) (hr:Room k X.A) (hgf:Gl X fx) (hmf:X.mg fx=some (.ref f)) (hkf:PySem.W.keepIn X.K (.ref f)=true) (hb:Binds X.K fd ps []) (ha:PA X (e :: es) ta)
    (hsu:∀ ea,PSs (mark X (.ref ea)) (b₀ :: suite) (ts ea))
    (hN:X.N.Nodup) (hi:X.N[i]?=some n) (hloc:X.env.scope.names.lookup n=some .local) (hj:X.N[j]?=some y) (hlocy:X.env.scope.names.lookup y=some .local) (hg:Gl X x) (hm:X.mg x=some (.ref Pc)) (hd:(x == ("__debug__" : Str))=false)
    (k2:PySem.W.kitCls X.K (.ref Pc) (.type "BaseException")=some true) (k3:PySem.W.kitCls X.K (.type "type") (.type "tuple")=some false) (hst:X.stack=X.env :: X.outer) (hfr:X.env.frame=some X.env.locals)
    (hxe:∀ v s,X.xe v s->False)
    (hdb:(fx == ("__debug__" : Str))=false) (he:starEach (e :: es) X.env=(false,eval e X.env) :: starEach es X.env) (hpl:(backTo cpos (starEach es X.env)).any (·.1)=false)
    (hs:swapsWith (.Call (.Name fx p) (e :: es) [] cpos) (some (.Name y py)) epos.line X.env=pure false) :
    PS X (.Try [.Assign [.Name y py] (.Call (.Name fx p) (e :: es) [] cpos) epos] [.ExceptHandler (some (.Name x np)) (some n) (b₀ :: suite) hpos] [] [] pos) (tTry X.K Pc i sp (λ v σ=>σ.set j (some v)) ta ts):=by
 intro pins s σ H D I h
 refine wpAny_Try_except (wpAny_execs_cons (wpAny_Assign_Name ?_ hs))
 exact us1 F hr hgf hmf hkf hb ha hsu hN hi hloc hg hm hd k2 k3 hst hfr hxe hdb he hpl I h (λ v u H2 s2 rv I2 q=>wo0 I2 hN hj (.inl hlocy) rv (λ s3 I3=>wpAny_execs_nil (wpAny_execs_nil ⟨_,H2,I3,q⟩)) (.inr hlocy))
end
end Pv
namespace Pv
open PySem PySem.Spec PyProof.Rows L2 PySem.Calls
theorem RSt.unset {K:Fg} {H:Hp} {ρ:St3} {σ:L2.St} (i:Nat) (s:RSt K H ρ σ):RSt K H (ρ.set i none) (σ.set i none):=by
 refine ⟨by simp [s.len],λ j e h=>?_⟩
 rw [ww0] at h
 split at h
 ·cases h
 ·next c =>
  obtain ⟨v,h1,r⟩:=s.at' j e h
  by_cases hj:i=j
  ·exfalso
   apply c
   refine ⟨hj,?_⟩
   rw [s.len,hj]
   exact (List.getElem?_eq_some_iff.mp h1).1
  ·exact ⟨v,by rw [List.getElem?_set_ne hj]; exact h1,r⟩
theorem RelM.newF {K:Fg} {μ:Mu} {H:Hp} (m:RelM K μ H) {p:Addr} {o:HO} (h:H p=none):RelM K μ (upd H p o):=m.newT h
section
variable {X:Cx} {k:Nat} {ps:List Str} {spx:XE3->Sp3} {fx n x:Str} {i:Nat} {Pc:Addr} {e:Expr} {es:List Expr} {b₀:Stmt} {suite:List Stmt} {p cpos np hpos pos epos:Pos} {ta:TA3} {ts:TS3} {ok:Str->Bool}
theorem xy2 {f:Addr} {va:TA} {tv:Addr->TS} {st:V->L2.St->L2.St} {st3:D->St3->St3} (hstp:∀ {H:Hp} {ρ:St3} {σ:L2.St} {d:D} {v:V},RSt X.K H ρ σ->RelD X.K H d v->RSt X.K H (st3 d ρ) (st v σ))
    (ra:RdA X.K va ta) (rt:∀ ea,RdS X.K (tv ea) ts) (hok:∀ c,ok c=true->∃ C,PySem.W.nsIn X.K mainGlobals c=some (some (.ref C)) /\ X.mg c=some (.ref C) /\ PySem.W.kitCls X.K (.ref C) (.ref Pc)=some true) :
    RdS X.K (tTry X.K Pc i (xm2 X.K X.mg spx) st va tv) (try3 i spx st3 ok ta ts):=by
 intro σ H D ρ μ D3 s m h kd
 refine ra σ H _ ρ μ _ s m h λ ds μ1 vs H1 h1 k1 r1 m1=>?_
 refine ⟨ds,μ1,_,_,r1,m1,h1,λ d μ2 v H2 h2 k2 r2 m2=>?_,λ c C μ2 H2 _ hX hmc m2 _=>?_⟩
 ·exact kd.nx _ _ _ _ h2 (k1.trans k2) (hstp (s.mono (k1.trans k2)) r2) m2
 ·obtain ⟨o1,o2⟩:=hX
  obtain ⟨C',z1,z2,z3⟩:=hok c o1
  rw [hmc] at z2
  cases z2
  refine ⟨C,rfl,z3,λ kp ea ob hea hob=>?_⟩
  have kn:Kp H2 (upd H2 ea (.frz ob (.own 0))):=Kp.new hea
  refine rt ea _ _ _ _ _ _ ((((s.mono (k1.trans kp)).mono kn)).set i (.exc xf0 hob z1)) (m2.newF hea) o2 ⟨λ ρ' μ' σ' H' q k' s' m'=>?_,λ _ _ _ _ q=>False.elim q,λ _ _ _ _ q=>False.elim q,λ _ _ _ _ q=>False.elim q⟩
  exact kd.nx _ _ _ _ q (k1.trans (kp.trans (kn.trans k'))) (s'.unset i) m'
theorem sh2 {j:Nat} {y:Str} {py:Pos} (c:CalX X.prog X.w X.K X.mg X.base k fx ps spx) (hr:Room k X.A) (ha:RA X (e :: es) ta) (hsu:∀ ea,RSs (mark X (.ref ea)) (b₀ :: suite) ts) (hN:X.N.Nodup)
    (hm:X.mg x=some (.ref Pc)) (k2:PySem.W.kitCls X.K (.ref Pc) (.type "BaseException")=some true) (k3:PySem.W.kitCls X.K (.type "type") (.type "tuple")=some false)
    (hok:∀ c,ok c=true->∃ C,PySem.W.nsIn X.K mainGlobals c=some (some (.ref C)) /\ X.mg c=some (.ref C) /\ PySem.W.kitCls X.K (.ref C) (.ref Pc)=some true)
    (hi:X.N[i]?=some n:=by rfl) (hloc:X.env.scope.names.lookup n=some .local:=by rfl) (hj:X.N[j]?=some y:=by rfl) (hlocy:X.env.scope.names.lookup y=some .local:=by rfl) (hg:Gl X x:=by rfl) (hgf:Gl X fx:=by rfl) (hd:(x == ("__debug__" : Str))=false:=by decide)
    (hst:X.stack=X.env :: X.outer:=by rfl) (hfr:X.env.frame=some X.env.locals:=by rfl) (hxe:∀ v s,X.xe v s->False:=by intro _ _ h; exact h)
    (hdb:(fx == ("__debug__" : Str))=false:=by decide) (he:starEach (e :: es) X.env=(false,eval e X.env) :: starEach es X.env:=by rfl) (hpl:(backTo cpos (starEach es X.env)).any (·.1)=false:=by rfl)
    (hs:swapsWith (.Call (.Name fx p) (e :: es) [] cpos) (some (.Name y py)) epos.line X.env=pure false:=by rfl) :
    RS X (.Try [.Assign [.Name y py] (.Call (.Name fx p) (e :: es) [] cpos) epos] [.ExceptHandler (some (.Name x np)) (some n) (b₀ :: suite) hpos] [] [] pos) (try3 i spx (wh2 j) ok ta ts):=by
 obtain ⟨f,fd,F,hmf,hkf,hb⟩:=c
 obtain ⟨va,pa,ra⟩:=ha
 exact ⟨_,uj2 F hr hgf hmf hkf hb pa (ts:=λ ea=>(hsu ea).choose) (λ ea=>(hsu ea).choose_spec.1) hN hi hloc hj hlocy hg hm hd k2 k3 hst hfr hxe hdb he hpl hs,xy2 (f:=f) (λ s r=>s.set j r) ra (λ ea=>(hsu ea).choose_spec.2) hok⟩
end
end Pv
namespace Pv
open PySem PySem.Spec PyProof.Rows L2 PySem.Calls
structure RoomM (k:Nat) (A:Around):Prop where
 dp:A.depth + 3 * k + 5 < recursionLimit
 un:A.units + 16 * k + 200 < cLine
theorem RoomM.mono {j k:Nat} {A:Around} (r:RoomM k A) (h:j<=k):RoomM j A:=⟨by have:=r.dp; omega,by have:=r.un; omega⟩
theorem RoomM.deeper {k:Nat} {A:Around} (r:RoomM (k + 1) A) (env:Env):RoomM k (A.deeper env) :=
 ⟨by have:=r.dp; show A.depth + 1 + 3 * k + 5 < _; omega,by have:=r.un; show A.units + 3 + 16 * k + 200 < _; omega⟩
theorem RoomM.of {k:Nat} {A:Around} (r:Room k A) (e:Option Value):RoomM k (A.mark e):=⟨r.dp,r.un⟩
structure FnOkM (P:Program) (w:World) (K:PySem.W.Frag) (mg:Str->Option Value) (base:Heap) (CX:CXT) (k:Nat) (f:Addr) (fd:FuncData) (ps:List Str) (sp:Sp):Prop where
 len:∀ vs H Q E,sp vs H Q E->vs.length=ps.length
 run:∀ (A:Around) (outer:List Env) (s:Shared) (H:Hp) (args:Args) (us:List Value) (vs:List V) (Q:VK) (E:XK),RoomM k A->Env0 P w K mg base A outer s H->BindsTo s fd args (ps.zip us)->Vals vs us->sp vs H Q E ->
  codeAny (model P w) A (.call (.ref f) args) (CR CX outer P w H s Q E) s
noncomputable abbrev cxM (CX:CXT) (P:Program) (w:World) (K:PySem.W.Frag) (mg:Str->Option Value) (base:Heap) (N:List Str) (qual:Str) (scope:Scope) (f:Addr) (cd:Value) (A:Around) (outer:List Env) (s:Shared) (H:Hp) (E:XK):Cx :=
 { cxOf CX P w K mg base N qual scope f cd A outer s H E with calm:=false }
theorem zk1 {CX:CXT} {P:Program} {w:World} {K:PySem.W.Frag} {mg:Str->Option Value} {base:Heap} {N ps:List Str} {qual:Str} {scope:Scope} {f:Addr} {cd:Value} {A:Around} {outer:List Env} {s s1:Shared} {H:Hp} {E:XK} {us:List Value} {vs:List V}
    (S:FnScope N ps scope) (e0:Env0 P w K mg base A outer s H) (hl:vs.length=ps.length) (r:Vals vs us)
    (x:InCallC s s.heap.objs.size (bindL (envOfC qual scope s.heap.objs.size f cd).kindOf (ps.zip us) λ _=>none) (cellsFrom (s.heap.objs.size + 1) scope.names []) (bindC (envOfC qual scope s.heap.objs.size f cd).kindOf (ps.zip us) λ _=>none) s1) :
    Inv (cxM CX P w K mg base N qual scope f cd A outer s H E) [] (start N vs) H s1:=by
 have I:=zz0 (CX:=CX) (P:=P) (w:=w) (K:=K) (mg:=mg) (base:=base) (E:=E) (A:={ A with handled:=none }) (outer:=outer) S rfl ⟨e0.frames,e0.mod,e0.bs,e0.bsz,e0.funs,e0.frf,e0.hok,e0.bare⟩ hl r x
 exact ⟨⟨I.ok.mod,I.ok.kind,I.ok.glob,I.ok.blt,I.ok.above,I.ok.inj,I.ok.has,I.ok.cab,(λ z=>Bool.noConfusion z),Around.frames_deeper e0.frames,I.ok.stk,I.ok.exf,I.ok.bs,I.ok.bsz,I.ok.noex,I.ok.exfs,I.ok.funs,I.ok.frf⟩,I.os,I.bare,I.base,I.loc,I.cell,I.free,I.freeC,I.pin,I.hok,I.len⟩
theorem zh3 {CX:CXT} {P:Program} {w:World} {K:PySem.W.Frag} {mg:Str->Option Value} {base:Heap} {k:Nat} {f:Addr} {name qual:Str} {params:Arguments} {body:List Stmt} {scope:Scope} {dV kV doc pm cdv ct oc:Value} {an od:Option Addr}
    {osl:Array (Option Value)} {N ps:List Str} {sp:Sp} (lk:K.lookup f=some ⟨oc,od,.func (PySem.W.fnOf name qual params body scope dV kV doc pm an cdv ct),osl⟩) (hcd:PySem.W.codeIn K cdv qual=true) (S:FnScope N ps scope)
    (len:∀ vs H Q E,sp vs H Q E->vs.length=ps.length)
    (hbody:∀ (A:Around) (outer:List Env) (s:Shared) (H:Hp) (vs:List V) (Q:VK) (E:XK),RoomM k (A.deeper (envOfC qual scope s.heap.objs.size f cdv))->sp vs H Q E ->
     ∃ t,PSs (cxM CX P w K mg base N qual scope f cdv A outer s H E) body t /\ t { nx:=λ _ H'=>Q .non H',rt:=Q } (start N vs) H) :
    FnOkM P w K mg base CX (k + 1) f (PySem.W.fnOf name qual params body scope dV kV doc pm an cdv ct) ps sp:=by
 refine ⟨len,λ A outer s H args us vs Q E hr e0 hb r hsp=>?_⟩
 have hl:=len _ _ _ _ hsp
 have KX:K.In s.heap:=e0.mod.kin.keeps λ b o e=>(e0.bs b o e).1
 have lim:s.heap.NoLimit:=e0.mod.nolimit.keeps λ b o e=>(e0.bs b o e).1
 have hkind:∀ y ∈ ps.zip us,scope.names.lookup y.1=some .local \/ (scope.names.lookup y.1=some .cell /\ ((cellsFrom (s.heap.objs.size + 1) scope.names []).lookup y.1).isSome=true):=λ ⟨n,v⟩ hy=>by
  rcases S.par n (List.of_mem_zip hy).1 with q | q
  ·exact .inl q
  ·exact .inr ⟨q,PySem.W.cellsFrom_some _ _ _ (.inl q)⟩
 have hdep:A.depth < recursionLimit:=by have:=hr.dp; omega
 refine codeAny_call_function hdep (KX _ _ lk) rfl S.co S.gen rfl (PySem.W.codeRec_of KX hcd) (hb _ _ _ _ ?_)
 refine wpAny_newFunctionEnv_cells S.kind hkind λ env he s1 x=>?_
 subst he
 refine ⟨lim.keeps x.toInCall.keep,codeAny_func ?_⟩
 obtain ⟨t,ht,hq⟩:=hbody A outer s H vs Q E (hr.deeper _) hsp
 have I:Inv (cxM CX P w K mg base N qual scope f cdv A outer s H E) [] (start N vs) H s1:=zk1 S e0 hl r x
 refine wpAny_mono (ht [] s1 (start N vs) H _ I hq) (λ fl s' hs=>?_) λ e s' hs=>hs
 have fin:∀ {σ':L2.St} {H':Hp} {v:V} {u:Value},Inv (cxM CX P w K mg base N qual scope f cdv A outer s H E) [] σ' H' s'->RelV v u->Q v H'->CE outer P w H s Q u s' :=
  λ {σ' H' v u} J rv q=>⟨v,H',J.os,J.bare,J.base,J.hok,rv,q⟩
 cases fl with
 | ret u =>
  obtain ⟨v,σ',H',J,rv,q⟩:=hs
  exact fin J rv q
 | next =>
  obtain ⟨σ',H',J,q⟩:=hs
  exact fin (v:=V.non) (u:=Value.none) J rfl q
 | brk =>
  obtain ⟨_,_,_,q⟩:=hs
  exact False.elim q
 | cont =>
  obtain ⟨_,_,_,q⟩:=hs
  exact False.elim q
noncomputable def CalM (P:Program) (w:World) (K:Fg) (mg:Str->Option Value) (base:Heap) (k:Nat) (x:Str) (ps:List Str) (sp:Sp3):Prop :=
 ∃ f fd,FnOkM P w K mg base CX0 k f fd ps (lift K sp) /\ mg x=some (.ref f) /\ PySem.W.keepIn K (.ref f)=true /\ Binds K fd ps []
theorem CalM.mono {P:Program} {w:World} {K:Fg} {mg:Str->Option Value} {base:Heap} {j k:Nat} {x:Str} {ps:List Str} {sp:Sp3} (c:CalM P w K mg base j x ps sp) (h:j<=k):CalM P w K mg base k x ps sp:=by
 obtain ⟨f,fd,F,r⟩:=c
 exact ⟨f,fd,⟨F.len,λ A outer s H args us vs Q E hr=>F.run A outer s H args us vs Q E (hr.mono h)⟩,r⟩
section
variable {X:Cx} {x:Str} {e:Expr} {es:List Expr} {p pos:Pos} {t:TA3}
theorem yv1 {k:Nat} {ps:List Str} {sp:Sp3} (c:CalM X.prog X.w X.K X.mg X.base k x ps sp) (hr:RoomM k X.A) (ha:RA X (e :: es) t) (hg:Gl X x:=by rfl) (hdb:(x == ("__debug__" : Str))=false:=by decide)
    (he:starEach (e :: es) X.env=(false,eval e X.env) :: starEach es X.env:=by rfl) (hpl:(backTo pos (starEach es X.env)).any (·.1)=false:=by rfl):RE X (.Call (.Name x p) (e :: es) [] pos) (call3 sp t):=by
 obtain ⟨f,fd,F,hm,hk,hb⟩:=c
 obtain ⟨va,pa,ra⟩:=ha
 refine ⟨us2 (lift X.K sp) [] E0 va,λ pins s σ H Q I h=>?_,λ σ H Q ρ μ Q3 s m h k=>ra σ H _ ρ μ _ s m h λ ds μ1 vs H1 h1 k1 r1 m1=>?_⟩
 ·refine wpAny_Call_Name_kw (vh0 I hg hm ?_ hdb)
  refine PySem.W.callWith_K (h₀:=X.base) I.ok.mod.kin hk (thn (pa pos pins s σ H _ I h) λ us s1 ⟨vs,H1,I1,r,q⟩=>⟨I1.kIn,?_⟩) he hpl
  dsimp only at q
  rw [List.append_nil] at q
  have hl:(us ++ []).length=ps.length:=by rw [List.append_nil,<- r.length]; exact F.len _ _ _ _ q
  have hbb:=hb s1 us I1.kIn hl
  rw [List.append_nil] at hbb
  refine wpAny_call (codeAny_mono (F.run X.A X.stack s1 H1 ⟨us,[]⟩ us vs Q E0 hr I1.env0 hbb r q) λ rr s' hq=>?_)
  cases rr with
  | error ex=>exact False.elim hq
  | ok fl =>
   cases fl with
   | ret u=>exact I1.after hq
   | next=>exact False.elim hq
   | brk=>exact False.elim hq
   | cont=>exact False.elim hq
 ·rw [List.append_nil]
  exact ⟨ds,μ1,Q3,r1,m1,h1,k.after k1⟩
end
section
variable {P:Program} {w:World} {K:Fg} {mg:Str->Option Value} {base:Heap}
theorem to2 {x:Str} {st:Stmt} {f:Addr} {fd:FuncData} {N ps:List Str} {k:Nat} {sp:Sp3} {t:TS3} (F:Fun K x x st f fd) (hm:mg x=some (.ref f)) (hb:Binds K fd ps []) (S:FnScope N ps (wa0 st))
    (len:∀ ds μ Q,sp ds μ Q->ds.length=ps.length)
    (body:∀ (cdv:Value) (A:Around) (outer:List Env) (s:Shared) (H:Hp) (E:XK),RoomM k (A.deeper (envOfC x (wa0 st) s.heap.objs.size f cdv))->RSs (cxM CX0 P w K mg base N x (wa0 st) f cdv A outer s H E).nox (ub0 st) t)
    (rd:∀ ds μ Q,sp ds μ Q->t { nx:=λ _ μ'=>Q .non μ',rt:=Q } (start3 N ds) μ):CalM P w K mg base (k + 1) x ps sp:=by
 refine ⟨f,fd,?_,hm,F.kp,hb⟩
 obtain ⟨oc,od,kV,doc,pm,an,cdv,ct,osl,rfl,lk,hcd⟩:=F.ex
 refine zh3 lk hcd S (λ vs H Q E h=>?_) λ A outer s H vs Q E hr h=>?_
 ·obtain ⟨ds,μ,Q3,r,m,q,ks⟩:=h
  rw [<- r.length]; exact len _ _ _ q
 ·obtain ⟨ds,μ,Q3,r,m,q,ks⟩:=h
  obtain ⟨tv,p,rt⟩:=body cdv A outer s H E hr
  exact ⟨tv,p.nox,rt _ H _ _ μ _ (RSt.start N r) m (rd ds μ Q3 q) ⟨λ ρ μ' σ H' h' k' s' m'=>ks _ _ _ _ h' k' .non m',λ ρ μ' σ H' h'=>False.elim h',λ ρ μ' σ H' h'=>False.elim h',ks⟩⟩
end
end Pv
namespace Pv
open PySem PySem.Spec PyProof.Rows L2 PySem.Calls
theorem tc2 {K:Fg} {h:Heap} {mg:Str->Option Value} {x:Str} {C:Addr} {bs:List Value} {ni:String} (Z:K.In h) (G:h.Ns mainGlobals mg) (e:PySem.W.nsIn K mainGlobals x=some (some (.ref C))) (w:PySem.W.excIn K C bs ni=true):OwnCls x C bs ni mg h:=by
 refine ⟨PySem.W.mg_of Z G e,?_⟩
 unfold PySem.W.excIn at w
 split at w
 case h_2=>cases w
 case h_1 d1 c1 s1 ho =>
  split at w
  case h_2=>cases w
  case h_1 C2 b1 z0 z1 z2 z3 id z5 hm hs =>
   simp only [Bool.and_eq_true,beq_iff_eq,Bool.not_eq_true'] at w
   obtain ⟨⟨⟨⟨⟨w1,w2⟩,w3⟩,w4⟩,w5⟩,w6⟩:=w
   subst w1 w2
   cases c1
   dsimp only at hm w3 w5 w6
   subst hm w3
   have es:s1 = #[z0,z1,z2,z3,some (.builtin id),z5]:=by cases s1; simp only at hs; rw [hs]
   rw [es] at ho
   exact ⟨b1,_,_,_,_,_,_,_,_,_,d1,z0,z1,z2,z3,z5,_,Z _ _ ho,.of_isNs (PySem.W.isNs_of_in Z w5),PySem.W.nsMap_none_of_in Z w5 w6,PySem.W.tail_of_in Z w4⟩
theorem xa1 {P:Program} {w:World} {K:Fg} {mg:Str->Option Value} {base:Heap} {x:Str} {st:Stmt} {f:Addr} {fd:FuncData} {ps:List Str} {spx:XE3->Sp3} (F:Fun K x x st f fd) (hm:mg x=some (.ref f)) (hb:Binds K fd ps []) (no:∀ XE ds μ Q,¬ spx XE ds μ Q):CalX P w K mg base 0 x ps spx:=by
 have no':∀ vs H Q E,¬ xm2 K mg spx vs H Q E:=λ vs H Q E ⟨ds,μ,Q3,XE,_,_,q,_⟩=>no _ _ _ _ q
 exact ⟨f,fd,⟨λ vs H Q E h=>absurd h (no' vs H Q E),λ A outer s H args us vs Q E _ _ _ _ h=>absurd h (no' vs H Q E)⟩,hm,F.kp,hb⟩
theorem vn1 {X:Cx} {k:Nat} {ps:List Str} {spx:XE3->Sp3} {x:Str} {e:Expr} {es:List Expr} {p pos:Pos} {t:TA3} (c:CalX X.prog X.w X.K X.mg X.base k x ps spx) (hr:Room k X.A)
    (ha:RA X (e :: es) t) (hg:Gl X x:=by rfl) (hdb:(x == ("__debug__" : Str))=false:=by decide)
    (he:starEach (e :: es) X.env=(false,eval e X.env) :: starEach es X.env:=by rfl) (hpl:(backTo pos (starEach es X.env)).any (·.1)=false:=by rfl) :
    RE X (.Call (.Name x p) (e :: es) [] pos) (call3 (spx NX) t):=by
 obtain ⟨g,fd,F,hm,hk,hb⟩:=c
 obtain ⟨va,pa,ra⟩:=ha
 have ps:ua1 (CXn X.prog X.w) X (λ _ _ _=>False):=λ pins σ H s e s' I h=>by
  obtain ⟨_,_,_,_,_,_,_,_,_,_,_,_,_,_,_,_,hE⟩:=h
  exact hE.elim
 refine ⟨_,yc1 F hr hg hm hk hb .nil ps pa hdb he hpl,λ σ H Q ρ μ Q3 s m h k=>ra σ H _ ρ μ _ s m h λ ds μ1 vs H1 h1 k1 r1 m1=>?_⟩
 rw [List.append_nil]
 exact ⟨ds,μ1,Q3,NX,r1,m1,h1,k.after k1,λ _ _ _ _ _ h=>False.elim h⟩
section
variable {K:Fg} {C:Addr} {cd:ClassData} {t c:Value} {b:Bool} {T:String}
theorem xe0 (cl:PySem.W.clsIn K C=some cd) (tc:PySem.W.typeIn K (.ref C)=some (.type "type")) (sb:PySem.W.subIn K t (.ref C)=some b):PySem.W.kitCls K t (.ref C)=some b:=by
 unfold PySem.W.kitCls
 dsimp only
 rw [cl,tc,if_pos (by simp),sb]
theorem zq0 (hm:PySem.W.kitMeta T=true) (sb:PySem.W.subIn K t (.type T)=some b):PySem.W.kitCls K t (.type T)=some b:=by
 unfold PySem.W.kitCls
 dsimp only
 rw [if_pos hm,sb]
theorem vg0 (ne:(t == c)=false) (h:PySem.W.kitCls K t c=some b):PySem.W.kitOne K t c=some b:=by
 unfold PySem.W.kitOne
 rw [if_neg (by rw [ne]; decide),h]
theorem yz0:PySem.W.kitOne K t t=some true:=by
 unfold PySem.W.kitOne
 rw [if_pos (by simp)]
end
theorem ux0:bootBuiltins "ValueError" = some (.type "ValueError"):=by decide +kernel
end Pv
namespace Pv
open PySem PySem.Spec PyProof.Rows L2
section
variable {X:Cx}
end
end Pv
namespace Pv
open PySem PySem.Spec PyProof.Rows L2
structure Mdc (w:World) (K:Fg) (mg:Str->Option Value) (name:Str) (a:Addr):Prop where
 mg:mg name=some (.ref a)
 sm:(a == sysModules)=false
 lk:∃ es n,K.lookup a=some ⟨.type "dict",none,.dict es n,#[]⟩ /\ PySem.W.KeysLit w.params es.toList
section
variable {X:Cx} {i:Expr} {ti:TE3} {ty:TE} {a:Addr} {x:Str} {p pos pos':Pos}
end
end Pv
namespace PySem
section
variable {prog:Program} {w:World} {A:Around} {E:Value->Shared->Prop} {s:Shared}
end
end PySem
namespace Pv
open PySem PySem.Spec PyProof.Rows L2
section
variable {X:Cx} {pos:Pos}
end
end Pv
namespace Pv
open PySem PySem.Spec PyProof.Rows L2 PySem.Calls
structure ObjC (K:Fg) (c:Str) (C:Addr):Prop where
 ns:PySem.W.nsIn K mainGlobals c=some (some (.ref C))
 cl:Cls K C
section
variable {X:Cx} {e o value:Expr} {te to tv:TE3} {c f m:Str} {C:Addr} {pos pos' p apos:Pos} {es:List Expr} {t:TA3} {x:Str}
end
section
variable {P:Program} {w:World} {K:Fg} {mg:Str->Option Value} {base:Heap}
end
end Pv
namespace Pv
open PySem PySem.Spec PyProof.Rows L2 PySem.Calls
section
variable {P:Program} {w:World} {K:Fg} {mg:Str->Option Value} {base:Heap} {N:List Str} {qual:Str} {scope:Scope} {f:Addr} {cd:Value} {A:Around} {outer:List Env} {s0:Shared} {H0:Hp} {E:XK} {XE:XE3}
end
section
variable {X:Cx} {pins:List (Addr × Obj)} {σ:L2.St} {H H':Hp} {s s':Shared}
variable {k:Nat} {f:Addr} {fd:FuncData} {ps:List Str} {sp:Sp} {fx x:Str} {Pc:Addr} {e:Expr} {es:List Expr} {b₀:Stmt} {suite:List Stmt} {p cpos np hpos pos epos:Pos} {ta:TA} {ts:Addr->TS}
end
section
variable {X:Cx} {k:Nat} {ps:List Str} {spx:XE3->Sp3} {fx x:Str} {Pc:Addr} {e:Expr} {es:List Expr} {b₀:Stmt} {suite:List Stmt} {p cpos np hpos pos epos:Pos} {ta:TA3} {ts:TS3} {ok:Str->Bool}
end
end Pv
namespace Pv
open PySem PySem.Spec PyProof.Rows L2 PySem.Calls
noncomputable def za2 (X:Cx):Cx:={ X with xe:=λ _ _=>False }
section
variable {X:Cx} {pins:List (Addr × Obj)} {σ:L2.St} {H:Hp} {s:Shared}
theorem xh3 (I:Inv X pins σ H s):Inv (za2 X) pins σ H s :=
 ⟨⟨I.ok.mod,I.ok.kind,I.ok.glob,I.ok.blt,I.ok.above,I.ok.inj,I.ok.has,I.ok.cab,I.ok.hd,I.ok.frames,I.ok.stk,I.ok.exf,I.ok.bs,I.ok.bsz,I.ok.noex,I.ok.exfs,I.ok.funs,I.ok.frf⟩,I.os,I.bare,I.base,I.loc,I.cell,I.free,I.freeC,I.pin,I.hok,I.len⟩
theorem sg3 (I:Inv (za2 X) pins σ H s):Inv X pins σ H s :=
 ⟨⟨I.ok.mod,I.ok.kind,I.ok.glob,I.ok.blt,I.ok.above,I.ok.inj,I.ok.has,I.ok.cab,I.ok.hd,I.ok.frames,I.ok.stk,I.ok.exf,I.ok.bs,I.ok.bsz,I.ok.noex,I.ok.exfs,I.ok.funs,I.ok.frf⟩,I.os,I.bare,I.base,I.loc,I.cell,I.free,I.freeC,I.pin,I.hok,I.len⟩
end
section
variable {X:Cx} {i:Expr} {ty:TE} {a:Addr} {x:Str} {p pos pos':Pos} {CX:CXT} {EE:XK}
end
section
variable {P:Program} {w:World} {K:Fg} {mg:Str->Option Value} {base:Heap} {N:List Str} {qual:Str} {scope:Scope} {f:Addr} {cd:Value} {A:Around} {outer:List Env} {s0:Shared} {H0:Hp} {E:XK} {XE:XE3}
end
end Pv
namespace Pv
open PySem PySem.Spec PyProof.Rows L2 PySem.Calls
section
variable {X:Cx} {pins:List (Addr × Obj)} {σ:L2.St} {H H':Hp} {s s':Shared}
variable {k:Nat} {f:Addr} {fd:FuncData} {ps:List Str} {sp:Sp} {fx x1 x2:Str} {P1 P2:Addr} {e:Expr} {es:List Expr} {b₀:Stmt} {suite:List Stmt} {kk:Nat} {p cpos p1 p2 tpos hpos pos epos:Pos} {ta:TA}
end
section
variable {X:Cx} {k:Nat} {ps:List Str} {spx:XE3->Sp3} {fx x1 x2:Str} {P1 P2:Addr} {e:Expr} {es:List Expr} {b₀:Stmt} {suite:List Stmt} {kk:Nat} {p cpos p1 p2 tpos hpos pos epos:Pos} {ta:TA3} {ts:TS3} {ok:Str->Bool}
end
end Pv
namespace Pv
open PySem PySem.Spec PyProof.Rows L2 PySem.Calls
theorem vk1:entryFor table "proto.unchain" = some Builtin.«proto.unchain» := entryFor_of_tree (by kernel_rfl)
section
variable {prog:Program} {w:World} {A:Around} {E:Value->Shared->Prop} {s:Shared} {env:Env}
theorem ub1 {α:Type} {h e:Addr} {oe:Obj} {vs:Array Value} {Q:α->Shared->Prop} (hh:A.handled=some (.ref h)) (hne:h ≠ e) (f2:F2 s.heap h) (he:s.heap.get? e=some oe) (hd:oe.data=.fields vs) (hs:2 < vs.size)
    (k:E (.ref e) { s with heap:=s.heap.update e (Obj.mapFields (·.setIfInBounds 2 (.ref h))) }):wpAny (model prog w) A (raiseNew (.ref e):Sem α) Q E s:=by
 obtain ⟨oh,ws,h1,h2,h3⟩:=f2
 unfold raiseNew
 refine wpAny_bind (wpAny_handled ?_)
 rw [hh]
 dsimp only
 rw [if_pos (by simp [hne])]
 refine wpAny_bind (wpAny_holding (wpAny_runValue (codeAny_builtin vk1 ?_)))
 unfold Builtin.«proto.unchain»
 refine wpAny_bind (wpAny_field h1 h2 h3 ?_)
 rw [if_pos (by rfl)]
 refine wpAny_bind (wpAny_pure (wpAny_pure ?_))
 show wpAny _ _ (setField (.ref e) 2 (.ref h) >>= _) _ _ _
 refine wpAny_bind (wpAny_setField he hd hs (wpAny_throw k))
variable {nm q:Str} {C N:Addr} {bs bm bmB:List Value} {hdct:Bool} {sn:List Str} {sub:List Value} {ab:Bool} {col:Option Bool} {dd:Option Addr} {k0 k1 k2 k3 k5:Option Value} {B Bn newId nid initId inN:String} {bmN:List Value}
theorem sy0 {x c:Sem Value} {h:Addr} {Q:Flow->Shared->Prop} (hbase:bm.contains (.type "BaseException")=true) (hh:A.handled=some (.ref h))
    (hx:wpAny (model prog w) A x (λ v s₁=>∃ e t,v=.ref e /\ s₁.heap.get? C=some (excClassObj nm q C N bs bm hdct sn sub ab col dd k0 k1 k2 k3 k5 newId) ∧
     s₁.heap.get? e=some { cls:=.ref C,data:=.fields #[.ref t,.none,.none,.none,.bool false,.none] } /\ h ≠ e /\ F2 s₁.heap h /\ wpAny (model prog w) A c (λ cv s₂=>cv=.none /\ s₂=s₁) E s₁ ∧
     ∀ h',h'.get? e=some { cls:=.ref C,data:=.fields #[.ref t,.none,.ref h,.none,.bool true,.none] }->(∀ b,b ≠ e->h'.get? b=s₁.heap.get? b)->E (.ref e) { s₁ with heap:=h' }) E s) :
    wpAny (model prog w) A (raiseStmt env (some x) (some c)) Q E s:=by
 have hcB:(Value.ref C :: bm).contains (.type "BaseException")=true:=by rw [List.contains_cons,hbase,Bool.or_true]
 unfold raiseStmt
 refine wpAny_bind (wpAny_mono hx (λ v s₁ h₁=>?_) λ _ _ x=>x)
 obtain ⟨e,t,rfl,hC,he,hne,f2,hc,hE⟩:=h₁
 refine wpAny_bind (wpAny_holding (wpAny_mono hc (λ cv s₂ h₂=>?_) λ _ _ x=>x))
 obtain ⟨rfl,rfl⟩:=h₂
 obtain ⟨hp,g,d,tk,os⟩:=s₂
 refine wpAny_bind (wpAny_pure ?_)
 refine wpAny_bind (wpAny_holding ?_)
 unfold excFromValue
 repeat (first | with_reducible refine wpAny_loadPart_at he ?_ | with_reducible refine wpAny_loadPart_at hC ?_ | (with_reducible refine wpAny_isSubtype_exc hC ?_; rw [hcB]) | wp_step)
 have hCe:e ≠ C:=λ z=>by
  subst z
  have:=he.symm.trans hC
  cases this
 have up:∀ (m:Array Value->Array Value) (h':Heap) (b:Addr),b ≠ e->(h'.update e (Obj.mapFields m)).get? b=h'.get? b:=λ m h' b hb=>Heap.get?_update_other _ _ (Ne.symm hb)
 have hC2:=(up (·.setIfInBounds 4 (.bool true)) _ C (Ne.symm hCe)).trans ((up (·.setIfInBounds 3 .none) _ C (Ne.symm hCe)).trans hC)
 have e1:=Heap.get?_update_self (Obj.mapFields (·.setIfInBounds 3 Value.none)) he rfl
 have e2:=Heap.get?_update_self (Obj.mapFields (·.setIfInBounds 4 (.bool true))) e1 rfl
 have e3:=Heap.get?_update_self (Obj.mapFields (·.setIfInBounds 2 (.ref h))) e2 rfl
 repeat (first | with_reducible refine wpAny_loadPart_at hC2 ?_ | wp_step)
 refine (ub1 hh hne ?_ e2 rfl (show 2 < 6 by decide) (hE _ e3 λ b hb=>?_))
 ·obtain ⟨oh,ws,h1,h2,h3⟩:=f2
  exact ⟨oh,ws,(up _ _ h hne).trans ((up _ _ h hne).trans h1),h2,h3⟩
 ·exact (up _ _ b hb).trans ((up _ _ b hb).trans (up _ _ b hb))
theorem sa2 (Fn:ExcBaseFacts Bn newId inN bmN) (hBn:bmB.contains (.type Bn)=true) (F:ExcBaseFacts B nid initId bmB) {mN:Str->Option Value} {x:Str} {np cpos npos pos:Pos} {args:List Expr} {ea:Addr} {kk:Nat} {Q:Flow->Shared->Prop}
    (hbase:bm.contains (.type "BaseException")=true) (hh:A.handled=some (.ref ea)) (hplain:(backTo cpos (starEach args env)).any (·.1)=false) (hni:mN "__init__" = none)
    (h:wpAny (model prog w) A (eval (.Name x np) env) (λ f s₁=>f=.ref C /\ wpAny (model prog w) A (evalArgs (.ref C) true (backTo cpos (starEach args env)) [])
     (λ a s₂=>a.kw=[] /\ a.pos.length<=sizeLine /\ s₂.heap.get? C=some (excClassObj nm q C N bs bm hdct sn sub ab col dd k0 k1 k2 k3 k5 newId) /\ s₂.heap.Ns N mN /\ OwnTail s₂.heap bmB bm /\ F2 s₂.heap ea ∧
      ∀ h' e,(∀ b o,s₂.heap.get? b=some o->h'.get? b=some o)->s₂.heap.get? e=none->(∃ t,h'.get? e=some { cls:=.ref C,data:=.fields #[.ref t,.none,.ref ea,.none,.bool true,.none] })->E (.ref e) { s₂ with heap:=h' }) E s₁) E s) :
    wpAny (model prog w) A (exec (.Raise (some (.Call (.Name x np) args [] cpos)) (some (.Constant .none kk npos)) pos) env) Q E s:=by
 rw [arm_exec_Raise]
 simp only [evalOpt,Option.map]
 refine wpAny_bind (wpAny_standAt (sy0 (C:=C) (nm:=nm) (q:=q) (N:=N) (bs:=bs) (bm:=bm) (hdct:=hdct) (sn:=sn) (sub:=sub) (ab:=ab) (col:=col) (dd:=dd) (k0:=k0) (k1:=k1) (k2:=k2) (k3:=k3) (k5:=k5) (newId:=newId) hbase hh (wpAny_bind (wpAny_mono (wpAny_Call_ofName (wpAny_mono h (λ f s₁ h₁=>?_) λ _ _ x=>x)) (λ v s₃ h₃=>wpAny_bind (wpAny_standAt (wpAny_pure h₃))) λ _ _ x=>x))))
 obtain ⟨rfl,h₁⟩:=h₁
 unfold callWith
 refine wpAny_bind (wpAny_holding (wpAny_mono h₁ (λ a s₂ h₂=>wpAny_bind (wpAny_standAt ?_)) λ _ _ x=>x))
 obtain ⟨apos,akw⟩:=a
 obtain ⟨hkw,hlen,hC,hn,T,f2,h₂⟩:=h₂
 obtain rfl:akw=[]:=hkw
 obtain ⟨hp,g,d,tk,os⟩:=s₂
 simp only [hplain]
 refine wpAny_bind (wpAny_keeperOf_exc hC ?_)
 refine wpAny_bind (wpAny_call_exc_subU (hrest:=hlen) Fn hBn F T hC hn hni λ h' e hm=>wpAny_bind (wpAny_holding (wpAny_point (wpAny_pure ?_))))
 obtain ⟨t,ht,_,_⟩:=hm.there
 obtain ⟨oh,ws,g1,g2,g3⟩:=f2
 have hne:ea ≠ e:=λ z=>by subst z; rw [hm.new] at g1; cases g1
 refine ⟨e,t,rfl,hm.keeps _ _ hC,ht,hne,⟨oh,ws,hm.keeps _ _ g1,g2,g3⟩,?_,λ h2 k1 k2=>h₂ h2 e (λ b o q=>?_) hm.new ⟨t,k1⟩⟩
 ·exact wpAny_bind (Constant_none (wpAny_bind (wpAny_standAt (wpAny_pure ⟨rfl,rfl⟩))))
 ·rw [k2 b (λ z=>by subst z; rw [hm.new] at q; cases q)]
  exact hm.keeps b o q
end
noncomputable def wk3 (K:Fg) (E:XK) (Pc C2:Addr) (sp:Sp) (ta:TA) (tb:Addr->TA):TS:=λ D σ H=>ta σ H λ vs H1=>sp vs H1 (λ v H2=>D.nx σ H2)
 (λ cls o H2=>o=none /\ ∃ C,cls=.ref C /\ PySem.W.kitCls K (.ref C) (.ref Pc)=some true /\ (Kp H1 H2->∀ ea ob,H2 ea=none->ob.cls=.ref C ->
  tb ea σ (upd H2 ea (.frz ob (.own 0))) λ vs H3=>vs.length<=sizeLine /\ H3 ea=some (.frz ob (.own 0)) /\ E (.ref C2) (some 0) H3))
section
variable {P:Program} {w:World} {K:Fg} {mg:Str->Option Value} {base:Heap} {N:List Str} {qual:Str} {scope:Scope} {f:Addr} {cd:Value} {A:Around} {outer:List Env} {s0:Shared} {H0:Hp} {E:XK}
theorem vj2 {k:Nat} {fa Pc C2:Addr} {fd:FuncData} {ps:List Str} {sp:Sp} {fx x x2:Str} {e e₀:Expr} {es rest:List Expr} {kk:Nat} {p cpos np np2 cpos2 npos rpos hpos pos epos:Pos} {ta:TA} {tb:Addr->TA} {Bn B newId inN nid initId:String} {bm bmN:List Value}
    (F:FnOk P w K mg base (CXn P w) k fa fd ps sp) (hr:Room k (A.deeper (envOfC qual scope s0.heap.objs.size f cd))) (hgf:Gl (cxOf (CXn P w) P w K mg base N qual scope f cd A outer s0 H0 E) fx) (hmf:mg fx=some (.ref fa)) (hkf:PySem.W.keepIn K (.ref fa)=true) (hb:Binds K fd ps []) (ha:PA (za2 (cxOf (CXn P w) P w K mg base N qual scope f cd A outer s0 H0 E)) (e :: es) ta)
    (hsu:∀ ea,PA (mark (cxOf (CXn P w) P w K mg base N qual scope f cd A outer s0 H0 E) (.ref ea)) (e₀ :: rest) (tb ea)) (hg:Gl (cxOf (CXn P w) P w K mg base N qual scope f cd A outer s0 H0 E) x) (hm:mg x=some (.ref Pc)) (hd:(x == ("__debug__" : Str))=false) (k2:PySem.W.kitCls K (.ref Pc) (.type "BaseException")=some true) (k3:PySem.W.kitCls K (.type "type") (.type "tuple")=some false)
    (O:OwnCls x2 C2 bm newId mg base) (Fn:ExcBaseFacts Bn newId inN bmN) (hBn:bm.contains (.type Bn)=true) (FB:ExcBaseFacts B nid initId bm) (hg2:Gl (cxOf (CXn P w) P w K mg base N qual scope f cd A outer s0 H0 E) x2) (hd2:(x2 == ("__debug__" : Str))=false)
    (hdb:(fx == ("__debug__" : Str))=false) (he:starEach (e :: es) (envOfC qual scope s0.heap.objs.size f cd)=(false,eval e (envOfC qual scope s0.heap.objs.size f cd)) :: starEach es (envOfC qual scope s0.heap.objs.size f cd)) (hpl:(backTo cpos (starEach es (envOfC qual scope s0.heap.objs.size f cd))).any (·.1)=false)
    (he2:starEach (e₀ :: rest) (envOfC qual scope s0.heap.objs.size f cd)=(false,eval e₀ (envOfC qual scope s0.heap.objs.size f cd)) :: starEach rest (envOfC qual scope s0.heap.objs.size f cd)) (hpl2:(backTo cpos2 (starEach rest (envOfC qual scope s0.heap.objs.size f cd))).any (·.1)=false)
    (hs:swapsWith (.Call (.Name fx p) (e :: es) [] cpos) none epos.line (envOfC qual scope s0.heap.objs.size f cd)=pure false) :
    PS (cxOf (CXn P w) P w K mg base N qual scope f cd A outer s0 H0 E) (.Try [.Expr (.Call (.Name fx p) (e :: es) [] cpos) epos] [.ExceptHandler (some (.Name x np)) none [.Raise (some (.Call (.Name x2 np2) (e₀ :: rest) [] cpos2)) (some (.Constant .none kk npos)) rpos] hpos] [] [] pos) (wk3 K E Pc C2 sp ta tb):=by
 intro pins s σ H D I h
 refine wpAny_Try_except (wpAny_execs_cons (wpAny_Expr_any ?_ I.quiet hs))
 refine wpAny_Call_Name_kw (vh0 I hgf hmf ?_ hdb)
 refine PySem.W.callWith_K (h₀:=base) I.ok.mod.kin hkf (wpAny_mono (ha cpos pins s σ H _ (xh3 I) h) (λ us s1 ⟨vs,H1,I1',r,q⟩=>⟨I1'.kIn,?_⟩) λ _ _ z=>(show False from z).elim) he hpl
 have I1:=sg3 I1'
 have hl:(us ++ []).length=ps.length:=by rw [List.append_nil,<- r.length]; exact F.len _ _ _ _ q
 have hbb:=hb s1 us I1.kIn hl
 rw [List.append_nil] at hbb
 refine wpAny_call (codeAny_mono (F.run _ _ s1 H1 ⟨us,[]⟩ us vs _ _ hr I1.env0 hbb r q) λ rr s' hq=>?_)
 cases rr with
 | error ex =>
  dsimp only [CR] at hq
  obtain ⟨ea,cls,a0,H',B',rfl,os,bare,u2,hok,fl,hea,cov1,cov2,oo,hf2,rfl,C,rfl,k1,hkk⟩:=hq
  have fl0:=fl
  refine wpAny_mono ((Kf.note _ _).any (hf2 rfl) (wpAny_looks_onW (Q:=λ _ z=>∃ h4,z={ s' with heap:=h4 } /\ Heap.HeldW B' (envOfC qual scope s0.heap.objs.size f cd :: outer) ea (.ref C) a0 (envOfC qual scope s0.heap.objs.size f cd).locals h4 /\ s'.heap.UpToSlots h4) I1.ok.frames rfl fl λ h4 a b=>⟨h4,rfl,a,b⟩)) (λ _ z hz=>?_) λ _ _ z=>z
  obtain ⟨⟨h4,rfl,held4,sm4⟩,g4⟩:=hz
  refine wpAny_mono ((Kf.flight _ _).any g4 (wpAny_landsW (s:={ s' with heap:=h4 }) (Q:=λ _ z=>∃ h5,z={ s' with heap:=h5 } /\ Heap.FlyingW B' (envOfC qual scope s0.heap.objs.size f cd :: outer) ea (.ref C) a0 h5 /\ h4.UpToSlots h5) held4 λ h5 a b=>⟨h5,rfl,a,b⟩)) (λ _ z hz=>?_) λ _ _ z=>z
  obtain ⟨⟨h5,rfl,fl5,sm5⟩,g5⟩:=hz
  have I5:Inv (cxOf (CXn P w) P w K mg base N qual scope f cd A outer s0 H0 E) pins σ H' { s' with heap:=h5 }:=I1.call' (s':={ s' with heap:=h5 }) (ch:=[]) os (ym0 u2 cov1 fl0 fl5.1 (sm4.trans sm5)) (vj0 hok cov2 fl5.1) bare (λ b z=>absurd z (by simp))
  obtain ⟨ob5,hob5,hc5⟩:=fl5.there
  refine wpAny_handleBy_cons (codeAny_handlers_test (vh0 (xm0 I5 (.ref ea)) hg hm ?_ hd)) (by intro q; cases q)
  refine sq0 I5.kIn hob5 hc5 k1 k2 k3 ?_
  refine codeAny_handlers_suite ?_
  refine wpAny_mono ((Kf.flight _ _).any g5 (lands_againW (s:={ s' with heap:=h5 }) (Q:=λ _ z=>∃ h6,z={ s' with heap:=h6 } /\ Heap.FlyingW B' (envOfC qual scope s0.heap.objs.size f cd :: outer) ea (.ref C) a0 h6 /\ h5.UpToSlots h6) fl5 λ h6 a b=>⟨h6,rfl,a,b⟩)) (λ _ z hz=>?_) λ _ _ z=>z
  obtain ⟨⟨h6,rfl,fl6,sm6⟩,oe,ws,g6,g7,g8⟩:=hz
  have hoec:oe.cls=.ref C:=by
   obtain ⟨o2,w1,w2⟩:=fl6.there
   have:=g6.symm.trans w1
   cases this
   exact w2
  have hsn:s1.heap.get? ea=none:=by
   cases q:s1.heap.get? ea with
   | none=>rfl
   | some o =>
    exfalso
    obtain ⟨o1,e1⟩:=u2.there ea o q (by simp)
    by_cases hb:ea ∈ frs (envOfC qual scope s0.heap.objs.size f cd :: outer)
    ·obtain ⟨_,o',ho,hnf⟩:=fl0.2.2.1.mem hb
     obtain ⟨oe0,vs0,he0,_,hd0,_⟩:=fl0.first
     rw [he0] at ho; cases ho
     exact hnf _ hd0
    ·have:=cov1 ea o1 e1 hb ⟨o,q⟩
     rw [fl0.2.1] at this; cases this
  have I7:Inv (cxOf (CXn P w) P w K mg base N qual scope f cd A outer s0 H0 E) pins σ (upd H' ea (.frz oe (.own 0))) { s' with heap:=h6 }:=I1.call' (s':={ s' with heap:=h6 }) (ch:=[]) os (yc2 (ym0 u2 cov1 fl0 fl6.1 ((sm4.trans sm5).trans sm6)) hea hsn) (yl1 (vj0 hok cov2 fl6.1) hea g6) bare (λ b z=>absurd z (by simp))
  have hq:=hkk ⟨u2.tups,u2.frzs⟩ ea oe hea hoec
  obtain ⟨tl,NN,nm,qn,bs,hdct,sn,sub,ab,col,dd,k0,k1',k2',k3',k5,mN,hC,hN,hni,T⟩:=O.obj
  refine wpAny_passesOwnAt PassesOwnAt.leaving (wpAny_execs_cons (sa2 (C:=C2) (nm:=nm) (q:=qn) (N:=NN) (bs:=bs) (bm:=tl) (hdct:=hdct) (sn:=sn) (sub:=sub) (ab:=ab) (col:=col) (dd:=dd) (k0:=k0) (k1:=k1') (k2:=k2') (k3:=k3') (k5:=k5) (ea:=ea)
   Fn hBn FB (mN:=mN) (T.hasType FB.hasBase) rfl (by
    show (backTo cpos2 (starEach (e₀ :: rest) (envOfC qual scope s0.heap.objs.size f cd))).any (·.1)=false
    rw [he2]; show (false || (backTo cpos2 (starEach rest (envOfC qual scope s0.heap.objs.size f cd))).any (·.1))=false; rw [hpl2]; rfl) hni (vh0 (xm0 I7 (.ref ea)) hg2 O.bound ⟨rfl,?_⟩ hd2)))
  have hA:=hsu ea cpos2 pins _ σ _ _ (xm0 I7 (.ref ea)) hq
  have he':starEach (e₀ :: rest) (mark (cxOf (CXn P w) P w K mg base N qual scope f cd A outer s0 H0 E) (.ref ea)).env=_:=he2
  rw [he'] at hA
  show wpAny _ _ (evalArgs (.ref C2) true (backTo cpos2 (starEach (e₀ :: rest) (envOfC qual scope s0.heap.objs.size f cd))) []) _ _ _
  rw [he2]
  refine Calls.evalArgs_plain (wpAny_mono hA (λ us s2 ⟨vs,H2,I2,r2,q2,q3,q4⟩=>⟨rfl,?_,I2.bk _ _ hC,hN.keeps I2.bk,T.keeps I2.bk,?_,λ h' e3 w1 w2 ⟨t,w3⟩=>?_⟩) λ _ _ z=>(show False from z).elim)
  ·rw [<- r2.length]; exact q2
  ·exact ⟨oe,ws,(I2.hok ea _ q3).1,g7,g8⟩
  ·exact tn1 (oo:=some 0) (yu0 I1.ok I2) w1 w2 w3 rfl rfl rfl (λ z=>by cases z) q4
 | ok fl =>
  cases fl with
  | ret u =>
   obtain ⟨v,H2,I2,rv,q2⟩:=I1.after hq
   exact wpAny_execs_nil (wpAny_execs_nil ⟨σ,H2,I2,q2⟩)
  | next=>exact False.elim hq
  | brk=>exact False.elim hq
  | cont=>exact False.elim hq
end
noncomputable def sq2 (XE:XE3) (spx:XE3->Sp3) (x2:Str) (ta tb:TA3):TS3:=λ D' ρ μ=>ta ρ μ λ ds μ1 =>
 spx (λ c μ2=>c = "NoWord" /\ tb ρ μ2 λ vs μ3=>vs.length<=sizeLine /\ XE x2 μ3) ds μ1 (λ _ μ2=>D'.nx ρ μ2)
section
variable {P:Program} {w:World} {K:Fg} {mg:Str->Option Value} {base:Heap} {N:List Str} {qual:Str} {scope:Scope} {f:Addr} {cd:Value} {A:Around} {outer:List Env} {s0:Shared} {H0:Hp} {E:XK} {XE:XE3}
theorem th2 {k:Nat} {Pc C2:Addr} {ps:List Str} {spx:XE3->Sp3} {fx x2:Str} {e e₀:Expr} {es rest:List Expr} {kk:Nat} {p cpos np np2 cpos2 npos rpos hpos pos epos:Pos} {ta tb:TA3} {Bn B newId inN nid initId:String} {bm bmN:List Value}
    (EX:EXok K mg XE E) (c:CalX P w K mg base k fx ps spx) (hr:Room k (A.deeper (envOfC qual scope s0.heap.objs.size f cd))) (ha:RA (za2 (cxOf (CXn P w) P w K mg base N qual scope f cd A outer s0 H0 E)) (e :: es) ta) (hsu:∀ ea,RA (mark (cxOf (CXn P w) P w K mg base N qual scope f cd A outer s0 H0 E) (.ref ea)) (e₀ :: rest) tb)
    (hm:mg "NoWord" = some (.ref Pc)) (k2:PySem.W.kitCls K (.ref Pc) (.type "BaseException")=some true) (k3:PySem.W.kitCls K (.type "type") (.type "tuple")=some false) (k4:PySem.W.kitCls K (.ref Pc) (.ref Pc)=some true)
    (O:OwnCls x2 C2 bm newId mg base) (Fn:ExcBaseFacts Bn newId inN bmN) (hBn:bm.contains (.type Bn)=true) (FB:ExcBaseFacts B nid initId bm)
    (hg:Gl (cxOf (CXn P w) P w K mg base N qual scope f cd A outer s0 H0 E) "NoWord" := by rfl) (hgf:Gl (cxOf (CXn P w) P w K mg base N qual scope f cd A outer s0 H0 E) fx:=by rfl) (hg2:Gl (cxOf (CXn P w) P w K mg base N qual scope f cd A outer s0 H0 E) x2:=by rfl) (hd:(("NoWord" : Str) == ("__debug__" : Str))=false:=by decide) (hd2:(x2 == ("__debug__" : Str))=false:=by decide) (hx2:x2 ≠ "NoWord" := by decide)
    (hdb:(fx == ("__debug__" : Str))=false:=by decide) (he:starEach (e :: es) (envOfC qual scope s0.heap.objs.size f cd)=(false,eval e (envOfC qual scope s0.heap.objs.size f cd)) :: starEach es (envOfC qual scope s0.heap.objs.size f cd):=by rfl) (hpl:(backTo cpos (starEach es (envOfC qual scope s0.heap.objs.size f cd))).any (·.1)=false:=by rfl)
    (he2:starEach (e₀ :: rest) (envOfC qual scope s0.heap.objs.size f cd)=(false,eval e₀ (envOfC qual scope s0.heap.objs.size f cd)) :: starEach rest (envOfC qual scope s0.heap.objs.size f cd):=by rfl) (hpl2:(backTo cpos2 (starEach rest (envOfC qual scope s0.heap.objs.size f cd))).any (·.1)=false:=by rfl)
    (hs:swapsWith (.Call (.Name fx p) (e :: es) [] cpos) none epos.line (envOfC qual scope s0.heap.objs.size f cd)=pure false:=by rfl) :
    RS (cxOf (CXn P w) P w K mg base N qual scope f cd A outer s0 H0 E) (.Try [.Expr (.Call (.Name fx p) (e :: es) [] cpos) epos] [.ExceptHandler (some (.Name "NoWord" np)) none [.Raise (some (.Call (.Name x2 np2) (e₀ :: rest) [] cpos2)) (some (.Constant .none kk npos)) rpos] hpos] [] [] pos) (sq2 XE spx x2 ta tb):=by
 obtain ⟨fa,fd,F,hmf,hkf,hb⟩:=c
 obtain ⟨va,pa,ra⟩:=ha
 have hh:∃ tv:Addr->TA,(∀ ea,PA (mark (cxOf (CXn P w) P w K mg base N qual scope f cd A outer s0 H0 E) (.ref ea)) (e₀ :: rest) (tv ea)) /\ ∀ ea,RdA K (tv ea) tb:=⟨λ ea=>(hsu ea).choose,λ ea=>(hsu ea).choose_spec.1,λ ea=>(hsu ea).choose_spec.2⟩
 obtain ⟨tv,hp,hr'⟩:=hh
 refine ⟨_,vj2 F hr hgf hmf hkf hb pa hp hg hm hd k2 k3 O Fn hBn FB hg2 hd2 hdb he hpl he2 hpl2 hs,?_⟩
 intro σ H D ρ μ D3 s m h kd
 refine ra σ H _ ρ μ _ s m h λ ds μ1 vs H1 h1 k1 r1 m1=>?_
 refine ⟨ds,μ1,_,_,r1,m1,h1,λ d μ2 v H2 h2 k2 r2 m2=>?_,λ c C μ2 H2 o hX hmc m2 ho=>?_⟩
 ·exact kd.nx _ _ _ _ h2 (k1.trans k2) (s.mono (k1.trans k2)) m2
 ·obtain ⟨rfl,o2⟩:=hX
  have hmc':mg "NoWord" = some (.ref C):=hmc
  rw [hm] at hmc'
  cases hmc'
  refine ⟨ho rfl,_,rfl,k4,λ kp ea ob hea hob=>?_⟩
  have kn:Kp H2 (upd H2 ea (.frz ob (.own 0))):=Kp.new hea
  refine hr' ea σ _ _ ρ μ2 _ ((s.mono (k1.trans kp)).mono kn) (m2.newF hea) o2 λ ds μ3 us H3 h3 k3 r3 m3=>⟨by rw [<- r3.length]; exact h3.1,k3.frz _ _ _ xf0,?_⟩
  exact EX x2 C2 μ3 H3 (some 0) h3.2 O.bound m3 λ z=>absurd z hx2
end
end Pv
namespace Pv
open PySem PySem.Spec PyProof.Rows L2
open PySem.AutoSeq1 (wpAny_loadPart')
section
variable {prog:Program} {w:World} {A:Around} {R:Result->Shared->Prop} {I:Addr} {fp wr:List Addr} {n:Nat} {P:Nat->Value->Prop} {St:Nat->Heap->Prop}
end
section
variable {prog:Program} {w:World} {A:Around} {E:Value->Shared->Prop} {s:Shared}
end
section
variable {X:Cx}
end
end Pv
namespace Pv
open PySem PySem.Spec PyProof.Rows L2
section
variable {X:Cx}
end
section
variable {X:Cx} {e:Expr} {te:TE3} {p p2 pos pos2:Pos}
end
end Pv
namespace Pv
open PySem PySem.Spec PyProof.Rows L2
theorem wp1:typeLookup (.type "list_reverseiterator") "__len__" = pure none:=by rw [typeLookup_type,builtinLookup_eq_fast]; kernel_rfl
theorem zx1:typeLookup (.type "list_reverseiterator") "__length_hint__" = pure (some (.builtin "list_reverseiterator.__length_hint__")):=by rw [typeLookup_type,builtinLookup_eq_fast]; kernel_rfl
theorem yx1:isSubtype (.type "list_reverseiterator") (.type "list_reverseiterator")=pure true:=by rw [isSubtype_type]; kernel_rfl
section
variable {prog:Program} {w:World} {A:Around} {E:Value->Shared->Prop} {s:Shared} {R:Result->Shared->Prop} {I l:Addr} {items:Array Value}
theorem yn2 (hh:A.handled=none) (hne:l ≠ I) (S:Addr) (res:Value) (c₀:Nat) (hit:s.heap.IsRevIter I l ((items.size:Int) - 1)) (hl:s.heap.IsList l items) (hSI:S ≠ I) (hSl:S ≠ l)
    (hS:s.heap.get? S=some { cls:=.type "list",data:=.seq #[] c₀ }) (hn:items.size<=sizeLine)
    (hR:∀ h' tk acc' c',(∀ b o,b ≠ S->b ≠ I->s.heap.get? b=some o->h'.get? b=some o)->h'.get? S=some { cls:=.type "list",dict:=none,data:=.seq acc' c',slots:=#[] } ->
     ItemsOf (λ i v=>items[items.size - 1 - i]?=some v) acc' items.size->R (.ok (.ret res)) { s with heap:=h',toks:=tk }) :
    wpAny (model prog w) A.in1 (Builtin.List.listExtendWith (.ref S) (.ref I) res)
     (λ fin s'=>match fin with | .done f=>R (.ok f) s' | .again c'=>c'.quiet=true /\ codeAny (model prog w) A c' R s') (λ e s'=>R (.error e) s') s:=by
 have hSf:S ∉ [I,l]:=λ hm=>by
  rcases List.mem_cons.mp hm with e | hm
  ·exact hSI e
  ·exact hSl (List.mem_singleton.mp hm)
 unfold Builtin.List.listExtendWith
 refine wpAny_bind (wpAny_typeOf hit.typeIs ?_)
 have h1:Builtin.List.listSameRef (.ref S) (.ref I)=false:=by simp [Builtin.List.listSameRef,hSI]
 have h2:(Value.type "list_reverseiterator" == Value.type "list")=false:=by decide
 have h3:(Value.type "list_reverseiterator" == Value.type "tuple")=false:=by decide
 simp only [h1,h2,h3,Bool.or_false,Bool.false_eq_true,if_false]
 refine wpAny_bind (wpAny_pyIter_revIter hit ?_)
 refine wpAny_bind (wpAny_holding ?_)
 unfold Builtin.List.listLengthHint
 refine wpAny_bind (wpAny_specialOf hit.typeIs wp1 ?_)
 show wpAny _ A.in1 (specialOf (Value.ref I) (Str.ofString "__length_hint__") >>= _) _ _ _
 refine wpAny_bind (wpAny_specialOf hit.typeIs zx1 ?_)
 wp_delta
 refine wpAny_bind (wpAny_isInstance (b:=true) hit.typeIs yx1 ?_)
 refine wpAny_pure ?_
 rw [if_neg (by decide)]
 have st0:0<=items.size /\ s.heap.IsRevIter I l ((items.size:Int) - 1 - ((0:Nat):Int)) /\ s.heap.IsList l items:=⟨Nat.zero_le _,by simpa using hit,hl⟩
 refine wpAny_pure ⟨plainId_quiet F.plain_extend_loop _,codeAny_extend_loopS (Walks.listRev (A:=A.in1) hh I l hne items).toS hn _ hSf _ items.size 0 _ _ _ rfl (Nat.zero_le _) st0 hS (ItemsOf.nil _) λ s' acc' c' hm hS' hacc=>?_⟩
 rw [Moved.eq_with hm]
 refine hR s'.heap s'.toks acc' c' (λ b ob hb hbI e=>hm.heap b ob (λ hmem=>?_) e) hS' hacc
 rcases List.mem_cons.mp hmem with e' | hmem
 ·exact hb e'
 ·exact hbI (List.mem_singleton.mp hmem)
theorem ty1 (hh:A.handled=none) (hne:l ≠ I) (S:Addr) (hit:s.heap.IsRevIter I l ((items.size:Int) - 1)) (hl:s.heap.IsList l items) (hSI:S ≠ I) (hSl:S ≠ l)
    (hS:s.heap.get? S=some { cls:=.type "list",data:=.seq #[] }) (hn:items.size<=sizeLine)
    (hR:∀ h' tk acc' c',(∀ b o,b ≠ S->b ≠ I->s.heap.get? b=some o->h'.get? b=some o)->h'.get? S=some { cls:=.type "list",dict:=none,data:=.seq acc' c',slots:=#[] } ->
     ItemsOf (λ i v=>items[items.size - 1 - i]?=some v) acc' items.size->R (.ok (.ret .none)) { s with heap:=h',toks:=tk }) :
    wpAny (model prog w) A.in1 (Builtin.«list.__init__» ⟨[.ref S,.ref I],[]⟩)
     (λ fin s'=>match fin with | .done f=>R (.ok f) s' | .again c'=>c'.quiet=true /\ codeAny (model prog w) A c' R s') (λ e s'=>R (.error e) s') s:=by
 show wpAny _ _ (do let old <- Builtin.List.listItems (.ref S); Builtin.List.listUpdate (.ref S) (λ _=>#[]); letGo old.toList.reverse; Builtin.List.listExtendWith (.ref S) (.ref I) .none) _ _ s
 refine wpAny_bind ?_
 unfold Builtin.List.listItems
 refine wpAny_bind (wpAny_seqItems hS rfl (wpAny_pure ?_))
 show wpAny _ _ (updateSeq S (λ _=>#[]) >>= λ _=>letGo (#[]:Array Value).toList.reverse >>= λ _=>Builtin.List.listExtendWith (.ref S) (.ref I) .none) _ _ s
 refine wpAny_bind (wpAny_updateSeq hS rfl ?_)
 have hS₂:=Heap.get?_update_self (Obj.mapSeq (λ _=>(#[]:Array Value))) hS rfl
 have oth:∀ b o,b ≠ S->s.heap.get? b=some o->(s.heap.update S (Obj.mapSeq (λ _=>(#[]:Array Value)))).get? b=some o :=
  λ b o hb e=>(Heap.get?_update_other _ _ (Ne.symm hb)).trans e
 refine wpAny_bind (wpAny_letGo ?_)
 refine yn2 (s:={ s with heap:=s.heap.update S (Obj.mapSeq (λ _=>(#[]:Array Value))) }) hh hne S .none _ (hit.at λ o e=>oth I o (Ne.symm hSI) e) (hl.at λ o e=>oth l o (Ne.symm hSl) e) hSI hSl hS₂ hn λ h' tk acc' c' hk hS' hacc=>?_
 exact hR h' tk acc' c' (λ b o hb hbI e=>hk b o hb hbI (oth b o hb e)) hS' hacc
theorem vx0 {Q:Value->Shared->Prop} (hh:A.handled=none) (hne:l ≠ I) (hit:s.heap.IsRevIter I l ((items.size:Int) - 1)) (hl:s.heap.IsList l items) (hn:items.size<=sizeLine)
    (hQ:∀ h' tk acc' c',(∀ b o,b ≠ I->s.heap.get? b=some o->h'.get? b=some o) ->
     h'.get? s.heap.objs.size=some { cls:=.type "list",dict:=none,data:=.seq acc' c',slots:=#[] }->ItemsOf (λ i v=>items[items.size - 1 - i]?=some v) acc' items.size->Q (.ref s.heap.objs.size) { s with heap:=h',toks:=tk }) :
    wpAny (model prog w) A (call (.type "list") [.ref I]) Q E s:=by
 refine callType_codes (Q₁:=λ obj s₁=>obj=.ref s.heap.objs.size /\ s₁={ s with heap:=s.heap.push { cls:=.type "list",data:=.seq #[] } }) F.called_list (F.typeCall_list_1 _) F.entry_list_init
  (code_list_new _ ⟨rfl,rfl⟩) λ obj s₁ h₁=>?_
 obtain ⟨rfl,rfl⟩:=h₁
 have hS:(s.heap.push { cls:=.type "list",data:=.seq #[] }).get? s.heap.objs.size=some { cls:=.type "list",data:=.seq #[] }:=Heap.get?_push_size _ rfl
 obtain ⟨oi,ei,_⟩:=id hit
 obtain ⟨ol,el,_⟩:=id hl
 refine ⟨⟨_,hS,rfl⟩,F.args_list_init_2 _ _,ty1 (A:=A.in1) (s:={ s with heap:=s.heap.push { cls:=.type "list",data:=.seq #[] } }) hh hne _ (hit.at λ o e=>Heap.get?_push_of_some _ e) (hl.at λ o e=>Heap.get?_push_of_some _ e) (Ne.symm (Nat.ne_of_lt (Heap.lt_size ei))) (Ne.symm (Nat.ne_of_lt (Heap.lt_size el))) hS hn λ h' tk acc' c' hk hS' hacc=>?_⟩
 exact ⟨rfl,hQ h' tk acc' c' (λ b o hb e=>hk b o (Nat.ne_of_lt (Heap.lt_size e)) hb (Heap.get?_push_of_some _ e)) hS' hacc⟩
end
section
variable {X:Cx} {e:Expr} {te:TE3} {p p2 pos pos2:Pos}
noncomputable def tk3 (ta:TA):TE:=λ σ H Q=>ta σ H λ xs H1=>∃ q ys,xs=[.ref q] /\ H1 q=some (.lst ys) /\ ∀ r,H1 r=none->Q (.ref r) (upd H1 r (.lst ys.reverse))
theorem up1 {its:List Value} {acc:Array Value} (h:ItemsOf (λ i v=>its.toArray[its.toArray.size - 1 - i]?=some v) acc its.toArray.size):acc=its.reverse.toArray:=by
 obtain ⟨h0,h2⟩:=h
 have h1:acc.size=its.length:=by simpa using h0
 apply Array.ext_getElem?
 intro j
 rcases Nat.lt_or_ge j its.length with hj | hj
 ·have e1:acc[j]?=some (acc[j]'(by omega)):=Array.getElem?_eq_getElem (by omega)
  have e2:=h2 j _ e1
  rw [List.size_toArray,List.getElem?_toArray] at e2
  rw [e1,List.getElem?_toArray,List.getElem?_reverse hj]
  exact e2.symm
 ·rw [Array.getElem?_eq_none (by omega),List.getElem?_toArray,List.getElem?_eq_none (by rw [List.length_reverse]; exact hj)]
theorem ta2 {xs:List V} {us:List Value} (r:Vals xs us):Vals xs.reverse us.reverse:=by
 induction r with
 | nil=>exact .nil
 | cons r1 _ ih =>
  rw [List.reverse_cons,List.reverse_cons]
  exact ih.append (.cons r1 .nil)
theorem vk2 {ta:TA} (hc:X.calm=true) (hg:Gl X "list") (hm:X.mg "list" = none) (hg2:Gl X "reversed") (hm2:X.mg "reversed" = none) (ha:PA X [e] ta)
    (hs:starEach [e] X.env=[(false,eval e X.env)]:=by rfl)
    (hs2:starEach [.Call (.Name "reversed" p2) [e] [] pos2] X.env=[(false,eval (.Call (.Name "reversed" p2) [e] [] pos2) X.env)]:=by rfl) :
    PE X (.Call (.Name "list" p) [.Call (.Name "reversed" p2) [e] [] pos2] [] pos) (tk3 ta):=by
 intro pins s σ H Q I h
 refine Call_ (xu0 I hg hm so2 (PyProof.Rows.callWith_type1 ?_ hs2 rfl))
 rw [hs2]
 show wpAny _ _ (spliced ((false,eval (.Call (.Name "reversed" p2) [e] [] pos2) X.env) :: backTo pos (starEach [] X.env))) _ _ s
 refine Calls.spliced_cons ?_
 refine Call_ (xu0 I hg2 hm2 vd1 (PyProof.Rows.callWith_type1 (thn (ha pos2 pins s σ H _ I h) λ us s1 ⟨vs,H1,I1,r1,q1⟩=>?_) hs rfl))
 obtain ⟨q,ys,e1,hq,k⟩:=q1
 subst e1
 cases r1 with
 | cons r rr =>
  cases rr
  cases r
  obtain ⟨z,its,n,rv,hl,eo⟩:=I1.lstM hq
  have hL:s1.heap.IsList q its.toArray:=⟨_,eo,rfl,n,rfl⟩
  refine call_reversed_list hL ?_
  refine Calls.spliced_nil ?_
  have hne:q ≠ s1.heap.objs.size:=Nat.ne_of_lt (Heap.lt_size eo)
  have hlen:=rv.length
  refine vx0 (s:={ s1 with heap:=s1.heap.push (revObj q ((its.toArray.size:Int) - 1)) }) (I.ok.hd hc) hne ⟨_,Heap.get?_push_size _ rfl,rfl,rfl⟩ (hL.at λ o e=>Heap.get?_push_of_some _ e) (by rw [List.size_toArray]; omega) λ h' tk acc' c' hk hS' hacc=>?_
  have ea:=up1 hacc
  subst ea
  have hk2:∀ b o,s1.heap.get? b=some o->h'.get? b=some o:=λ b o e=>hk b o (Nat.ne_of_lt (Heap.lt_size e)) (Heap.get?_push_of_some _ e)
  have hsz:s1.heap.objs.size<=(s1.heap.push (revObj q ((its.toArray.size:Int) - 1))).objs.size:=by rw [Heap.size_push]; exact Nat.le_succ _
  exact ⟨.ref _,_,I1.laid (t':=tk) hk2 hsz (show ObjOk X.prog X.w _ h' _ (.lst ys.reverse) from ⟨by rw [List.length_reverse]; omega,its.reverse,c',ta2 rv,hS'⟩),rfl,k _ (I1.hok.fresh hsz)⟩
theorem zm0 {K:Fg} {H:Hp}:∀ {xs:List D} {us:List V},RelDs K H xs us->RelDs K H xs.reverse us.reverse
 | _,_,.nil=>.nil
 | _,_,.cons r1 r2=>by
  rw [List.reverse_cons,List.reverse_cons]
  exact (zm0 r2).append (.cons r1 .nil)
theorem xi2 (he:RE X e te) (hm:X.mg "list" = none) (hm2:X.mg "reversed" = none) (hc:X.calm=true:=by rfl) (hg:Gl X "list" := by rfl) (hg2:Gl X "reversed" := by rfl) (hs:starEach [e] X.env=[(false,eval e X.env)]:=by rfl)
    (hs2:starEach [.Call (.Name "reversed" p2) [e] [] pos2] X.env=[(false,eval (.Call (.Name "reversed" p2) [e] [] pos2) X.env)]:=by rfl) :
    RE X (.Call (.Name "list" p) [.Call (.Name "reversed" p2) [e] [] pos2] [] pos) (lrev3 te):=by
 obtain ⟨va,pa,ra⟩:=xa0 he ua0 hs
 refine ⟨_,vk2 hc hg hm hg2 hm2 pa hs hs2,λ σ H Q ρ μ Q3 s m h k=>ra σ H _ ρ μ _ s m h λ ds μ1 vs H1 h1 k1 r1 m1=>?_⟩
 cases r1 with
 | nil=>exact False.elim h1
 | cons r1 r2 =>
  cases r2 with
  | cons _ _=>cases r1 <;> exact False.elim h1
  | nil =>
   cases r1 with
   | ref q =>
    dsimp only at h1
    cases e0:μ1 q with
    | none=>rw [e0] at h1; exact h1.elim
    | some oo =>
     cases oo with
     | ins _ _=>rw [e0] at h1; exact h1.elim
     | dct _=>rw [e0] at h1; exact h1.elim
     | dcl _=>rw [e0] at h1; exact h1.elim
     | dck _=>rw [e0] at h1; exact h1.elim
     | lst l =>
      rw [e0] at h1
      obtain ⟨ys,hv,rs⟩:=m1 q l e0
      exact ⟨q,ys,rfl,hv,λ r hr=>k _ _ _ _ (h1 r (m1.free hr)) (k1.trans (Kp.new hr)) (.ref r) (m1.newL hr (zm0 rs))⟩
   | _=>exact False.elim h1
theorem yp3:RC X (.type "str") strR:=by
 refine ⟨_,tz0,λ xs vs H Q μ Q3 m r h k=>?_⟩
 cases r with
 | nil=>exact False.elim h
 | cons r1 r2 =>
  cases r2 with
  | cons _ _=>cases r1 <;> exact False.elim h
  | nil =>
   cases r1 with
   | int i=>exact ⟨i,rfl,h.1,k _ _ _ _ h.2 (Kp.refl _) (.str _) m⟩
   | _=>exact False.elim h
variable {o:Expr} {es:List Expr} {to:TE3} {t:TA3} {apos cpos:Pos}
theorem wn1 {name:Str} {id:String} {r:V->List V->Hp->VK->Prop} {r3:Str->List D->Mu->VK3->Prop} (slot:Slot "str" name id) (hty:typeOf (.builtin id)=pure (.type "method_descriptor")) (hm:MtR X id r)
    (hrd:∀ z xs vs H Q μ Q3,RelM X.K μ H->RelDs X.K H xs vs->r3 z xs μ Q3->Ks X.K H Q3 Q->r (.str z) vs H Q) (ho:RE X o to) (ha:RA X (e :: es) t)
    (hbase:attributeBase o name X.env (eval o X.env)=eval o X.env)
    (hfew:((backTo cpos (starEach (e :: es) X.env)).all (λ x=>!x.1) && (backToKw cpos (keywordEach [] X.env)).all (λ x=>x.1.isSome)
     && decide ((e :: es).length + ([]:List Keyword).length + (if ([]:List Keyword).isEmpty then 0 else 1) < 30))=true)
    (hline:(apos.endLine == cpos.line)=true) (hs:starEach (e :: es) X.env=(false,eval e X.env) :: starEach es X.env) (hplain:(backTo cpos (starEach es X.env)).any (·.1)=false) :
    RE X (.Call (.Attribute o name apos) (e :: es) [] cpos) (smt3 r3 to t):=by
 obtain ⟨va,pa,ra⟩:=ho
 obtain ⟨vb,pb,rb⟩:=ha
 refine ⟨_,zd3 PySem.F.plainAttrs_str slot hty hm pa pb hbase hfew hline hs hplain,λ σ H Q ρ μ Q3 s m h k=>ra σ H _ ρ μ _ s m h λ d μ1 v H1 h1 k1 r1 m1=>?_⟩
 cases r1 with
 | str z=>exact ⟨rfl,rb σ H1 _ ρ μ1 _ (s.mono k1) m1 h1 λ xs μ2 ys H2 h2 k2 r2 m2=>hrd z xs ys H2 Q μ2 Q3 m2 r2 h2 (k.after (k1.trans k2))⟩
 | _=>exact False.elim h1
theorem wu0 {K:Fg} {H:Hp}:∀ (l:List Str),RelDs K H (l.map D.str) (l.map V.str)
 | []=>.nil
 | y :: l=>.cons (.str y) (wu0 l)
theorem xp1:MtR X "str.startswith" (λ x xs H Q=>∃ z y,x=.str z /\ xs=[.str y] /\ Q (.bl (Txt.startswith z y)) H):=by
 intro pins s σ H x xs v us Q I rx rv h
 obtain ⟨z,y,rfl,rfl,q⟩:=h
 obtain ⟨t,rfl⟩:=rx
 obtain ⟨u,rfl,t',rfl⟩:=rv.one
 exact SC.startswith ⟨.bl _,H,I,rfl,q⟩
theorem us0:∀ {ys:List Str} {us:List Value},Vals (ys.map V.str) us->StrsAre us ys
 | [],us,r=>by cases r; exact .nil
 | y :: ys,us,r=>by
  cases r with
  | cons r1 r2 =>
   obtain ⟨t,rfl⟩:=r1
   exact .cons y t (us0 r2)
theorem ul2:MtR X "str.join" (λ x xs H Q=>∃ z p ys,x=.str z /\ xs=[.ref p] /\ SqL X.K H p (ys.map V.str) /\ (z.length<=16 /\ (ys.map (·.length)).sum + ys.length<=1048576) /\ Q (.str (Str.join z ys)) H):=by
 intro pins s σ H x xs v us Q I rx rv h
 obtain ⟨z,p,ys,rfl,rfl,hq,hz,q⟩:=h
 obtain ⟨t,rfl⟩:=rx
 obtain ⟨u,rfl,ru⟩:=rv.one
 cases ru
 obtain ⟨its,r,pl,hsz⟩:=I.list hq
 refine join_listW pl.isList (us0 r) hz.1 hz.2 λ t' k=>?_
 refine ⟨.str (Str.join z ys),H,I.tok _,⟨t',?_⟩,q⟩
 show Value.str (Builtin.Str.glued z ys) t'=_
 rw [StrLaws.glued_eq_join]
theorem xk0:∀ (l:List (Str × Tok)),Vals ((l.map (·.1)).map V.str) (strValues l)
 | []=>.nil
 | (y,t) :: l=>.cons ⟨t,rfl⟩ (xk0 l)
theorem xm1 {prog:Program} {w:World} {A:Around} {E:Value->Shared->Prop} {s:Shared} {x y:Str} {t u:Tok} {Q:Value->Shared->Prop} (hy:(y.length == 0)=false) (hsz:x.length<=sizeLine)
    (hsz2:(Builtin.Str.partsBetween x (Builtin.Str.occurrences x y 0 x.length (x.length + 1)) y.length).length<=sizeLine)
    (hq:∀ l tk,l.map (·.1)=Txt.split x y->Q (.ref s.heap.objs.size) { s with heap:=s.heap.push { cls:=.type "list",data:=.seq (strValues l).toArray },toks:=tk }) :
    wpAny (model prog w) A (call (.builtin "str.split") [.str x t,.str y u]) Q E s:=by
 cases h1:(decide (x.length < y.length) || decide (Builtin.Str.strKind x < Builtin.Str.strKind y))
 ·cases hf:(Builtin.Str.occurrences x y 0 x.length (x.length + 1)).isEmpty
  ·refine call_meets F.slot_str_split (typeIs_str _ _ _) F.entry_str_split (F.args_str_split_2 _ _) (meets_str_split_sep x y t u h1 hy hf hsz hsz2) ?_
   show wants Q E _ { s with toks:=_,heap:=s.heap.push { cls:=.type "list",data:=.seq (strsFrom s.toks (Builtin.Str.partsBetween x (Builtin.Str.occurrences x y 0 x.length (x.length + 1)) y.length)).toArray } }
   rw [strsFrom_eq]
   exact hq (numbered s.toks _) _ ((numbered_texts _ _).trans ((if_neg (ne_true_of_eq_false h1)).trans (if_neg (ne_true_of_eq_false hf))).symm)
  ·exact call_meets F.slot_str_split (typeIs_str _ _ _) F.entry_str_split (F.args_str_split_2 _ _) (meets_str_split_not_found x y t u h1 hy hf)
     (hq [(x,t)] _ ((if_neg (ne_true_of_eq_false h1)).trans (if_pos hf)).symm)
 ·exact call_meets F.slot_str_split (typeIs_str _ _ _) F.entry_str_split (F.args_str_split_2 _ _) (meets_str_split_cannot_occur x y t u h1)
    (hq [(x,t)] _ (if_pos h1).symm)
theorem xx1:MtR X "str.split" (λ x xs H Q=>∃ z y,x=.str z /\ xs=[.str y] /\ ((y.length == 0)=false /\ z.length<=1000000) /\ ∀ r,H r=none->Q (.ref r) (upd H r (.lst ((Txt.split z y).map V.str)))):=by
 intro pins s σ H x xs v us Q I rx rv h
 obtain ⟨z,y,rfl,rfl,hz,q⟩:=h
 obtain ⟨t,rfl⟩:=rx
 obtain ⟨u,rfl,t',rfl⟩:=rv.one
 have hbig:1000010<=sizeLine:=by decide
 have hzl:z.length<=sizeLine:=by have:=hz.2; omega
 have hz2:=hz.2
 have hn:(Builtin.Str.partsBetween z (Builtin.Str.occurrences z y 0 z.length (z.length + 1)) y.length).length<=sizeLine:=by
  rw [len_partsBetween]
  have:=StrLaws.occ_length_le z y 0 z.length (z.length + 1)
  omega
 refine xm1 hz.1 hzl hn λ l tk e=>?_
 rw [<- e] at q
 refine ⟨.ref _,_,I.laid (t':=tk) (λ b o e=>Heap.get?_push_of_some _ e) (Nat.le_refl _) (show ObjOk X.prog X.w _ _ _ (.lst ((l.map (·.1)).map V.str)) from ⟨?_,strValues l,0,xk0 l,Heap.get?_push_size _ rfl⟩),rfl,q _ (I.hok.fresh (Nat.le_refl _))⟩
 rw [List.length_map,e]
 exact Nat.le_trans (split_le z y) (by omega)
theorem ul0 (ho:RE X o to) (ha:RA X (e :: es) t) (hbase:attributeBase o "startswith" X.env (eval o X.env)=eval o X.env:=by rfl)
    (hfew:((backTo cpos (starEach (e :: es) X.env)).all (λ x=>!x.1) && (backToKw cpos (keywordEach [] X.env)).all (λ x=>x.1.isSome)
     && decide ((e :: es).length + ([]:List Keyword).length + (if ([]:List Keyword).isEmpty then 0 else 1) < 30))=true:=by rfl)
    (hline:(apos.endLine == cpos.line)=true:=by rfl) (hs:starEach (e :: es) X.env=(false,eval e X.env) :: starEach es X.env:=by rfl) (hplain:(backTo cpos (starEach es X.env)).any (·.1)=false:=by rfl) :
    RE X (.Call (.Attribute o "startswith" apos) (e :: es) [] cpos) (smt3 startsR to t):=by
 refine wn1 PySem.F.slot_str_startswith PySem.F.type_str_startswith xp1 (λ z xs vs H Q μ Q3 m rx h k=>?_) ho ha hbase hfew hline hs hplain
 cases rx with
 | nil=>exact False.elim h
 | cons r1 r2 =>
  cases r2 with
  | cons _ _=>cases r1 <;> exact False.elim h
  | nil =>
   cases r1 with
   | str y=>exact ⟨z,y,rfl,rfl,k _ _ _ _ h (Kp.refl _) (.bl _) m⟩
   | _=>exact False.elim h
theorem uv0 (ho:RE X o to) (ha:RA X (e :: es) t) (hbase:attributeBase o "split" X.env (eval o X.env)=eval o X.env:=by rfl)
    (hfew:((backTo cpos (starEach (e :: es) X.env)).all (λ x=>!x.1) && (backToKw cpos (keywordEach [] X.env)).all (λ x=>x.1.isSome)
     && decide ((e :: es).length + ([]:List Keyword).length + (if ([]:List Keyword).isEmpty then 0 else 1) < 30))=true:=by rfl)
    (hline:(apos.endLine == cpos.line)=true:=by rfl) (hs:starEach (e :: es) X.env=(false,eval e X.env) :: starEach es X.env:=by rfl) (hplain:(backTo cpos (starEach es X.env)).any (·.1)=false:=by rfl) :
    RE X (.Call (.Attribute o "split" apos) (e :: es) [] cpos) (smt3 splitR to t):=by
 refine wn1 PySem.F.slot_str_split PySem.F.type_str_split xx1 (λ z xs vs H Q μ Q3 m rx h k=>?_) ho ha hbase hfew hline hs hplain
 cases rx with
 | nil=>exact False.elim h
 | cons r1 r2 =>
  cases r2 with
  | cons _ _=>cases r1 <;> exact False.elim h
  | nil =>
   cases r1 with
   | str y=>exact ⟨z,y,rfl,rfl,h.1,λ r hr=>k _ _ _ _ (h.2 r (m.free hr)) (Kp.new hr) (.ref r) (m.newL hr (wu0 _))⟩
   | _=>exact False.elim h
theorem up0 (ho:RE X o to) (ha:RA X (e :: es) t) (hbase:attributeBase o "join" X.env (eval o X.env)=eval o X.env:=by rfl)
    (hfew:((backTo cpos (starEach (e :: es) X.env)).all (λ x=>!x.1) && (backToKw cpos (keywordEach [] X.env)).all (λ x=>x.1.isSome)
     && decide ((e :: es).length + ([]:List Keyword).length + (if ([]:List Keyword).isEmpty then 0 else 1) < 30))=true:=by rfl)
    (hline:(apos.endLine == cpos.line)=true:=by rfl) (hs:starEach (e :: es) X.env=(false,eval e X.env) :: starEach es X.env:=by rfl) (hplain:(backTo cpos (starEach es X.env)).any (·.1)=false:=by rfl) :
    RE X (.Call (.Attribute o "join" apos) (e :: es) [] cpos) (smt3 joinR to t):=by
 refine wn1 PySem.F.slot_str_join PySem.F.type_str_join ul2 (λ z xs vs H Q μ Q3 m rx h k=>?_) ho ha hbase hfew hline hs hplain
 cases rx with
 | nil=>exact False.elim h
 | cons r1 r2 =>
  cases r2 with
  | cons _ _=>cases r1 <;> exact False.elim h
  | nil =>
   cases r1 with
   | ref p =>
    dsimp only [joinR] at h
    cases e0:μ p with
    | none=>rw [e0] at h; exact h.elim
    | some oo =>
     cases oo with
     | ins _ _=>rw [e0] at h; exact h.elim
     | dct _=>rw [e0] at h; exact h.elim
     | dcl _=>rw [e0] at h; exact h.elim
     | dck _=>rw [e0] at h; exact h.elim
     | lst l =>
      rw [e0] at h
      dsimp only at h
      cases e1:strs? l with
      | none=>rw [e1] at h; exact h.elim
      | some ys =>
       rw [e1] at h
       obtain ⟨ws,hv,rs⟩:=m p l e0
       have ev:=wl0 rs e1
       subst ev
       exact ⟨z,p,ys,rfl,rfl,SqL.of hv,h.1,k _ _ _ _ h.2 (Kp.refl _) (.str _) m⟩
   | _=>exact False.elim h
theorem ux2 (ho:RE X o to) (hbase:attributeBase o "pop" X.env (eval o X.env)=eval o X.env:=by rfl) (hline:(apos.endLine == cpos.line)=true:=by rfl) :
    RE X (.Call (.Attribute o "pop" apos) [] [] cpos) (pop3 to):=by
 obtain ⟨va,pa,ra⟩:=ho
 refine ⟨_,yd3 PySem.F.plainAttrs_list PySem.F.slot_list_pop PySem.F.type_list_pop wf3 pa hbase hline,λ σ H Q ρ μ Q3 s m h k=>ra σ H _ ρ μ _ s m h λ d μ1 v H1 h1 k1 r1 m1=>?_⟩
 cases r1 with
 | ref p =>
  dsimp only at h1
  cases e0:μ1 p with
  | none=>rw [e0] at h1; exact h1.elim
  | some oo =>
   cases oo with
   | ins _ _=>rw [e0] at h1; exact h1.elim
   | dct _=>rw [e0] at h1; exact h1.elim
   | dcl _=>rw [e0] at h1; exact h1.elim
   | dck _=>rw [e0] at h1; exact h1.elim
   | lst l =>
    rw [e0] at h1
    dsimp only at h1
    obtain ⟨vs,hv,rs⟩:=m1 p l e0
    have rr:=zm0 rs
    cases er:l.reverse with
    | nil=>rw [er] at h1; exact h1.elim
    | cons d r =>
     rw [er] at h1 rr
     generalize ev:vs.reverse=vr at rr
     cases rr with
     | cons r1 r2 =>
      rename_i w ws
      have e1:vs=ws.reverse ++ [w]:=by rw [<- List.reverse_reverse vs,ev,List.reverse_cons]
      subst e1
      refine ⟨.inl ⟨rfl,_,SqL.of hv⟩,p,_,w,rfl,rfl,hv,by simp,?_⟩
      rw [List.dropLast_concat]
      exact k _ _ _ _ h1 (k1.trans (Kp.wr hv)) (r1.mono (Kp.wr hv)) (m1.wr hv (zm0 r2))
 | _=>exact False.elim h1
end
end Pv
namespace Pv
open PySem PySem.Spec PyProof.Rows L2
noncomputable def zo0 (cells:List (Str × Addr)):List (Str × NameKind)->List (Str × Addr)->List (Str × Addr)
 | [],acc=>acc
 | (n,k) :: r,acc=>if k == .free then zo0 cells r ((n,(cells.lookup n).getD 0) :: acc) else zo0 cells r acc
theorem yx0 {scope:Scope} {env:Env} (h:∀ y ∈ scope.names,y.2=.free->(env.cells.lookup y.1).isSome=true):closureFor scope env=pure (zo0 env.cells scope.names []):=by
 unfold closureFor
 have key:∀ (l:List (Str × NameKind)) (acc:List (Str × Addr)),(∀ y ∈ l,y.2=.free->(env.cells.lookup y.1).isSome=true) ->
     (forIn l acc (λ x r=>if (x.2 == NameKind.free)=true then do let c <- cellOf env x.1; pure (ForInStep.yield ((x.1,c) :: r)) else pure (ForInStep.yield r)):Sem (List (Str × Addr)))=pure (zo0 env.cells l acc):=by
  intro l
  induction l with
  | nil=>intro acc _; rfl
  | cons y r ih =>
   intro acc hl
   obtain ⟨n,k⟩:=y
   rw [List.forIn_cons]
   have ih':=λ a=>ih a λ z hz=>hl z (List.mem_cons_of_mem _ hz)
   by_cases hk:k=.free
   ·subst hk
    have hs:=hl (n,.free) (List.mem_cons_self ..) rfl
    obtain ⟨c,hc⟩:=Option.isSome_iff_exists.mp hs
    have ec:cellOf env n=pure c:=by unfold cellOf; rw [hc]
    simp only [zo0,ec,pure_bind,beq_self_eq_true,if_true,hc,Option.getD_some]
    exact ih' _
   ·have hk':(k == NameKind.free)=false:=by simpa using hk
    simp only [zo0,hk',Bool.false_eq_true,if_false,pure_bind]
    exact ih' _
 have:=key scope.names [] h
 refine Eq.trans ?_ this
 refine Eq.trans (bind_pure (forIn scope.names ([]:List (Str × Addr)) _:Sem (List (Str × Addr)))) ?_
 congr 1
theorem tr0 {cells:List (Str × Addr)} {x:Str} {c:Addr}:∀ (l:List (Str × NameKind)) (acc:List (Str × Addr)),(∀ y ∈ l,y.2=.free->(cells.lookup y.1).isSome=true)->(acc.lookup x=some c->cells.lookup x=some c) ->
    (zo0 cells l acc).lookup x=some c->cells.lookup x=some c
 | [],acc,_,ha,h=>ha h
 | (n,k) :: r,acc,hl,ha,h=>by
  unfold zo0 at h
  split at h
  ·next hk =>
   refine tr0 r _ (λ z hz=>hl z (List.mem_cons_of_mem _ hz)) (λ h2=>?_) h
   rw [List.lookup_cons] at h2
   split at h2
   ·next e =>
    have e':x=n:=eq_of_beq e
    subst e'
    obtain ⟨c',hc⟩:=Option.isSome_iff_exists.mp (hl (x,k) (List.mem_cons_self ..) (eq_of_beq hk))
    rw [hc] at h2
    simp only [Option.getD_some,Option.some.injEq] at h2
    rw [hc,h2]
   ·exact ha h2
  ·exact tr0 r acc (λ z hz=>hl z (List.mem_cons_of_mem _ hz)) ha h
theorem sr0 {cells:List (Str × Addr)} {x:Str}:∀ (l:List (Str × NameKind)) (acc:List (Str × Addr)),((∃ c,acc.lookup x=some c) \/ (x,NameKind.free) ∈ l)->∃ c,(zo0 cells l acc).lookup x=some c
 | [],acc,h=>by
  rcases h with h | h
  ·exact h
  ·cases h
 | (n,k) :: r,acc,h=>by
  unfold zo0
  split
  ·next hk =>
   refine sr0 r _ ?_
   by_cases e:x=n
   ·subst e
    left
    exact ⟨(cells.lookup x).getD 0,by rw [List.lookup_cons]; simp⟩
   ·rcases h with ⟨c,h⟩ | h
    ·left
     refine ⟨c,?_⟩
     rw [List.lookup_cons]
     have:(x == n)=false:=by simpa using e
     rw [this]; exact h
    ·right
     rcases List.mem_cons.mp h with h | h
     ·exact absurd (congrArg Prod.fst h) e
     ·exact h
  ·next hk =>
   refine sr0 r acc ?_
   rcases h with h | h
   ·exact .inl h
   ·rcases List.mem_cons.mp h with h | h
    ·cases h; exact absurd rfl hk
    ·exact .inr h
theorem CompSc.free {X:Cx} {NN:List Str} {scope:Scope} {js:List (Option Nat)} (hcell:∀ y ∈ scope.names,y.2 ≠ .cell) (hk:scope.kind=.function) (hfn:X.env.scope.kind=.function)
    (hn:∀ y ∈ scope.names,y.2=.local->scope.names.lookup y.1=some .local) (hfree:∀ y ∈ scope.names,y.2=.free->X.env.scope.names.lookup y.1=some .cell) (hlook:∀ y ∈ scope.names,y.2=.free->scope.names.lookup y.1=some .free)
    (hcl:∀ x,X.env.scope.names.lookup x=some .cell->(X.env.cells.lookup x).isSome=true) (len:js.length=NN.length)
    (hout:∀ i ∈ List.range js.length,∀ j,js.getD i none=some j->∃ x,NN[i]?=some x /\ X.N[j]?=some x /\ scope.names.lookup x=some .free) :
    CompSc X NN scope (zo0 X.env.cells scope.names []) js where
 clos:=yx0 λ y hy e=>hcl _ (hfree y hy e)
 cell:=hcell
 kind:=hk
 names:=hn
 sub:=λ x c h=>tr0 scope.names [] (λ y hy e=>hcl _ (hfree y hy e)) (λ h=>by simp at h) h
 has:=λ x h=>by
  refine sr0 scope.names [] (.inr ?_)
  have hm:∃ k,(x,k) ∈ scope.names /\ (k=.free \/ k=.cell):=by
   have key:∀ kk,(relabel scope X.env).names.lookup x=some kk->(kk=.cell \/ kk=.free)->∃ k,(x,k) ∈ scope.names /\ (k=.free \/ k=.cell):=λ kk hkk hc=>by
    have hmem:=sh0 hkk
    obtain ⟨⟨n,k⟩,hy,e⟩:=List.mem_map.mp hmem
    dsimp only at e
    split at e
    ·next hq =>
     cases e
     simp only [Bool.and_eq_true] at hq
     exact ⟨k,hy,.inl (by simpa using hq.1.1)⟩
    ·cases e
     exact ⟨kk,hy,hc.symm⟩
   rcases h with h | h
   ·exact key _ h (.inl rfl)
   ·exact key _ h (.inr rfl)
  obtain ⟨k,hk1,hk2⟩:=hm
  rcases hk2 with rfl | rfl
  ·exact hk1
  ·exact absurd rfl (hcell _ hk1)
 len:=len
 out:=λ i j h=>by
  have hi:i < js.length:=by
   rcases Nat.lt_or_ge i js.length with z | z
   ·exact z
   ·rw [List.getElem?_eq_none z] at h; cases h
  obtain ⟨x,e1,e2,e3⟩:=hout i (List.mem_range.mpr hi) j (by rw [List.getD_eq_getElem?_getD,h]; rfl)
  have hf:=hfree (x,.free) (sh0 e3) rfl
  refine ⟨x,e1,e2,.inr (.inl hf),by rw [hf]; simp,?_⟩
  left
  have key:∀ (l:List (Str × NameKind)),l.lookup x=some .free->(l.map λ (n,k)=>if (k == NameKind.free && X.env.scope.kind == .function && X.env.kindOf n == some .cell) then (n,NameKind.cell) else (n,k)).lookup x=some .cell:=λ l=>by
   induction l with
   | nil=>intro h; simp at h
   | cons y r ih =>
    obtain ⟨n,k⟩:=y
    intro h
    rw [List.lookup_cons] at h
    rw [List.map_cons,List.lookup_cons]
    by_cases e:x=n
    ·subst e
     simp only [beq_self_eq_true,Option.some.injEq] at h
     subst h
     have hkind:(X.env.kindOf x == some NameKind.cell)=true:=by
      show (X.env.scope.names.lookup x == some NameKind.cell)=true
      rw [hf]; rfl
     simp [hfn,hkind]
    ·have e':(x == n)=false:=by simpa using e
     rw [e'] at h
     have ih':=ih h
     by_cases hq:(k == NameKind.free && X.env.scope.kind == ScopeKind.function && X.env.kindOf n == some NameKind.cell)=true
     ·simp only [hq,if_true,e']; exact ih'
     ·simp only [hq,Bool.false_eq_true,if_false,e']; exact ih'
  exact key _ e3
theorem zo2 {CX:CXT} {P:Program} {w:World} {K:Fg} {mg:Str->Option Value} {base:Heap} {N:List Str} {qual:Str} {sc:Scope} {f:Addr} {cdv:Value} {A:Around} {outer:List Env} {s:Shared} {H:Hp} {E:XK} {NN:List Str} {scope:Scope} {js:List (Option Nat)}
    (hcell:∀ y ∈ scope.names,y.2 ≠ .cell:=by decide +kernel) (hk:scope.kind=.function:=by rfl) (hfn:sc.kind=.function:=by rfl)
    (hn:∀ y ∈ scope.names,y.2=.local->scope.names.lookup y.1=some .local:=by decide +kernel) (hfree:∀ y ∈ scope.names,y.2=.free->sc.names.lookup y.1=some .cell:=by decide +kernel)
    (hlook:∀ y ∈ scope.names,y.2=.free->scope.names.lookup y.1=some .free:=by decide +kernel) (len:js.length=NN.length:=by rfl)
    (hout:∀ i ∈ List.range js.length,∀ j ∈ (js.getD i none).toList,∃ x ∈ NN[i]?.toList,N[j]?=some x /\ scope.names.lookup x=some .free:=by decide +kernel) :
    CompSc (cxOf CX P w K mg base N qual sc f cdv A outer s H E).nox NN scope (zo0 (cxOf CX P w K mg base N qual sc f cdv A outer s H E).nox.env.cells scope.names []) js :=
 CompSc.free (X:=(cxOf CX P w K mg base N qual sc f cdv A outer s H E).nox) hcell hk hfn hn hfree hlook (λ x h=>by
  obtain ⟨c,hc⟩:=zx0 (n:=_) h
  exact Option.isSome_iff_exists.mpr ⟨c,hc⟩) len λ i hi j hj=>by
   obtain ⟨x,h1,h2,h3⟩:=hout i hi j (by rw [hj]; simp)
   exact ⟨x,by simpa using h1,h2,h3⟩
end Pv
namespace Pv
open PySem PySem.Spec PyProof.Rows L2
section
variable {X:Cx} {NN:List Str} {scope:Scope} {cl:List (Str × Addr)} {js:List (Option Nat)}
theorem vo2 {elt target iter:Expr} {ifs:List Expr} {pos:Pos} {wi:TI} {g:TG} {tc:TT} {te:TE} (hc:X.calm=true) (S:CompSc X NN scope cl js) (hi:PI X target iter wi)
    (hg:∀ C fp s₀ H₀ pn,PG (sc0 X NN scope cl C fp s₀ H₀ pn) target g) (ht:∀ C fp s₀ H₀ pn,PTs (sc0 X NN scope cl C fp s₀ H₀ pn) ifs tc) (he:∀ C fp s₀ H₀ pn,PE (sc0 X NN scope cl C fp s₀ H₀ pn) elt te)
    (hs:∀ x,foldedSetIterable iter X.env x=pure x) {use:Option (Value->Sem Unit)} {Q':Value->Shared->Prop} {pins:List (Addr × Obj)} {s:Shared} {σ:L2.St} {H:Hp} {Q:VK} (I:Inv X pins σ H s) (h:tl1 js wi g tc te σ H Q)
    (hu:∀ (p0 C:Addr) (H':Hp) (s':Shared) (m':Str->Option Value),Inv X pins σ H' s'->s'.heap.Ns C m'->H' C=none->C ≠ X.env.locals->X.s₀.heap.objs.size<=C->(∀ x c,X.env.cells.lookup x=some c->c ≠ C)->(∀ p ∈ X.pn ++ pins,p.1 ≠ C)->Q (.ref p0) H' ->
     compPost (model X.prog X.w) X.A X.xe use Q' (.ref p0) C (.ok .next) s') :
    wpAny (model X.prog X.w) X.A (comprehension (.ListComp elt [⟨target,iter,ifs,0⟩] scope pos) scope X.env (firstIterPos [⟨target,iter,ifs,0⟩] pos) (newList []) (firstAsync [⟨target,iter,ifs,0⟩]) (firstIter [⟨target,iter,ifs,0⟩] X.env) use) Q' X.xe s:=by
 refine wpAny_comprehension_free (use:=use) rfl hs S.clos S.kind S.names (thn (hi pins s σ H _ I h) λ xv s1 h1=>thn h1 λ itv s2 h2=>?_)
 obtain ⟨it,fp,tn,J,H2,rfl,I2,T,st2,f2,hW⟩:=h2
 refine wpAny_newObj_type (wpAny_newFunctionEnv S.cell (by intro y hy; simp at hy) (λ h₁ hns₁ hsb₁=>?_) S.kind)
 dsimp only at hns₁ hsb₁ ⊢
 have hD:H2 s2.heap.objs.size=none:=I2.hok.fresh (Nat.le_refl _)
 have I3:Inv X pins σ (upd H2 s2.heap.objs.size (.lst [])) { s2 with heap:=s2.heap.push { cls:=.type "list",dict:=none,data:=.seq ([]:List Value).toArray } } :=
  I2.lnew (t':=s2.toks) (its:=[]) .nil (by rw [sizeLine_eq]; decide)
 generalize hsD:({ s2 with heap:=s2.heap.push { cls:=.type "list",dict:=none,data:=.seq ([]:List Value).toArray } }:Shared)=sD at I3
 have eh:sD.heap=s2.heap.push { cls:=.type "list",dict:=none,data:=.seq ([]:List Value).toArray }:=by rw [<- hsD]
 have es:∀ (h:Heap) (tk:Nat),({ s2 with heap:=h,toks:=tk }:Shared)={ sD with heap:=h,toks:=tk }:=λ h tk=>by rw [<- hsD]
 have hsz:s2.heap.objs.size < sD.heap.objs.size:=by rw [eh,Heap.size_push]; exact Nat.lt_succ_self _
 rw [<- eh] at hns₁ hsb₁ ⊢
 generalize hp0:s2.heap.objs.size=p0 at *
 have up:∀ b u,s2.heap.get? b=some u->sD.heap.get? b=some u:=λ b u e=>by rw [eh]; exact Heap.get?_push_of_some _ e
 have k:∀ b u,sD.heap.get? b=some u->h₁.get? b=some u:=λ b u e=>hsb₁.extBut b u (Nat.ne_of_lt (Heap.lt_size e)) (Heap.get?_push_of_some _ e)
 have f3:∀ b ∈ fp,FpOk X pins (upd H2 p0 (.lst [])) b /\ b < sD.heap.objs.size:=λ b hb=>by
  obtain ⟨o,ho,_⟩:=T.obj 0 _ st2 b hb
  have hlt:b < p0:=by rw [<- hp0]; exact Heap.lt_size ho
  refine ⟨⟨?_,(f2 b hb).2⟩,Nat.lt_trans hlt hsz⟩
  rw [vc0 (Nat.ne_of_lt hlt)]; exact (f2 b hb).1
 obtain ⟨W,⟨m0,w0⟩,turn⟩:=hW p0 hD
 have I4:=uz0 (tk:=s2.toks + ([]:List (Str × Value)).length) hc S I3 f3 hns₁ k
 have st4:tn 0 h₁:=T.keep 0 _ _ st2 λ b _ o e=>k b o (up b o e)
 rw [es]
 generalize hX':sc0 X NN scope cl sD.heap.objs.size fp sD (upd H2 p0 (.lst [])) (X.pn ++ pins)=X' at I4
 have a1:X'.env=compEnvC scope cl sD.heap.objs.size X.env:=by rw [<- hX']
 have a2:X'.prog=X.prog:=by rw [<- hX']
 have a3:X'.w=X.w:=by rw [<- hX']
 have a4:X'.A=X.A:=by rw [<- hX']
 have a5:X'.K=X.K:=by rw [<- hX']
 have a6:X'.calm=true:=by rw [<- hX']; exact hc
 have a7:X'.xe=λ _ _=>False:=by rw [<- hX']
 have a8:X'.ex=fp:=by rw [<- hX']
 have T':Turn X'.prog X'.w X'.K target J fp it tn:=by rw [a2,a3,a5]; exact T
 have hg':PG X' target g:=by rw [<- hX']; exact hg _ _ _ _ _
 have ht':PTs X' ifs tc:=by rw [<- hX']; exact ht _ _ _ _ _
 have he':PE X' elt te:=by rw [<- hX']; exact he _ _ _ _ _
 have fin:∀ {σ':L2.St} {H':Hp} {s':Shared},Inv X' [] σ' H' s'->Q (.ref p0) H'->compPost (model X.prog X.w) X.A X.xe use Q' (.ref p0) sD.heap.objs.size (.ok .next) s':=λ {σ' H' s'} I' q=>by
  obtain ⟨m',hn',_⟩:=I'.loc
  rw [a1] at hn'
  have u:Un (frs X.stack) fp (upd H2 p0 (.lst [])) H' sD.heap s'.heap:=by
   have:=I'.base
   rw [<- hX'] at this
   exact this
  have hch:∀ b ∈ fp,(b ∈ X.ex \/ X.s₀.heap.objs.size<=b) /\ b ≠ X.env.locals /\ (∀ x c,X.env.cells.lookup x=some c->c ≠ b) /\ ∀ p ∈ X.pn ++ pins,p.1 ≠ b:=λ b hb=>by
   obtain ⟨_,z1,_,z3,z4,z5⟩:=(f3 b hb).1
   exact ⟨z3,z1,z4,z5⟩
  have os':s'.os=sD.os:=by
   have:=I'.os
   rw [<- hX'] at this
   exact this
  have hok':HOk X.prog X.w H' s'.heap:=by
   have:=I'.hok
   rw [<- hX'] at this
   exact this
  have I5:Inv X pins σ H' s':=I3.call' os' u hok' I'.bare hch
  have hC:H' sD.heap.objs.size=none:=by
   have:=I'.free
   rw [a1] at this
   exact this
  refine hu p0 _ H' s' m' I5 hn' hC (Nat.ne_of_gt I3.lt) I3.sz (λ x c e=>?_) (λ p hp=>?_) q
  ·obtain ⟨v,o,ho,_⟩:=I3.cell x c e
   exact Nat.ne_of_lt (Heap.lt_size ho)
  ·exact Nat.ne_of_lt (Heap.lt_size (I3.pin p hp).1)
 have fp4:∀ {H':Hp},(∀ b ∈ fp,H' b=none)->∀ b ∈ fp,FpOk X' [] H' b:=λ hn b hb=>by
  obtain ⟨_,z1,z2,z3,z4,z5⟩:=(f3 b hb).1
  rw [<- hX']
  refine ⟨hn b hb,Nat.ne_of_lt (f3 b hb).2,λ z=>?_,.inl hb,λ x c e=>z4 x c (S.sub x c e),λ p hp=>z5 p (by simpa using hp)⟩
  rcases List.mem_cons.mp (I3.stkSub _ z) with z | z
  ·exact z1 z
  ·exact z2 z
 have loop:∀ s₃:Shared,Inv X' [] (sm0 js σ) (upd H2 p0 (.lst [])) s₃->tn 0 s₃.heap ->
     codeAny (model X.prog X.w) X.A (.compLoop (.ListComp elt [⟨target,iter,ifs,0⟩] scope pos) 0 (.ref it) (.ref p0) (compEnvC scope cl sD.heap.objs.size X.env)) (compPost (model X.prog X.w) X.A X.xe use Q' (.ref p0) sD.heap.objs.size) s₃:=by
  intro s₃ I₃ st₃
  refine codeAny_loop rfl (λ n s'=>∃ i σ' H',Inv X' [] σ' H' s' /\ tn i s'.heap /\ (∀ b ∈ fp,H' b=none) /\ W i n σ' H') (λ n s' hI=>?_) m0 ⟨0,sm0 js σ,_,I₃,st₃,λ b hb=>(f3 b hb).1.1,w0⟩
  obtain ⟨i,σ3,H3,J3,st3,fr3,w3⟩:=hI
  have tr:=turn i n σ3 H3 w3
  show wpAny _ X.A ((compTurn (.ListComp elt [⟨target,iter,ifs,0⟩] scope pos) 0 (.ref it) (.ref p0) (compEnvC scope cl sD.heap.objs.size X.env)).onRaise (λ x=>do noteFrame x (compEnvC scope cl sD.heap.objs.size X.env); theTreesLotGoes x)) _ _ s'
  refine wpAny_noted ?_
  rw [compTurn_list,<- a1,<- a2,<- a3,<- a4]
  have nof:∀ {α:Type} {t:Sem α} {Q':α->Shared->Prop} {s'':Shared} {E:Value->Shared->Prop},wpAny (model X'.prog X'.w) X'.A t Q' X'.xe s''->wpAny (model X'.prog X'.w) X'.A t Q' E s'':=λ h=>wpAny_mono h (λ _ _ q=>q) λ _ _ z=>by rw [a7] at z; exact z.elim
  rcases tr with ⟨stop,qn⟩ | ⟨go,step⟩
  ·refine wpAny_bind (wpAny_standAt (wpAny_bind (nof (thn (T'.done X' rfl rfl rfl a6 i [] s' σ3 H3 X'.xe J3 (fp4 fr3) st3 stop) λ r s4 ⟨hr,J4⟩=>?_))))
   subst hr
   refine wpAny_pure ?_
   show compPost (model X'.prog X'.w) X'.A X.xe use Q' (.ref p0) sD.heap.objs.size (.ok .next) s4
   rw [a2,a3,a4]
   exact fin J4 qn
  ·refine wpAny_bind (wpAny_standAt (wpAny_bind (nof (thn (T'.item X' rfl rfl rfl a6 i [] s' σ3 H3 X'.xe J3 (fp4 fr3) st3 go) λ r s4 ⟨u,hr,h4⟩=>?_))))
   subst hr
   refine wpAny_bind (nof (thn h4 λ _ s5 ⟨x,H5,I5,r5,y5,st5,fr5⟩=>?_))
   have I5':=I5.pinned (fp4 fr5) (T.obj _ _ st5)
   refine wpAny_bind (nof (thn (hg' _ s5 σ3 H5 x u _ I5' r5 (step x H5 y5)) λ _ s6 ⟨σ6,H6,I6,q6⟩=>?_))
   refine wpAny_bind (nof (thn (ht' _ s6 σ6 H6 _ I6 q6) λ ok s7 ⟨H7,I7,q7⟩=>?_))
   have again:∀ {s8:Shared} {σ8:L2.St} {H8:Hp},Inv X' ([] ++ zt0 fp s5.heap) σ8 H8 s8->(∃ m',m' < n /\ W (i + 1) m' σ8 H8)->∃ m,m < n /\ ∃ i σ' H',Inv X' [] σ' H' s8 /\ tn i s8.heap /\ (∀ b ∈ fp,H' b=none) /\ W i m σ' H':=λ {s8 σ8 H8} I8 ⟨m',hm,w8⟩=>by
    refine ⟨m',hm,i + 1,σ8,H8,I8.unpinned,T.keep _ _ _ st5 λ b hb o e=>(I8.pin (b,o) (List.mem_append_right _ (List.mem_append_right _ (tg0 hb e)))).1,λ b hb=>?_,w8⟩
    obtain ⟨o,e,d⟩:=T.obj _ _ st5 b hb
    exact (I8.pin (b,o) (List.mem_append_right _ (List.mem_append_right _ (tg0 hb e)))).2.1
   cases ok with
   | false=>exact wpAny_pure ⟨rfl,again I7 q7⟩
   | true =>
    refine wpAny_bind (wpAny_bind (nof (thn (he' _ s7 σ6 H7 _ I7 q7) λ xv s8 ⟨y,H8,I8,r8,ys,q8,hlen,q9⟩=>wpAny_bind (nof ?_))))
    refine thn (yq0 (X:=X') _ s8 σ6 H8 (.ref p0) [y] (.ref p0) [xv] (λ v H9=>v=.non /\ H9=upd H8 p0 (.lst (ys ++ [y]))) I8 rfl (.cons r8 .nil) ⟨p0,ys,y,rfl,rfl,q8,hlen,rfl,rfl⟩) λ rv s9 ⟨v9,H9,I9,_,_,e9⟩=>?_
    subst e9
    exact wpAny_pure (wpAny_pure ⟨rfl,again I9 q9⟩)
 exact codeAny_compStart_list (loop _ I4 st4) (T.self X.A 0 _ _ _ st4 (loop _ I4 st4))
theorem tj2 {i:Nat} {x:Str} {px apos:Pos} {elt target iter:Expr} {ifs:List Expr} {pos:Pos} {wi:TI} {g:TG} {tc:TT} {te:TE} (hN:X.N.Nodup) (hi':X.N[i]?=some x) (hl:X.env.scope.names.lookup x=some .local) (hc:X.calm=true) (S:CompSc X NN scope cl js) (hi:PI X target iter wi)
    (hg:∀ C fp s₀ H₀ pn,PG (sc0 X NN scope cl C fp s₀ H₀ pn) target g) (ht:∀ C fp s₀ H₀ pn,PTs (sc0 X NN scope cl C fp s₀ H₀ pn) ifs tc) (he:∀ C fp s₀ H₀ pn,PE (sc0 X NN scope cl C fp s₀ H₀ pn) elt te)
    (hs:∀ x,foldedSetIterable iter X.env x=pure x) (hw:swapsWith (.ListComp elt [⟨target,iter,ifs,0⟩] scope pos) (some (.Name x px)) apos.line X.env=pure true) :
    PS X (.Assign [.Name x px] (.ListComp elt [⟨target,iter,ifs,0⟩] scope pos) apos) (tAsg (tl1 js wi g tc te) (sm2 i)):=by
 intro pins s σ H D I h
 rw [exec_Assign_Name_used _ _ _ _ hw]
 refine wpAny_bind (wpAny_standAt (wpAny_bind ?_))
 show wpAny _ _ (comprehension (.ListComp elt [⟨target,iter,ifs,0⟩] scope pos) scope X.env (firstIterPos [⟨target,iter,ifs,0⟩] pos) (newList []) (firstAsync [⟨target,iter,ifs,0⟩]) (firstIter [⟨target,iter,ifs,0⟩] X.env) (some (assign (.Name x px) X.env)) >>= λ _=>pure ()) _ _ s
 refine wpAny_bind (wpAny_mono (vo2 (use:=some (assign (.Name x px) X.env)) (Q':=λ _ s'=>SP X pins D .next s') hc S hi hg ht he hs I h λ p0 C H' s' m' I5 hn hC n1 n2 n3 n4 q=>?_) (λ _ s' hq=>wpAny_pure (wpAny_pure hq)) λ _ _ e=>e)
 show wpAny _ _ (assign (.Name x px) X.env (.ref p0)) _ _ s'
 refine wpAny_assign_Name (xy0 I5 hN hi' (.inl hl) (v:=.ref p0) rfl (λ s2 I6 ⟨b,sb,hb⟩=>?_) (.inr hl))
 have nb:C ≠ b:=by
  rcases hb with hb | hb
  ·rw [hb]; exact n1
  ·exact Ne.symm (n3 x b hb)
 exact ⟨m',hn.sameBut sb nb,λ h' sb'=>⟨_,H',I6.turned (t':=s2.toks) (λ b o hb e=>sb'.extBut b o hb e) hC n1 (.inr n2) n3 n4,q⟩⟩
end
section
variable {X:Cx} {elt target iter:Expr} {ifs:List Expr} {pos:Pos} {ti:TI3} {g:TG3} {tc:TT3} {te:TE3} {NN:List Str} {scope:Scope} {cl:List (Str × Addr)} {js:List (Option Nat)}
theorem wu1 {i:Nat} {x:Str} {px apos:Pos} (hN:X.N.Nodup) (hc:X.calm=true) (S:CompSc X NN scope cl js) (hi:RI X target iter ti) (hg:∀ C fp s₀ H₀ pn,RG (sc0 X NN scope cl C fp s₀ H₀ pn) target g)
    (ht:∀ C fp s₀ H₀ pn,RTs (sc0 X NN scope cl C fp s₀ H₀ pn) ifs tc) (he:∀ C fp s₀ H₀ pn,RE (sc0 X NN scope cl C fp s₀ H₀ pn) elt te)
    (hs:∀ x,foldedSetIterable iter X.env x=pure x) (hi':X.N[i]?=some x:=by rfl) (hl:X.env.scope.names.lookup x=some .local:=by rfl)
    (hw:swapsWith (.ListComp elt [⟨target,iter,ifs,0⟩] scope pos) (some (.Name x px)) apos.line X.env=pure true:=by rfl):RS X (.Assign [.Name x px] (.ListComp elt [⟨target,iter,ifs,0⟩] scope pos) apos) (set3 i (comp3 js ti g tc te)):=by
 obtain ⟨wi,pi,ri⟩:=hi
 let gU:TG:=λ v σ H Q=>∀ (r:TG3),r=g->∃ d ρ μ Q3,RSt X.K H ρ σ /\ RelM X.K μ H /\ RelD X.K H d v /\ g d ρ μ Q3 /\ (∀ ρ' μ' σ' H',Q3 ρ' μ'->Kp H H'->RSt X.K H' ρ' σ'->RelM X.K μ' H'->Q σ' H')
 let tU:TT:=λ σ H Q=>∃ ρ μ Q3,RSt X.K H ρ σ /\ RelM X.K μ H /\ tc ρ μ Q3 /\ (∀ b μ' H',Q3 b μ'->Kp H H'->RelM X.K μ' H'->Q b H')
 let eU:TE:=λ σ H Q=>∃ ρ μ Q3,RSt X.K H ρ σ /\ RelM X.K μ H /\ te ρ μ Q3 /\ Ks X.K H Q3 Q
 have hg':∀ C fp s₀ H₀ pn,PG (sc0 X NN scope cl C fp s₀ H₀ pn) target gU:=λ C fp s₀ H₀ pn=>by
  obtain ⟨tv,p,r⟩:=hg C fp s₀ H₀ pn
  intro pins s σ H v u Q I rv h
  obtain ⟨d,ρ,μ,Q3,a1,a2,a3,a4,a5⟩:=h g rfl
  exact p pins s σ H v u Q I rv (r v d σ H Q ρ μ Q3 a1 a2 a3 a4 a5)
 have ht':∀ C fp s₀ H₀ pn,PTs (sc0 X NN scope cl C fp s₀ H₀ pn) ifs tU:=λ C fp s₀ H₀ pn=>by
  obtain ⟨tv,p,r⟩:=ht C fp s₀ H₀ pn
  intro pins s σ H Q I h
  obtain ⟨ρ,μ,Q3,a1,a2,a3,a4⟩:=h
  exact p pins s σ H Q I (r σ H Q ρ μ Q3 a1 a2 a3 a4)
 have he':∀ C fp s₀ H₀ pn,PE (sc0 X NN scope cl C fp s₀ H₀ pn) elt eU:=λ C fp s₀ H₀ pn=>by
  obtain ⟨tv,p,r⟩:=he C fp s₀ H₀ pn
  intro pins s σ H Q I h
  obtain ⟨ρ,μ,Q3,a1,a2,a3,a4⟩:=h
  exact p pins s σ H Q I (r σ H Q ρ μ Q3 a1 a2 a3 a4)
 have rd:RdE X.K (tl1 js wi gU tU eU) (comp3 js ti g tc te):=RdE.comp ri (λ v d σ H Q ρ μ Q3 a1 a2 a3 a4 a5 _ _=>⟨d,ρ,μ,Q3,a1,a2,a3,a4,a5⟩) (λ σ H Q ρ μ Q3 a1 a2 a3 a4=>⟨ρ,μ,Q3,a1,a2,a3,a4⟩) (λ σ H Q ρ μ Q3 a1 a2 a3 a4=>⟨ρ,μ,Q3,a1,a2,a3,a4⟩)
 exact ⟨_,tj2 hN hi' hl hc S pi hg' ht' he' hs hw,λ σ H D ρ μ D3 s m h k=>rd σ H _ ρ μ _ s m h λ d μ1 v H1 h1 k1 r1 m1=>k.nx _ _ _ _ h1 k1 ((s.mono k1).set i r1) m1⟩
theorem vu1 {i:Nat} {x:Str} {px apos:Pos} (hN:X.N.Nodup) (hf:∀ y ∈ scope.names,y.2 ≠ .free) (hcl:∀ y ∈ scope.names,y.2 ≠ .cell) (hn:∀ y ∈ scope.names,y.2=.local->scope.names.lookup y.1=some .local) (hi:RI X target iter ti) (hg:∀ C fp s₀ H₀ pn,RG (sc0 X NN scope [] C fp s₀ H₀ pn) target g)
    (ht:∀ C fp s₀ H₀ pn,RTs (sc0 X NN scope [] C fp s₀ H₀ pn) ifs tc) (he:∀ C fp s₀ H₀ pn,RE (sc0 X NN scope [] C fp s₀ H₀ pn) elt te) (hc:X.calm=true:=by rfl) (hk:scope.kind=.function:=by rfl)
    (hs:∀ x,foldedSetIterable iter X.env x=pure x:=by intro _; rfl) (hi':X.N[i]?=some x:=by rfl) (hl:X.env.scope.names.lookup x=some .local:=by rfl)
    (hw:swapsWith (.ListComp elt [⟨target,iter,ifs,0⟩] scope pos) (some (.Name x px)) apos.line X.env=pure true:=by rfl):RS X (.Assign [.Name x px] (.ListComp elt [⟨target,iter,ifs,0⟩] scope pos) apos) (set3 i (comp3 (NN.map λ _=>none) ti g tc te)) :=
 wu1 hN hc (CompSc.closed hf hcl hk hn) hi hg ht he hs hi' hl hw
end
end Pv
namespace L2
open PySem PySem.Spec PyProof.Rows
section
variable {X:Cx}
noncomputable def rSm:R2:=λ x y H Q=>∃ z k,x=.str z /\ y=.int k /\ (1 < k /\ k<=1000) /\ (0 < z.length /\ z.length<=1000) /\ ∀ z':Str,z'.length=z.length * k.toNat->Q (.str z') H
theorem wg1 (x:Str):∀ (n:Nat) (a:Array Nat),((List.replicate n x.cps).foldl (· ++ ·) a).size=a.size + x.length * n
 | 0,a=>by simp
 | n + 1,a=>by
  rw [List.replicate_succ,List.foldl_cons,wg1 x n,Array.size_append,Nat.mul_succ]
  show a.size + x.cps.size + x.length * n=_
  have:x.cps.size=x.length:=rfl
  omega
theorem xl2:OpR X (binaryOp .Mult) rSm:=by
 intro pins s σ H x y v u Q I rx ry h
 obtain ⟨z,k,rfl,rfl,⟨k1,k2⟩,⟨z1,z2⟩,q⟩:=h
 obtain ⟨t,rfl⟩:=rx
 obtain ⟨t',rfl⟩:=ry
 have hm:z.length * k.toNat<=1000000:=Nat.le_trans (Nat.mul_le_mul z2 (show k.toNat<=1000 by omega)) (by decide)
 have hs:z.length * k.toNat<=sizeLine:=Nat.le_trans hm (by decide)
 have c1:¬ k < 1:=by omega
 have c2:(k == 1 || z.length == 0)=false:=by
  have a1:(k == 1)=false:=by simp; omega
  have a2:(z.length == 0)=false:=by simp; omega
  rw [a1,a2]; rfl
 refine P.mul_str (by rw [decide_eq_false (by omega),decide_eq_false (by omega)]; rfl) (λ _ _=>?_) (λ _ _=>by unfold Builtin.Str.tooLong; simp; exact hs) ?_
 ·have h1:(1000:Int)<=(2 ^ 63 - 1) / k:=(Int.le_ediv_iff_mul_le (by omega)).mpr (by omega)
  omega
 ·rw [if_neg c1,c2]
  have el:(⟨(List.replicate k.toNat z.cps).foldl (· ++ ·) #[]⟩:Str).length=z.length * k.toNat:=by
   show Array.size _=_
   rw [wg1]; simp
  exact ⟨by show Str.length _<=sizeLine; rw [el]; exact hs,.str _,H,I.tok _,⟨_,rfl⟩,q _ el⟩
end
end L2
namespace Pv
open PySem L2
noncomputable def ys0:R3:=λ x y μ Q=>match x,y with
 | .str z,.int k=>(1 < k /\ k<=1000) /\ (0 < z.length /\ z.length<=1000) /\ ∀ z':Str,z'.length=z.length * k.toNat->Q (.str z') μ
 | _,_=>False
noncomputable def sixR:R3:=λ x y μ Q=>match x,y with
 | .str z,.int i=>z.length<=sizeLine /\ ∃ c,L2.atI z.cps.toList i=some c /\ Q (.str ⟨#[c]⟩) μ
 | _,_=>False
noncomputable def inSR (neg:Bool):R3:=λ x y μ Q=>match x,y with
 | .str z,.ref p=>match μ p with
  | some (.lst l)=>match strs? l with
   | some zs=>Q (.bl (if neg then !zs.contains z else zs.contains z)) μ
   | none=>False
  | _=>False
 | _,_=>False
section
variable {X:Cx}
theorem RdO.inS {K:Fg} {neg:Bool}:RdO K (rIn K neg) (inSR neg):=λ x y v u H Q μ Q3 m rx ry h k=>by
 unfold inSR at h
 split at h
 ·next z p =>
  split at h
  ·next l e =>
   split at h
   ·next zs e2 =>
    cases rx
    cases ry
    obtain ⟨vs,hl,rs⟩:=m p l e
    have ev:=wl0 rs e2
    refine ⟨p,vs,rfl,.inl (SqL.of hl),rfl,by rw [ev]; exact tq0 zs,?_⟩
    rw [ev,zw0]
    exact k _ _ _ _ h (Kp.refl _) (.bl _) m
   ·exact h.elim
  ·exact h.elim
 ·exact h.elim
theorem zp3:RO X (compareOp .In) (inSR false):=⟨_,op_in_seq,RdO.inS⟩
theorem wv1:RO X (compareOp .NotIn) (inSR true):=⟨_,xz0,RdO.inS⟩
theorem zn0:RO X (binaryOp .Mult) ys0:=by
 refine ⟨_,xl2,λ x y v u H Q μ Q3 m rx ry h k=>?_⟩
 unfold ys0 at h
 split at h
 ·cases rx
  cases ry
  exact ⟨_,_,rfl,rfl,h.1,h.2.1,λ z' e=>k _ _ _ _ (h.2.2 z' e) (Kp.refl _) (.str _) m⟩
 ·exact h.elim
theorem ta3:RX X sixR:=by
 refine ⟨_,wg3,λ x y v u H Q μ Q3 m rx ry h k=>?_⟩
 unfold sixR at h
 split at h
 ·cases rx
  cases ry
  obtain ⟨h1,c,h2,h3⟩:=h
  exact ⟨_,_,c,rfl,rfl,h1,h2,k _ _ _ _ h3 (Kp.refl _) (.str _) m⟩
 ·exact h.elim
end
end Pv
namespace Pv
open PySem
noncomputable abbrev yj0:D:=.int 30
noncomputable abbrev yh0:D:=.int 4
noncomputable abbrev zg0:D:=.int 20
noncomputable abbrev sf0:D:=.int 99999999999999999999
noncomputable abbrev wf0:D:=.ktp [.str "go",.str "jump",.str "turn"]
noncomputable abbrev zf0:D:=.ktp [.str "go",.str "times"]
noncomputable abbrev sl0:D:=.str "0123456789"
noncomputable def xnames:List Str:=["BadNote", "NoWord"]
noncomputable def subX (cls c:Str):Option Bool:=if xnames.contains c then some (cls == c || cls == "PenError" || cls == "ValueError") else none
noncomputable def okX (c:Str):Bool:=xnames.contains c
noncomputable def wb2:List Str:=["word"]
noncomputable def tf2 (XE:XE3) (spx_q17:XE3->Sp3):TS3 :=
 (drop3 (call3 (spx_q17 XE) (cons3 (v3 0) (cons3 (c3 (.int 0)) nil3))))
noncomputable def zb2:List Str:=["word", "depth", "count", "deed"]
noncomputable def uf2 (XE:XE3) (spx_q18:XE3->Sp3):TS3 :=
 (seq3 (ifs3 (not3 (b3 (call3 isiR (cons3 (v3 0) (cons3 (c3 (.ty "tuple")) nil3))))) (se0 XE "NoWord" (cons3 (c3 (.str "a word is a tuple of deeds")) nil3)) next3) (seq3 (ifs3 (b3 (o3 gtR (v3 1) (c3 yh0))) (se0 XE "NoWord" (cons3 (c3 (.str "times stand too deep within one another")) nil3)) next3) (seq3 (set3 2 (c3 (.int 0))) (seq3 (for3 (is3 (v3 0)) (gn3 3) (seq3 (set3 2 (o3 addR (v3 2) (call3 (spx_q18 XE) (cons3 (v3 3) (cons3 (v3 1) nil3))))) (ifs3 (b3 (o3 gtR (v3 2) (c3 yj0))) (se0 XE "NoWord" (cons3 (c3 (.str "a word has too many deeds")) nil3)) next3))) (ret3 (v3 2))))))
noncomputable def tk1:List Str:=["deed", "depth"]
noncomputable def ul1 (XE:XE3) (spx_q15:XE3->Sp3) (spx_q17:XE3->Sp3):TS3 :=
 (seq3 (ifs3 (not3 (b3 (call3 isiR (cons3 (v3 0) (cons3 (c3 (.ty "tuple")) nil3))))) (se0 XE "NoWord" (cons3 (c3 (.str "a deed is a tuple")) nil3)) next3) (seq3 (ifs3 (and3 (b3 (o3 eqR (call3 lenR (cons3 (v3 0) nil3)) (c3 (.int 2)))) (b3 (o3 (inR false) (o3 ixR (v3 0) (c3 (.int 0))) (c3 wf0)))) (seq3 (drop3 (call3 (spx_q15 XE) (cons3 (o3 ixR (v3 0) (c3 (.int 0))) (cons3 (o3 ixR (v3 0) (c3 (.int 1))) nil3)))) (ret3 (c3 (.int 1)))) next3) (seq3 (ifs3 (and3 (b3 (o3 eqR (call3 lenR (cons3 (v3 0) nil3)) (c3 (.int 3)))) (b3 (o3 eqR (o3 ixR (v3 0) (c3 (.int 0))) (c3 (.str "times"))))) (seq3 (drop3 (call3 (spx_q15 XE) (cons3 (o3 ixR (v3 0) (c3 (.int 0))) (cons3 (o3 ixR (v3 0) (c3 (.int 1))) nil3)))) (ret3 (o3 addR (c3 (.int 1)) (call3 (spx_q17 XE) (cons3 (o3 ixR (v3 0) (c3 (.int 2))) (cons3 (o3 addR (v3 1) (c3 (.int 1))) nil3)))))) next3) (se0 XE "NoWord" (cons3 (c3 (.str "there is no such deed")) nil3)))))
noncomputable def vb2:List Str:=["kind", "number"]
noncomputable def sf2 (XE:XE3):TS3 :=
 (seq3 (ifs3 (not3 (b3 (call3 isiR (cons3 (v3 1) (cons3 (c3 (.ty "int")) nil3))))) (se0 XE "NoWord" (cons3 (c3 (.str "a deed has a whole number")) nil3)) next3) (seq3 (ifs3 (b3 (o3 gtR (call3 absR (cons3 (v3 1) nil3)) (c3 sf0))) (se0 XE "NoWord" (cons3 (c3 (.str "a number has too many figures")) nil3)) next3) (ifs3 (and3 (b3 (o3 ltR (v3 1) (c3 (.int 0)))) (b3 (o3 (inR false) (v3 0) (c3 zf0)))) (se0 XE "NoWord" (cons3 (c3 (.str "this deed has a number from nought on")) nil3)) next3)))
noncomputable def tp2:List Str:=["word"]
noncomputable def wr2 (XE:XE3) (spx_q16:XE3->Sp3) (sp_q22:Sp3):TS3 :=
 (seq3 (drop3 (call3 (spx_q16 XE) (cons3 (v3 0) nil3))) (ret3 (smt3 joinR (c3 (.str " ")) (cons3 (call3 sp_q22 (cons3 (v3 0) nil3)) nil3))))
noncomputable def yq2:List Str:=["word", "marks", "deed"]
noncomputable def tr2 (sp_q22:Sp3):TS3 :=
 (seq3 (set3 1 (lst3 nil3)) (seq3 (for3 (is3 (v3 0)) (gn3 2) (seq3 (drop3 (mt3 extR (v3 1) (cons3 (lst3 (cons3 (o3 ixR (v3 2) (c3 (.int 0))) (cons3 (call3 strR (cons3 (o3 ixR (v3 2) (c3 (.int 1))) nil3)) nil3))) nil3))) (ifs3 (b3 (o3 eqR (o3 ixR (v3 2) (c3 (.int 0))) (c3 (.str "times")))) (drop3 (mt3 extR (v3 1) (cons3 (o3 addR (o3 addR (lst3 (cons3 (c3 (.str "[")) nil3)) (call3 sp_q22 (cons3 (o3 ixR (v3 2) (c3 (.int 2))) nil3))) (lst3 (cons3 (c3 (.str "]")) nil3))) nil3))) next3))) (ret3 (v3 1))))
noncomputable def sp2:List Str:=["text", "marks", "word"]
noncomputable def vr2 (XE:XE3) (spx_q16:XE3->Sp3) (sp_q21:Sp3) (spx_q29:XE3->Sp3):TS3 :=
 (seq3 (set3 1 (call3 sp_q21 (cons3 (v3 0) nil3))) (seq3 (set3 2 (call3 (spx_q29 XE) (cons3 (v3 1) (cons3 (c3 (.int 0)) nil3)))) (seq3 (ifs3 (b3 (o3 gtR (call3 lenR (cons3 (v3 1) nil3)) (c3 (.int 0)))) (se0 XE "BadNote" (cons3 (c3 (.str "a bracket is closed that is not there")) nil3)) next3) (seq3 (sq2 XE spx_q16 "BadNote" (cons3 (v3 2) nil3) (cons3 (c3 (.str "the text writes no word")) nil3)) (ret3 (v3 2))))))
noncomputable def xb2:List Str:=["text"]
noncomputable def wf2:TS3 :=
 (seq3 (ifs3 (b3 (o3 eqR (v3 0) (c3 (.str "")))) (ret3 (lst3 nil3)) next3) (ret3 (lrev3 (smt3 splitR (v3 0) (cons3 (c3 (.str " ")) nil3)))))
noncomputable def wp2:List Str:=["marks", "depth", "deeds"]
noncomputable def xr2 (XE:XE3) (spx_q27:XE3->Sp3):TS3 :=
 (seq3 (ifs3 (b3 (o3 gtR (v3 1) (c3 yh0))) (se0 XE "BadNote" (cons3 (c3 (.str "times stand too deep within one another")) nil3)) next3) (seq3 (set3 2 (lst3 nil3)) (seq3 (xl1 (and3 (b3 (o3 gtR (call3 lenR (cons3 (v3 0) nil3)) (c3 (.int 0)))) (b3 (o3 neR (o3 ixR (v3 0) (un3 negR (c3 (.int 1)))) (c3 (.str "]"))))) (drop3 (mt3 appR (v3 2) (cons3 (call3 (spx_q27 XE) (cons3 (v3 0) (cons3 (v3 1) nil3))) nil3)))) (ret3 (call3 tupR (cons3 (v3 2) nil3))))))
noncomputable def vp2:List Str:=["marks", "depth", "kind", "number", "word"]
noncomputable def yr2 (XE:XE3) (spx_q23:XE3->Sp3) (spx_q26:XE3->Sp3) (spx_q28:XE3->Sp3) (spx_q29:XE3->Sp3):TS3 :=
 (seq3 (set3 2 (call3 (spx_q28 XE) (cons3 (v3 0) nil3))) (seq3 (ifs3 (b3 (o3 (inR false) (v3 2) (c3 wf0))) (ret3 (tup3 (cons3 (v3 2) (cons3 (call3 (spx_q23 XE) (cons3 (call3 (spx_q28 XE) (cons3 (v3 0) nil3)) nil3)) nil3)))) next3) (seq3 (ifs3 (b3 (o3 neR (v3 2) (c3 (.str "times")))) (se0 XE "BadNote" (cons3 (c3 (.str "there is no such deed")) nil3)) next3) (seq3 (set3 3 (call3 (spx_q23 XE) (cons3 (call3 (spx_q28 XE) (cons3 (v3 0) nil3)) nil3))) (seq3 (drop3 (call3 (spx_q26 XE) (cons3 (v3 0) (cons3 (c3 (.str "[")) nil3)))) (seq3 (set3 4 (call3 (spx_q29 XE) (cons3 (v3 0) (cons3 (o3 addR (v3 1) (c3 (.int 1))) nil3)))) (seq3 (drop3 (call3 (spx_q26 XE) (cons3 (v3 0) (cons3 (c3 (.str "]")) nil3)))) (ret3 (tup3 (cons3 (v3 2) (cons3 (v3 3) (cons3 (v3 4) nil3))))))))))))
noncomputable def vs1:List Str:=["marks"]
noncomputable def ts1 (XE:XE3):TS3 :=
 (seq3 (ifs3 (b3 (o3 eqR (call3 lenR (cons3 (v3 0) nil3)) (c3 (.int 0)))) (se0 XE "BadNote" (cons3 (c3 (.str "the text ends too early")) nil3)) next3) (ret3 (pop3 (v3 0))))
noncomputable def up2:List Str:=["marks", "bracket"]
noncomputable def zr2 (XE:XE3) (spx_q28:XE3->Sp3):TS3 :=
 (ifs3 (b3 (o3 neR (call3 (spx_q28 XE) (cons3 (v3 0) nil3)) (v3 1))) (se0 XE "BadNote" (cons3 (c3 (.str "a bracket is missing")) nil3)) next3)
noncomputable def xq2:List Str:=["mark", "figures"]
noncomputable def ur2 (XE:XE3) (sp_q14 sp_q19:Sp3):TS3 :=
 (seq3 (set3 1 (v3 0)) (seq3 (ifs3 (b3 (smt3 startsR (v3 0) (cons3 (c3 (.str "-")) nil3))) (set3 1 (sl3 slR (v3 0) (pt3 (c3 (.int 1))) np3)) next3) (seq3 (ifs3 (or3 (not3 (b3 (call3 sp_q14 (cons3 (v3 1) nil3)))) (b3 (call3 sp_q19 (cons3 (v3 0) (cons3 (v3 1) nil3))))) (se0 XE "BadNote" (cons3 (c3 (.str "there is no such number")) nil3)) next3) (ret3 (call3 intR (cons3 (v3 0) nil3))))))
noncomputable def ub2:List Str:=["text"]
noncomputable def xg2:TS3 :=
 (seq3 (ifs3 (or3 (b3 (o3 eqR (call3 lenR (cons3 (v3 0) nil3)) (c3 (.int 0)))) (b3 (o3 gtR (call3 lenR (cons3 (v3 0) nil3)) (c3 zg0)))) (ret3 (c3 (.bl false))) next3) (ret3 (call3 allR (cons3 (comp3 [none] (is3 (v3 0)) (gn3 0) tt3 (o3 (inR false) (v3 0) (c3 sl0))) nil3))))
noncomputable def yb2:List Str:=["mark", "figures"]
noncomputable def vf2:TS3 :=
 (ret3 (orV3 (o3 eqR (v3 0) (c3 (.str "-0"))) (andV3 (o3 gtR (call3 lenR (cons3 (v3 1) nil3)) (c3 (.int 1))) (smt3 startsR (v3 1) (cons3 (c3 (.str "0")) nil3)))))
noncomputable def N_q0:List Str:=["script", "k"]
noncomputable def t_q0:TS3 :=
 (seq3 (ifs3 (b3 (o3 ltR (v3 1) (call3 lenR (cons3 (v3 0) nil3)))) (ret3 (o3 ixR (v3 0) (v3 1))) next3) (ret3 (c3 (.int 0))))
noncomputable def sb2:List Str:=["script", "k", "cell"]
noncomputable def zg2 (sp_q0:Sp3):TS3 :=
 (seq3 (set3 2 (call3 sp_q0 (cons3 (v3 0) (cons3 (v3 1) nil3)))) (seq3 (ifs3 (b3 (o3 geR (v3 2) (o3 powR (c3 (.int 10)) (c3 (.int 18))))) (ret3 (lst3 (cons3 (o3 subR (v3 2) (o3 powR (c3 (.int 10)) (c3 (.int 18)))) (cons3 (c3 (.bl true)) nil3)))) next3) (ret3 (lst3 (cons3 (o3 modR (v3 2) (c3 (.int 2147483647))) (cons3 (c3 (.bl false)) nil3))))))
noncomputable def N_q1:List Str:=["state", "many", "found", "mixed"]
noncomputable def t_q1:TS3 :=
 (seq3 (ifs3 (b3 (o3 ixR (v3 0) (c3 (.int 1)))) (seq3 (set3 2 (o3 modR (o3 ixR (v3 0) (c3 (.int 0))) (v3 1))) (seq3 (asg3 (o3 fdivR (o3 ixR (v3 0) (c3 (.int 0))) (v3 1)) (sub3 (v3 0) (c3 (.int 0)))) (ret3 (v3 2)))) next3) (seq3 (asg3 (o3 modR (o3 addR (o3 mulR (o3 ixR (v3 0) (c3 (.int 0))) (c3 (.int 48271))) (c3 (.int 29))) (c3 (.int 2147483647))) (sub3 (v3 0) (c3 (.int 0)))) (seq3 (set3 3 (o3 modR (o3 addR (o3 addR (o3 mulR (o3 ixR (v3 0) (c3 (.int 0))) (o3 ixR (v3 0) (c3 (.int 0)))) (o3 mulR (c3 (.int 39373)) (o3 ixR (v3 0) (c3 (.int 0))))) (c3 (.int 7))) (c3 (.int 2147483629)))) (seq3 (set3 3 (o3 modR (o3 addR (o3 mulR (v3 3) (v3 3)) (o3 mulR (c3 (.int 16807)) (v3 3))) (c3 (.int 2147483587)))) (ret3 (o3 modR (o3 fdivR (v3 3) (c3 (.int 8))) (v3 1)))))))
noncomputable def wq2:List Str:=["state", "deep", "found", "k", "kind"]
noncomputable def xs2 (sp_q1 sp_q13:Sp3):TS3 :=
 (seq3 (set3 2 (lst3 nil3)) (seq3 (for3 (ir3 (cons3 (call3 sp_q1 (cons3 (v3 0) (cons3 (c3 (.int 5)) nil3))) nil3)) (gn3 3) (seq3 (set3 4 (call3 sp_q1 (cons3 (v3 0) (cons3 (c3 (.int 7)) nil3)))) (ifs3 (b3 (o3 gtR (o3 ixR (v3 0) (c3 (.int 2))) (c3 (.int 0)))) (seq3 (asg3 (o3 subR (o3 ixR (v3 0) (c3 (.int 2))) (c3 (.int 1))) (sub3 (v3 0) (c3 (.int 2)))) (ifs3 (and3 (b3 (o3 ltR (v3 4) (c3 (.int 2)))) (b3 (o3 gtR (v3 1) (c3 (.int 0))))) (drop3 (mt3 appR (v3 2) (cons3 (tup3 (cons3 (c3 (.str "times")) (cons3 (call3 sp_q1 (cons3 (v3 0) (cons3 (c3 (.int 5)) nil3))) (cons3 (call3 sp_q13 (cons3 (v3 0) (cons3 (o3 subR (v3 1) (c3 (.int 1))) nil3))) nil3)))) nil3))) (ifs3 (b3 (o3 ltR (v3 4) (c3 (.int 4)))) (drop3 (mt3 appR (v3 2) (cons3 (tup3 (cons3 (c3 (.str "turn")) (cons3 (o3 ixR (lst3 (cons3 (c3 (.int 1)) (cons3 (un3 negR (c3 (.int 1))) (cons3 (c3 (.int 2)) (cons3 (c3 (.int 3)) (cons3 (un3 negR (c3 (.int 5))) (cons3 (c3 (.int 0)) (cons3 (c3 (.int 1)) (cons3 (un3 negR (c3 (.int 1))) nil3))))))))) (call3 sp_q1 (cons3 (v3 0) (cons3 (c3 (.int 8)) nil3)))) nil3))) nil3))) (ifs3 (b3 (o3 eqR (v3 4) (c3 (.int 4)))) (drop3 (mt3 appR (v3 2) (cons3 (tup3 (cons3 (c3 (.str "jump")) (cons3 (o3 subR (call3 sp_q1 (cons3 (v3 0) (cons3 (c3 (.int 7)) nil3))) (c3 (.int 3))) nil3))) nil3))) (drop3 (mt3 appR (v3 2) (cons3 (tup3 (cons3 (c3 (.str "go")) (cons3 (call3 sp_q1 (cons3 (v3 0) (cons3 (c3 (.int 4)) nil3))) nil3))) nil3))))))) next3))) (ret3 (call3 tupR (cons3 (v3 2) nil3)))))
noncomputable def N_q3:List Str:=["script", "k", "deep", "most", "state"]
noncomputable def t_q3 (sp_q11 sp_q13:Sp3):TS3 :=
 (seq3 (set3 4 (o3 addR (call3 sp_q11 (cons3 (v3 0) (cons3 (v3 1) nil3))) (lst3 (cons3 (v3 3) nil3)))) (ret3 (call3 sp_q13 (cons3 (v3 4) (cons3 (v3 2) nil3)))))
noncomputable def N_q5:List Str:=["e", "marks"]
noncomputable def t_q5:TS3 :=
 (seq3 (set3 1 (lst3 (cons3 (isx3 (v3 0) (subX "NoWord")) (cons3 (isx3 (v3 0) (subX "NoRoom")) (cons3 (isx3 (v3 0) (subX "NoStep")) (cons3 (isx3 (v3 0) (subX "NoPicture")) nil3)))))) (ret3 (o3 addR (v3 1) (lst3 (cons3 (isx3 (v3 0) (subX "NoNumber")) (cons3 (isx3 (v3 0) (subX "BadNote")) (cons3 (isx3 (v3 0) (subX "ValueError")) nil3)))))))
noncomputable def N_q9:List Str:=["marks", "which"]
noncomputable def t_q9:TS3 :=
 (ret3 (o3 eqR (v3 0) (o3 addR (comp3 [none,some 1] (ir3 (cons3 (c3 (.int 6)) nil3)) (gn3 0) tt3 (o3 eqR (v3 0) (v3 1))) (lst3 (cons3 (c3 (.bl true)) nil3)))))
noncomputable def N_q6:List Str:=["text", "least", "figures", "bare"]
noncomputable def t_q6:TS3 :=
 (seq3 (set3 2 (comp3 [none] (is3 (v3 0)) (gn3 0) (b3 (o3 (inR false) (v3 0) (c3 (.str "0123456789")))) (v3 0))) (seq3 (set3 3 (v3 0)) (seq3 (ifs3 (b3 (o3 eqR (sl3 slR (v3 0) np3 (pt3 (c3 (.int 1)))) (c3 (.str "-")))) (set3 3 (sl3 slR (v3 0) (pt3 (c3 (.int 1))) np3)) next3) (seq3 (ifs3 (or3 (b3 (o3 eqR (v3 3) (c3 (.str "")))) (or3 (b3 (o3 neR (call3 lenR (cons3 (v3 2) nil3)) (call3 lenR (cons3 (v3 3) nil3)))) (or3 (b3 (o3 gtR (call3 lenR (cons3 (v3 3) nil3)) (c3 (.int 20)))) (and3 (b3 (o3 eqR (o3 sixR (v3 3) (c3 (.int 0))) (c3 (.str "0")))) (b3 (o3 neR (v3 0) (c3 (.str "0")))))))) (ret3 (c3 .non)) next3) (ret3 (if3 (b3 (o3 geR (call3 intR (cons3 (v3 0) nil3)) (v3 1))) (call3 intR (cons3 (v3 0) nil3)) (c3 .non)))))))
noncomputable def N_q8:List Str:=["parts", "deep", "found", "at", "kind", "least", "number", "inner"]
noncomputable def ve0 (sp_q6 sp_q8:Sp3):TS3 :=
 (ret3 (tup3 (cons3 (call3 tupR (cons3 (v3 2) nil3)) (cons3 (v3 3) nil3))))
noncomputable def tj0 (sp_q6 sp_q8:Sp3):TS3 :=
 (seq3 (xl1 (and3 (b3 (o3 ltR (v3 3) (call3 lenR (cons3 (v3 0) nil3)))) (b3 (o3 neR (o3 ixR (v3 0) (v3 3)) (c3 (.str "]"))))) (seq3 (set3 4 (o3 ixR (v3 0) (v3 3))) (seq3 (set3 5 (c3 (.int 0))) (seq3 (ifs3 (b3 (o3 (inSR false) (v3 4) (lst3 (cons3 (c3 (.str "jump")) (cons3 (c3 (.str "turn")) nil3))))) (set3 5 (o3 subR (c3 (.int 0)) (o3 powR (c3 (.int 10)) (c3 (.int 20))))) next3) (seq3 (ifs3 (or3 (b3 (o3 (inSR true) (v3 4) (lst3 (cons3 (c3 (.str "go")) (cons3 (c3 (.str "jump")) (cons3 (c3 (.str "turn")) (cons3 (c3 (.str "times")) nil3))))))) (b3 (o3 geR (o3 addR (v3 3) (c3 (.int 1))) (call3 lenR (cons3 (v3 0) nil3))))) (ret3 (c3 .non)) next3) (seq3 (set3 6 (call3 sp_q6 (cons3 (o3 ixR (v3 0) (o3 addR (v3 3) (c3 (.int 1)))) (cons3 (v3 5) nil3)))) (seq3 (ifs3 (b3 (o3 (isNR false) (v3 6) (c3 .non))) (ret3 (c3 .non)) next3) (seq3 (set3 3 (o3 addR (v3 3) (c3 (.int 2)))) (ifs3 (b3 (o3 eqR (v3 4) (c3 (.str "times")))) (seq3 (ifs3 (or3 (b3 (o3 eqR (v3 1) (c3 (.int 4)))) (or3 (b3 (o3 geR (v3 3) (call3 lenR (cons3 (v3 0) nil3)))) (b3 (o3 neR (o3 ixR (v3 0) (v3 3)) (c3 (.str "[")))))) (ret3 (c3 .non)) next3) (seq3 (set3 7 (call3 sp_q8 (cons3 (sl3 slR (v3 0) (pt3 (o3 addR (v3 3) (c3 (.int 1)))) np3) (cons3 (o3 addR (v3 1) (c3 (.int 1))) nil3)))) (seq3 (ifs3 (or3 (b3 (o3 (isNR false) (v3 7) (c3 .non))) (b3 (o3 geR (o3 addR (o3 addR (v3 3) (c3 (.int 1))) (o3 ixR (v3 7) (c3 (.int 1)))) (call3 lenR (cons3 (v3 0) nil3))))) (ret3 (c3 .non)) next3) (seq3 (set3 3 (o3 addR (o3 addR (v3 3) (o3 ixR (v3 7) (c3 (.int 1)))) (c3 (.int 2)))) (drop3 (mt3 appR (v3 2) (cons3 (tup3 (cons3 (v3 4) (cons3 (v3 6) (cons3 (o3 ixR (v3 7) (c3 (.int 0))) nil3)))) nil3))))))) (drop3 (mt3 appR (v3 2) (cons3 (tup3 (cons3 (v3 4) (cons3 (v3 6) nil3))) nil3)))))))))))) (ve0 sp_q6 sp_q8))
noncomputable def sj0 (sp_q6 sp_q8:Sp3):TS3 :=
 (seq3 (set3 3 (c3 (.int 0))) (tj0 sp_q6 sp_q8))
noncomputable def t_q8 (sp_q6 sp_q8:Sp3):TS3 :=
 (seq3 (set3 2 (lst3 nil3)) (sj0 sp_q6 sp_q8))
noncomputable def N_q2:List Str:=["deeds", "found", "deed"]
noncomputable def t_q2 (sp_q2:Sp3):TS3 :=
 (seq3 (set3 1 (call3 lenR (cons3 (v3 0) nil3))) (seq3 (for3 (is3 (v3 0)) (gn3 2) (ifs3 (b3 (o3 eqR (call3 lenR (cons3 (v3 2) nil3)) (c3 (.int 3)))) (set3 1 (o3 addR (v3 1) (call3 sp_q2 (cons3 (o3 ixR (v3 2) (c3 (.int 2))) nil3)))) next3)) (ret3 (v3 1))))
noncomputable def N_q4:List Str:=["text", "parts", "told"]
noncomputable def t_q4 (sp_q2 sp_q8:Sp3):TS3 :=
 (seq3 (ifs3 (b3 (o3 eqR (v3 0) (c3 (.str "")))) (ret3 (tup3 nil3)) next3) (seq3 (set3 1 (smt3 splitR (v3 0) (cons3 (c3 (.str " ")) nil3))) (seq3 (set3 2 (call3 sp_q8 (cons3 (v3 1) (cons3 (c3 (.int 0)) nil3)))) (seq3 (ifs3 (or3 (b3 (o3 (isNR false) (v3 2) (c3 .non))) (or3 (b3 (o3 ltR (o3 ixR (v3 2) (c3 (.int 1))) (call3 lenR (cons3 (v3 1) nil3)))) (b3 (o3 gtR (call3 sp_q2 (cons3 (o3 ixR (v3 2) (c3 (.int 0))) nil3)) (c3 (.int 30)))))) (ret3 (c3 .non)) next3) (ret3 (o3 ixR (v3 2) (c3 (.int 0))))))))
noncomputable def N_q7:List Str:=["state", "some", "many"]
noncomputable def tk0 (sp_q1:Sp3):TS3 :=
 (ret3 (o3 ixR (v3 1) (call3 sp_q1 (cons3 (v3 0) (cons3 (call3 lenR (cons3 (v3 1) nil3)) nil3)))))
noncomputable def sk0 (sp_q1:Sp3):TS3 :=
 (seq3 (set3 1 (o3 addR (v3 1) (lst3 (cons3 (o3 addR (o3 addR (c3 (.str "times 2 [ ")) (v3 2)) (c3 (.str " ]"))) (cons3 (c3 (.str "times 2 [ go 1 [ ] ]")) (cons3 (c3 (.str "hop 1")) (cons3 (c3 (.str "go 1, turn 1")) (cons3 (c3 (.str "times 2 [ go 1] ")) nil3)))))))) (tk0 sp_q1))
noncomputable def xi0 (sp_q1:Sp3):TS3 :=
 (seq3 (set3 1 (o3 addR (v3 1) (lst3 (cons3 (v3 2) (cons3 (o3 addR (v3 2) (c3 (.str " go 1"))) (cons3 (o3 addR (o3 addR (o3 ys0 (c3 (.str "times 1 [ ")) (c3 (.int 4))) (c3 (.str "]"))) (o3 ys0 (c3 (.str " ]")) (c3 (.int 3)))) (cons3 (o3 addR (o3 addR (o3 ys0 (c3 (.str "times 1 [ ")) (c3 (.int 5))) (c3 (.str "]"))) (o3 ys0 (c3 (.str " ]")) (c3 (.int 4)))) nil3))))))) (sk0 sp_q1))
noncomputable def tu0 (sp_q1:Sp3):TS3 :=
 (seq3 (set3 2 (smt3 joinR (c3 (.str " ")) (cons3 (o3 mulR (lst3 (cons3 (c3 (.str "go 1")) nil3)) (c3 (.int 30))) nil3))) (xi0 sp_q1))
noncomputable def xl0 (sp_q1:Sp3):TS3 :=
 (seq3 (set3 1 (o3 addR (v3 1) (lst3 (cons3 (c3 (.str "go 1.0")) (cons3 (c3 (.str "go 1 turn")) nil3))))) (tu0 sp_q1))
noncomputable def yl0 (sp_q1:Sp3):TS3 :=
 (seq3 (set3 1 (o3 addR (v3 1) (lst3 (cons3 (o3 addR (c3 (.str "go ")) (o3 ys0 (c3 (.str "9")) (c3 (.int 20)))) (cons3 (o3 addR (c3 (.str "go ")) (o3 ys0 (c3 (.str "9")) (c3 (.int 21)))) (cons3 (o3 addR (c3 (.str "turn -")) (o3 ys0 (c3 (.str "9")) (c3 (.int 20)))) (cons3 (o3 addR (c3 (.str "turn -")) (o3 ys0 (c3 (.str "9")) (c3 (.int 21)))) nil3))))))) (xl0 sp_q1))
noncomputable def zl0 (sp_q1:Sp3):TS3 :=
 (seq3 (set3 1 (o3 addR (v3 1) (lst3 (cons3 (c3 (.str "times -1 [ ]")) (cons3 (c3 (.str "times 2 [ go 1")) (cons3 (c3 (.str "times 2 [ go 1 ] ]")) (cons3 (c3 (.str "] go 1")) (cons3 (c3 (.str "[ go 1 ]")) (cons3 (c3 (.str "go 1 ]")) (cons3 (c3 (.str "go x")) nil3)))))))))) (yl0 sp_q1))
noncomputable def yi0 (sp_q1:Sp3):TS3 :=
 (seq3 (set3 1 (o3 addR (v3 1) (lst3 (cons3 (c3 (.str "Go 1")) (cons3 (c3 (.str "go 1 2")) (cons3 (c3 (.str "go1")) (cons3 (c3 (.str "times 2")) (cons3 (c3 (.str "times 2 [")) (cons3 (c3 (.str "times 2 ]")) (cons3 (c3 (.str "times 2 [ ]")) (cons3 (c3 (.str "times 2 []")) nil3))))))))))) (zl0 sp_q1))
noncomputable def t_q7 (sp_q1:Sp3):TS3 :=
 (seq3 (set3 1 (lst3 (cons3 (c3 (.str " ")) (cons3 (c3 (.str "go")) (cons3 (c3 (.str "go 1 ")) (cons3 (c3 (.str " go 1")) (cons3 (c3 (.str "go  1")) (cons3 (c3 (.str "go -1")) (cons3 (c3 (.str "go +1")) (cons3 (c3 (.str "go 01")) (cons3 (c3 (.str "go 00")) (cons3 (c3 (.str "go -0")) (cons3 (c3 (.str "turn -0")) (cons3 (c3 (.str "jump --1")) nil3)))))))))))))) (yi0 sp_q1))
noncomputable def vq2:List Str:=["state", "text", "way", "at", "sign", "parts", "spot", "more"]
noncomputable def wm0 (sp_q1 sp_q7:Sp3):TS3 :=
 (ret3 (call3 sp_q7 (cons3 (v3 0) nil3)))
noncomputable def vm0 (sp_q1 sp_q7:Sp3):TS3 :=
 (seq3 (ifs3 (b3 (o3 eqR (v3 2) (c3 (.int 5)))) (seq3 (set3 7 (o3 addR (sl3 slR (v3 5) (pt3 (o3 addR (v3 6) (c3 (.int 1)))) (pt3 (o3 addR (v3 6) (c3 (.int 2))))) (sl3 slR (v3 5) (pt3 (v3 6)) (pt3 (o3 addR (v3 6) (c3 (.int 1))))))) (ret3 (smt3 joinR (c3 (.str " ")) (cons3 (o3 addR (o3 addR (sl3 slR (v3 5) np3 (pt3 (v3 6))) (v3 7)) (sl3 slR (v3 5) (pt3 (o3 addR (v3 6) (c3 (.int 2)))) np3)) nil3)))) next3) (wm0 sp_q1 sp_q7))
noncomputable def wn0 (sp_q1 sp_q7:Sp3):TS3 :=
 (seq3 (ifs3 (b3 (o3 eqR (v3 2) (c3 (.int 4)))) (ret3 (smt3 joinR (c3 (.str " ")) (cons3 (o3 addR (sl3 slR (v3 5) np3 (pt3 (o3 addR (v3 6) (c3 (.int 1))))) (sl3 slR (v3 5) (pt3 (v3 6)) np3)) nil3))) next3) (vm0 sp_q1 sp_q7))
noncomputable def vn0 (sp_q1 sp_q7:Sp3):TS3 :=
 (seq3 (ifs3 (b3 (o3 eqR (v3 2) (c3 (.int 3)))) (ret3 (smt3 joinR (c3 (.str " ")) (cons3 (o3 addR (sl3 slR (v3 5) np3 (pt3 (v3 6))) (sl3 slR (v3 5) (pt3 (o3 addR (v3 6) (c3 (.int 1)))) np3)) nil3))) next3) (wn0 sp_q1 sp_q7))
noncomputable def un0 (sp_q1 sp_q7:Sp3):TS3 :=
 (seq3 (ifs3 (b3 (o3 eqR (v3 2) (c3 (.int 2)))) (ret3 (o3 addR (sl3 slR (v3 1) np3 (pt3 (v3 3))) (sl3 slR (v3 1) (pt3 (o3 addR (v3 3) (c3 (.int 1)))) np3))) next3) (vn0 sp_q1 sp_q7))
noncomputable def tn0 (sp_q1 sp_q7:Sp3):TS3 :=
 (seq3 (ifs3 (b3 (o3 eqR (v3 2) (c3 (.int 1)))) (ret3 (o3 addR (o3 addR (sl3 slR (v3 1) np3 (pt3 (v3 3))) (v3 4)) (sl3 slR (v3 1) (pt3 (o3 addR (v3 3) (c3 (.int 1)))) np3))) next3) (un0 sp_q1 sp_q7))
noncomputable def vi0 (sp_q1 sp_q7:Sp3):TS3 :=
 (seq3 (ifs3 (b3 (o3 eqR (v3 2) (c3 (.int 0)))) (ret3 (o3 addR (o3 addR (sl3 slR (v3 1) np3 (pt3 (v3 3))) (v3 4)) (sl3 slR (v3 1) (pt3 (v3 3)) np3))) next3) (tn0 sp_q1 sp_q7))
noncomputable def ui0 (sp_q1 sp_q7:Sp3):TS3 :=
 (seq3 (set3 6 (call3 sp_q1 (cons3 (v3 0) (cons3 (call3 lenR (cons3 (v3 5) nil3)) nil3)))) (vi0 sp_q1 sp_q7))
noncomputable def sn0 (sp_q1 sp_q7:Sp3):TS3 :=
 (seq3 (set3 5 (smt3 splitR (v3 1) (cons3 (c3 (.str " ")) nil3))) (ui0 sp_q1 sp_q7))
noncomputable def xo0 (sp_q1 sp_q7:Sp3):TS3 :=
 (seq3 (set3 4 (o3 sixR (c3 (.str "0123456789- []gotujmpx")) (call3 sp_q1 (cons3 (v3 0) (cons3 (c3 (.int 22)) nil3))))) (sn0 sp_q1 sp_q7))
noncomputable def yo0 (sp_q1 sp_q7:Sp3):TS3 :=
 (seq3 (set3 3 (call3 sp_q1 (cons3 (v3 0) (cons3 (o3 addR (call3 lenR (cons3 (v3 1) nil3)) (c3 (.int 1))) nil3)))) (xo0 sp_q1 sp_q7))
noncomputable def ys2 (sp_q1 sp_q7:Sp3):TS3 :=
 (seq3 (set3 2 (call3 sp_q1 (cons3 (v3 0) (cons3 (c3 (.int 7)) nil3)))) (yo0 sp_q1 sp_q7))
noncomputable def tb2:List Str:=["text", "found", "marks", "e"]
noncomputable def yg2 (sp_q5:Sp3) (spx_q24:XE3->Sp3):TS3 :=
 (seq3 (set3 1 (c3 .non)) (seq3 (set3 2 (lst3 nil3)) (seq3 (try3 3 spx_q24 (wh2 1) okX (cons3 (v3 0) nil3) (set3 2 (call3 sp_q5 (cons3 (v3 3) nil3)))) (ret3 (tup3 (cons3 (v3 1) (cons3 (v3 2) nil3)))))))
noncomputable def zq2:List Str:=["script", "text", "k", "spoilt", "due", "told"]
noncomputable def ss1 (sp_q3 sp_q4 sp_q9 sp_q10 sp_q11 sp_q12:Sp3) (spx_q25:XE3->Sp3):TS3 :=
 (ret3 (c3 (.bl true)))
noncomputable def xt1 (sp_q3 sp_q4 sp_q9 sp_q10 sp_q11 sp_q12:Sp3) (spx_q25:XE3->Sp3):TS3 :=
 (seq3 (for3 (ir3 (cons3 (c3 (.int 4)) nil3)) (gn3 2) (seq3 (set3 3 (call3 sp_q10 (cons3 (call3 sp_q11 (cons3 (v3 0) (cons3 (o3 addR (c3 (.int 1)) (v3 2)) nil3))) (cons3 (v3 1) nil3)))) (seq3 (set3 4 (call3 sp_q4 (cons3 (v3 3) nil3))) (seq3 (set3 5 (call3 sp_q12 (cons3 (v3 3) nil3))) (ifs3 (b3 (o3 (isNR false) (v3 4) (c3 .non))) (ifs3 (not3 (b3 (call3 sp_q9 (cons3 (o3 ixR (v3 5) (c3 (.int 1))) (cons3 (c3 (.int 5)) nil3))))) (ret3 (c3 (.bl false))) next3) (ifs3 (or3 (b3 (o3 neR (o3 ixR (v3 5) (c3 (.int 1))) (lst3 nil3))) (or3 (not3 (b3 (call3 isiR (cons3 (o3 ixR (v3 5) (c3 (.int 0))) (cons3 (c3 (.ty "tuple")) nil3))))) (b3 (o3 neR (o3 ixR (v3 5) (c3 (.int 0))) (v3 4))))) (ret3 (c3 (.bl false))) next3)))))) (ss1 sp_q3 sp_q4 sp_q9 sp_q10 sp_q11 sp_q12 spx_q25))
noncomputable def sr2 (sp_q3 sp_q4 sp_q9 sp_q10 sp_q11 sp_q12:Sp3) (spx_q25:XE3->Sp3):TS3 :=
 (seq3 (set3 1 (call3 (spx_q25 NX) (cons3 (call3 sp_q3 (cons3 (v3 0) (cons3 (c3 (.int 0)) (cons3 (c3 (.int 3)) (cons3 (c3 (.int 8)) nil3))))) nil3))) (xt1 sp_q3 sp_q4 sp_q9 sp_q10 sp_q11 sp_q12 spx_q25))
end Pv
namespace Pv
open PySem PySem.Spec PyProof.Rows L2
section
variable {P:Program} {w:World} {K:Fg} {mg:Str->Option Value} {base:Heap}
theorem wu2:FnScope wb2 ["word"] (wa0 ti1):=⟨rfl,rfl,rfl,by decide +kernel,rfl,by decide +kernel,by decide +kernel⟩
theorem uw2 {k:Nat} {f:Addr} {cdv:Value} {A:Around} {outer:List Env} {s:Shared} {H:Hp} {E:XK} {XE:XE3} (EX:EXok K mg XE E) {spx_q17:XE3->Sp3} {k_q17:Nat} (c_q17:CalX P w K mg base k_q17 "checked_count" ["word", "depth"] spx_q17) (l_q17:k_q17<=k) (hr:Room k (A.deeper (envOfC "check_word" (wa0 ti1) s.heap.objs.size f cdv))) :
    RSs (cxOf (CXn P w) P w K mg base wb2 "check_word" (wa0 ti1) f cdv A outer s H E) (ub0 ti1) (tf2 XE spx_q17) :=
 (sa0 (yf0 (zd0 EX (c_q17.mono l_q17) hr (xa0 (ya0 0) (xa0 ta0 ua0)))))
theorem sc_q17:FnScope zb2 ["word", "depth"] (wa0 ui1):=⟨rfl,rfl,rfl,by decide +kernel,rfl,by decide +kernel,by decide +kernel⟩
theorem vw2 {k:Nat} {f:Addr} {cdv:Value} {A:Around} {outer:List Env} {s:Shared} {H:Hp} {E:XK} {XE:XE3} (EX:EXok K mg XE E) {spx_q18:XE3->Sp3} {k_q18:Nat} (c_q18:CalX P w K mg base k_q18 "checked_deed_count" ["deed", "depth"] spx_q18) (l_q18:k_q18<=k) {C_NoWord:Addr} (O_NoWord:OwnCls "NoWord" C_NoWord [.type "ValueError",.type "Exception",.type "BaseException",.type "object"] "ValueError.__new__" mg base) (z_isinstance:mg "isinstance" = none) (z_tuple:mg "tuple" = none) (g_MOST_DEEDS:Gd K mg "MOST_DEEDS" yj0) (g_MOST_DEEP:Gd K mg "MOST_DEEP" yh0) (hr:Room k (A.deeper (envOfC "checked_count" (wa0 ui1) s.heap.objs.size f cdv))) :
    RSs (cxOf (CXn P w) P w K mg base zb2 "checked_count" (wa0 ui1) f cdv A outer s H E) (ub0 ui1) (uf2 XE spx_q18) :=
 (va0 (tc0 (yt0 (vl0 (yc0 uv1 z_isinstance vf0 (xa0 (ya0 0) (xa0 (xv1 z_tuple uj0) ua0))))) (sa0 (sd0 EX O_NoWord PySem.F.excBase_ValueError (by decide) PySem.F.excBase_ValueError (xa0 yb0 ua0))) tb0) (va0 (tc0 (wb0 q_gt (ya0 1) (re_g g_MOST_DEEP)) (sa0 (sd0 EX O_NoWord PySem.F.excBase_ValueError (by decide) PySem.F.excBase_ValueError (xa0 yb0 ua0))) tb0) (va0 (sb0 (i:=2) sc_q17.nd ta0) (va0 (wy0 PassesOwn.leaving rfl (vy0 (ya0 0)) (si0 (i:=3) sc_q17.nd) (va0 (sb0 (i:=2) sc_q17.nd (vb0 wc0 (ya0 2) (zd0 EX (c_q18.mono l_q18) hr (xa0 (ya0 3) (xa0 (ya0 1) ua0))))) (sa0 (tc0 (wb0 q_gt (ya0 2) (re_g g_MOST_DEEDS)) (sa0 (sd0 EX O_NoWord PySem.F.excBase_ValueError (by decide) PySem.F.excBase_ValueError (xa0 yb0 ua0))) tb0)))) (sa0 (xc0 (ya0 2)))))))
theorem zu2:FnScope tk1 ["deed", "depth"] (wa0 vi1):=⟨rfl,rfl,rfl,by decide +kernel,rfl,by decide +kernel,by decide +kernel⟩
theorem ww2 {k:Nat} {f:Addr} {cdv:Value} {A:Around} {outer:List Env} {s:Shared} {H:Hp} {E:XK} {XE:XE3} (EX:EXok K mg XE E) {spx_q15:XE3->Sp3} {k_q15:Nat} (c_q15:CalX P w K mg base k_q15 "check_number" ["kind", "number"] spx_q15) (l_q15:k_q15<=k) {spx_q17:XE3->Sp3} {k_q17:Nat} (c_q17:CalX P w K mg base k_q17 "checked_count" ["word", "depth"] spx_q17) (l_q17:k_q17<=k) {C_NoWord:Addr} (O_NoWord:OwnCls "NoWord" C_NoWord [.type "ValueError",.type "Exception",.type "BaseException",.type "object"] "ValueError.__new__" mg base) (z_isinstance:mg "isinstance" = none) (z_len:mg "len" = none) (z_tuple:mg "tuple" = none) (g_PLAIN_KINDS:Gd K mg "PLAIN_KINDS" wf0) (hr:Room k (A.deeper (envOfC "checked_deed_count" (wa0 vi1) s.heap.objs.size f cdv))) :
    RSs (cxOf (CXn P w) P w K mg base tk1 "checked_deed_count" (wa0 vi1) f cdv A outer s H E) (ub0 vi1) (ul1 XE spx_q15 spx_q17) :=
 (va0 (tc0 (yt0 (vl0 (yc0 uv1 z_isinstance vf0 (xa0 (ya0 0) (xa0 (xv1 z_tuple uj0) ua0))))) (sa0 (sd0 EX O_NoWord PySem.F.excBase_ValueError (by decide) PySem.F.excBase_ValueError (xa0 yb0 ua0))) tb0) (va0 (tc0 (zk0 (zp0 (wb0 (q_eq (hu64 hr)) (yc0 wh0 z_len we0 (xa0 (ya0 0) ua0)) ta0) (wk0 (wb0 (q_in (hu65 hr)) (ud0 q_ix (ya0 0) ta0) (re_g g_PLAIN_KINDS))))) (va0 (yf0 (zd0 EX (c_q15.mono l_q15) hr (xa0 (ud0 q_ix (ya0 0) ta0) (xa0 (ud0 q_ix (ya0 0) ta0) ua0)))) (sa0 (xc0 ta0))) tb0) (va0 (tc0 (zk0 (zp0 (wb0 (q_eq (hu64 hr)) (yc0 wh0 z_len we0 (xa0 (ya0 0) ua0)) ta0) (wk0 (wb0 (q_eq (hu64 hr)) (ud0 q_ix (ya0 0) ta0) yb0)))) (va0 (yf0 (zd0 EX (c_q15.mono l_q15) hr (xa0 (ud0 q_ix (ya0 0) ta0) (xa0 (ud0 q_ix (ya0 0) ta0) ua0)))) (sa0 (xc0 (vb0 wc0 ta0 (zd0 EX (c_q17.mono l_q17) hr (xa0 (ud0 q_ix (ya0 0) ta0) (xa0 (vb0 wc0 (ya0 1) ta0) ua0))))))) tb0) (sa0 (sd0 EX O_NoWord PySem.F.excBase_ValueError (by decide) PySem.F.excBase_ValueError (xa0 yb0 ua0))))))
theorem vu2:FnScope vb2 ["kind", "number"] (wa0 si1):=⟨rfl,rfl,rfl,by decide +kernel,rfl,by decide +kernel,by decide +kernel⟩
theorem tw2 {k:Nat} {f:Addr} {cdv:Value} {A:Around} {outer:List Env} {s:Shared} {H:Hp} {E:XK} {XE:XE3} (EX:EXok K mg XE E) {C_NoWord:Addr} (O_NoWord:OwnCls "NoWord" C_NoWord [.type "ValueError",.type "Exception",.type "BaseException",.type "object"] "ValueError.__new__" mg base) (z_abs:mg "abs" = none) (z_int:mg "int" = none) (z_isinstance:mg "isinstance" = none) (g_GREATEST_NUMBER:Gd K mg "GREATEST_NUMBER" sf0) (g_KINDS_FROM_NOUGHT:Gd K mg "KINDS_FROM_NOUGHT" zf0) (hr:Room k (A.deeper (envOfC "check_number" (wa0 si1) s.heap.objs.size f cdv))) :
    RSs (cxOf (CXn P w) P w K mg base vb2 "check_number" (wa0 si1) f cdv A outer s H E) (ub0 si1) (sf2 XE) :=
 (va0 (tc0 (yt0 (vl0 (yc0 uv1 z_isinstance vf0 (xa0 (ya0 1) (xa0 (xv1 z_int tg1) ua0))))) (sa0 (sd0 EX O_NoWord PySem.F.excBase_ValueError (by decide) PySem.F.excBase_ValueError (xa0 yb0 ua0))) tb0) (va0 (tc0 (wb0 q_gt (yc0 vp3 z_abs tj3 (xa0 (ya0 1) ua0)) (re_g g_GREATEST_NUMBER)) (sa0 (sd0 EX O_NoWord PySem.F.excBase_ValueError (by decide) PySem.F.excBase_ValueError (xa0 yb0 ua0))) tb0) (sa0 (tc0 (zk0 (zp0 (wb0 q_lt (ya0 1) ta0) (wk0 (wb0 (q_in (hu65 hr)) (ya0 0) (re_g g_KINDS_FROM_NOUGHT))))) (sa0 (sd0 EX O_NoWord PySem.F.excBase_ValueError (by decide) PySem.F.excBase_ValueError (xa0 yb0 ua0))) tb0))))
theorem tt2:FnScope tp2 ["word"] (wa0 th1):=⟨rfl,rfl,rfl,by decide +kernel,rfl,by decide +kernel,by decide +kernel⟩
theorem vv2 {k:Nat} {f:Addr} {cdv:Value} {A:Around} {outer:List Env} {s:Shared} {H:Hp} {E:XK} {XE:XE3} (EX:EXok K mg XE E) {spx_q16:XE3->Sp3} {k_q16:Nat} (c_q16:CalX P w K mg base k_q16 "check_word" ["word"] spx_q16) (l_q16:k_q16<=k) {sp_q22:Sp3} {k_q22:Nat} (c_q22:Cal P w K mg base k_q22 "marks_of" ["word"] sp_q22) (l_q22:k_q22<=k) (hr:Room k (A.deeper (envOfC "shown" (wa0 th1) s.heap.objs.size f cdv))) :
    RSs (cxOf (CXn P w) P w K mg base tp2 "shown" (wa0 th1) f cdv A outer s H E) (ub0 th1) (wr2 XE spx_q16 sp_q22) :=
 (va0 (yf0 (zd0 EX (c_q16.mono l_q16) hr (xa0 (ya0 0) ua0))) (sa0 (xc0 (up0 yb0 (xa0 (zc0 (c_q22.mono l_q22) hr (xa0 (ya0 0) ua0)) ua0)))))
theorem sc_q22:FnScope yq2 ["word"] (wa0 yi1):=⟨rfl,rfl,rfl,by decide +kernel,rfl,by decide +kernel,by decide +kernel⟩
theorem sv2 {k:Nat} {f:Addr} {cdv:Value} {A:Around} {outer:List Env} {s:Shared} {H:Hp} {E:XK} {sp_q22:Sp3} {k_q22:Nat} (c_q22:Cal P w K mg base k_q22 "marks_of" ["word"] sp_q22) (l_q22:k_q22<=k) (z_str:mg "str" = none) (hr:Room k (A.deeper (envOfC "marks_of" (wa0 yi1) s.heap.objs.size f cdv))) :
    RSs (cxOf CX0 P w K mg base yq2 "marks_of" (wa0 yi1) f cdv A outer s H E).nox (ub0 yi1) (tr2 sp_q22) :=
 (va0 (sb0 (i:=1) sc_q22.nd (vd0 ua0)) (va0 (wy0 PassesOwn.never rfl (vy0 (ya0 0)) (si0 (i:=2) sc_q22.nd) (va0 (yf0 (uy0 (ya0 1) (xa0 (vd0 (xa0 (ud0 q_ix (ya0 2) ta0) (xa0 (sg0 yp3 z_str vj3 (xa0 (ud0 q_ix (ya0 2) ta0) ua0)) ua0))) ua0))) (sa0 (tc0 (wb0 (q_eq (hu64 hr)) (ud0 q_ix (ya0 2) ta0) yb0) (sa0 (yf0 (uy0 (ya0 1) (xa0 (vb0 wc0 (vb0 wc0 (vd0 (xa0 yb0 ua0)) (zc0 (c_q22.mono l_q22) hr (xa0 (ud0 q_ix (ya0 2) ta0) ua0))) (vd0 (xa0 yb0 ua0))) ua0)))) tb0)))) (sa0 (xc0 (ya0 1)))))
theorem sc_q24:FnScope sp2 ["text"] (wa0 sh1):=⟨rfl,rfl,rfl,by decide +kernel,rfl,by decide +kernel,by decide +kernel⟩
theorem uv2 {k:Nat} {f:Addr} {cdv:Value} {A:Around} {outer:List Env} {s:Shared} {H:Hp} {E:XK} {XE:XE3} (EX:EXok K mg XE E) {spx_q16:XE3->Sp3} {k_q16:Nat} (c_q16:CalX P w K mg base k_q16 "check_word" ["word"] spx_q16) (l_q16:k_q16<=k) {sp_q21:Sp3} {k_q21:Nat} (c_q21:Cal P w K mg base k_q21 "marks_in" ["text"] sp_q21) (l_q21:k_q21<=k) {spx_q29:XE3->Sp3} {k_q29:Nat} (c_q29:CalX P w K mg base k_q29 "take_word" ["marks", "depth"] spx_q29) (l_q29:k_q29<=k) {C_BadNote:Addr} (O_BadNote:OwnCls "BadNote" C_BadNote [.type "ValueError",.type "Exception",.type "BaseException",.type "object"] "ValueError.__new__" mg base) {C_NoWord:Addr} (m_NoWord:mg "NoWord" = some (.ref C_NoWord)) (k2_NoWord:PySem.W.kitCls K (.ref C_NoWord) (.type "BaseException")=some true) (k3:PySem.W.kitCls K (.type "type") (.type "tuple")=some false) (k4_NoWord:PySem.W.kitCls K (.ref C_NoWord) (.ref C_NoWord)=some true) (z_len:mg "len" = none) (hr:Room k (A.deeper (envOfC "read" (wa0 sh1) s.heap.objs.size f cdv))) :
    RSs (cxOf (CXn P w) P w K mg base sp2 "read" (wa0 sh1) f cdv A outer s H E) (ub0 sh1) (vr2 XE spx_q16 sp_q21 spx_q29) :=
 (va0 (sb0 (i:=1) sc_q24.nd (zc0 (c_q21.mono l_q21) hr (xa0 (ya0 0) ua0))) (va0 (sb0 (i:=2) sc_q24.nd (zd0 EX (c_q29.mono l_q29) hr (xa0 (ya0 1) (xa0 ta0 ua0)))) (va0 (tc0 (wb0 q_gt (yc0 wh0 z_len we0 (xa0 (ya0 1) ua0)) ta0) (sa0 (sd0 EX O_BadNote PySem.F.excBase_ValueError (by decide) PySem.F.excBase_ValueError (xa0 yb0 ua0))) tb0) (va0 (th2 EX (c_q16.mono l_q16) hr (xa0 (ya0 2) ua0) (λ _=>(xa0 yb0 ua0)) m_NoWord k2_NoWord k3 k4_NoWord O_BadNote PySem.F.excBase_ValueError (by decide) PySem.F.excBase_ValueError) (sa0 (xc0 (ya0 2)))))))
theorem xu2:FnScope xb2 ["text"] (wa0 zi1):=⟨rfl,rfl,rfl,by decide +kernel,rfl,by decide +kernel,by decide +kernel⟩
theorem xw2 {k:Nat} {f:Addr} {cdv:Value} {A:Around} {outer:List Env} {s:Shared} {H:Hp} {E:XK} (z_list:mg "list" = none) (z_reversed:mg "reversed" = none) (hr:Room k (A.deeper (envOfC "marks_in" (wa0 zi1) s.heap.objs.size f cdv))) :
    RSs (cxOf CX0 P w K mg base xb2 "marks_in" (wa0 zi1) f cdv A outer s H E).nox (ub0 zi1) (wf2) :=
 (va0 (tc0 (wb0 (q_eq (hu64 hr)) (ya0 0) yb0) (sa0 (xc0 (vd0 ua0))) tb0) (sa0 (xc0 (xi2 (uv0 (ya0 0) (xa0 yb0 ua0)) z_list z_reversed))))
theorem sc_q29:FnScope wp2 ["marks", "depth"] (wa0 zh1):=⟨rfl,rfl,rfl,by decide +kernel,rfl,by decide +kernel,by decide +kernel⟩
theorem xv2 {k:Nat} {f:Addr} {cdv:Value} {A:Around} {outer:List Env} {s:Shared} {H:Hp} {E:XK} {XE:XE3} (EX:EXok K mg XE E) {spx_q27:XE3->Sp3} {k_q27:Nat} (c_q27:CalX P w K mg base k_q27 "take_deed" ["marks", "depth"] spx_q27) (l_q27:k_q27<=k) {C_BadNote:Addr} (O_BadNote:OwnCls "BadNote" C_BadNote [.type "ValueError",.type "Exception",.type "BaseException",.type "object"] "ValueError.__new__" mg base) (z_len:mg "len" = none) (z_tuple:mg "tuple" = none) (g_MOST_DEEP:Gd K mg "MOST_DEEP" yh0) (hr:Room k (A.deeper (envOfC "take_word" (wa0 zh1) s.heap.objs.size f cdv))) :
    RSs (cxOf (CXn P w) P w K mg base wp2 "take_word" (wa0 zh1) f cdv A outer s H E) (ub0 zh1) (xr2 XE spx_q27) :=
 (va0 (tc0 (wb0 q_gt (ya0 1) (re_g g_MOST_DEEP)) (sa0 (sd0 EX O_BadNote PySem.F.excBase_ValueError (by decide) PySem.F.excBase_ValueError (xa0 yb0 ua0))) tb0) (va0 (sb0 (i:=2) sc_q29.nd (vd0 ua0)) (va0 (te1 PassesOwn.leaving (zk0 (zp0 (wb0 q_gt (yc0 wh0 z_len we0 (xa0 (ya0 0) ua0)) ta0) (wk0 (wb0 (q_ne (hu64 hr)) (ud0 q_ix (ya0 0) (su1 vv1 ta0)) yb0)))) (sa0 (yf0 (xh0 (ya0 2) (xa0 (zd0 EX (c_q27.mono l_q27) hr (xa0 (ya0 0) (xa0 (ya0 1) ua0))) ua0))))) (sa0 (xc0 (sg0 tb1 z_tuple uj0 (xa0 (ya0 2) ua0)))))))
theorem sc_q27:FnScope vp2 ["marks", "depth"] (wa0 vh1):=⟨rfl,rfl,rfl,by decide +kernel,rfl,by decide +kernel,by decide +kernel⟩
theorem zv2 {k:Nat} {f:Addr} {cdv:Value} {A:Around} {outer:List Env} {s:Shared} {H:Hp} {E:XK} {XE:XE3} (EX:EXok K mg XE E) {spx_q23:XE3->Sp3} {k_q23:Nat} (c_q23:CalX P w K mg base k_q23 "number_of" ["mark"] spx_q23) (l_q23:k_q23<=k) {spx_q26:XE3->Sp3} {k_q26:Nat} (c_q26:CalX P w K mg base k_q26 "take_bracket" ["marks", "bracket"] spx_q26) (l_q26:k_q26<=k) {spx_q28:XE3->Sp3} {k_q28:Nat} (c_q28:CalX P w K mg base k_q28 "take_mark" ["marks"] spx_q28) (l_q28:k_q28<=k) {spx_q29:XE3->Sp3} {k_q29:Nat} (c_q29:CalX P w K mg base k_q29 "take_word" ["marks", "depth"] spx_q29) (l_q29:k_q29<=k) {C_BadNote:Addr} (O_BadNote:OwnCls "BadNote" C_BadNote [.type "ValueError",.type "Exception",.type "BaseException",.type "object"] "ValueError.__new__" mg base) (g_PLAIN_KINDS:Gd K mg "PLAIN_KINDS" wf0) (hr:Room k (A.deeper (envOfC "take_deed" (wa0 vh1) s.heap.objs.size f cdv))) :
    RSs (cxOf (CXn P w) P w K mg base vp2 "take_deed" (wa0 vh1) f cdv A outer s H E) (ub0 vh1) (yr2 XE spx_q23 spx_q26 spx_q28 spx_q29) :=
 (va0 (sb0 (i:=2) sc_q27.nd (zd0 EX (c_q28.mono l_q28) hr (xa0 (ya0 0) ua0))) (va0 (tc0 (wb0 (q_in (hu65 hr)) (ya0 2) (re_g g_PLAIN_KINDS)) (sa0 (xc0 (xj0 (xa0 (ya0 2) (xa0 (zd0 EX (c_q23.mono l_q23) hr (xa0 (zd0 EX (c_q28.mono l_q28) hr (xa0 (ya0 0) ua0)) ua0)) ua0))))) tb0) (va0 (tc0 (wb0 (q_ne (hu64 hr)) (ya0 2) yb0) (sa0 (sd0 EX O_BadNote PySem.F.excBase_ValueError (by decide) PySem.F.excBase_ValueError (xa0 yb0 ua0))) tb0) (va0 (sb0 (i:=3) sc_q27.nd (zd0 EX (c_q23.mono l_q23) hr (xa0 (zd0 EX (c_q28.mono l_q28) hr (xa0 (ya0 0) ua0)) ua0))) (va0 (yf0 (zd0 EX (c_q26.mono l_q26) hr (xa0 (ya0 0) (xa0 yb0 ua0)))) (va0 (sb0 (i:=4) sc_q27.nd (zd0 EX (c_q29.mono l_q29) hr (xa0 (ya0 0) (xa0 (vb0 wc0 (ya0 1) ta0) ua0)))) (va0 (yf0 (zd0 EX (c_q26.mono l_q26) hr (xa0 (ya0 0) (xa0 yb0 ua0)))) (sa0 (xc0 (xj0 (xa0 (ya0 2) (xa0 (ya0 3) (xa0 (ya0 4) ua0)))))))))))))
theorem vt2:FnScope vs1 ["marks"] (wa0 wh1):=⟨rfl,rfl,rfl,by decide +kernel,rfl,by decide +kernel,by decide +kernel⟩
theorem yv2 {k:Nat} {f:Addr} {cdv:Value} {A:Around} {outer:List Env} {s:Shared} {H:Hp} {E:XK} {XE:XE3} (EX:EXok K mg XE E) {C_BadNote:Addr} (O_BadNote:OwnCls "BadNote" C_BadNote [.type "ValueError",.type "Exception",.type "BaseException",.type "object"] "ValueError.__new__" mg base) (z_len:mg "len" = none) (hr:Room k (A.deeper (envOfC "take_mark" (wa0 wh1) s.heap.objs.size f cdv))) :
    RSs (cxOf (CXn P w) P w K mg base vs1 "take_mark" (wa0 wh1) f cdv A outer s H E) (ub0 wh1) (ts1 XE) :=
 (va0 (tc0 (wb0 (q_eq (hu64 hr)) (yc0 wh0 z_len we0 (xa0 (ya0 0) ua0)) ta0) (sa0 (sd0 EX O_BadNote PySem.F.excBase_ValueError (by decide) PySem.F.excBase_ValueError (xa0 yb0 ua0))) tb0) (sa0 (xc0 (ux2 (ya0 0)))))
theorem ut2:FnScope up2 ["marks", "bracket"] (wa0 uh1):=⟨rfl,rfl,rfl,by decide +kernel,rfl,by decide +kernel,by decide +kernel⟩
theorem wv2 {k:Nat} {f:Addr} {cdv:Value} {A:Around} {outer:List Env} {s:Shared} {H:Hp} {E:XK} {XE:XE3} (EX:EXok K mg XE E) {spx_q28:XE3->Sp3} {k_q28:Nat} (c_q28:CalX P w K mg base k_q28 "take_mark" ["marks"] spx_q28) (l_q28:k_q28<=k) {C_BadNote:Addr} (O_BadNote:OwnCls "BadNote" C_BadNote [.type "ValueError",.type "Exception",.type "BaseException",.type "object"] "ValueError.__new__" mg base) (hr:Room k (A.deeper (envOfC "take_bracket" (wa0 uh1) s.heap.objs.size f cdv))) :
    RSs (cxOf (CXn P w) P w K mg base up2 "take_bracket" (wa0 uh1) f cdv A outer s H E) (ub0 uh1) (zr2 XE spx_q28) :=
 (sa0 (tc0 (wb0 (q_ne (hu64 hr)) (zd0 EX (c_q28.mono l_q28) hr (xa0 (ya0 0) ua0)) (ya0 1)) (sa0 (sd0 EX O_BadNote PySem.F.excBase_ValueError (by decide) PySem.F.excBase_ValueError (xa0 yb0 ua0))) tb0))
theorem sc_q23:FnScope xq2 ["mark"] (wa0 xi1):=⟨rfl,rfl,rfl,by decide +kernel,rfl,by decide +kernel,by decide +kernel⟩
theorem tv2 {k:Nat} {f:Addr} {cdv:Value} {A:Around} {outer:List Env} {s:Shared} {H:Hp} {E:XK} {XE:XE3} (EX:EXok K mg XE E) {sp_q14:Sp3} {k_q14:Nat} (c_q14:Cal P w K mg base k_q14 "are_figures" ["text"] sp_q14) (l_q14:k_q14<=k) {sp_q19:Sp3} {k_q19:Nat} (c_q19:Cal P w K mg base k_q19 "has_needless" ["mark", "figures"] sp_q19) (l_q19:k_q19<=k) {C_BadNote:Addr} (O_BadNote:OwnCls "BadNote" C_BadNote [.type "ValueError",.type "Exception",.type "BaseException",.type "object"] "ValueError.__new__" mg base) (z_int:mg "int" = none) (hr:Room k (A.deeper (envOfC "number_of" (wa0 xi1) s.heap.objs.size f cdv))) :
    RSs (cxOf (CXn P w) P w K mg base xq2 "number_of" (wa0 xi1) f cdv A outer s H E) (ub0 xi1) (ur2 XE sp_q14 sp_q19) :=
 (va0 (sb0 (i:=1) sc_q23.nd (ya0 0)) (va0 (tc0 (vl0 (ul0 (ya0 0) (xa0 yb0 ua0))) (sa0 (sb0 (i:=1) sc_q23.nd (xd0 q_sl (ya0 0) (wd0 ta0) ue0))) tb0) (va0 (tc0 (zk0 (um0 (yt0 (vl0 (zc0 (c_q14.mono l_q14) hr (xa0 (ya0 1) ua0)))) (yn0 (vl0 (zc0 (c_q19.mono l_q19) hr (xa0 (ya0 0) (xa0 (ya0 1) ua0))))))) (sa0 (sd0 EX O_BadNote PySem.F.excBase_ValueError (by decide) PySem.F.excBase_ValueError (xa0 yb0 ua0))) tb0) (sa0 (xc0 (sg0 ui2 z_int tg1 (xa0 (ya0 0) ua0)))))))
theorem uu2:FnScope ub2 ["text"] (wa0 xj1):=⟨rfl,rfl,rfl,by decide +kernel,rfl,by decide +kernel,by decide +kernel⟩
theorem sw2 {k:Nat} {f:Addr} {cdv:Value} {A:Around} {outer:List Env} {s:Shared} {H:Hp} {E:XK} (z_all:mg "all" = none) (z_len:mg "len" = none) (g_FIGURES:Gd K mg "FIGURES" sl0) (g_MOST_FIGURES:Gd K mg "MOST_FIGURES" zg0) (hr:Room k (A.deeper (envOfC "are_figures" (wa0 xj1) s.heap.objs.size f cdv))) :
    RSs (cxOf CX0 P w K mg base ub2 "are_figures" (wa0 xj1) f cdv A outer s H E).nox (ub0 xj1) (xg2) :=
 (va0 (tc0 (zk0 (um0 (wb0 (q_eq (hu64 hr)) (yc0 wh0 z_len we0 (xa0 (ya0 0) ua0)) ta0) (yn0 (wb0 q_gt (yc0 wh0 z_len we0 (xa0 (ya0 0) ua0)) (re_g g_MOST_FIGURES))))) (sa0 (xc0 vb1)) tb0) (sa0 (xc0 (yc0 wp3 z_all uj3 (xa0 (yi2 (NN:=["sign"]) (by decide +kernel) (by decide +kernel) (by decide +kernel) (vy0 (ya0 0)) (λ _ _ _ _ _=>(si0 (i:=0) (show List.Nodup (["sign"]:List Str) by decide +kernel))) (λ _ _ _ _ _=>sm1) (λ _ _ _ _ _=>(ty0 (q_in (hu65 hr)) (ya0 0) (re_g g_FIGURES)))) ua0)))))
theorem yu2:FnScope yb2 ["mark", "figures"] (wa0 wi1):=⟨rfl,rfl,rfl,by decide +kernel,rfl,by decide +kernel,by decide +kernel⟩
theorem zw2 {k:Nat} {f:Addr} {cdv:Value} {A:Around} {outer:List Env} {s:Shared} {H:Hp} {E:XK} (z_len:mg "len" = none) (hr:Room k (A.deeper (envOfC "has_needless" (wa0 wi1) s.heap.objs.size f cdv))) :
    RSs (cxOf CX0 P w K mg base yb2 "has_needless" (wa0 wi1) f cdv A outer s H E).nox (ub0 wi1) (vf2) :=
 (sa0 (xc0 (xn3 (ty0 (q_eq (hu64 hr)) (ya0 0) yb0) (wc2 (sx2 (ty0 q_gt (yc0 wh0 z_len we0 (xa0 (ya0 1) ua0)) ta0) (wc2 (ul0 (ya0 1) (xa0 yb0 ua0))))))))
theorem vl3:FnScope N_q0 ["script", "k"] (wa0 s_q0):=⟨rfl,rfl,rfl,by decide +kernel,rfl,by decide +kernel,by decide +kernel⟩
theorem sm3 {k:Nat} {f:Addr} {cdv:Value} {A:Around} {outer:List Env} {s:Shared} {H:Hp} {E:XK} (z_len:mg "len" = none) (hr:Room k (A.deeper (envOfC "_law_cell_at" (wa0 s_q0) s.heap.objs.size f cdv))) :
    RSs (cxOf CX0 P w K mg base N_q0 "_law_cell_at" (wa0 s_q0) f cdv A outer s H E).nox (ub0 s_q0) (t_q0) :=
 (va0 (tc0 (wb0 q_lt (ya0 1) (yc0 wh0 z_len we0 (xa0 (ya0 0) ua0))) (sa0 (xc0 (ud0 q_ix (ya0 0) (ya0 1)))) tb0) (sa0 (xc0 ta0)))
theorem sc_q11:FnScope sb2 ["script", "k"] (wa0 wj1):=⟨rfl,rfl,rfl,by decide +kernel,rfl,by decide +kernel,by decide +kernel⟩
theorem zx2 {k:Nat} {f:Addr} {cdv:Value} {A:Around} {outer:List Env} {s:Shared} {H:Hp} {E:XK} {sp_q0:Sp3} {k_q0:Nat} (c_q0:Cal P w K mg base k_q0 "_law_cell_at" ["script", "k"] sp_q0) (l_q0:k_q0<=k) (hr:Room k (A.deeper (envOfC "_law_state" (wa0 wj1) s.heap.objs.size f cdv))) :
    RSs (cxOf CX0 P w K mg base sb2 "_law_state" (wa0 wj1) f cdv A outer s H E).nox (ub0 wj1) (zg2 sp_q0) :=
 (va0 (sb0 (i:=2) sc_q11.nd (zc0 (c_q0.mono l_q0) hr (xa0 (ya0 0) (xa0 (ya0 1) ua0)))) (va0 (tc0 (wb0 q_ge (ya0 2) (vb0 vi2 ta0 ta0)) (sa0 (xc0 (vd0 (xa0 (vb0 sn1 (ya0 2) (vb0 vi2 ta0 ta0)) (xa0 vb1 ua0))))) tb0) (sa0 (xc0 (vd0 (xa0 (vb0 tj1 (ya0 2) ta0) (xa0 vb1 ua0)))))))
theorem sc_q1:FnScope N_q1 ["state", "many"] (wa0 s_q1):=⟨rfl,rfl,rfl,by decide +kernel,rfl,by decide +kernel,by decide +kernel⟩
theorem tm3 {k:Nat} {f:Addr} {cdv:Value} {A:Around} {outer:List Env} {s:Shared} {H:Hp} {E:XK} (hr:Room k (A.deeper (envOfC "_law_choice" (wa0 s_q1) s.heap.objs.size f cdv))) :
    RSs (cxOf CX0 P w K mg base N_q1 "_law_choice" (wa0 s_q1) f cdv A outer s H E).nox (ub0 s_q1) (t_q1) :=
 (va0 (tc0 (vl0 (ud0 q_ix (ya0 0) ta0)) (va0 (sb0 (i:=2) sc_q1.nd (vb0 tj1 (ud0 q_ix (ya0 0) ta0) (ya0 1))) (va0 (xn1 (vb0 vc2 (ud0 q_ix (ya0 0) ta0) (ya0 1)) (zn1 (ya0 0) ta0)) (sa0 (xc0 (ya0 2))))) tb0) (va0 (xn1 (vb0 tj1 (vb0 wc0 (vb0 uj1 (ud0 q_ix (ya0 0) ta0) ta0) ta0) ta0) (zn1 (ya0 0) ta0)) (va0 (sb0 (i:=3) sc_q1.nd (vb0 tj1 (vb0 wc0 (vb0 wc0 (vb0 uj1 (ud0 q_ix (ya0 0) ta0) (ud0 q_ix (ya0 0) ta0)) (vb0 uj1 ta0 (ud0 q_ix (ya0 0) ta0))) ta0) ta0)) (va0 (sb0 (i:=3) sc_q1.nd (vb0 tj1 (vb0 wc0 (vb0 uj1 (ya0 3) (ya0 3)) (vb0 uj1 ta0 (ya0 3))) ta0)) (sa0 (xc0 (vb0 tj1 (vb0 vc2 (ya0 3) ta0) (ya0 1))))))))
theorem sc_q13:FnScope wq2 ["state", "deep"] (wa0 yj1):=⟨rfl,rfl,rfl,by decide +kernel,rfl,by decide +kernel,by decide +kernel⟩
theorem xx2 {k:Nat} {f:Addr} {cdv:Value} {A:Around} {outer:List Env} {s:Shared} {H:Hp} {E:XK} {sp_q1:Sp3} {k_q1:Nat} (c_q1:Cal P w K mg base k_q1 "_law_choice" ["state", "many"] sp_q1) (l_q1:k_q1<=k) {sp_q13:Sp3} {k_q13:Nat} (c_q13:Cal P w K mg base k_q13 "_law_word" ["state", "deep"] sp_q13) (l_q13:k_q13<=k) (z_range:mg "range" = none) (z_tuple:mg "tuple" = none) (hr:Room k (A.deeper (envOfC "_law_word" (wa0 yj1) s.heap.objs.size f cdv))) :
    RSs (cxOf CX0 P w K mg base wq2 "_law_word" (wa0 yj1) f cdv A outer s H E).nox (ub0 yj1) (xs2 sp_q1 sp_q13) :=
 (va0 (sb0 (i:=2) sc_q13.nd (vd0 ua0)) (va0 (wy0 PassesOwn.never rfl (wp0 z_range (zc0 (c_q1.mono l_q1) hr (xa0 (ya0 0) (xa0 ta0 ua0)))) (si0 (i:=3) sc_q13.nd) (va0 (sb0 (i:=4) sc_q13.nd (zc0 (c_q1.mono l_q1) hr (xa0 (ya0 0) (xa0 ta0 ua0)))) (sa0 (tc0 (wb0 q_gt (ud0 q_ix (ya0 0) ta0) ta0) (va0 (xn1 (vb0 sn1 (ud0 q_ix (ya0 0) ta0) ta0) (zn1 (ya0 0) ta0)) (sa0 (tc0 (zk0 (zp0 (wb0 q_lt (ya0 4) ta0) (wk0 (wb0 q_gt (ya0 1) ta0)))) (sa0 (yf0 (xh0 (ya0 2) (xa0 (xj0 (xa0 yb0 (xa0 (zc0 (c_q1.mono l_q1) hr (xa0 (ya0 0) (xa0 ta0 ua0))) (xa0 (zc0 (c_q13.mono l_q13) hr (xa0 (ya0 0) (xa0 (vb0 sn1 (ya0 1) ta0) ua0))) ua0)))) ua0)))) (sa0 (tc0 (wb0 q_lt (ya0 4) ta0) (sa0 (yf0 (xh0 (ya0 2) (xa0 (xj0 (xa0 yb0 (xa0 (ud0 q_ix (vd0 (xa0 ta0 (xa0 (su1 vv1 ta0) (xa0 ta0 (xa0 ta0 (xa0 (su1 vv1 ta0) (xa0 ta0 (xa0 ta0 (xa0 (su1 vv1 ta0) ua0))))))))) (zc0 (c_q1.mono l_q1) hr (xa0 (ya0 0) (xa0 ta0 ua0)))) ua0))) ua0)))) (sa0 (tc0 (wb0 (q_eq (hu64 hr)) (ya0 4) ta0) (sa0 (yf0 (xh0 (ya0 2) (xa0 (xj0 (xa0 yb0 (xa0 (vb0 sn1 (zc0 (c_q1.mono l_q1) hr (xa0 (ya0 0) (xa0 ta0 ua0))) ta0) ua0))) ua0)))) (sa0 (yf0 (xh0 (ya0 2) (xa0 (xj0 (xa0 yb0 (xa0 (zc0 (c_q1.mono l_q1) hr (xa0 (ya0 0) (xa0 ta0 ua0))) ua0))) ua0))))))))))) tb0)))) (sa0 (xc0 (sg0 tb1 z_tuple uj0 (xa0 (ya0 2) ua0))))))
theorem sc_q3:FnScope N_q3 ["script", "k", "deep", "most"] (wa0 s_q3):=⟨rfl,rfl,rfl,by decide +kernel,rfl,by decide +kernel,by decide +kernel⟩
theorem vm3 {k:Nat} {f:Addr} {cdv:Value} {A:Around} {outer:List Env} {s:Shared} {H:Hp} {E:XK} {sp_q11:Sp3} {k_q11:Nat} (c_q11:Cal P w K mg base k_q11 "_law_state" ["script", "k"] sp_q11) (l_q11:k_q11<=k) {sp_q13:Sp3} {k_q13:Nat} (c_q13:Cal P w K mg base k_q13 "_law_word" ["state", "deep"] sp_q13) (l_q13:k_q13<=k) (hr:Room k (A.deeper (envOfC "_law_drawn_word" (wa0 s_q3) s.heap.objs.size f cdv))) :
    RSs (cxOf CX0 P w K mg base N_q3 "_law_drawn_word" (wa0 s_q3) f cdv A outer s H E).nox (ub0 s_q3) (t_q3 sp_q11 sp_q13) :=
 (va0 (sb0 (i:=4) sc_q3.nd (vb0 wc0 (zc0 (c_q11.mono l_q11) hr (xa0 (ya0 0) (xa0 (ya0 1) ua0))) (vd0 (xa0 (ya0 3) ua0)))) (sa0 (xc0 (zc0 (c_q13.mono l_q13) hr (xa0 (ya0 4) (xa0 (ya0 2) ua0))))))
theorem sc_q5:FnScope N_q5 ["e"] (wa0 s_q5):=⟨rfl,rfl,rfl,by decide +kernel,rfl,by decide +kernel,by decide +kernel⟩
theorem zm3 {k:Nat} {f:Addr} {cdv:Value} {A:Around} {outer:List Env} {s:Shared} {H:Hp} {E:XK} {C_BadNote:Addr} (m_BadNote:mg "BadNote" = some (.ref C_BadNote)) (x_BadNote:∀ c C b,subX "BadNote" c=some b->PySem.W.nsIn K mainGlobals c=some (some (.ref C))->ExcK K C /\ PySem.W.kitOne K (.ref C) (.ref C_BadNote)=some b) {C_NoNumber:Addr} (m_NoNumber:mg "NoNumber" = some (.ref C_NoNumber)) (x_NoNumber:∀ c C b,subX "NoNumber" c=some b->PySem.W.nsIn K mainGlobals c=some (some (.ref C))->ExcK K C /\ PySem.W.kitOne K (.ref C) (.ref C_NoNumber)=some b) {C_NoPicture:Addr} (m_NoPicture:mg "NoPicture" = some (.ref C_NoPicture)) (x_NoPicture:∀ c C b,subX "NoPicture" c=some b->PySem.W.nsIn K mainGlobals c=some (some (.ref C))->ExcK K C /\ PySem.W.kitOne K (.ref C) (.ref C_NoPicture)=some b) {C_NoRoom:Addr} (m_NoRoom:mg "NoRoom" = some (.ref C_NoRoom)) (x_NoRoom:∀ c C b,subX "NoRoom" c=some b->PySem.W.nsIn K mainGlobals c=some (some (.ref C))->ExcK K C /\ PySem.W.kitOne K (.ref C) (.ref C_NoRoom)=some b) {C_NoStep:Addr} (m_NoStep:mg "NoStep" = some (.ref C_NoStep)) (x_NoStep:∀ c C b,subX "NoStep" c=some b->PySem.W.nsIn K mainGlobals c=some (some (.ref C))->ExcK K C /\ PySem.W.kitOne K (.ref C) (.ref C_NoStep)=some b) {C_NoWord:Addr} (m_NoWord:mg "NoWord" = some (.ref C_NoWord)) (x_NoWord:∀ c C b,subX "NoWord" c=some b->PySem.W.nsIn K mainGlobals c=some (some (.ref C))->ExcK K C /\ PySem.W.kitOne K (.ref C) (.ref C_NoWord)=some b) (x_ValueError:∀ c C b,subX "ValueError" c=some b->PySem.W.nsIn K mainGlobals c=some (some (.ref C))->ExcK K C /\ PySem.W.kitOne K (.ref C) (.type "ValueError")=some b) (z_ValueError:mg "ValueError" = none) (z_isinstance:mg "isinstance" = none) (hr:RoomM k (A.deeper (envOfC "_law_marks" (wa0 s_q5) s.heap.objs.size f cdv))) :
    RSs (cxM CX0 P w K mg base N_q5 "_law_marks" (wa0 s_q5) f cdv A outer s H E).nox (ub0 s_q5) (t_q5) :=
 (va0 (sb0 (i:=1) sc_q5.nd (vd0 (xa0 (tp0 (ya0 0) (wt0 rfl m_NoWord) (λ _ h=>h) x_NoWord z_isinstance) (xa0 (tp0 (ya0 0) (wt0 rfl m_NoRoom) (λ _ h=>h) x_NoRoom z_isinstance) (xa0 (tp0 (ya0 0) (wt0 rfl m_NoStep) (λ _ h=>h) x_NoStep z_isinstance) (xa0 (tp0 (ya0 0) (wt0 rfl m_NoPicture) (λ _ h=>h) x_NoPicture z_isinstance) ua0)))))) (sa0 (xc0 (vb0 wc0 (ya0 1) (vd0 (xa0 (tp0 (ya0 0) (wt0 rfl m_NoNumber) (λ _ h=>h) x_NoNumber z_isinstance) (xa0 (tp0 (ya0 0) (wt0 rfl m_BadNote) (λ _ h=>h) x_BadNote z_isinstance) (xa0 (tp0 (ya0 0) (wo1 rfl z_ValueError ux0 (show RelV (.ty "ValueError") (.type "ValueError") from rfl)) (λ _ h=>h) x_ValueError z_isinstance) ua0))))))))
theorem wl3:FnScope N_q9 ["marks", "which"] (wa0 s_q9):=⟨rfl,rfl,rfl,by decide +kernel,rfl,by decide +kernel,by decide +kernel⟩
theorem ul3 {k:Nat} {f:Addr} {cdv:Value} {A:Around} {outer:List Env} {s:Shared} {H:Hp} {E:XK} (z_range:mg "range" = none) (hr:Room k (A.deeper (envOfC "_law_refused" (wa0 s_q9) s.heap.objs.size f cdv))) :
    RSs (cxOf CX0 P w K mg base N_q9 "_law_refused" (wa0 s_q9) f cdv A outer s H E).nox (ub0 s_q9) (t_q9) :=
 (sa0 (xc0 (ty0 (q_eq (hu64 hr)) (ya0 0) (vb0 wc0 (se1 (NN:=["k", "which"]) (js:=[none,some 1]) rfl zo2 (wp0 z_range ta0) (λ _ _ _ _ _=>(si0 (i:=0) (show List.Nodup (["k", "which"]:List Str) by decide +kernel))) (λ _ _ _ _ _=>sm1) (λ _ _ _ _ _=>(ty0 (q_eq (hu64 hr)) (ya0 0) (ya0 1))) (by intro _; rfl)) (vd0 (xa0 vb1 ua0))))))
theorem sc_q6:FnScope N_q6 ["text", "least"] (wa0 s_q6):=⟨rfl,rfl,rfl,by decide +kernel,rfl,by decide +kernel,by decide +kernel⟩
theorem ym3 {k:Nat} {f:Addr} {cdv:Value} {A:Around} {outer:List Env} {s:Shared} {H:Hp} {E:XK} (z_int:mg "int" = none) (z_len:mg "len" = none) (hr:Room k (A.deeper (envOfC "_law_number" (wa0 s_q6) s.heap.objs.size f cdv))) :
    RSs (cxOf CX0 P w K mg base N_q6 "_law_number" (wa0 s_q6) f cdv A outer s H E).nox (ub0 s_q6) (t_q6) :=
 (va0 (vu1 (i:=2) sc_q6.nd (NN:=["sign"]) (by decide +kernel) (by decide +kernel) (by decide +kernel) (vy0 (ya0 0)) (λ _ _ _ _ _=>(si0 (i:=0) (show List.Nodup (["sign"]:List Str) by decide +kernel))) (λ _ _ _ _ _=>(uh2 (wb0 (q_in (hu65 hr)) (ya0 0) yb0))) (λ _ _ _ _ _=>(ya0 0))) (va0 (sb0 (i:=3) sc_q6.nd (ya0 0)) (va0 (tc0 (wb0 (q_eq (hu64 hr)) (xd0 q_sl (ya0 0) ue0 (wd0 ta0)) yb0) (sa0 (sb0 (i:=3) sc_q6.nd (xd0 q_sl (ya0 0) (wd0 ta0) ue0))) tb0) (va0 (tc0 (zk0 (um0 (wb0 (q_eq (hu64 hr)) (ya0 3) yb0) (um0 (wb0 (q_ne (hu64 hr)) (yc0 wh0 z_len we0 (xa0 (ya0 2) ua0)) (yc0 wh0 z_len we0 (xa0 (ya0 3) ua0))) (um0 (wb0 q_gt (yc0 wh0 z_len we0 (xa0 (ya0 3) ua0)) ta0) (yn0 (zk0 (zp0 (wb0 (q_eq (hu64 hr)) (ud0 ta3 (ya0 3) ta0) yb0) (wk0 (wb0 (q_ne (hu64 hr)) (ya0 0) yb0))))))))) (sa0 (xc0 ti0)) tb0) (sa0 (xc0 (yn3 (wb0 q_ge (sg0 ui2 z_int tg1 (xa0 (ya0 0) ua0)) (ya0 1)) (sg0 ui2 z_int tg1 (xa0 (ya0 0) ua0)) ti0)))))))
theorem sc_q8:FnScope N_q8 ["parts", "deep"] (wa0 s_q8):=⟨rfl,rfl,rfl,by decide +kernel,rfl,by decide +kernel,by decide +kernel⟩
theorem tl3 {k:Nat} {f:Addr} {cdv:Value} {A:Around} {outer:List Env} {s:Shared} {H:Hp} {E:XK} {sp_q6:Sp3} {k_q6:Nat} (c_q6:Cal P w K mg base k_q6 "_law_number" ["text", "least"] sp_q6) (l_q6:k_q6<=k) {sp_q8:Sp3} {k_q8:Nat} (c_q8:Cal P w K mg base k_q8 "_law_parts_read" ["parts", "deep"] sp_q8) (l_q8:k_q8<=k) (z_len:mg "len" = none) (z_tuple:mg "tuple" = none) (hr:Room k (A.deeper (envOfC "_law_parts_read" (wa0 s_q8) s.heap.objs.size f cdv))) :
    RSs (cxOf CX0 P w K mg base N_q8 "_law_parts_read" (wa0 s_q8) f cdv A outer s H E).nox (ub0 s_q8) (t_q8 sp_q6 sp_q8) :=
 (va0 (sb0 (i:=2) sc_q8.nd (vd0 ua0)) (va0 (sb0 (i:=3) sc_q8.nd ta0) (va0 (te1 PassesOwn.never (zk0 (zp0 (wb0 q_lt (ya0 3) (yc0 wh0 z_len we0 (xa0 (ya0 0) ua0))) (wk0 (wb0 (q_ne (hu64 hr)) (ud0 q_ix (ya0 0) (ya0 3)) yb0)))) (va0 (sb0 (i:=4) sc_q8.nd (ud0 q_ix (ya0 0) (ya0 3))) (va0 (sb0 (i:=5) sc_q8.nd ta0) (va0 (tc0 (wb0 zp3 (ya0 4) (vd0 (xa0 yb0 (xa0 yb0 ua0)))) (sa0 (sb0 (i:=5) sc_q8.nd (vb0 sn1 ta0 (vb0 vi2 ta0 ta0)))) tb0) (va0 (tc0 (zk0 (um0 (wb0 wv1 (ya0 4) (vd0 (xa0 yb0 (xa0 yb0 (xa0 yb0 (xa0 yb0 ua0)))))) (yn0 (wb0 q_ge (vb0 wc0 (ya0 3) ta0) (yc0 wh0 z_len we0 (xa0 (ya0 0) ua0)))))) (sa0 (xc0 ti0)) tb0) (va0 (sb0 (i:=6) sc_q8.nd (zc0 (c_q6.mono l_q6) hr (xa0 (ud0 q_ix (ya0 0) (vb0 wc0 (ya0 3) ta0)) (xa0 (ya0 5) ua0)))) (va0 (tc0 (wb0 tv1 (ya0 6) ti0) (sa0 (xc0 ti0)) tb0) (va0 (sb0 (i:=3) sc_q8.nd (vb0 wc0 (ya0 3) ta0)) (sa0 (tc0 (wb0 (q_eq (hu64 hr)) (ya0 4) yb0) (va0 (tc0 (zk0 (um0 (wb0 (q_eq (hu64 hr)) (ya0 1) ta0) (um0 (wb0 q_ge (ya0 3) (yc0 wh0 z_len we0 (xa0 (ya0 0) ua0))) (yn0 (wb0 (q_ne (hu64 hr)) (ud0 q_ix (ya0 0) (ya0 3)) yb0))))) (sa0 (xc0 ti0)) tb0) (va0 (sb0 (i:=7) sc_q8.nd (zc0 (c_q8.mono l_q8) hr (xa0 (xd0 q_sl (ya0 0) (wd0 (vb0 wc0 (ya0 3) ta0)) ue0) (xa0 (vb0 wc0 (ya0 1) ta0) ua0)))) (va0 (tc0 (zk0 (um0 (wb0 tv1 (ya0 7) ti0) (yn0 (wb0 q_ge (vb0 wc0 (vb0 wc0 (ya0 3) ta0) (ud0 q_ix (ya0 7) ta0)) (yc0 wh0 z_len we0 (xa0 (ya0 0) ua0)))))) (sa0 (xc0 ti0)) tb0) (va0 (sb0 (i:=3) sc_q8.nd (vb0 wc0 (vb0 wc0 (ya0 3) (ud0 q_ix (ya0 7) ta0)) ta0)) (sa0 (yf0 (xh0 (ya0 2) (xa0 (xj0 (xa0 (ya0 4) (xa0 (ya0 6) (xa0 (ud0 q_ix (ya0 7) ta0) ua0)))) ua0)))))))) (sa0 (yf0 (xh0 (ya0 2) (xa0 (xj0 (xa0 (ya0 4) (xa0 (ya0 6) ua0))) ua0)))))))))))))) (sa0 (xc0 (xj0 (xa0 (sg0 tb1 z_tuple uj0 (xa0 (ya0 2) ua0)) (xa0 (ya0 3) ua0))))))))
theorem sc_q2:FnScope N_q2 ["deeds"] (wa0 s_q2):=⟨rfl,rfl,rfl,by decide +kernel,rfl,by decide +kernel,by decide +kernel⟩
theorem um3 {k:Nat} {f:Addr} {cdv:Value} {A:Around} {outer:List Env} {s:Shared} {H:Hp} {E:XK} {sp_q2:Sp3} {k_q2:Nat} (c_q2:Cal P w K mg base k_q2 "_law_count" ["deeds"] sp_q2) (l_q2:k_q2<=k) (z_len:mg "len" = none) (hr:Room k (A.deeper (envOfC "_law_count" (wa0 s_q2) s.heap.objs.size f cdv))) :
    RSs (cxOf CX0 P w K mg base N_q2 "_law_count" (wa0 s_q2) f cdv A outer s H E).nox (ub0 s_q2) (t_q2 sp_q2) :=
 (va0 (sb0 (i:=1) sc_q2.nd (yc0 wh0 z_len we0 (xa0 (ya0 0) ua0))) (va0 (wy0 PassesOwn.never rfl (vy0 (ya0 0)) (si0 (i:=2) sc_q2.nd) (sa0 (tc0 (wb0 (q_eq (hu64 hr)) (yc0 wh0 z_len we0 (xa0 (ya0 2) ua0)) ta0) (sa0 (sb0 (i:=1) sc_q2.nd (vb0 wc0 (ya0 1) (zc0 (c_q2.mono l_q2) hr (xa0 (ud0 q_ix (ya0 2) ta0) ua0))))) tb0))) (sa0 (xc0 (ya0 1)))))
theorem sc_q4:FnScope N_q4 ["text"] (wa0 s_q4):=⟨rfl,rfl,rfl,by decide +kernel,rfl,by decide +kernel,by decide +kernel⟩
theorem wm3 {k:Nat} {f:Addr} {cdv:Value} {A:Around} {outer:List Env} {s:Shared} {H:Hp} {E:XK} {sp_q2:Sp3} {k_q2:Nat} (c_q2:Cal P w K mg base k_q2 "_law_count" ["deeds"] sp_q2) (l_q2:k_q2<=k) {sp_q8:Sp3} {k_q8:Nat} (c_q8:Cal P w K mg base k_q8 "_law_parts_read" ["parts", "deep"] sp_q8) (l_q8:k_q8<=k) (z_len:mg "len" = none) (hr:Room k (A.deeper (envOfC "_law_due" (wa0 s_q4) s.heap.objs.size f cdv))) :
    RSs (cxOf CX0 P w K mg base N_q4 "_law_due" (wa0 s_q4) f cdv A outer s H E).nox (ub0 s_q4) (t_q4 sp_q2 sp_q8) :=
 (va0 (tc0 (wb0 (q_eq (hu64 hr)) (ya0 0) yb0) (sa0 (xc0 (xj0 ua0))) tb0) (va0 (sb0 (i:=1) sc_q4.nd (uv0 (ya0 0) (xa0 yb0 ua0))) (va0 (sb0 (i:=2) sc_q4.nd (zc0 (c_q8.mono l_q8) hr (xa0 (ya0 1) (xa0 ta0 ua0)))) (va0 (tc0 (zk0 (um0 (wb0 tv1 (ya0 2) ti0) (um0 (wb0 q_lt (ud0 q_ix (ya0 2) ta0) (yc0 wh0 z_len we0 (xa0 (ya0 1) ua0))) (yn0 (wb0 q_gt (zc0 (c_q2.mono l_q2) hr (xa0 (ud0 q_ix (ya0 2) ta0) ua0)) ta0))))) (sa0 (xc0 ti0)) tb0) (sa0 (xc0 (ud0 q_ix (ya0 2) ta0)))))))
theorem sc_q7:FnScope N_q7 ["state"] (wa0 s_q7):=⟨rfl,rfl,rfl,by decide +kernel,rfl,by decide +kernel,by decide +kernel⟩
theorem xm3 {k:Nat} {f:Addr} {cdv:Value} {A:Around} {outer:List Env} {s:Shared} {H:Hp} {E:XK} {sp_q1:Sp3} {k_q1:Nat} (c_q1:Cal P w K mg base k_q1 "_law_choice" ["state", "many"] sp_q1) (l_q1:k_q1<=k) (z_len:mg "len" = none) (hr:Room k (A.deeper (envOfC "_law_odd" (wa0 s_q7) s.heap.objs.size f cdv))) :
    RSs (cxOf CX0 P w K mg base N_q7 "_law_odd" (wa0 s_q7) f cdv A outer s H E).nox (ub0 s_q7) (t_q7 sp_q1) :=
 (va0 (sb0 (i:=1) sc_q7.nd (vd0 (xa0 yb0 (xa0 yb0 (xa0 yb0 (xa0 yb0 (xa0 yb0 (xa0 yb0 (xa0 yb0 (xa0 yb0 (xa0 yb0 (xa0 yb0 (xa0 yb0 (xa0 yb0 ua0)))))))))))))) (va0 (sb0 (i:=1) sc_q7.nd (vb0 wc0 (ya0 1) (vd0 (xa0 yb0 (xa0 yb0 (xa0 yb0 (xa0 yb0 (xa0 yb0 (xa0 yb0 (xa0 yb0 (xa0 yb0 ua0))))))))))) (va0 (sb0 (i:=1) sc_q7.nd (vb0 wc0 (ya0 1) (vd0 (xa0 yb0 (xa0 yb0 (xa0 yb0 (xa0 yb0 (xa0 yb0 (xa0 yb0 (xa0 yb0 ua0)))))))))) (va0 (sb0 (i:=1) sc_q7.nd (vb0 wc0 (ya0 1) (vd0 (xa0 (vb0 wc0 yb0 (vb0 zn0 yb0 ta0)) (xa0 (vb0 wc0 yb0 (vb0 zn0 yb0 ta0)) (xa0 (vb0 wc0 yb0 (vb0 zn0 yb0 ta0)) (xa0 (vb0 wc0 yb0 (vb0 zn0 yb0 ta0)) ua0))))))) (va0 (sb0 (i:=1) sc_q7.nd (vb0 wc0 (ya0 1) (vd0 (xa0 yb0 (xa0 yb0 ua0))))) (va0 (sb0 (i:=2) sc_q7.nd (up0 yb0 (xa0 (vb0 uj1 (vd0 (xa0 yb0 ua0)) ta0) ua0))) (va0 (sb0 (i:=1) sc_q7.nd (vb0 wc0 (ya0 1) (vd0 (xa0 (ya0 2) (xa0 (vb0 wc0 (ya0 2) yb0) (xa0 (vb0 wc0 (vb0 wc0 (vb0 zn0 yb0 ta0) yb0) (vb0 zn0 yb0 ta0)) (xa0 (vb0 wc0 (vb0 wc0 (vb0 zn0 yb0 ta0) yb0) (vb0 zn0 yb0 ta0)) ua0))))))) (va0 (sb0 (i:=1) sc_q7.nd (vb0 wc0 (ya0 1) (vd0 (xa0 (vb0 wc0 (vb0 wc0 yb0 (ya0 2)) yb0) (xa0 yb0 (xa0 yb0 (xa0 yb0 (xa0 yb0 ua0)))))))) (sa0 (xc0 (ud0 q_ix (ya0 1) (zc0 (c_q1.mono l_q1) hr (xa0 (ya0 0) (xa0 (yc0 wh0 z_len we0 (xa0 (ya0 1) ua0)) ua0))))))))))))))
theorem sc_q10:FnScope vq2 ["state", "text"] (wa0 vj1):=⟨rfl,rfl,rfl,by decide +kernel,rfl,by decide +kernel,by decide +kernel⟩
theorem wx2 {k:Nat} {f:Addr} {cdv:Value} {A:Around} {outer:List Env} {s:Shared} {H:Hp} {E:XK} {sp_q1:Sp3} {k_q1:Nat} (c_q1:Cal P w K mg base k_q1 "_law_choice" ["state", "many"] sp_q1) (l_q1:k_q1<=k) {sp_q7:Sp3} {k_q7:Nat} (c_q7:Cal P w K mg base k_q7 "_law_odd" ["state"] sp_q7) (l_q7:k_q7<=k) (z_len:mg "len" = none) (hr:Room k (A.deeper (envOfC "_law_spoilt" (wa0 vj1) s.heap.objs.size f cdv))) :
    RSs (cxOf CX0 P w K mg base vq2 "_law_spoilt" (wa0 vj1) f cdv A outer s H E).nox (ub0 vj1) (ys2 sp_q1 sp_q7) :=
 (va0 (sb0 (i:=2) sc_q10.nd (zc0 (c_q1.mono l_q1) hr (xa0 (ya0 0) (xa0 ta0 ua0)))) (va0 (sb0 (i:=3) sc_q10.nd (zc0 (c_q1.mono l_q1) hr (xa0 (ya0 0) (xa0 (vb0 wc0 (yc0 wh0 z_len we0 (xa0 (ya0 1) ua0)) ta0) ua0)))) (va0 (sb0 (i:=4) sc_q10.nd (ud0 ta3 yb0 (zc0 (c_q1.mono l_q1) hr (xa0 (ya0 0) (xa0 ta0 ua0))))) (va0 (sb0 (i:=5) sc_q10.nd (uv0 (ya0 1) (xa0 yb0 ua0))) (va0 (sb0 (i:=6) sc_q10.nd (zc0 (c_q1.mono l_q1) hr (xa0 (ya0 0) (xa0 (yc0 wh0 z_len we0 (xa0 (ya0 5) ua0)) ua0)))) (va0 (tc0 (wb0 (q_eq (hu64 hr)) (ya0 2) ta0) (sa0 (xc0 (vb0 wc0 (vb0 wc0 (xd0 q_sl (ya0 1) ue0 (wd0 (ya0 3))) (ya0 4)) (xd0 q_sl (ya0 1) (wd0 (ya0 3)) ue0)))) tb0) (va0 (tc0 (wb0 (q_eq (hu64 hr)) (ya0 2) ta0) (sa0 (xc0 (vb0 wc0 (vb0 wc0 (xd0 q_sl (ya0 1) ue0 (wd0 (ya0 3))) (ya0 4)) (xd0 q_sl (ya0 1) (wd0 (vb0 wc0 (ya0 3) ta0)) ue0)))) tb0) (va0 (tc0 (wb0 (q_eq (hu64 hr)) (ya0 2) ta0) (sa0 (xc0 (vb0 wc0 (xd0 q_sl (ya0 1) ue0 (wd0 (ya0 3))) (xd0 q_sl (ya0 1) (wd0 (vb0 wc0 (ya0 3) ta0)) ue0)))) tb0) (va0 (tc0 (wb0 (q_eq (hu64 hr)) (ya0 2) ta0) (sa0 (xc0 (up0 yb0 (xa0 (vb0 wc0 (xd0 q_sl (ya0 5) ue0 (wd0 (ya0 6))) (xd0 q_sl (ya0 5) (wd0 (vb0 wc0 (ya0 6) ta0)) ue0)) ua0)))) tb0) (va0 (tc0 (wb0 (q_eq (hu64 hr)) (ya0 2) ta0) (sa0 (xc0 (up0 yb0 (xa0 (vb0 wc0 (xd0 q_sl (ya0 5) ue0 (wd0 (vb0 wc0 (ya0 6) ta0))) (xd0 q_sl (ya0 5) (wd0 (ya0 6)) ue0)) ua0)))) tb0) (va0 (tc0 (wb0 (q_eq (hu64 hr)) (ya0 2) ta0) (va0 (sb0 (i:=7) sc_q10.nd (vb0 wc0 (xd0 q_sl (ya0 5) (wd0 (vb0 wc0 (ya0 6) ta0)) (wd0 (vb0 wc0 (ya0 6) ta0))) (xd0 q_sl (ya0 5) (wd0 (ya0 6)) (wd0 (vb0 wc0 (ya0 6) ta0))))) (sa0 (xc0 (up0 yb0 (xa0 (vb0 wc0 (vb0 wc0 (xd0 q_sl (ya0 5) ue0 (wd0 (ya0 6))) (ya0 7)) (xd0 q_sl (ya0 5) (wd0 (vb0 wc0 (ya0 6) ta0)) ue0)) ua0))))) tb0) (sa0 (xc0 (zc0 (c_q7.mono l_q7) hr (xa0 (ya0 0) ua0)))))))))))))))
theorem sc_q12:FnScope tb2 ["text"] (wa0 zj1):=⟨rfl,rfl,rfl,by decide +kernel,rfl,by decide +kernel,by decide +kernel⟩
theorem yx2 {k:Nat} {f:Addr} {cdv:Value} {A:Around} {outer:List Env} {s:Shared} {H:Hp} {E:XK} {sp_q5:Sp3} {k_q5:Nat} (c_q5:CalM P w K mg base k_q5 "_law_marks" ["e"] sp_q5) (l_q5:k_q5<=k) {spx_q24:XE3->Sp3} {k_q24:Nat} (c_q24:CalX P w K mg base k_q24 "read" ["text"] spx_q24) (l_q24:k_q24<=k) {C_PenError:Addr} (m_PenError:mg "PenError" = some (.ref C_PenError)) (k2_PenError:PySem.W.kitCls K (.ref C_PenError) (.type "BaseException")=some true) (k3:PySem.W.kitCls K (.type "type") (.type "tuple")=some false) (ok_PenError:∀ c,okX c=true->∃ C,PySem.W.nsIn K mainGlobals c=some (some (.ref C)) /\ mg c=some (.ref C) /\ PySem.W.kitCls K (.ref C) (.ref C_PenError)=some true) (hr:Room k (A.deeper (envOfC "_law_told" (wa0 zj1) s.heap.objs.size f cdv))) :
    RSs (cxOf CX0 P w K mg base tb2 "_law_told" (wa0 zj1) f cdv A outer s H E).nox (ub0 zj1) (yg2 sp_q5 spx_q24) :=
 (va0 (sb0 (i:=1) sc_q12.nd ti0) (va0 (sb0 (i:=2) sc_q12.nd (vd0 ua0)) (va0 (sh2 (i:=3) (j:=1) (c_q24.mono l_q24) hr (xa0 (ya0 0) ua0) (λ _=>(sa0 (sb0 (i:=2) sc_q12.nd (yv1 (c_q5.mono l_q5) (RoomM.of hr _) (xa0 (ya0 3) ua0))))) sc_q12.nd m_PenError k2_PenError k3 ok_PenError) (sa0 (xc0 (xj0 (xa0 (ya0 1) (xa0 (ya0 2) ua0))))))))
theorem sc_q20:FnScope zq2 ["script"] (wa0 zs0):=⟨rfl,rfl,rfl,by decide +kernel,rfl,by decide +kernel,by decide +kernel⟩
theorem yw2 {k:Nat} {f:Addr} {cdv:Value} {A:Around} {outer:List Env} {s:Shared} {H:Hp} {E:XK} {sp_q3:Sp3} {k_q3:Nat} (c_q3:Cal P w K mg base k_q3 "_law_drawn_word" ["script", "k", "deep", "most"] sp_q3) (l_q3:k_q3<=k) {sp_q4:Sp3} {k_q4:Nat} (c_q4:Cal P w K mg base k_q4 "_law_due" ["text"] sp_q4) (l_q4:k_q4<=k) {sp_q9:Sp3} {k_q9:Nat} (c_q9:Cal P w K mg base k_q9 "_law_refused" ["marks", "which"] sp_q9) (l_q9:k_q9<=k) {sp_q10:Sp3} {k_q10:Nat} (c_q10:Cal P w K mg base k_q10 "_law_spoilt" ["state", "text"] sp_q10) (l_q10:k_q10<=k) {sp_q11:Sp3} {k_q11:Nat} (c_q11:Cal P w K mg base k_q11 "_law_state" ["script", "k"] sp_q11) (l_q11:k_q11<=k) {sp_q12:Sp3} {k_q12:Nat} (c_q12:Cal P w K mg base k_q12 "_law_told" ["text"] sp_q12) (l_q12:k_q12<=k) {spx_q25:XE3->Sp3} {k_q25:Nat} (c_q25:CalX P w K mg base k_q25 "shown" ["word"] spx_q25) (l_q25:k_q25<=k) (z_isinstance:mg "isinstance" = none) (z_range:mg "range" = none) (z_tuple:mg "tuple" = none) (hr:Room k (A.deeper (envOfC "law" (wa0 zs0) s.heap.objs.size f cdv))) :
    RSs (cxOf CX0 P w K mg base zq2 "law" (wa0 zs0) f cdv A outer s H E).nox (ub0 zs0) (sr2 sp_q3 sp_q4 sp_q9 sp_q10 sp_q11 sp_q12 spx_q25) :=
 (va0 (sb0 (i:=1) sc_q20.nd (vn1 (c_q25.mono l_q25) hr (xa0 (zc0 (c_q3.mono l_q3) hr (xa0 (ya0 0) (xa0 ta0 (xa0 ta0 (xa0 ta0 ua0))))) ua0))) (va0 (wy0 PassesOwn.never rfl (wp0 z_range ta0) (si0 (i:=2) sc_q20.nd) (va0 (sb0 (i:=3) sc_q20.nd (zc0 (c_q10.mono l_q10) hr (xa0 (zc0 (c_q11.mono l_q11) hr (xa0 (ya0 0) (xa0 (vb0 wc0 ta0 (ya0 2)) ua0))) (xa0 (ya0 1) ua0)))) (va0 (sb0 (i:=4) sc_q20.nd (zc0 (c_q4.mono l_q4) hr (xa0 (ya0 3) ua0))) (va0 (sb0 (i:=5) sc_q20.nd (zc0 (c_q12.mono l_q12) hr (xa0 (ya0 3) ua0))) (sa0 (tc0 (wb0 tv1 (ya0 4) ti0) (sa0 (tc0 (yt0 (vl0 (zc0 (c_q9.mono l_q9) hr (xa0 (ud0 q_ix (ya0 5) ta0) (xa0 ta0 ua0))))) (sa0 (xc0 vb1)) tb0)) (sa0 (tc0 (zk0 (um0 (wb0 (q_ne (hu64 hr)) (ud0 q_ix (ya0 5) ta0) (vd0 ua0)) (um0 (yt0 (vl0 (yc0 uv1 z_isinstance vf0 (xa0 (ud0 q_ix (ya0 5) ta0) (xa0 (xv1 z_tuple uj0) ua0))))) (yn0 (wb0 (q_ne (hu64 hr)) (ud0 q_ix (ya0 5) ta0) (ya0 4)))))) (sa0 (xc0 vb1)) tb0)))))))) (sa0 (xc0 vb1))))
end
end Pv
namespace Mw
noncomputable abbrev Pen:=Int × Int × Int
noncomputable def cs (h:Int):Int:=if h=0 then 1 else if h=2 then -1 else 0
noncomputable def sn (h:Int):Int:=if h=1 then 1 else if h=3 then -1 else 0
noncomputable def led (p q:Pen):Pen:=(p.1 + q.1 * cs p.2.2 - q.2.1 * sn p.2.2,p.2.1 + q.1 * sn p.2.2 + q.2.1 * cs p.2.2,(p.2.2 + q.2.2) % 4)
noncomputable def st:Pen:=(0,0,0)
noncomputable def pw (p:Pen):Nat->Pen
 | 0=>st
 | n + 1=>led (pw p n) p
noncomputable def rep (p:Pen) (n:Int):Pen:=if p.2.2=0 then (p.1 * n,p.2.1 * n,0) else pw p (n % 4).toNat
inductive Dd where
 | go (n:Int) | jump (n:Int) | turn (n:Int) | times (n:Int) (w:List Dd)
mutual
noncomputable def cnt:Dd->Nat
 | .times _ w=>1 + cnts w
 | _=>1
noncomputable def cnts:List Dd->Nat
 | []=>0
 | d :: r=>cnt d + cnts r
end
mutual
noncomputable def dep:Dd->Nat
 | .times _ w=>1 + deps w
 | _=>0
noncomputable def deps:List Dd->Nat
 | []=>0
 | d :: r=>max (dep d) (deps r)
end
noncomputable def G:Int:=99999999999999999999
mutual
noncomputable def okd:Dd->Prop
 | .go n=>0<=n /\ n<=G
 | .jump n=>-G<=n /\ n<=G
 | .turn n=>-G<=n /\ n<=G
 | .times n w=>(0<=n /\ n<=G) /\ oks w
noncomputable def oks:List Dd->Prop
 | []=>True
 | d :: r=>okd d /\ oks r
end
mutual
noncomputable def pd:Dd->Pen
 | .go n=>(n,0,0)
 | .jump n=>(n,0,0)
 | .turn n=>(0,0,n % 4)
 | .times n w=>rep (pb w) n
noncomputable def pb:List Dd->Pen
 | []=>st
 | d :: r=>led (pd d) (pb r)
end
theorem ur0:∀ a b,cnts (a ++ b)=cnts a + cnts b
 | [],b=>by simp [cnts]
 | d :: r,b=>by simp only [List.cons_append,cnts,ur0 r b]; omega
theorem zr0:∀ a b,deps (a ++ b)=max (deps a) (deps b)
 | [],b=>by simp [deps]
 | d :: r,b=>by simp only [List.cons_append,deps,zr0 r b,Nat.max_assoc]
end Mw
namespace Mw
noncomputable def ab (x:Int):Int:=if x < 0 then -x else x
noncomputable def pm (p:Pen):Int:=max (ab p.1) (ab p.2.1)
end Mw
namespace Mt
open PySem Mw
noncomputable abbrev cp (x:Str):List Nat:=x.cps.toList
theorem zu0 {x y:Str} (h:cp x=cp y):x=y:=Str.ext' (Array.toList_inj.mp h)
theorem yr1 (x y:Str):cp (x ++ y)=cp x ++ cp y:=by
 show (x.cps ++ y.cps).toList=_
 simp
theorem ze0 (x:Str):x.length=(cp x).length:=by simp [Str.length,cp]
noncomputable def jn:List (List Nat)->List Nat
 | []=>[]
 | [a]=>a
 | a :: b :: r=>a ++ 32 :: jn (b :: r)
theorem ur3:cp (" " : Str)=[32]:=by decide +kernel
theorem xx0:∀ l:List Str,cp (Str.join " " l)=jn (l.map cp)
 | []=>rfl
 | [a]=>rfl
 | a :: b :: r=>by
  show cp (a ++ " " ++ Str.join " " (b :: r))=_
  rw [yr1,yr1,ur3,xx0 (b :: r)]
  simp [jn]
noncomputable def nsT (n:Int):Str:=Str.ofString (toString n)
noncomputable def dg (m:Nat):List Nat:=(Nat.toDigits 10 m).map Char.toNat
theorem xr3 {n:Int} (h:0<=n):cp (nsT n)=dg n.toNat:=by
 obtain ⟨m,rfl⟩:=Int.eq_ofNat_of_zero_le h
 exact PySem.W.KIN.signs_num m
theorem xf3 {n:Int} (h:n < 0):cp (nsT n)=45 :: dg n.natAbs:=by
 cases n with
 | ofNat m=>exact absurd h (by simp)
 | negSucc m =>
  unfold nsT cp
  rw [PyProof.Rows.signs_ofString]
  show ("-" ++ Nat.repr (m + 1)).toList.map Char.toNat=_
  simp [dg,Nat.toList_repr]
theorem xi3 {k m:Nat} (hk:1<=k) (h:m < 10 ^ k):(dg m).length<=k:=by
 unfold dg
 rw [List.length_map]
 exact PyProof.Rows.digits10_le hk h
theorem xc2:∀ (n:Nat) (cs:List Nat),cs.length=n->NumText.AllDigits cs->NumText.digitsVal cs < 10 ^ n:=by
 intro n
 induction n with
 | zero =>
  intro cs h _
  rw [List.eq_nil_of_length_eq_zero h]
  decide
 | succ n ih =>
  intro cs h ha
  have hne:cs ≠ []:=by intro e; rw [e] at h; cases h
  obtain ⟨r,c,rfl⟩:∃ r c,cs=r ++ [c]:=⟨cs.dropLast,cs.getLast hne,(List.dropLast_concat_getLast hne).symm⟩
  rw [NumText.digitsVal_snoc]
  have h1:=ih r (by simpa using h) (λ d hd=>ha d (by simp [hd]))
  have h2:=ha c (by simp)
  rw [Nat.pow_succ]
  omega
theorem wf1 {n:Int} (h : -G<=n /\ n<=G):(cp (nsT n)).length<=21:=by
 unfold G at h
 by_cases h0:0<=n
 ·rw [xr3 h0]
  exact Nat.le_trans (xi3 (k:=20) (by decide) (by omega)) (by decide)
 ·rw [xf3 (by omega)]
  rw [List.length_cons]
  exact Nat.succ_le_succ (xi3 (k:=20) (by decide) (by omega))
theorem uf1 {n:Int} (h : -G<=n /\ n<=G):n.natAbs.log2 < 1920:=by
 unfold G at h
 by_cases h0:n.natAbs=0
 ·rw [h0]; decide
 ·have:n.natAbs < 2 ^ 70:=by omega
  exact Nat.lt_trans ((Nat.log2_lt h0).mpr this) (by decide)
theorem ts0 (z:Str) (c:Nat):Txt.startswith z ⟨#[c]⟩=decide ((cp z).head?=some c):=by
 unfold Txt.startswith Builtin.Str.subAt
 obtain ⟨⟨l⟩⟩:=z
 cases l with
 | nil=>simp [Str.length,cp]
 | cons a r=>simp [Str.length,cp]; rw [Bool.eq_iff_iff]; simp
end Mt
namespace Pv
open PySem Mw
theorem kn_go_jump:((("go" : Str)=("jump" : Str))=False):=eq_false (by decide)
theorem kn_go_turn:((("go" : Str)=("turn" : Str))=False):=eq_false (by decide)
theorem kn_go_times:((("go" : Str)=("times" : Str))=False):=eq_false (by decide)
theorem kn_jump_go:((("jump" : Str)=("go" : Str))=False):=eq_false (by decide)
theorem kn_jump_turn:((("jump" : Str)=("turn" : Str))=False):=eq_false (by decide)
theorem kn_jump_times:((("jump" : Str)=("times" : Str))=False):=eq_false (by decide)
theorem kn_turn_go:((("turn" : Str)=("go" : Str))=False):=eq_false (by decide)
theorem kn_turn_jump:((("turn" : Str)=("jump" : Str))=False):=eq_false (by decide)
theorem kn_turn_times:((("turn" : Str)=("times" : Str))=False):=eq_false (by decide)
theorem kn_times_go:((("times" : Str)=("go" : Str))=False):=eq_false (by decide)
theorem kn_times_jump:((("times" : Str)=("jump" : Str))=False):=eq_false (by decide)
theorem kn_times_turn:((("times" : Str)=("turn" : Str))=False):=eq_false (by decide)
theorem kp_go:(["go", "jump", "turn"]:List Str).contains "go" = true:=by decide
theorem kp_jump:(["go", "jump", "turn"]:List Str).contains "jump" = true:=by decide
theorem kp_turn:(["go", "jump", "turn"]:List Str).contains "turn" = true:=by decide
theorem kp_times:(["go", "jump", "turn"]:List Str).contains "times" = false:=by decide
theorem kz_go:(["go", "times"]:List Str).contains "go" = true:=by decide
theorem kz_jump:(["go", "times"]:List Str).contains "jump" = false:=by decide
theorem kz_turn:(["go", "times"]:List Str).contains "turn" = false:=by decide
theorem kz_times:(["go", "times"]:List Str).contains "times" = true:=by decide
theorem cst0:((0:Nat):Int)=0:=rfl
theorem cst1:((1:Nat):Int)=1:=rfl
theorem cst2:((2:Nat):Int)=2:=rfl
theorem cst3:((3:Nat):Int)=3:=rfl
local macro_rules | `(tactic| simp_arith [$xs,*] $[$l]?)=>`(tactic| simp only [$xs,*,Pv.seq3,Pv.next3,Pv.never3,Pv.brk3,Pv.cnt3,Pv.drop3,Pv.ret3,Pv.retN3,Pv.ifs3,Pv.gn3,Pv.gnil3,Pv.gcons3,Pv.gtup3,Pv.set3,Pv.asg3,Pv.par3,Pv.sub3,Pv.for3,Pv.is3,Pv.ir3,Pv.ir23,Pv.v3,Pv.c3,Pv.o3,Pv.un3,Pv.b3,Pv.and3,Pv.or3,Pv.not3,Pv.andV3,Pv.orV3,Pv.notV3,Pv.if3,Pv.nil3,Pv.cons3,Pv.tup3,Pv.lst3,Pv.call3,Pv.mt3,Pv.comp3,Pv.tt3,Pv.getI,List.set_cons_zero,List.set_cons_succ,Pv.int2,Pv.int20,Pv.subR,Pv.mulR,Pv.intR,Pv.sl3,Pv.np3,Pv.pt3,Pv.slR,Pv.modR,Pv.fdivR,Pv.powR,Pv.ltR,Pv.leR,Pv.gtR,Pv.geR,Pv.negR,Pv.addR,Pv.eqR_ii,Pv.eqR_ss,Pv.eqR_bb,Pv.eqR_is,Pv.neR_ii,Pv.neR_ss,Pv.neR_bb,Pv.inR,Pv.ixR,Pv.lenR,Pv.absR,Pv.tupR,Pv.sumR,Pv.tyN,Pv.isIn,Pv.isiR,Pv.appR,Pv.extR,Pv.smt3,Pv.joinR,Pv.splitR,Pv.startsR,Pv.pop3,Pv.lrev3,Pv.strR,Pv.start3,List.map_cons,List.map_nil,List.cons_append,List.nil_append,List.length_cons,List.length_nil,List.replicate,Pv.atI0,Pv.atI1,Pv.atI2,Nat.reduceAdd,Nat.reduceSub,Nat.zero_add,reduceIte,Pv.strs?,Bool.not_true,Bool.not_false,Bool.false_eq_true,if_false,if_true,decide_eq_true_eq,Bool.not_eq_true',decide_eq_false_iff_not,Pv.ixN0,Pv.ixN1,Pv.ixN2,true_and,and_true,Pv.cst0,Pv.cst1,Pv.cst2,Pv.cst3,Int.reduceEq,Option.bind_none,Option.bind_some,Pv.kn_go_jump,Pv.kn_go_turn,Pv.kn_go_times,Pv.kn_jump_go,Pv.kn_jump_turn,Pv.kn_jump_times,Pv.kn_turn_go,Pv.kn_turn_jump,Pv.kn_turn_times,Pv.kn_times_go,Pv.kn_times_jump,Pv.kn_times_turn,Pv.kp_go,Pv.kp_jump,Pv.kp_turn,Pv.kp_times,Pv.kz_go,Pv.kz_jump,Pv.kz_turn,Pv.kz_times] $[$l]?)
mutual
noncomputable def enc:Dd->D
 | .go n=>.tup [.str "go",.int n]
 | .jump n=>.tup [.str "jump",.int n]
 | .turn n=>.tup [.str "turn",.int n]
 | .times n w=>.tup [.str "times",.int n,.tup (encs w)]
noncomputable def encs:List Dd->List D
 | []=>[]
 | d :: r=>enc d :: encs r
end
noncomputable def Wd (w:List Dd):Prop:=oks w /\ deps w<=4 /\ cnts w<=30
theorem xg0:∀ a,(encs a).length=a.length
 | []=>by simp [encs]
 | d :: r=>by simp only [encs,List.length_cons,xg0 r]
mutual
inductive ShD:D->Prop where
 | nil:ShD (.tup [])
 | mk (s:Str) (r:List D):(∀ x,x ∈ r->ShV x)->ShD (.tup (.str s :: r))
inductive ShV:D->Prop where
 | int (n:Int):ShV (.int n)
 | wd (l:List D):(∀ x,x ∈ l->ShD x)->ShV (.tup l)
end
noncomputable def ckN (s:Str):D->Bool
 | .int n=>decide (-G<=n /\ n<=G) && !(decide (n < 0) && (["go", "times"]:List Str).contains s)
 | _=>false
noncomputable def ckD (cw:D->Int->Option Nat) (k:Int):D->Option Nat
 | .tup [.str s,a]=>if (["go", "jump", "turn"]:List Str).contains s=true /\ ckN s a=true then some 1 else none
 | .tup [.str s,a,b]=>if s = "times" /\ ckN s a=true then (match cw b (k + 1) with
  | some c=>some (1 + c)
  | none=>none) else none
 | _=>none
noncomputable def ckL (cd:D->Option Nat):List D->Nat->Option Nat
 | [],c=>some c
 | d :: r,c=>match cd d with
  | some m=>if 30 < c + m then none else ckL cd r (c + m)
  | none=>none
noncomputable def ckW:Nat->D->Int->Option Nat
 | n + 1,.tup l,k=>if 4 < k then none else ckL (ckD (ckW n) k) l 0
 | _,_,_=>none
noncomputable def told (XE:XE3) (μ:Mu) (Q:Nat->Prop):Option Nat->Prop
 | some c=>Q c
 | none=>XE "NoWord" μ
noncomputable def sl1 (XE:XE3):Sp3:=λ ds μ Q=>∃ (s:Str) (d:D),ds=[.str s,d] /\ ShV d /\ told XE μ (λ _=>Q .non μ) (if ckN s d=true then some 0 else none)
theorem sz2 (XE:XE3) (ds:List D) (μ:Mu) (Q:VK3) (h:sl1 XE ds μ Q):sf2 XE { nx:=λ _ μ'=>Q .non μ',rt:=Q } (start3 vb2 ds) μ:=by
 obtain ⟨s,d,rfl,sh,q⟩:=h
 cases sh with
 | wd l hl =>
  simp only [ckN,Bool.false_eq_true,if_false,told] at q
  exact And.intro (by decide) q
 | int n =>
  simp_arith [sf2,vb2,se0]
  by_cases h1 : -G<=n /\ n<=G
  ·have e1:¬ (99999999999999999999 < if n < 0 then -n else n):=by unfold G at h1; split <;> omega
   rw [if_neg e1]
   by_cases h2:n < 0
   ·rw [if_pos h2]
    cases h3:(["go", "times"]:List Str).contains s with
    | true =>
     have e:ckN s (.int n)=false:=by simp only [ckN,h1,h2,h3]; decide
     rw [e] at q
     simp only [Bool.false_eq_true,if_false,told] at q
     rw [if_pos rfl]
     exact ⟨by decide,q⟩
    | false =>
     have e:ckN s (.int n)=true:=by simp only [ckN,h1,h2,h3]; decide
     rw [e] at q
     simp only [if_true,told] at q
     rw [if_neg (by decide)]
     exact q
   ·have e:ckN s (.int n)=true:=by simp only [ckN,h1,h2]; simp
    rw [e] at q
    simp only [if_true,told] at q
    rw [if_neg h2]
    exact q
  ·have e1:99999999999999999999 < if n < 0 then -n else n:=by unfold G at h1; split <;> omega
   rw [if_pos e1]
   have e:ckN s (.int n)=false:=by simp only [ckN,h1]; simp
   rw [e] at q
   simp only [Bool.false_eq_true,if_false,told] at q
   exact ⟨by decide,q⟩
noncomputable def xv0 (j:Nat) (XE:XE3):Sp3:=λ ds μ Q=>∃ (d:D) (k:Int),ds=[d,.int k] /\ 4 < k + j /\ k<=4 /\ 0<=k /\ ShD d /\ told XE μ (λ c=>Q (.int c) μ) (ckD (ckW j) k d)
noncomputable def vo0 (j:Nat) (XE:XE3):Sp3:=λ ds μ Q=>∃ (d:D) (k:Int),ds=[d,.int k] /\ (k<=4->4 < k + j) /\ k<=5 /\ 0<=k /\ ShV d /\ told XE μ (λ c=>Q (.int c) μ) (ckW (j + 1) d k)
theorem vz2 (j:Nat) (XE:XE3) (ds:List D) (μ:Mu) (Q:VK3) (h:xv0 (j + 1) XE ds μ Q):ul1 XE sl1 (vo0 j) { nx:=λ _ μ'=>Q .non μ',rt:=Q } (start3 tk1 ds) μ:=by
 obtain ⟨d,k,rfl,h1,h2,h3,sh,q⟩:=h
 cases sh with
 | nil =>
  simp only [ckD,told] at q
  exact And.intro (by decide) q
 | mk s r hr =>
  match r,hr,q with
  | [],hr,q =>
   simp only [ckD,told] at q
   exact And.intro (by decide) q
  | [a],hr,q =>
   simp only [ckD] at q
   simp_arith [ul1,tk1,se0]
   cases hp:(["go", "jump", "turn"]:List Str).contains s with
   | true =>
    rw [hp] at q
    simp only [true_and] at q
    simp only [if_true]
    refine ⟨s,a,rfl,hr a (by simp),?_⟩
    cases hn:ckN s a with
    | true =>
     rw [hn] at q
     simp only [if_true,told] at q ⊢
     exact q
    | false =>
     rw [hn] at q
     simp only [Bool.false_eq_true,if_false,told] at q ⊢
     exact q
   | false =>
    rw [hp] at q
    simp only [Bool.false_eq_true,false_and,if_false,told] at q
    simp only [Bool.false_eq_true,if_false]
    exact ⟨by decide,q⟩
  | [a,b],hr,q =>
   simp only [ckD] at q
   simp_arith [ul1,tk1,se0]
   by_cases hs:s = "times"
   ·rw [if_pos hs]
    refine ⟨s,a,rfl,hr a (by simp),?_⟩
    cases hn:ckN s a with
    | true =>
     rw [hn] at q
     simp only [hs,true_and,if_true] at q
     simp only [if_true,told]
     refine ⟨b,k + 1,rfl,λ _=>by omega,by omega,by omega,hr b (by simp),?_⟩
     cases hw:ckW (j + 1) b (k + 1) with
     | none=>rw [hw] at q; exact q
     | some c =>
      rw [hw] at q
      simp only [told] at q ⊢
      have e:((1 + c:Nat):Int)=1 + (c:Int):=by omega
      rw [e] at q
      exact q
    | false =>
     rw [hn] at q
     simp only [Bool.false_eq_true,and_false,if_false,told] at q ⊢
     exact q
   ·rw [if_neg hs]
    simp only [hs,false_and,if_false,told] at q
    exact ⟨by decide,q⟩
  | a :: b :: c :: r,hr,q =>
   simp only [ckD,told] at q
   simp_arith [ul1,tk1,se0]
   have e2:¬ (((r.length + 1 + 1 + 1 + 1:Nat):Int)=2):=by omega
   have e3:¬ (((r.length + 1 + 1 + 1 + 1:Nat):Int)=3):=by omega
   simp only [e2,e3,if_false]
   exact ⟨by decide,q⟩
theorem uz2 (j:Nat) (XE:XE3) (ds:List D) (μ:Mu) (Q:VK3) (h:vo0 j XE ds μ Q):uf2 XE (xv0 j) { nx:=λ _ μ'=>Q .non μ',rt:=Q } (start3 zb2 ds) μ:=by
 obtain ⟨d,k,rfl,h1,h2,h3,sh,q⟩:=h
 cases sh with
 | int n =>
  simp only [ckW,told] at q
  exact And.intro (by decide) q
 | wd l hl =>
  simp only [ckW] at q
  simp_arith [uf2,zb2,se0]
  by_cases hk:4 < k
  ·rw [if_pos hk] at q ⊢
   exact ⟨by decide,q⟩
  ·rw [if_neg hk] at q ⊢
   refine vq0 (λ r ρ μ'=>μ'=μ /\ ∃ (c:Nat) (dd:Option D),ρ=[some (.tup l),some (.int k),some (.int c),dd] /\ (∀ x,x ∈ r->ShD x) /\ told XE μ (λ c=>Q (.int c) μ) (ckL (ckD (ckW j) k) r c)) ?_ (λ _ _ _ _=>trivial) ?_ ?_
   ·exact ⟨rfl,0,none,rfl,hl,q⟩
   ·rintro ρ μ' ⟨rfl,c,dd,rfl,_,e2⟩
    simp only [ckL,told] at e2
    simp_arith [cst0]
    exact e2
   ·rintro x rest ρ μ' ⟨rfl,c,dd,rfl,hs,e2⟩
    simp_arith [cst0]
    refine ⟨x,k,rfl,h1 (by omega),by omega,h3,hs x (by simp),?_⟩
    simp only [ckL] at e2
    cases hc:ckD (ckW j) k x with
    | none=>rw [hc] at e2; exact e2
    | some m =>
     rw [hc] at e2
     dsimp only at e2
     simp only [told]
     by_cases h30:30 < c + m
     ·rw [if_pos h30] at e2
      rw [if_pos (by omega)]
      exact ⟨by decide,e2⟩
     ·rw [if_neg h30] at e2
      rw [if_neg (by omega)]
      refine ⟨trivial,c + m,some x,?_,λ y hy=>hs y (List.mem_cons_of_mem _ hy),e2⟩
      have e:((c + m:Nat):Int)=(c:Int) + (m:Int):=by omega
      rw [e]
noncomputable def Bad (d:D):Prop:=ShV d /\ ckW 6 d 0=none
noncomputable def ze1 (XE:XE3):Sp3:=λ ds μ Q=>∃ d,ds=[d] /\ ShV d /\ told XE μ (λ _=>Q .non μ) (ckW 6 d 0)
theorem tz2 (XE:XE3) (ds:List D) (μ:Mu) (Q:VK3) (h:ze1 XE ds μ Q):tf2 XE (vo0 5) { nx:=λ _ μ'=>Q .non μ',rt:=Q } (start3 wb2 ds) μ:=by
 obtain ⟨d,rfl,sh,q⟩:=h
 simp_arith [tf2,wb2]
 exact ⟨d,0,rfl,λ _=>by decide,by decide,by decide,sh,q⟩
theorem ze2 {n:Int} (h:0<=n /\ n<=G) (s:Str):ckN s (.int n)=true:=by
 have h1 : -G<=n /\ n<=G:=by unfold G at *; omega
 have h2:¬ n < 0:=by omega
 simp only [ckN,h1,h2]; simp
theorem wr1 {n:Int} (h : -G<=n /\ n<=G) {s:Str} (hs:(["go", "times"]:List Str).contains s=false):ckN s (.int n)=true:=by
 simp only [ckN,h,hs]; simp
mutual
theorem zj3:∀ (d:Dd) (j:Nat) (k:Int),okd d->cnt d<=30->k + dep d<=4->4 < k + j->ckD (ckW j) k (enc d)=some (cnt d)
 | .go n,j,k,h,_,_,_=>by simp only [okd] at h; simp only [enc,ckD,kp_go,ze2 h,cnt,and_self,if_true]
 | .jump n,j,k,h,_,_,_=>by simp only [okd] at h; simp only [enc,ckD,kp_jump,wr1 h kz_jump,cnt,and_self,if_true]
 | .turn n,j,k,h,_,_,_=>by simp only [okd] at h; simp only [enc,ckD,kp_turn,wr1 h kz_turn,cnt,and_self,if_true]
 | .times n w,j,k,h,hc,hd,hj=>by
  simp only [okd] at h
  simp only [cnt] at hc
  simp only [dep] at hd
  obtain ⟨i,rfl⟩:∃ i,j=i + 1:=⟨j - 1,by omega⟩
  have e:=vr1 w i (k + 1) h.2 0 (by omega) (by omega) (λ _=>by omega)
  simp only [enc,ckD,ze2 h.1,and_self,if_true,ckW,if_neg (show ¬ 4 < k + 1 by omega),e,cnt,Nat.zero_add]
theorem vr1:∀ (w:List Dd) (j:Nat) (k:Int),oks w->∀ c:Nat,c + cnts w<=30->k + deps w<=4->(w ≠ []->4 < k + j)->ckL (ckD (ckW j) k) (encs w) c=some (c + cnts w)
 | [],j,k,_,c,_,_,_=>by simp only [encs,ckL,cnts,Nat.add_zero]
 | d :: r,j,k,h,c,hc,hd,hj=>by
  simp only [oks] at h
  simp only [cnts] at hc
  simp only [deps] at hd
  have e1:=zj3 d j k h.1 (by omega) (by omega) (hj (by simp))
  have e2:=vr1 r j k h.2 (c + cnt d) (by omega) (by omega) (λ _=>hj (by simp))
  simp only [encs,ckL,e1,if_neg (show ¬ 30 < c + cnt d by omega),e2,cnts,Nat.add_assoc]
end
theorem yj3 {w:List Dd} (h:Wd w):ckW 6 (.tup (encs w)) 0=some (cnts w):=by
 obtain ⟨h1,h2,h3⟩:=h
 have e:=vr1 w 5 0 h1 0 (by omega) (by omega) (λ _=>by decide)
 simp only [ckW,if_neg (show ¬ (4:Int) < 0 by decide),e,Nat.zero_add]
mutual
theorem zh2:∀ d:Dd,ShD (enc d)
 | .go n=>by simp only [enc]; exact .mk _ _ (by intro x hx; simp only [List.mem_singleton] at hx; subst hx; exact .int n)
 | .jump n=>by simp only [enc]; exact .mk _ _ (by intro x hx; simp only [List.mem_singleton] at hx; subst hx; exact .int n)
 | .turn n=>by simp only [enc]; exact .mk _ _ (by intro x hx; simp only [List.mem_singleton] at hx; subst hx; exact .int n)
 | .times n w=>by
  simp only [enc]
  refine .mk _ _ (by
   intro x hx
   simp only [List.mem_cons,List.not_mem_nil,or_false] at hx
   rcases hx with rfl | rfl
   ·exact .int n
   ·exact .wd _ (vv0 w))
theorem vv0:∀ (w:List Dd) (x:D),x ∈ encs w->ShD x
 | [],x,h=>by simp [encs] at h
 | d :: r,x,h=>by
  simp only [encs,List.mem_cons] at h
  rcases h with rfl | h
  ·exact zh2 d
  ·exact vv0 r x h
end
inductive Gb (XE:XE3) (μ:Mu) (d:D) (R:List Dd->Prop):Prop where
 | good (w:List Dd):d=.tup (encs w)->Wd w->R w->Gb XE μ d R
 | bad:Bad d->XE "NoWord" μ->Gb XE μ d R
mutual
theorem wj3:∀ (d:Dd) (j:Nat) (k:Int) (c:Nat),k<=4->ckD (ckW j) k (enc d)=some c->okd d /\ cnt d=c /\ k + dep d<=4
 | .go n,j,k,c,hk,h=>by
  simp only [enc,ckD,Pv.kn_go_jump,Pv.kn_go_turn,Pv.kn_go_times,Pv.kn_jump_go,Pv.kn_jump_turn,Pv.kn_jump_times,Pv.kn_turn_go,Pv.kn_turn_jump,Pv.kn_turn_times,Pv.kn_times_go,Pv.kn_times_jump,Pv.kn_times_turn,Pv.kp_go,Pv.kp_jump,Pv.kp_turn,Pv.kp_times,Pv.kz_go,Pv.kz_jump,Pv.kz_turn,Pv.kz_times] at h
  split at h <;> simp at h
  next hc =>
  have:=hc.2
  simp [ckN] at this
  subst h
  simp only [okd,cnt,dep]
  refine ⟨⟨by have:=this.2; omega,this.1.2⟩,trivial,by omega⟩
 | .jump n,j,k,c,hk,h=>by
  simp only [enc,ckD,Pv.kn_go_jump,Pv.kn_go_turn,Pv.kn_go_times,Pv.kn_jump_go,Pv.kn_jump_turn,Pv.kn_jump_times,Pv.kn_turn_go,Pv.kn_turn_jump,Pv.kn_turn_times,Pv.kn_times_go,Pv.kn_times_jump,Pv.kn_times_turn,Pv.kp_go,Pv.kp_jump,Pv.kp_turn,Pv.kp_times,Pv.kz_go,Pv.kz_jump,Pv.kz_turn,Pv.kz_times] at h
  split at h <;> simp at h
  next hc =>
  have:=hc.2
  simp [ckN] at this
  subst h
  simp only [okd,cnt,dep]
  refine ⟨this.1,trivial,by omega⟩
 | .turn n,j,k,c,hk,h=>by
  simp only [enc,ckD,Pv.kn_go_jump,Pv.kn_go_turn,Pv.kn_go_times,Pv.kn_jump_go,Pv.kn_jump_turn,Pv.kn_jump_times,Pv.kn_turn_go,Pv.kn_turn_jump,Pv.kn_turn_times,Pv.kn_times_go,Pv.kn_times_jump,Pv.kn_times_turn,Pv.kp_go,Pv.kp_jump,Pv.kp_turn,Pv.kp_times,Pv.kz_go,Pv.kz_jump,Pv.kz_turn,Pv.kz_times] at h
  split at h <;> simp at h
  next hc =>
  have:=hc.2
  simp [ckN] at this
  subst h
  simp only [okd,cnt,dep]
  refine ⟨this.1,trivial,by omega⟩
 | .times n w,j,k,c,hk,h=>by
  simp only [enc,ckD] at h
  split at h
  ·next hc =>
   have hn:=hc.2
   simp [ckN] at hn
   cases j with
   | zero=>simp [ckW] at h
   | succ j =>
    simp only [ckW] at h
    by_cases c4:4 < k + 1
    ·rw [if_pos c4] at h; cases h
    ·rw [if_neg c4] at h
     cases hw:ckL (ckD (ckW j) (k + 1)) (encs w) 0 with
     | none=>rw [hw] at h; cases h
     | some m =>
      rw [hw] at h
      cases h
      obtain ⟨a1,a2,a3⟩:=ur1 w j (k + 1) 0 m (by omega) hw
      simp only [okd,cnt,dep]
      exact ⟨⟨⟨by have:=hn.2; omega,hn.1.2⟩,a1⟩,by omega,by omega⟩
  ·cases h
theorem ur1:∀ (w:List Dd) (j:Nat) (k:Int) (c m:Nat),k<=4->ckL (ckD (ckW j) k) (encs w) c=some m->oks w /\ c + cnts w=m /\ k + deps w<=4
 | [],j,k,c,m,hk,h=>by
  simp only [encs,ckL] at h
  cases h
  simp only [oks,cnts,deps]
  exact ⟨trivial,by omega,by omega⟩
 | d :: r,j,k,c,m,hk,h=>by
  simp only [encs,ckL] at h
  cases hd:ckD (ckW j) k (enc d) with
  | none=>rw [hd] at h; cases h
  | some x =>
   rw [hd] at h
   dsimp only at h
   split at h
   ·cases h
   ·obtain ⟨a1,a2,a3⟩:=wj3 d j k x hk hd
    obtain ⟨b1,b2,b3'⟩:=ur1 r j k (c + x) m hk h
    simp only [oks,cnts,deps]
    exact ⟨⟨a1,b1⟩,by omega,by omega⟩
end
theorem we2:∀ (l:List D) (cd:D->Option Nat) (c m:Nat),c<=30->ckL cd l c=some m->m<=30
 | [],cd,c,m,hc,h=>by simp only [ckL] at h; cases h; exact hc
 | d :: r,cd,c,m,hc,h=>by
  simp only [ckL] at h
  split at h
  ·split at h
   ·cases h
   ·exact we2 r cd _ m (by omega) h
  ·cases h
theorem zd1 (v:List Dd):(Wd v->ckW 6 (.tup (encs v)) 0=some (cnts v)) /\ (¬ Wd v->ckW 6 (.tup (encs v)) 0=none):=by
 refine ⟨yj3,λ hn=>?_⟩
 cases h:ckW 6 (.tup (encs v)) 0 with
 | none=>rfl
 | some m =>
  exfalso
  simp only [ckW] at h
  rw [if_neg (by decide)] at h
  obtain ⟨a1,a2,a3⟩:=ur1 v 5 0 0 m (by decide) h
  have:=we2 _ _ 0 m (by decide) h
  exact hn ⟨a1,by omega,by omega⟩
open Mt
mutual
noncomputable def mk:Dd->List Str
 | .go n=>["go",nsT n]
 | .jump n=>["jump",nsT n]
 | .turn n=>["turn",nsT n]
 | .times n w => "times" :: nsT n :: "[" :: (mks w ++ [("]" : Str)])
noncomputable def mks:List Dd->List Str
 | []=>[]
 | d :: r=>mk d ++ mks r
end
theorem tm0:∀ a b,mks (a ++ b)=mks a ++ mks b
 | [],b=>by simp [mks]
 | d :: r,b=>by simp only [List.cons_append,mks,tm0 r b,List.append_assoc]
theorem xs3:cp ("go" : Str)=[103,111]:=by decide +kernel
theorem yo2:cp ("jump" : Str)=[106,117,109,112]:=by decide +kernel
theorem xo2:cp ("turn" : Str)=[116,117,114,110]:=by decide +kernel
theorem sz1:cp ("times" : Str)=[116,105,109,101,115]:=by decide +kernel
theorem sr3:cp ("[" : Str)=[91]:=by decide +kernel
theorem tr3:cp ("]" : Str)=[93]:=by decide +kernel
noncomputable def wt (l:List Str):Nat:=(l.map λ t=>(cp t).length + 1).sum
theorem uh0 (a b:List Str):wt (a ++ b)=wt a + wt b:=by unfold wt; rw [List.map_append,List.sum_append]
mutual
theorem zk3:∀ d,okd d->wt (mk d)<=40 * cnt d
 | .go n,h=>by
  simp only [okd] at h
  have:=wf1 (n:=n) (by unfold G at h ⊢; omega)
  simp only [mk,wt,List.map_cons,List.map_nil,List.sum_cons,List.sum_nil,xs3,List.length_cons,List.length_nil,cnt]; omega
 | .jump n,h=>by
  simp only [okd] at h
  have:=wf1 h
  simp only [mk,wt,List.map_cons,List.map_nil,List.sum_cons,List.sum_nil,yo2,List.length_cons,List.length_nil,cnt]; omega
 | .turn n,h=>by
  simp only [okd] at h
  have:=wf1 h
  simp only [mk,wt,List.map_cons,List.map_nil,List.sum_cons,List.sum_nil,xo2,List.length_cons,List.length_nil,cnt]; omega
 | .times n w,h=>by
  simp only [okd] at h
  have h1:=wf1 (n:=n) (by have:=h.1; unfold G at this ⊢; omega)
  have h2:=td1 w h.2
  have e:mk (.times n w)=[("times" : Str),nsT n, "["] ++ (mks w ++ [("]" : Str)]):=by simp only [mk]; rfl
  rw [e,uh0,uh0]
  simp only [wt,List.map_cons,List.map_nil,List.sum_cons,List.sum_nil,sz1,sr3,tr3,List.length_cons,List.length_nil,cnt]
  have h3:(List.map (λ t=>(cp t).length + 1) (mks w)).sum<=40 * cnts w:=h2
  omega
theorem td1:∀ w,oks w->wt (mks w)<=40 * cnts w
 | [],h=>by simp [mks,wt,cnts]
 | d :: r,h=>by
  simp only [oks] at h
  have h1:=zk3 d h.1
  have h2:=td1 r h.2
  simp only [mks,cnts]
  rw [uh0]
  omega
end
theorem tt0:∀ l:List Str,l.length<=wt l
 | []=>Nat.zero_le _
 | t :: r=>by
  have:=tt0 r
  simp only [wt,List.map_cons,List.sum_cons,List.length_cons]
  unfold wt at this
  omega
theorem ye1:∀ l:List Str,(l.map (·.length)).sum + l.length=wt l
 | []=>rfl
 | t :: r=>by
  have:=ye1 r
  simp only [wt,List.map_cons,List.sum_cons,List.length_cons] at this ⊢
  rw [ze0 t]
  omega
theorem yg3:∀ l:List Str,(jn (l.map cp)).length<=wt l
 | []=>Nat.zero_le _
 | [t]=>by simp [jn,wt]
 | t :: u :: r=>by
  have:=yg3 (u :: r)
  simp only [List.map_cons,jn,wt,List.sum_cons,List.length_append,List.length_cons] at this ⊢
  omega
theorem yw0 (l:List Str):(Str.join " " l).length<=wt l:=by rw [ze0,xx0]; exact yg3 l
noncomputable def tx (w:List Dd):Str:=Str.join " " (mks w)
noncomputable def sD (l:List Str):List D:=l.map D.str
theorem tm1 (a b:List Str):sD (a ++ b)=sD a ++ sD b:=by simp [sD]
theorem yd0 (a:List Str):(sD a).length=a.length:=by simp [sD]
theorem xp0:∀ l,strs? (sD l)=some l
 | []=>rfl
 | t :: r=>by
  have:=xp0 r
  simp only [sD] at this
  simp only [sD,List.map_cons,strs?,this]
noncomputable def zv0 (j:Nat):Sp3:=λ ds μ Q=>∃ w,ds=[.tup (encs w)] /\ deps w < j /\ cnts w<=30 /\ oks w /\ ∀ p μ',Ext μ μ'->μ p=none->μ' p=some (.lst (sD (mks w)))->Q (.ref p) μ'
noncomputable def ue2 (w:List Dd) (f:Addr) (μ:Mu) (l:List D) (ρ:St3) (μ':Mu):Prop:=∃ (r acc:List Dd) (a:Option D),l=encs r /\ ρ=[some (.tup (encs w)),some (.ref f),a] /\ Ext μ μ' /\ μ' f=some (.lst (sD (mks acc))) ∧
 acc ++ r=w /\ deps r<=deps w /\ cnts r<=cnts w /\ oks r
theorem xz2 (j:Nat) (ds:List D) (μ:Mu) (Q:VK3) (h:zv0 (j + 1) ds μ Q):tr2 (zv0 j) { nx:=λ _ μ'=>Q .non μ',rt:=Q } (start3 yq2 ds) μ:=by
 obtain ⟨w,rfl,h1,h2,h3,q⟩:=h
 have hz:(100000:Nat) < sizeLine:=by decide
 have hlen:(mks w).length<=1200:=by
  have h4:=tt0 (mks w)
  have h5:=td1 w h3
  omega
 refine ⟨(by decide:0<=sizeLine),λ f hf=>?_⟩
 refine vq0 (ue2 w f μ) ?_ (λ _ _ _ _=>trivial) ?_ ?_
 ·exact ⟨w,[],none,rfl,rfl,Ext.new hf,by rw [za0]; simp [mks,sD],rfl,Nat.le_refl _,Nat.le_refl _,h3⟩
 ·rintro ρ μ' ⟨r,acc,a,e,rfl,ex,ef,ea,_⟩
  cases r with
  | nil =>
   simp only [List.append_nil] at ea
   subst ea
   simp_arith [cst0]
   exact q f μ' ex hf ef
  | cons _ _=>simp [encs] at e
 ·rintro x rest ρ μ' ⟨r,acc,a,e,rfl,ex,ef,ea,r1,r2,r3⟩
  cases r with
  | nil=>simp [encs] at e
  | cons d r =>
   simp only [encs,List.cons.injEq] at e
   obtain ⟨rfl,rfl⟩:=e
   simp only [deps,cnts,oks] at r1 r2 r3
   have hla:(mks acc).length + (mk d).length<=1200:=by
    have e2:=congrArg (λ v=>(mks v).length) ea
    simp only [tm0,mks,List.length_append] at e2
    omega
   have fin:∀ (l:List Str) (μ2:Mu),l=mk d->Ext μ μ2->μ2 f=some (.lst (sD (mks acc) ++ sD l))->ue2 w f μ (encs r) [some (.tup (encs w)),some (.ref f),some (enc d)] μ2:=λ l μ2 hl e2 ef2=>by
    refine ⟨r,acc ++ [d],some (enc d),rfl,rfl,e2,?_,by simpa using ea,by omega,by omega,r3.2⟩
    rw [ef2,tm0,tm1,hl]
    simp only [mks,List.append_nil]
   have nxt:∀ (t:Addr) (o o2:MO),μ' t=none->Ext μ (updM (updM μ' t o) f o2):=λ t o o2 ht g o' hg=>by
    have z:=ex g o' hg
    rw [xb0 (zb0 hg hf),xb0 (zb0 z ht)]; exact z
   cases d
   case go n =>
    simp only [okd] at r3
    simp only [mk,List.length_cons,List.length_nil] at hla
    have hn : -G<=n /\ n<=G:=by have:=r3.1; unfold G at this ⊢; omega
    conv=>whnf
    rw [ef]
    refine ⟨uf1 hn,(show 2<=sizeLine by decide),λ t ht=>?_⟩
    conv=>whnf
    rw [xb0 (zb0 ef ht),ef,za0]
    exact ⟨(show (sD (mks acc)).length + 2<=sizeLine by rw [yd0]; omega),fin ["go",nsT n] _ (by simp only [mk]) (nxt _ _ _ ht) za0⟩
   case jump n =>
    simp only [okd] at r3
    simp only [mk,List.length_cons,List.length_nil] at hla
    conv=>whnf
    rw [ef]
    refine ⟨uf1 r3.1,(show 2<=sizeLine by decide),λ t ht=>?_⟩
    conv=>whnf
    rw [xb0 (zb0 ef ht),ef,za0]
    exact ⟨(show (sD (mks acc)).length + 2<=sizeLine by rw [yd0]; omega),fin ["jump",nsT n] _ (by simp only [mk]) (nxt _ _ _ ht) za0⟩
   case turn n =>
    simp only [okd] at r3
    simp only [mk,List.length_cons,List.length_nil] at hla
    conv=>whnf
    rw [ef]
    refine ⟨uf1 r3.1,(show 2<=sizeLine by decide),λ t ht=>?_⟩
    conv=>whnf
    rw [xb0 (zb0 ef ht),ef,za0]
    exact ⟨(show (sD (mks acc)).length + 2<=sizeLine by rw [yd0]; omega),fin ["turn",nsT n] _ (by simp only [mk]) (nxt _ _ _ ht) za0⟩
   case times n v =>
    simp only [okd,dep,cnt] at r1 r2 r3
    simp only [mk,List.length_cons,List.length_nil,List.length_append] at hla
    have hn : -G<=n /\ n<=G:=by have:=r3.1; unfold G at this ⊢; omega
    conv=>whnf
    rw [ef]
    refine ⟨uf1 hn,(show 2<=sizeLine by decide),λ t ht=>?_⟩
    conv=>whnf
    rw [xb0 (zb0 ef ht),ef,za0]
    have ex1:=nxt t (.lst [.str "times",.str (nsT n)]) (.lst (sD (mks acc) ++ [.str "times",.str (nsT n)])) ht
    have ef1:updM (updM μ' t (.lst [.str "times",.str (nsT n)])) f (.lst (sD (mks acc) ++ [.str "times",.str (nsT n)])) f=some (.lst (sD (mks acc) ++ [.str "times",.str (nsT n)])):=za0
    refine ⟨(show (sD (mks acc)).length + 2<=sizeLine by rw [yd0]; omega),?_⟩
    conv=>whnf
    rw [za0]
    refine ⟨(show 1<=sizeLine by decide),λ t2 ht2=>?_⟩
    generalize hμ1:updM (updM μ' t _) f _=μ1 at ht2
    replace ex1:Ext μ μ1:=by rw [<- hμ1]; exact ex1
    replace ef1:μ1 f=some (.lst (sD (mks acc) ++ [.str "times",.str (nsT n)])):=by rw [<- hμ1]; exact ef1
    refine ⟨v,rfl,by omega,by omega,r3.1.2,λ g μ2 ex2 hg eg=>?_⟩
    have et2:μ2 t2=some (.lst [.str "["]):=ex2 _ _ za0
    have ef2:μ2 f=some (.lst (sD (mks acc) ++ [.str "times",.str (nsT n)])):=ex2 _ _ (by rw [xb0 (zb0 ef1 ht2)]; exact ef1)
    have exm:Ext μ μ2:=λ c o hc=>ex2 _ _ (by rw [xb0 (zb0 (ex1 _ _ hc) ht2)]; exact ex1 _ _ hc)
    simp_arith [et2,eg]
    refine ⟨by rw [yd0]; omega,λ t3 ht3=>⟨by decide,λ t4 ht4=>?_⟩⟩
    have n34:t3 ≠ t4:=zb0 za0 ht4
    simp_arith [xb0 n34,za0]
    refine ⟨by rw [yd0]; omega,λ t5 ht5=>?_⟩
    have ef3:updM (updM μ2 t3 (.lst (.str "[" :: sD (mks v)))) t4 (.lst [.str "]"]) f=some (.lst (sD (mks acc) ++ [.str "times",.str (nsT n)])):=by
     have z1:updM μ2 t3 (.lst (.str "[" :: sD (mks v))) f=some (.lst (sD (mks acc) ++ [.str "times",.str (nsT n)])):=by rw [xb0 (zb0 ef2 ht3)]; exact ef2
     rw [xb0 (zb0 z1 ht4)]; exact z1
    have nf5:f ≠ t5:=zb0 ef3 ht5
    simp_arith [xb0 nf5,ef3,za0]
    refine ⟨by simp only [List.length_append,List.length_cons,List.length_nil,yd0]; omega,fin ("times" :: nsT n :: "[" :: (mks v ++ [("]" : Str)])) _ (by simp only [mk]) (λ c o hc=>?_) ?_⟩
    ·have z0:=exm c o hc
     have z1:updM μ2 t3 (.lst (.str "[" :: sD (mks v))) c=some o:=by rw [xb0 (zb0 z0 ht3)]; exact z0
     have z2:updM (updM μ2 t3 (.lst (.str "[" :: sD (mks v)))) t4 (.lst [.str "]"]) c=some o:=by rw [xb0 (zb0 z1 ht4)]; exact z1
     rw [xb0 (zb0 hc hf),xb0 (zb0 z2 ht5)]; exact z2
    ·rw [za0]
     simp [sD]
theorem sk1 (a:Str) (l:List Str):wt (a :: l)=(cp a).length + 1 + wt l:=by unfold wt; rw [List.map_cons,List.sum_cons]
theorem yd2:∀ {l:List Str} {t:Str},t ∈ l->t.length + 1<=wt l
 | a :: r,t,h=>by
  rw [sk1]
  rcases List.mem_cons.mp h with rfl | h
  ·rw [ze0]; omega
  ·have:=yd2 h; omega
theorem zm2:∀ l:List Str,l ≠ []->(jn (l.map cp)).length + 1=wt l
 | [],h=>absurd rfl h
 | [a],_=>by simp [jn,wt]
 | a :: b :: r,_=>by
  have ih:=zm2 (b :: r) (by simp)
  have e:jn ((a :: b :: r).map cp)=cp a ++ 32 :: jn ((b :: r).map cp):=rfl
  rw [e,List.length_append,List.length_cons,sk1,<- ih]
  omega
theorem we1 {z:Str} (h:z.length<=3000):(Txt.split z " ").length<=3001 /\ ∀ t ∈ Txt.split z " ",t.length<=3000:=by
 have e1:=StrLaws.join_split z " "
 have e3:=PyProof.Rows.split_pos z " "
 generalize Txt.split z " " = m at e1 e3
 have hm:m ≠ []:=by intro e; rw [e] at e3; simp at e3
 have e4:=congrArg cp e1
 rw [xx0] at e4
 have e5:=zm2 m hm
 rw [e4,<- ze0] at e5
 have e6:=tt0 m
 refine ⟨by omega,λ t ht=>?_⟩
 have:=yd2 ht
 omega
theorem ut1 {z:Str}:wt (Txt.split z " ")=z.length + 1:=by
 have e1:=StrLaws.join_split z " "
 have e3:=PyProof.Rows.split_pos z " "
 generalize Txt.split z " " = m at e1 e3
 have hm:m ≠ []:=by intro e; rw [e] at e3; simp at e3
 have e4:=congrArg cp e1
 rw [xx0] at e4
 have e5:=zm2 m hm
 rw [e4,<- ze0] at e5
 exact e5.symm
theorem xr0:∀ a b,encs (a ++ b)=encs a ++ encs b
 | [],b=>by simp [encs]
 | d :: r,b=>by simp only [List.cons_append,encs,xr0 r b]
mutual
noncomputable def sm:Dd->Prop
 | .go n=>0<=n /\ n<=3
 | .jump n=>-3<=n /\ n<=3
 | .turn n=>-5<=n /\ n<=3
 | .times n w=>(0<=n /\ n<=4) /\ sms w
noncomputable def sms:List Dd->Prop
 | []=>True
 | d :: r=>sm d /\ sms r
end
theorem ss0:∀ a b,sms (a ++ b) ↔ sms a /\ sms b
 | [],b=>by simp [sms]
 | d :: r,b=>by simp only [List.cons_append,sms,ss0 r b,and_assoc]
mutual
theorem zl3:∀ d,sm d->okd d
 | .go n,h=>by simp only [sm] at h; simp only [okd,G]; omega
 | .jump n,h=>by simp only [sm] at h; simp only [okd,G]; omega
 | .turn n,h=>by simp only [sm] at h; simp only [okd,G]; omega
 | .times n w,h=>by simp only [sm] at h; simp only [okd,G]; exact ⟨by omega,vm1 w h.2⟩
theorem vm1:∀ w,sms w->oks w
 | [],_=>by simp only [oks]
 | d :: r,h=>by simp only [sms] at h; simp only [oks]; exact ⟨zl3 d h.1,vm1 r h.2⟩
end
noncomputable def zm1:Sp3:=λ ds μ Q=>∃ (nsT:List Int) (k:Int),ds=[.fls (nsT.map D.int),.int k] /\ 0<=k /\ ∀ i,Q (.int i) μ
theorem vo3 (ds:List D) (μ:Mu) (Q:VK3) (h:zm1 ds μ Q):t_q0 { nx:=λ _ μ'=>Q .non μ',rt:=Q } (start3 N_q0 ds) μ:=by
 obtain ⟨nsT,k,rfl,hk,q⟩:=h
 simp_arith [t_q0,N_q0]
 split
 ·next h1 =>
  obtain ⟨d,hd,e⟩:=ve2 (l:=nsT.map D.int) hk h1
  obtain ⟨i,_,rfl⟩:=List.mem_map.mp hd
  simp only [e]
  exact q i
 ·exact q 0
noncomputable def yv0:Sp3:=λ ds μ Q=>∃ (nsT:List Int) (k:Int),ds=[.fls (nsT.map D.int),.int k] /\ 0<=k /\ ∀ a b p,0<=a->μ p=none->Q (.ref p) (updM μ p (.lst [.int a,.bl b]))
theorem wa3 (ds:List D) (μ:Mu) (Q:VK3) (h:yv0 ds μ Q):zg2 zm1 { nx:=λ _ μ'=>Q .non μ',rt:=Q } (start3 sb2 ds) μ:=by
 obtain ⟨nsT,k,rfl,hk,q⟩:=h
 simp_arith [zg2,sb2]
 refine ⟨nsT,k,rfl,hk,λ i=>?_⟩
 simp_arith [cst0]
 refine ⟨⟨by decide,by decide,by decide⟩,?_⟩
 have e:((10:Int) ^ (18:Int).toNat)=1000000000000000000:=by decide
 simp only [e]
 split
 ·next h1=>exact ⟨⟨by decide,by decide,by decide⟩,by decide,λ p hp=>q _ _ p (by omega) hp⟩
 ·exact ⟨by decide,by decide,λ p hp=>q _ _ p (Int.emod_nonneg _ (by decide)) hp⟩
noncomputable def yg0:Sp3:=λ ds μ Q=>∃ (p:Addr) (m a:Int) (b:Bool) (rest:List D),ds=[.ref p,.int m] /\ 0 < m /\ m < 2 ^ 120 /\ μ p=some (.lst (.int a :: .bl b :: rest)) /\ 0<=a ∧
 ∀ r a',0<=r->r < m->0<=a'->Q (.int r) (updM μ p (.lst (.int a' :: .bl b :: rest)))
theorem wo3 (ds:List D) (μ:Mu) (Q:VK3) (h:yg0 ds μ Q):t_q1 { nx:=λ _ μ'=>Q .non μ',rt:=Q } (start3 N_q1 ds) μ:=by
 obtain ⟨p,m,a,b,rest,rfl,h1,h2,h3,h4,q⟩:=h
 simp_arith [t_q1,N_q1,h3]
 split
 ·refine ⟨h1,⟨h1,h2⟩,?_⟩
  exact q _ _ (Int.emod_nonneg _ (by omega)) (Int.emod_lt_of_pos _ h1) (Int.ediv_nonneg h4 (by omega))
 ·refine ⟨.inl (.inr (by decide)),by decide,?_⟩
  simp_arith [za0]
  have n1:=Int.emod_nonneg (a * 48271 + 29) (show (2147483647:Int) ≠ 0 by decide)
  have n2:=Int.emod_lt_of_pos (a * 48271 + 29) (show (0:Int) < 2147483647 by decide)
  generalize (a * 48271 + 29) % 2147483647=c at n1 n2 ⊢
  refine ⟨.inl (.inl (by omega)),.inl (.inl (by decide)),by decide,?_⟩
  have n3:=Int.emod_nonneg (c * c + 39373 * c + 7) (show (2147483629:Int) ≠ 0 by decide)
  have n4:=Int.emod_lt_of_pos (c * c + 39373 * c + 7) (show (0:Int) < 2147483629 by decide)
  generalize (c * c + 39373 * c + 7) % 2147483629=e at n3 n4 ⊢
  refine ⟨.inl (.inl (by omega)),.inl (.inl (by decide)),by decide,⟨by decide,by decide⟩,h1,?_⟩
  exact q _ _ (Int.emod_nonneg _ (by omega)) (Int.emod_lt_of_pos _ h1) n1
noncomputable def ve1 (j:Nat):Sp3:=λ ds μ Q=>∃ (p:Addr) (deep:Int) (a:Int) (b:Bool) (m:Int),ds=[.ref p,.int deep] /\ 0<=deep /\ deep < j /\ μ p=some (.lst [.int a,.bl b,.int m]) /\ 0<=a /\ 0<=m ∧
 ∀ w a' m' μ',ExtB p μ μ'->μ' p=some (.lst [.int a',.bl b,.int m'])->0<=a'->0<=m'->(cnts w:Int) + m'<=m->(deps w:Int)<=deep->sms w->w.length<=4->Q (.tup (encs w)) μ'
noncomputable def sj3 (p f:Addr) (b:Bool) (deep m:Int) (μ:Mu) (l:List D) (ρ:St3) (μ':Mu):Prop:=ExtB p μ μ' /\ ∃ w a' m' kk kd,ρ=[some (.ref p),some (.int deep),some (.ref f),kk,kd] /\ μ' f=some (.lst (encs w)) ∧
 μ' p=some (.lst [.int a',.bl b,.int m']) /\ 0<=a' /\ 0<=m' /\ (cnts w:Int) + m'<=m /\ (deps w:Int)<=deep /\ sms w /\ l.length + w.length<=4
theorem vk0 {p f:Addr} {b:Bool} {deep m:Int} {μ μ2:Mu} {l:List D} {w:List Dd} {d:Dd} {a3 m3:Int} {kk kd:Option D} (hpf:p ≠ f) (hf:μ f=none) (ex:ExtB p μ μ2) (e1:μ2 f=some (.lst (encs w))) (e2:μ2 p=some (.lst [.int a3,.bl b,.int m3]))
    (i1:0<=a3) (i2:0<=m3) (i3:(cnts w:Int) + cnt d + m3<=m) (i4:(deps w:Int)<=deep) (i4':(dep d:Int)<=deep) (i5:sms w) (i5':sm d) (i6:l.length + 1 + w.length<=4) :
    (encs w).length < sizeLine /\ sj3 p f b deep m μ l [some (.ref p),some (.int deep),some (.ref f),kk,kd] (updM μ2 f (.lst (encs w ++ [enc d]))):=by
 have hz:(100:Nat) < sizeLine:=by decide
 refine ⟨by rw [xg0]; omega,λ c o hc hq=>?_,w ++ [d],a3,m3,kk,kd,rfl,?_,?_,i1,i2,?_,?_,?_,?_⟩
 ·rw [xb0 (zb0 hq hf)]; exact ex c o hc hq
 ·rw [za0,xr0]; simp [encs]
 ·rw [xb0 hpf]; exact e2
 ·rw [ur0]; simp only [cnts]; omega
 ·rw [zr0]; simp only [deps]; omega
 ·rw [ss0]; exact ⟨i5,by simp only [sms]; exact ⟨i5',trivial⟩⟩
 ·rw [List.length_append]; simp only [List.length_cons,List.length_nil]; omega
theorem uy1 {a b T E:Prop} [Decidable a] [Decidable b] (hT:a->b->T) (hE:E):if a then (if b then T else E) else E:=by
 split
 ·split
  ·exact hT ‹_› ‹_›
  ·exact hE
 ·exact hE
theorem ya3 (j:Nat) (ds:List D) (μ:Mu) (Q:VK3) (h:ve1 (j + 1) ds μ Q):xs2 yg0 (ve1 j) { nx:=λ _ μ'=>Q .non μ',rt:=Q } (start3 wq2 ds) μ:=by
 obtain ⟨p,deep,a,b,m,rfl,h1,h2,h3,h4,h5,q⟩:=h
 refine ⟨(by decide:0<=sizeLine),λ f hf=>?_⟩
 have hpf:p ≠ f:=zb0 h3 hf
 refine ⟨p,5,a,b,[.int m],rfl,by decide,by decide,by rw [xb0 hpf]; exact h3,h4,λ r a1 r1 r2 r3=>?_⟩
 refine ⟨⟨by omega,by omega⟩,?_⟩
 refine vq0 (sj3 p f b deep m μ) ?_ (λ _ _ _ _=>trivial) ?_ ?_
 ·refine ⟨λ c o hc hq=>?_,[],a1,m,none,none,rfl,?_,za0,r3,h5,by simp [cnts],by simp [deps]; exact h1,by simp [sms],?_⟩
  ·rw [xb0 hc,xb0 (zb0 hq hf)]; exact hq
  ·rw [xb0 (Ne.symm hpf),za0]; simp [encs]
  ·simp only [rngD,List.length_map,List.length_range,List.length_nil]; omega
 ·rintro ρ μ' ⟨ex,w,a',m',kk,kd,rfl,e1,e2,i1,i2,i3,i4,i5,i6⟩
  simp_arith [e1]
  exact q w a' m' μ' ex e2 i1 i2 i3 i4 i5 (by simpa using i6)
 ·rintro x rest ρ μ' ⟨ex,w,a',m',kk,kd,rfl,e1,e2,i1,i2,i3,i4,i5,i6⟩
  rw [List.length_cons] at i6
  refine ⟨p,7,a',b,[.int m'],rfl,by decide,by decide,e2,i1,λ kd2 a2 k1 k2 k3=>?_⟩
  have e3:∀ o:MO,updM μ' p o f=some (.lst (encs w)):=λ o=>by rw [xb0 (Ne.symm hpf)]; exact e1
  have ex3:∀ o:MO,ExtB p μ (updM μ' p o):=λ o=>ex.trans ExtB.upd
  simp_arith [za0,uk0,e3]
  have hz:(100:Nat) < sizeLine:=by decide
  split
  ·next h6 =>
   refine uy1 (λ h7 h8=>?_) ?_
   ·refine ⟨p,5,a2,b,[.int (m' - 1)],rfl,by decide,by decide,za0,k3,λ n a3 n1 n2 n3=>?_⟩
    rw [uk0]
    refine ⟨p,deep - 1,a3,b,m' - 1,rfl,by omega,by omega,za0,n3,by omega,λ w2 a4 m4 μ4 x1 x2 x3 x4 x5 x6 x7 x8=>⟨by omega,?_⟩⟩
    have e4:μ4 f=some (.lst (encs w)):=x1 f _ (Ne.symm hpf) (e3 _)
    simp only [e4]
    exact vk0 (d:=.times n w2) hpf hf ((ex3 _).trans x1) e4 x2 x3 x4 (by simp only [cnt]; omega) i4 (by simp only [dep]; omega) i5 (by simp only [sm]; exact ⟨by omega,x7⟩) i6
   ·split
    ·refine ⟨by omega,λ t ht=>?_⟩
     have hpt:p ≠ t:=zb0 za0 ht
     have hft:f ≠ t:=zb0 (e3 _) ht
     refine ⟨p,8,a2,b,[.int (m' - 1)],rfl,by decide,by decide,by rw [xb0 hpt]; exact za0,k3,λ n a3 n1 n2 n3=>?_⟩
     have et:∀ (o o':MO) (ν:Mu),updM (updM ν t o) p o' t=some o:=λ o o' ν=>by rw [xb0 (Ne.symm hpt),za0]
     obtain ⟨dv,hd,e5⟩:=ve2 (l:=([D.int 1,D.int (-1),D.int 2,D.int 3,D.int (-5),D.int 0,D.int 1,D.int (-1)]:List D)) (i:=n) n1 (by simp only [List.length_cons,List.length_nil]; omega)
     have hk:∃ k:Int,dv=.int k /\ -5<=k /\ k<=3:=by
      simp only [List.mem_cons,List.not_mem_nil,or_false] at hd
      rcases hd with rfl | rfl | rfl | rfl | rfl | rfl | rfl | rfl <;> exact ⟨_,rfl,by decide,by decide⟩
     obtain ⟨k,rfl,g1,g2⟩:=hk
     simp_arith [et,e5]
     have e4:∀ (o o':MO),updM (updM (updM μ' p o) t o') p (.lst [.int a3,.bl b,.int (m' - 1)]) f=some (.lst (encs w)):=λ o o'=>by rw [xb0 (Ne.symm hpf),xb0 hft]; exact e3 _
     simp only [e4]
     refine ⟨by omega,vk0 (d:=.turn k) hpf hf (λ c o hc hq=>?_) (e4 _ _) za0 n3 (by omega) (by simp only [cnt]; omega) i4 (by simp only [dep]; omega) i5 (by simp only [sm]; omega) i6⟩
     have z:=ex3 (.lst [.int a2,.bl b,.int (m' - 1)]) c o hc hq
     rw [xb0 hc,xb0 (zb0 z ht)]
     exact z
    ·split
     ·refine ⟨p,7,a2,b,[.int (m' - 1)],rfl,by decide,by decide,za0,k3,λ n a3 n1 n2 n3=>?_⟩
      simp_arith [uk0,e3]
      exact ⟨by omega,vk0 (d:=.jump (n - 3)) hpf hf (ex3 _) (e3 _) za0 n3 (by omega) (by simp only [cnt]; omega) i4 (by simp only [dep]; omega) i5 (by simp only [sm]; omega) i6⟩
     ·refine ⟨p,4,a2,b,[.int (m' - 1)],rfl,by decide,by decide,za0,k3,λ n a3 n1 n2 n3=>?_⟩
      simp_arith [uk0,e3]
      exact ⟨by omega,vk0 (d:=.go n) hpf hf (ex3 _) (e3 _) za0 n3 (by omega) (by simp only [cnt]; omega) i4 (by simp only [dep]; omega) i5 (by simp only [sm]; omega) i6⟩
  ·refine ⟨ex3 _,w,a2,m',_,_,rfl,e3 _,za0,k3,i2,i3,i4,i5,by omega⟩
noncomputable def wb1 (j:Nat):Sp3:=λ ds μ Q=>∃ (nsT:List Int) (k deep most:Int),ds=[.fls (nsT.map D.int),.int k,.int deep,.int most] /\ 0<=k /\ 0<=deep /\ deep < j /\ 0<=most ∧
 ∀ w μ',Ext μ μ'->(cnts w:Int)<=most->(deps w:Int)<=deep->sms w->w.length<=4->Q (.tup (encs w)) μ'
theorem yo3 (j:Nat) (ds:List D) (μ:Mu) (Q:VK3) (h:wb1 j ds μ Q):t_q3 yv0 (ve1 j) { nx:=λ _ μ'=>Q .non μ',rt:=Q } (start3 N_q3 ds) μ:=by
 obtain ⟨nsT,k,deep,most,rfl,h1,h2,h3,h4,q⟩:=h
 simp_arith [t_q3,N_q3]
 refine ⟨nsT,k,rfl,h1,λ a b p ha hp=>⟨by decide,λ t ht=>?_⟩⟩
 have hpt:p ≠ t:=zb0 za0 ht
 have ept:∀ o o',updM (updM μ p o) t o' p=some o:=λ o o'=>by rw [xb0 hpt,za0]
 simp_arith [ept,za0]
 refine ⟨by decide,λ s hs=>?_⟩
 refine ⟨s,deep,a,b,most,rfl,h2,h3,za0,ha,h4,λ w a' m' μ' x1 x2 x3 x4 x5 x6 x7 x8=>q w μ' (λ c o hc=>?_) (by omega) x6 x7 x8⟩
 have z1:updM μ p (.lst [.int a,.bl b]) c=some o:=by rw [xb0 (zb0 hc hp)]; exact hc
 have z2:updM (updM μ p (.lst [.int a,.bl b])) t (.lst [.int most]) c=some o:=by rw [xb0 (zb0 z1 ht)]; exact z1
 have hcs:c ≠ s:=zb0 z2 hs
 exact x1 c o hcs (by rw [xb0 hcs]; exact z2)
open Mt
noncomputable def isDg (c:Nat):Bool:=decide (48<=c /\ c<=57)
theorem vh3 (c:Nat):(!(Builtin.Str.occurrences ("0123456789" : Str) ⟨#[c]⟩ 0 ("0123456789" : Str).length 1).isEmpty)=isDg c:=by
 rw [StrLaws.found_one]
 unfold isDg
 have e:("0123456789" : Str).cps.toList=[48,49,50,51,52,53,54,55,56,57]:=by decide +kernel
 rw [e]
 apply decide_eq_decide.mpr
 simp only [List.mem_cons,List.not_mem_nil,or_false]
 omega
noncomputable def figs (l:List Nat):Bool:=decide (1<=l.length /\ l.length<=20) && l.all isDg
noncomputable def bare (l:List Nat):List Nat:=if l.head?=some 45 then l.drop 1 else l
noncomputable def okn (l:List Nat):Prop:=figs (bare l)=true /\ ¬ ((bare l).head?=some 48 /\ l ≠ [48])
noncomputable instance (l:List Nat):Decidable (okn l):=by unfold okn; exact inferInstance
noncomputable def num? (z:Str):Option Int:=if okn (cp z) then PySem.intText? z else none
theorem wj0 {l:List Nat} (h:figs l=true):NumText.AllDigits l /\ 1<=l.length /\ l.length<=20:=by
 unfold figs at h
 rw [Bool.and_eq_true,decide_eq_true_eq,List.all_eq_true] at h
 exact ⟨λ c hc=>by have:=h.2 c hc; unfold isDg at this; exact of_decide_eq_true this,h.1⟩
theorem wc1 {z:Str} (h:okn (cp z)):∃ n,PySem.intText? z=some n /\ (-G<=n /\ n<=G) /\ z.length<=640:=by
 obtain ⟨h1,_⟩:=h
 unfold bare at h1
 by_cases c:(cp z).head?=some 45
 ·rw [if_pos c] at h1
  obtain ⟨a1,a2,a3⟩:=wj0 h1
  cases e:cp z with
  | nil=>rw [e] at c; cases c
  | cons x r =>
   rw [e] at c a1 a2 a3
   have ex:x=45:=by simpa using c
   subst ex
   simp only [List.drop_succ_cons,List.drop_zero] at a1 a2 a3
   have hl:z.length<=21:=by rw [ze0,e,List.length_cons]; omega
   have hv:=xc2 r.length r rfl a1
   have hv2:NumText.digitsVal r < 10 ^ 20:=Nat.lt_of_lt_of_le hv (Nat.pow_le_pow_right (by decide) a3)
   refine ⟨_,intText_neg (x:=z) e a1 (λ q=>by rw [q] at a2; simp at a2) (by omega),?_,by omega⟩
   unfold G
   omega
 ·rw [if_neg c] at h1
  obtain ⟨a1,a2,a3⟩:=wj0 h1
  have hl:z.length<=20:=by rw [ze0]; exact a3
  have hv:=xc2 (cp z).length (cp z) rfl a1
  have hv2:NumText.digitsVal (cp z) < 10 ^ 20:=Nat.lt_of_lt_of_le hv (Nat.pow_le_pow_right (by decide) a3)
  refine ⟨_,intText_digits (x:=z) a1 (λ e0=>?_) (by omega),?_,by omega⟩
  ·have h0:(cp z).length=0:=by show z.cps.toList.length=0; rw [e0]; rfl
   omega
  unfold G
  have:NumText.digitsVal z.cps.toList < 10 ^ 20:=hv2
  omega
theorem sc2 {z:Str} {n:Int} (h:num? z=some n) : -G<=n /\ n<=G:=by
 unfold num? at h
 split at h
 ·next c =>
  obtain ⟨m,e,b,_⟩:=wc1 c
  rw [e] at h; cases h
  exact b
 ·cases h
theorem ys3 {p:Addr} {bs:List Bool} {μ:Mu} {Q:VK3} (h:μ p=some (.lst (bs.map D.bl))) (k:Q (.bl (bs.all id)) μ):allR [.ref p] μ Q:=by
 have e:∀ bs:List Bool,bls? (bs.map D.bl)=some bs:=λ bs=>by
  induction bs with
  | nil=>rfl
  | cons b r ih=>simp only [List.map_cons,bls?,ih]
 unfold allR
 simp only [h,e]
 exact k
noncomputable def chD (d:D):Nat:=match d with
 | .str z=>z.cps.toList.headD 0
 | _=>0
noncomputable def st1:Sp3:=λ ds μ Q=>∃ z:Str,ds=[.str z] /\ z.length<=9000 /\ ∀ μ',Ext μ μ'->Q (.bl (figs (cp z))) μ'
theorem xa3 (ds:List D) (μ:Mu) (Q:VK3) (h:st1 ds μ Q):xg2 { nx:=λ _ μ'=>Q .non μ',rt:=Q } (start3 ub2 ds) μ:=by
 obtain ⟨z,rfl,hl,q⟩:=h
 have hz:(100000:Nat) < sizeLine:=by decide
 simp_arith [xg2,ub2,zg0,sl0]
 refine ⟨by omega,?_⟩
 by_cases c1:(z.length:Int)=0
 ·simp_arith [c1]
  have e:figs (cp z)=false:=by unfold figs; rw [decide_eq_false (by rw [<- ze0]; omega)]; rfl
  have:=q μ (Ext.refl _)
  rw [e] at this
  exact this
 ·simp_arith [c1]
  refine ⟨by omega,?_⟩
  by_cases c2:(20:Int) < z.length
  ·simp_arith [c2]
   have e:figs (cp z)=false:=by unfold figs; rw [decide_eq_false (by rw [<- ze0]; omega)]; rfl
   have:=q μ (Ext.refl _)
   rw [e] at this
   exact this
  ·simp_arith [c2]
   intro p hp
   refine ug1 (rest:=[]) (λ d=>.bl (isDg (chD d))) hp (by rw [List.length_map]; show (cp z).length<=sizeLine; rw [<- ze0]; omega) (λ _ _=>trivial) (λ x hx μ' R ex k=>?_) λ μ' ex e=>?_
   ·obtain ⟨c,hc,rfl⟩:=List.mem_map.mp hx
    simp_arith [cst0]
    rw [vh3 c]
    exact k _ (Ext.refl _)
   ·have el:(z.cps.toList.map λ c=>D.str ⟨#[c]⟩).map (λ d=>D.bl (isDg (chD d)))=((cp z).map isDg).map D.bl:=by
      rw [List.map_map,List.map_map]; rfl
    rw [el] at e
    refine ys3 e ?_
    have ef:figs (cp z)=((cp z).map isDg).all id:=by
     unfold figs; rw [decide_eq_true (by rw [<- ze0]; omega),List.all_map]; rfl
    rw [<- ef]
    exact q μ' ex
noncomputable def ndl (z f:Str):Bool:=decide (z = "-0") || (decide (1 < (cp f).length) && decide ((cp f).head?=some 48))
noncomputable def ue1:Sp3:=λ ds μ Q=>∃ z f:Str,ds=[.str z,.str f] /\ f.length<=9000 /\ Q (.bl (ndl z f)) μ
theorem ta1:("0" : Str)=⟨#[48]⟩:=zu0 (by decide +kernel)
theorem xw0:("-" : Str)=⟨#[45]⟩:=zu0 (by decide +kernel)
theorem wz2 (ds:List D) (μ:Mu) (Q:VK3) (h:ue1 ds μ Q):vf2 { nx:=λ _ μ'=>Q .non μ',rt:=Q } (start3 yb2 ds) μ:=by
 obtain ⟨z,f,rfl,hl,q⟩:=h
 have hz:(100000:Nat) < sizeLine:=by decide
 unfold ndl at q
 simp_arith [vf2,yb2]
 by_cases c1:z = "-0"
 ·simp_arith [c1]
  simpa [c1] using q
 ·simp_arith [c1]
  refine ⟨by omega,?_⟩
  rw [decide_eq_false c1,Bool.false_or] at q
  by_cases c2:(1:Int) < f.length
  ·simp_arith [c2]
   rw [ta1,ts0]
   rw [decide_eq_true (show 1 < (cp f).length by rw [<- ze0]; omega),Bool.true_and] at q
   exact q
  ·simp_arith [c2]
   rw [decide_eq_false (show ¬ 1 < (cp f).length by rw [<- ze0]; omega),Bool.false_and] at q
   exact q
theorem xj3:cp ("-0" : Str)=[45,48]:=by decide +kernel
theorem sw0 {z:Str} (h:(cp z).head?=some 45):cp (⟨(cut3 z.cps.toList (some 1) none).toArray⟩:Str)=bare (cp z):=by
 show (cut3 (cp z) (some 1) none).toArray.toList=_
 unfold bare
 rw [if_pos h]
 cases e:cp z with
 | nil=>rw [e] at h; cases h
 | cons a r =>
  unfold cut3 sIx3
  simp only [List.length_cons,show ¬ ((1:Int) < 0) by decide,if_false]
  have e1:min (1:Int).toNat (r.length + 1)=1:=by show min 1 _=1; omega
  rw [e1]
  simp
theorem wl2 {z f:Str} (h:cp f=bare (cp z)):(figs (cp f)=true /\ ndl z f=false) ↔ okn (cp z):=by
 unfold okn
 rw [h]
 refine and_congr_right λ hf=>?_
 obtain ⟨_,a2,_⟩:=wj0 hf
 unfold ndl
 rw [h]
 have e0:z = "-0" ↔ cp z=[45,48]:=⟨λ e=>by rw [e,xj3],λ e=>zu0 (by rw [e,xj3])⟩
 rw [Bool.or_eq_false_iff,decide_eq_false_iff_not,e0,Bool.and_eq_false_iff,decide_eq_false_iff_not,decide_eq_false_iff_not]
 unfold bare at a2 ⊢
 by_cases c:(cp z).head?=some 45
 ·rw [if_pos c] at a2 ⊢
  cases e:cp z with
  | nil=>rw [e] at c; cases c
  | cons x r =>
   rw [e] at c a2
   have ex:x=45:=by simpa using c
   subst ex
   simp only [List.drop_succ_cons,List.drop_zero] at a2 ⊢
   cases r with
   | nil=>simp at a2
   | cons y r=>simp only [List.head?_cons,List.length_cons,List.cons.injEq,Option.some.injEq,true_and,ne_eq]; cases r <;> simp
 ·rw [if_neg c] at a2 ⊢
  cases e:cp z with
  | nil=>rw [e] at a2; simp at a2
  | cons x r =>
   rw [e] at c
   simp only [List.head?_cons,Option.some.injEq] at c
   simp only [List.head?_cons,List.length_cons,List.cons.injEq,Option.some.injEq,ne_eq]
   cases r <;> simp [c]
noncomputable def zf2 {α:Type} (XE:XE3) (μ:Mu) (Q:α->Mu->Prop) (E:Mu->Mu->Prop):Option α->Prop
 | some a=>∀ μ',E μ μ'->Q a μ'
 | none=>∀ μ',E μ μ'->XE "BadNote" μ'
noncomputable def vt1 (XE:XE3):Sp3:=λ ds μ Q=>∃ z:Str,ds=[.str z] /\ z.length<=9000 /\ zf2 XE μ (λ n=>Q (.int n)) Ext (num? z)
theorem sy2 (XE:XE3) (ds:List D) (μ:Mu) (Q:VK3) (h:vt1 XE ds μ Q):ur2 XE st1 ue1 { nx:=λ _ μ'=>Q .non μ',rt:=Q } (start3 xq2 ds) μ:=by
 obtain ⟨z,rfl,hl,q⟩:=h
 have hz:(100000:Nat) < sizeLine:=by decide
 have main:∀ (f:Str) (μ0:Mu),f.length<=9000->cp f=bare (cp z)->μ0=μ->(seq3 (ifs3 (or3 (not3 (b3 (call3 st1 (cons3 (v3 1) nil3)))) (b3 (call3 ue1 (cons3 (v3 0) (cons3 (v3 1) nil3))))) (se0 XE "BadNote" (cons3 (c3 (.str "there is no such number")) nil3)) next3) (ret3 (call3 intR (cons3 (v3 0) nil3)))) { nx:=λ _ μ'=>Q .non μ',rt:=Q } [some (.str z),some (.str f)] μ0:=by
  intro f μ0 hf ef e0
  subst e0
  refine ⟨f,rfl,hf,λ μ1 e1=>?_⟩
  have ki:=wl2 ef
  cases cf:figs (cp f) with
  | false =>
   have hn:num? z=none:=by unfold num?; rw [if_neg (λ k=>by have:=(ki.mpr k).1; rw [cf] at this; cases this)]
   rw [hn] at q
   exact ⟨by decide,q μ1 e1⟩
  | true =>
   refine ⟨z,f,rfl,hf,?_⟩
   cases cn:ndl z f with
   | true =>
    have hn:num? z=none:=by unfold num?; rw [if_neg (λ k=>by have:=(ki.mpr k).2; rw [cn] at this; cases this)]
    rw [hn] at q
    exact ⟨by decide,q μ1 e1⟩
   | false =>
    have ok:=ki.mp ⟨cf,cn⟩
    obtain ⟨n,en,_,hl2⟩:=wc1 ok
    have hn:num? z=some n:=by unfold num?; rw [if_pos ok]; exact en
    rw [hn] at q
    show intR [.str z] μ1 Q
    simp only [intR,en]
    exact ⟨hl2,q μ1 e1⟩
 show if Txt.startswith z "-" = true then _ else _
 rw [xw0,ts0]
 by_cases c:(cp z).head?=some 45
 ·rw [decide_eq_true c,if_pos rfl]
  refine ⟨(show z.length<=sizeLine by omega),?_⟩
  refine main _ μ ?_ (sw0 c) rfl
  rw [ze0,sw0 c]
  unfold bare
  rw [if_pos c,List.length_drop,<- ze0]
  omega
 ·rw [decide_eq_false c,if_neg (by decide)]
  refine main z μ hl ?_ rfl
  unfold bare
  rw [if_neg c]
noncomputable def nm (c:Bool) (s:Bool) (u:Str):Option Int:=match num? u with
 | some n=>if c=true /\ s=true /\ n < 0 then none else some n
 | none=>none
noncomputable abbrev PT:=Nat->List Str->Option (List Dd × List Str)
noncomputable def clo (n:Int) (o:Option (List Dd × List Str)):Option (Dd × List Str):=match o with
 | some (v,e :: r3)=>if e = "]" then some (.times n v,r3) else none
 | _=>none
noncomputable def inr (P:PT) (k:Nat) (n:Int) (r:List Str):Option (Dd × List Str):=match r with
 | []=>none
 | b :: r2=>if b = "[" /\ k < 4 then clo n (P (k + 1) r2) else none
noncomputable def dee (P:PT) (c:Bool) (k:Nat) (t:Str) (r:List Str):Option (Dd × List Str):=match r with
 | []=>none
 | u :: r' =>
  if t = "go" then (nm c true u).map λ n=>(.go n,r')
  else if t = "jump" then (nm c false u).map λ n=>(.jump n,r')
  else if t = "turn" then (nm c false u).map λ n=>(.turn n,r')
  else if t = "times" then (nm c true u).bind λ n=>inr P k n r'
  else none
noncomputable def prs (c:Bool):Nat->PT
 | 0,_,_=>none
 | f + 1,k,ms=>match ms with
  | []=>some ([],[])
  | t :: r=>if t = "]" then some ([],t :: r) else
   (dee (prs c f) c k t r).bind λ x=>(prs c f k x.2).map λ y=>(x.1 :: y.1,y.2)
theorem vm2 {P:PT} {k:Nat} {n:Int} {r r':List Str} {d:Dd} (hP:∀ k ms w r,P k ms=some (w,r)->r.length<=ms.length) (h:inr P k n r=some (d,r')):r'.length < r.length:=by
 unfold inr at h
 split at h
 ·cases h
 ·next b r2 =>
  split at h
  ·unfold clo at h
   split at h
   ·next v e r3 hv =>
    split at h
    ·cases h
     have:=hP _ _ _ _ hv
     simp only [List.length_cons] at this ⊢
     omega
    ·cases h
   ·cases h
  ·cases h
theorem tw0 {P:PT} {c:Bool} {k:Nat} {t:Str} {r r':List Str} {d:Dd} (hP:∀ k ms w r,P k ms=some (w,r)->r.length<=ms.length) (h:dee P c k t r=some (d,r')):r'.length < r.length:=by
 unfold dee at h
 split at h
 ·cases h
 ·next u r2 =>
  have mp:∀ {o:Option Int} {g:Int->Dd × List Str},(∀ n,(g n).2=r2)->o.map g=some (d,r')->r'.length < (u :: r2).length:=λ {o g} hg e=>by
   cases o with
   | none=>cases e
   | some n =>
    simp only [Option.map_some,Option.some.injEq] at e
    have:=hg n
    rw [e] at this
    dsimp only at this
    subst this
    simp
  split at h
  ·exact mp (λ _=>rfl) h
  ·split at h
   ·exact mp (λ _=>rfl) h
   ·split at h
    ·exact mp (λ _=>rfl) h
    ·split at h
     ·cases e:nm c true u with
      | none=>rw [e] at h; cases h
      | some n =>
       rw [e] at h
       have:=vm2 hP h
       simp only [List.length_cons]
       omega
     ·cases h
theorem tv0 (c:Bool):∀ f k ms w r,prs c f k ms=some (w,r)->r.length<=ms.length
 | 0,k,ms,w,r,h=>by simp [prs] at h
 | f + 1,k,[],w,r,h=>by simp [prs] at h; rw [h.2]; simp
 | f + 1,k,t :: ms,w,r,h=>by
  simp only [prs] at h
  split at h
  ·cases h; simp
  ·cases e:dee (prs c f) c k t ms with
   | none=>rw [e] at h; cases h
   | some x =>
    rw [e] at h
    simp only [Option.bind_some] at h
    cases e2:prs c f k x.2 with
    | none=>rw [e2] at h; cases h
    | some y =>
     rw [e2] at h
     simp only [Option.map_some,Option.some.injEq,Prod.mk.injEq] at h
     have h1:=tw0 (tv0 c f) (d:=x.1) (r':=x.2) e
     have h2:=tv0 c f k x.2 y.1 y.2 e2
     rw [<- h.2]
     simp only [List.length_cons]
     omega
theorem vz0 {P P':PT} {c:Bool} {k:Nat} {t:Str} {r:List Str} (h:∀ k ms,ms.length < r.length->P k ms=P' k ms):dee P c k t r=dee P' c k t r:=by
 unfold dee
 cases r with
 | nil=>rfl
 | cons u r' =>
  dsimp only
  have e:∀ n,inr P k n r'=inr P' k n r':=λ n=>by
   unfold inr
   cases r' with
   | nil=>rfl
   | cons b r2 =>
    dsimp only
    rw [h (k + 1) r2 (by simp only [List.length_cons]; omega)]
  simp only [e]
theorem uo0 (c:Bool):∀ f g k ms,ms.length < f->ms.length < g->prs c f k ms=prs c g k ms
 | 0,_,_,_,h,_=>by omega
 | _ + 1,0,_,_,_,h=>by omega
 | f + 1,g + 1,k,[],_,_=>by simp [prs]
 | f + 1,g + 1,k,t :: r,hf,hg=>by
  simp only [List.length_cons] at hf hg
  simp only [prs]
  have e:dee (prs c f) c k t r=dee (prs c g) c k t r:=vz0 λ k ms hm=>uo0 c f g k ms (by omega) (by omega)
  rw [e]
  split
  ·rfl
  ·cases e2:dee (prs c g) c k t r with
   | none=>rfl
   | some x =>
    simp only [Option.bind_some]
    have h1:=tw0 (tv0 c g) (d:=x.1) (r':=x.2) e2
    rw [uo0 c f g k x.2 (by omega) (by omega)]
noncomputable def PR (c:Bool):PT:=λ k ms=>prs c (ms.length + 1) k ms
theorem zw1 {c:Bool} {f k:Nat} {t:Str} {r:List Str} (h:t ≠ "]"):prs c (f + 1) k (t :: r)=(dee (prs c f) c k t r).bind λ x=>(prs c f k x.2).map λ y=>(x.1 :: y.1,y.2):=by
 rw [prs]
 simp only [if_neg h]
theorem zs1 (c:Bool) (k:Nat):PR c k []=some ([],[]):=by simp [PR,prs]
theorem xk3 (c:Bool) (k:Nat) (r:List Str):PR c k (("]" : Str) :: r)=some ([],("]" : Str) :: r):=by simp [PR,prs]
theorem sg1 {c:Bool} {k:Nat} {ms r:List Str} {w:List Dd} (h:PR c k ms=some (w,r)):r.length<=ms.length:=tv0 c _ _ _ _ _ h
theorem ws1 {c:Bool} {k:Nat} {t:Str} {r:List Str} (h:t ≠ "]"):PR c k (t :: r)=(dee (PR c) c k t r).bind λ x=>(PR c k x.2).map λ y=>(x.1 :: y.1,y.2):=by
 show prs c (r.length + 1 + 1) k (t :: r)=_
 rw [zw1 h]
 have e:dee (prs c (r.length + 1)) c k t r=dee (PR c) c k t r:=vz0 λ k ms hm=>uo0 c _ _ k ms (by omega) (by omega)
 rw [e]
 cases e2:dee (PR c) c k t r with
 | none=>rfl
 | some x =>
  simp only [Option.bind_some]
  have h1:=tw0 (P:=PR c) (λ k ms w r h=>sg1 h) (d:=x.1) (r':=x.2) e2
  rw [uo0 c (r.length + 1) (x.2.length + 1) k x.2 (by omega) (by omega)]
  rfl
theorem vi3 {c:Bool} {k:Nat} {t:Str} {r r':List Str} {d:Dd} (h:dee (PR c) c k t r=some (d,r')):r'.length < r.length:=tw0 (λ k ms w r h=>sg1 h) h
theorem yd1 (P:PT) (c:Bool) (k:Nat) (t:Str):dee P c k t []=none:=rfl
theorem xf1 (c:Bool):∀ f k ms w r,prs c f k ms=some (w,r)->r=[] \/ ∃ r',r=("]" : Str) :: r'
 | 0,k,ms,w,r,h=>by simp [prs] at h
 | f + 1,k,[],w,r,h=>by simp [prs] at h; exact .inl h.2
 | f + 1,k,t :: ms,w,r,h=>by
  simp only [prs] at h
  split at h
  ·next e=>cases h; exact .inr ⟨ms,by rw [e]⟩
  ·cases e:dee (prs c f) c k t ms with
   | none=>rw [e] at h; cases h
   | some x =>
    rw [e] at h
    simp only [Option.bind_some] at h
    cases e2:prs c f k x.2 with
    | none=>rw [e2] at h; cases h
    | some y =>
     rw [e2] at h
     simp only [Option.map_some,Option.some.injEq,Prod.mk.injEq] at h
     have h2:=xf1 c f k x.2 y.1 y.2 e2
     rw [<- h.2]
     exact h2
mutual
noncomputable def nb1:Dd->Bool
 | .go n=>decide (0<=n)
 | .times n w=>decide (0<=n) && nbs w
 | _=>true
noncomputable def nbs:List Dd->Bool
 | []=>true
 | d :: r=>nb1 d && nbs r
end
noncomputable def flt (o:Option (List Dd × List Str)):Option (List Dd × List Str):=o.bind λ x=>if nbs x.1=true then some x else none
noncomputable def fl1 (o:Option (Dd × List Str)):Option (Dd × List Str):=o.bind λ x=>if nb1 x.1=true then some x else none
theorem un2 {P P':PT} {k:Nat} {t:Str} {r:List Str} (h:∀ k ms,P k ms=flt (P' k ms)):dee P true k t r=fl1 (dee P' false k t r):=by
 unfold dee
 cases r with
 | nil=>rfl
 | cons u r' =>
  dsimp only
  have n1:∀ s,nm false s u=num? u:=λ s=>by unfold nm; cases num? u <;> simp
  have n2:nm true false u=num? u:=by unfold nm; cases num? u <;> simp
  rw [n2]
  simp only [n1]
  have go:∀ {g:Int->Dd × List Str},(∀ n,nb1 (g n).1=decide (0<=n))->(nm true true u).map g=fl1 ((num? u).map g):=λ {g} hg=>by
   unfold nm fl1
   cases num? u with
   | none=>rfl
   | some n =>
    dsimp only [Option.map_some,Option.bind_some]
    rw [hg n]
    by_cases c:n < 0
    ·rw [if_pos ⟨rfl,rfl,c⟩,if_neg (by simp; omega)]; rfl
    ·rw [if_neg (λ z=>c z.2.2),if_pos (by simp; omega)]; rfl
  have any:∀ {g:Int->Dd × List Str},(∀ n,nb1 (g n).1=true)->(num? u).map g=fl1 ((num? u).map g):=λ {g} hg=>by
   unfold fl1
   cases num? u with
   | none=>rfl
   | some n=>dsimp only [Option.map_some,Option.bind_some]; rw [if_pos (hg n)]
  split
  ·exact go λ n=>by simp [nb1]
  ·split
   ·exact any λ n=>by simp [nb1]
   ·split
    ·exact any λ n=>by simp [nb1]
    ·split
     ·unfold nm
      cases num? u with
      | none=>rfl
      | some n =>
       dsimp only [Option.bind_some]
       have ei:∀ n,0<=n->inr P k n r'=fl1 (inr P' k n r'):=λ n hn=>by
        unfold inr
        cases r' with
        | nil=>rfl
        | cons b r2 =>
         dsimp only
         rw [h (k + 1) r2]
         split
         ·cases P' (k + 1) r2 with
          | none=>rfl
          | some x =>
           obtain ⟨v,l⟩:=x
           unfold flt
           dsimp only [Option.bind_some]
           cases cv:nbs v with
           | true =>
            rw [if_pos rfl]
            cases l with
            | nil=>rfl
            | cons e r3 =>
             dsimp only [clo]
             split
             ·unfold fl1; dsimp only [Option.bind_some]; rw [if_pos (by simp [nb1,cv,hn])]
             ·rfl
           | false =>
            rw [if_neg (by decide)]
            cases l with
            | nil=>rfl
            | cons e r3 =>
             dsimp only [clo]
             split
             ·unfold fl1; dsimp only [Option.bind_some]; rw [if_neg (by simp [nb1,cv])]
             ·rfl
         ·rfl
       by_cases c:n < 0
       ·rw [if_pos ⟨rfl,rfl,c⟩]
        have:∀ x,inr P' k n r'=some x->nb1 x.1=false:=λ x hx=>by
         unfold inr at hx
         split at hx
         ·cases hx
         ·split at hx
          ·unfold clo at hx
           split at hx
           ·split at hx
            ·cases hx; simp [nb1]; intro z; omega
            ·cases hx
           ·cases hx
          ·cases hx
        unfold fl1
        cases e:inr P' k n r' with
        | none=>rfl
        | some x=>dsimp only [Option.bind_some,Option.bind_none]; rw [if_neg (by rw [this x e]; decide)]
       ·rw [if_neg (λ z=>c z.2.2)]
        exact ei n (by omega)
     ·rfl
theorem xc1:∀ f k ms,prs true f k ms=flt (prs false f k ms)
 | 0,_,_=>rfl
 | f + 1,k,[]=>by simp [prs,flt,nbs]
 | f + 1,k,t :: r=>by
  simp only [prs]
  split
  ·simp [flt,nbs]
  ·rw [un2 (xc1 f)]
   cases dee (prs false f) false k t r with
   | none=>rfl
   | some x =>
    obtain ⟨d,r'⟩:=x
    unfold fl1
    dsimp only [Option.bind_some]
    cases cd:nb1 d with
    | true =>
     rw [if_pos rfl]
     dsimp only [Option.bind_some]
     rw [xc1 f k r']
     cases prs false f k r' with
     | none=>rfl
     | some y =>
      obtain ⟨w,r2⟩:=y
      unfold flt
      dsimp only [Option.bind_some,Option.map_some]
      simp only [nbs,cd,Bool.true_and]
      split <;> rfl
    | false =>
     rw [if_neg (by decide)]
     cases prs false f k r' with
     | none=>rfl
     | some y =>
      unfold flt
      dsimp only [Option.bind_some,Option.map_some,Option.bind_none]
      rw [if_neg (by simp [nbs,cd])]
theorem yk3 (k:Nat) (ms:List Str):PR true k ms=flt (PR false k ms):=xc1 _ _ _
mutual
noncomputable def bdq1:Dd->Prop
 | .go n=>-G<=n /\ n<=G
 | .jump n=>-G<=n /\ n<=G
 | .turn n=>-G<=n /\ n<=G
 | .times n w=>(-G<=n /\ n<=G) /\ bdqs w
noncomputable def bdqs:List Dd->Prop
 | []=>True
 | d :: r=>bdq1 d /\ bdqs r
end
theorem yf3 {c s:Bool} {u:Str} {n:Int} (h:nm c s u=some n) : -G<=n /\ n<=G:=by
 unfold nm at h
 split at h
 ·next m e =>
  split at h
  ·cases h
  ·cases h; exact sc2 e
 ·cases h
theorem ti3 {P:PT} {c:Bool} {k:Nat} {t:Str} {r r':List Str} {d:Dd} (hk:k<=4) (hP:∀ k ms w r,k<=4->P k ms=some (w,r)->bdqs w /\ deps w + k<=4) (h:dee P c k t r=some (d,r')):bdq1 d /\ dep d + k<=4:=by
 unfold dee at h
 split at h
 ·cases h
 ·next u r2 =>
  have mp:∀ {s:Bool} {g:Int->Dd},(∀ n,(-G<=n /\ n<=G)->bdq1 (g n) /\ dep (g n)=0)->((nm c s u).map λ n=>(g n,r2))=some (d,r')->bdq1 d /\ dep d + k<=4:=λ {s g} hg e=>by
   cases en:nm c s u with
   | none=>rw [en] at e; cases e
   | some n =>
    rw [en] at e
    simp only [Option.map_some,Option.some.injEq,Prod.mk.injEq] at e
    obtain ⟨a1,a2⟩:=hg n (yf3 en)
    rw [<- e.1]
    exact ⟨a1,by omega⟩
  split at h
  ·exact mp (g:=.go) (λ n hn=>⟨by simpa only [bdq1] using hn,by simp only [dep]⟩) h
  ·split at h
   ·exact mp (g:=.jump) (λ n hn=>⟨by simpa only [bdq1] using hn,by simp only [dep]⟩) h
   ·split at h
    ·exact mp (g:=.turn) (λ n hn=>⟨by simpa only [bdq1] using hn,by simp only [dep]⟩) h
    ·split at h
     ·cases e:nm c true u with
      | none=>rw [e] at h; cases h
      | some n =>
       rw [e] at h
       dsimp only [Option.bind_some] at h
       unfold inr at h
       split at h
       ·cases h
       ·split at h
        ·next hb =>
         unfold clo at h
         split at h
         ·next v e3 r3 hv =>
          split at h
          ·cases h
           obtain ⟨a1,a2⟩:=hP _ _ _ _ (by omega) hv
           refine ⟨?_,?_⟩
           ·simp only [bdq1]; exact ⟨yf3 e,a1⟩
           ·simp only [dep]; omega
          ·cases h
         ·cases h
        ·cases h
     ·cases h
theorem yf1 (c:Bool):∀ f k ms w r,k<=4->prs c f k ms=some (w,r)->bdqs w /\ deps w + k<=4
 | 0,k,ms,w,r,_,h=>by simp [prs] at h
 | f + 1,k,[],w,r,hk,h=>by simp [prs] at h; rw [h.1]; simp only [bdqs,deps]; exact ⟨trivial,by omega⟩
 | f + 1,k,t :: ms,w,r,hk,h=>by
  simp only [prs] at h
  split at h
  ·cases h; simp only [bdqs,deps]; exact ⟨trivial,by omega⟩
  ·cases e:dee (prs c f) c k t ms with
   | none=>rw [e] at h; cases h
   | some x =>
    rw [e] at h
    simp only [Option.bind_some] at h
    cases e2:prs c f k x.2 with
    | none=>rw [e2] at h; cases h
    | some y =>
     rw [e2] at h
     simp only [Option.map_some,Option.some.injEq,Prod.mk.injEq] at h
     obtain ⟨a1,a2⟩:=ti3 hk (yf1 c f) (d:=x.1) (r':=x.2) e
     obtain ⟨b1,b2⟩:=yf1 c f k x.2 y.1 y.2 hk e2
     rw [<- h.1]
     simp only [bdqs,deps]
     exact ⟨⟨a1,b1⟩,by omega⟩
mutual
theorem ve3:∀ d,bdq1 d->(okd d ↔ nb1 d=true)
 | .go n,h=>by simp only [bdq1] at h; simp only [okd,nb1,decide_eq_true_eq]; omega
 | .jump n,h=>by simp only [bdq1] at h; simp only [okd,nb1]; simp [h]
 | .turn n,h=>by simp only [bdq1] at h; simp only [okd,nb1]; simp [h]
 | .times n w,h=>by
  simp only [bdq1] at h
  simp only [okd,nb1,Bool.and_eq_true,decide_eq_true_eq,uo1 w h.2]
  have:=h.1
  constructor
  ·rintro ⟨a,b⟩; exact ⟨a.1,b⟩
  ·rintro ⟨a,b⟩; exact ⟨⟨a,this.2⟩,b⟩
theorem uo1:∀ w,bdqs w->(oks w ↔ nbs w=true)
 | [],_=>by simp [oks,nbs]
 | d :: r,h=>by
  simp only [bdqs] at h
  simp only [oks,nbs,Bool.and_eq_true,ve3 d h.1,uo1 r h.2]
end
theorem xd1 {P:PT} {c:Bool} {k:Nat} {t:Str} {r r':List Str} {d:Dd} (hP:∀ k ms w r,P k ms=some (w,r)->r <:+ ms) (h:dee P c k t r=some (d,r')):r' <:+ r:=by
 unfold dee at h
 split at h
 ·cases h
 ·next u r2 =>
  have mp:∀ {o:Option Int} {g:Int->Dd × List Str},(∀ n,(g n).2=r2)->o.map g=some (d,r')->r' <:+ u :: r2:=λ {o g} hg e=>by
   cases o with
   | none=>cases e
   | some n =>
    simp only [Option.map_some,Option.some.injEq] at e
    have:=hg n
    rw [e] at this
    dsimp only at this
    subst this
    exact List.suffix_cons _ _
  split at h
  ·exact mp (λ _=>rfl) h
  ·split at h
   ·exact mp (λ _=>rfl) h
   ·split at h
    ·exact mp (λ _=>rfl) h
    ·split at h
     ·cases e:nm c true u with
      | none=>rw [e] at h; cases h
      | some n =>
       rw [e] at h
       dsimp only [Option.bind_some] at h
       unfold inr at h
       split at h
       ·cases h
       ·split at h
        ·unfold clo at h
         split at h
         ·next v e3 r3 hv =>
          split at h
          ·cases h
           exact ((List.suffix_cons _ _).trans (hP _ _ _ _ hv)).trans ((List.suffix_cons _ _).trans (List.suffix_cons _ _))
          ·cases h
         ·cases h
        ·cases h
     ·cases h
theorem sb1 (c:Bool):∀ f k ms w r,prs c f k ms=some (w,r)->r <:+ ms
 | 0,k,ms,w,r,h=>by simp [prs] at h
 | f + 1,k,[],w,r,h=>by simp [prs] at h; rw [h.2]; exact List.suffix_refl _
 | f + 1,k,t :: ms,w,r,h=>by
  simp only [prs] at h
  split at h
  ·cases h; exact List.suffix_refl _
  ·cases e:dee (prs c f) c k t ms with
   | none=>rw [e] at h; cases h
   | some x =>
    rw [e] at h
    simp only [Option.bind_some] at h
    cases e2:prs c f k x.2 with
    | none=>rw [e2] at h; cases h
    | some y =>
     rw [e2] at h
     simp only [Option.map_some,Option.some.injEq,Prod.mk.injEq] at h
     have h1:=xd1 (sb1 c f) (d:=x.1) (r':=x.2) e
     have h2:=sb1 c f k x.2 y.1 y.2 e2
     rw [<- h.2]
     exact (h2.trans h1).trans (List.suffix_cons _ _)
theorem te2 {c:Bool} {k:Nat} {ms r:List Str} {w:List Dd} (h:PR c k ms=some (w,r)):r <:+ ms:=sb1 c _ _ _ _ _ h
theorem vn2 {c:Bool} {k:Nat} {t:Str} {r r':List Str} {d:Dd} (h:dee (PR c) c k t r=some (d,r')):∀ x ∈ r',x ∈ r:=λ x hx=>(xd1 (λ k ms w r h=>te2 h) h).subset hx
theorem zi3 {c:Bool} {k:Nat} {t:Str} {r r':List Str} {d:Dd} (h:dee (PR c) c k t r=some (d,r')):r' <:+ r:=xd1 (λ k ms w r h=>te2 h) h
open Mt
theorem ym2 (l:List D) (x:D):atI (l ++ [x]) (-1)=some x:=by
 unfold atI ixN
 have h1:¬ ((0:Int) <= -1):=by decide
 rw [if_neg h1,if_pos (by simp; omega)]
 have h2:(-1 + (((l ++ [x]).length:Nat):Int)).toNat=l.length:=by simp; omega
 simp only [Option.bind_some,h2]
 simp
theorem yp0 (t:Str) (r:List Str):sD (t :: r).reverse=sD r.reverse ++ [.str t]:=by simp [sD]
noncomputable def zt1 (XE:XE3):Sp3:=λ ds μ Q=>∃ (p:Addr) (ms:List Str),ds=[.ref p] /\ μ p=some (.lst (sD ms.reverse)) /\ (match ms with
 | []=>XE "BadNote" μ
 | t :: r=>Q (.str t) (updM μ p (.lst (sD r.reverse))))
theorem zy2 (XE:XE3) (ds:List D) (μ:Mu) (Q:VK3) (h:zt1 XE ds μ Q):ts1 XE { nx:=λ _ μ'=>Q .non μ',rt:=Q } (start3 vs1 ds) μ:=by
 obtain ⟨p,ms,rfl,e,q⟩:=h
 cases ms with
 | nil =>
  simp_arith [ts1,vs1,e]
  simp only [sD,List.reverse_nil,List.map_nil,List.length_nil]
  exact ⟨by decide,q⟩
 | cons t r =>
  simp_arith [ts1,vs1,e]
  have e1:¬ (((sD (t :: r).reverse).length:Int)=0):=by rw [yd0]; simp; omega
  simp_arith [e1]
  have e2:(sD (t :: r).reverse).reverse=.str t :: (sD r.reverse).reverse:=by rw [yp0]; simp
  simp only [e2,List.reverse_reverse]
  exact q
noncomputable def vg2 (XE:XE3):Sp3:=λ ds μ Q=>∃ (p:Addr) (b:Str) (ms:List Str),ds=[.ref p,.str b] /\ μ p=some (.lst (sD ms.reverse)) /\ (match ms with
 | []=>XE "BadNote" μ
 | t :: r=>if t=b then Q .non (updM μ p (.lst (sD r.reverse))) else XE "BadNote" (updM μ p (.lst (sD r.reverse))))
theorem vy2 (XE:XE3) (ds:List D) (μ:Mu) (Q:VK3) (h:vg2 XE ds μ Q):zr2 XE zt1 { nx:=λ _ μ'=>Q .non μ',rt:=Q } (start3 up2 ds) μ:=by
 obtain ⟨p,b,ms,rfl,e,q⟩:=h
 refine ⟨p,ms,rfl,e,?_⟩
 cases ms with
 | nil=>exact q
 | cons t r =>
  dsimp only at q ⊢
  show if (!decide (t=b))=true then _ else _
  by_cases c:t=b
  ·rw [if_pos c] at q
   rw [decide_eq_true c]
   exact q
  ·rw [if_neg c] at q
   rw [decide_eq_false c]
   exact ⟨by decide,q⟩
noncomputable def szs (ms:List Str):Prop:=∀ t ∈ ms,t.length<=9000
noncomputable def wt1 (j:Nat) (XE:XE3):Sp3:=λ ds μ Q=>∃ (p:Addr) (t:Str) (r:List Str) (k:Nat),ds=[.ref p,.int k] /\ μ p=some (.lst (sD (t :: r).reverse)) /\ k<=4 /\ 4 < k + j /\ szs (t :: r) /\ (t :: r).length<=9000 ∧
 zf2 XE μ (λ x μ'=>μ' p=some (.lst (sD x.2.reverse))->Q (enc x.1) μ') (ExtB p) (dee (PR false) false k t r)
noncomputable def yt1 (j:Nat) (XE:XE3):Sp3:=λ ds μ Q=>∃ (p:Addr) (ms:List Str) (k:Nat),ds=[.ref p,.int k] /\ μ p=some (.lst (sD ms.reverse)) /\ k<=5 /\ (k<=4->4 < k + j) /\ szs ms /\ ms.length<=9000 ∧
 zf2 XE μ (λ x μ'=>μ' p=some (.lst (sD x.2.reverse))->Q (.tup (encs x.1)) μ') (ExtB p) (if k<=4 then PR false k ms else none)
theorem nm_f (s:Bool) (u:Str):nm false s u=num? u:=by unfold nm; cases num? u <;> simp
theorem ui3 (P:PT) (k:Nat) (u:Str) (r:List Str):dee P false k "go" (u :: r)=(num? u).map λ n=>(.go n,r):=by simp only [dee,nm_f,if_true]
theorem tz1 (P:PT) (k:Nat) (u:Str) (r:List Str):dee P false k "jump" (u :: r)=(num? u).map λ n=>(.jump n,r):=by simp only [dee,nm_f,kn_jump_go,if_true,if_false]
theorem uz1 (P:PT) (k:Nat) (u:Str) (r:List Str):dee P false k "turn" (u :: r)=(num? u).map λ n=>(.turn n,r):=by simp only [dee,nm_f,kn_turn_go,kn_turn_jump,if_true,if_false]
theorem uq1 (P:PT) (k:Nat) (u:Str) (r:List Str):dee P false k "times" (u :: r)=(num? u).bind λ n=>inr P k n r:=by simp only [dee,nm_f,kn_times_go,kn_times_jump,kn_times_turn,if_true,if_false]
theorem vg1 {P:PT} {k:Nat} {t:Str} {r:List Str} (h1:t ≠ "go") (h2:t ≠ "jump") (h3:t ≠ "turn") (h4:t ≠ "times") {c:Bool}:dee P c k t r=none:=by
 unfold dee
 cases r with
 | nil=>rfl
 | cons u r=>simp only [h1,h2,h3,h4,if_false]
theorem zd2 (t:Str):(["go", "jump", "turn"]:List Str).contains t=true ↔ t = "go" \/ t = "jump" \/ t = "turn" := by simp
theorem uu0 {p:Addr} {μ:Mu} {a b:MO} {μ':Mu} (h:Ext (updM (updM μ p a) p b) μ'):ExtB p μ μ':=λ c o n q=>h c o (by rw [xb0 n,xb0 n]; exact q)
theorem wy2 (j:Nat) (XE:XE3) (ds:List D) (μ:Mu) (Q:VK3) (h:wt1 (j + 1) XE ds μ Q):yr2 XE vt1 vg2 zt1 (yt1 j) { nx:=λ _ μ'=>Q .non μ',rt:=Q } (start3 vp2 ds) μ:=by
 obtain ⟨p,t,r,k,rfl,e,hk,hj,hs,hl,q⟩:=h
 refine ⟨p,t :: r,rfl,e,?_⟩
 dsimp only
 show if (["go", "jump", "turn"]:List Str).contains t=true then _ else _
 by_cases cp':(["go", "jump", "turn"]:List Str).contains t=true
 ·rw [if_pos cp']
  refine ⟨p,r,rfl,za0,?_⟩
  cases r with
  | nil =>
   rw [yd1] at q
   exact q _ ExtB.upd
  | cons u r =>
   have plain:∀ kd:Int->Dd,(∀ n,enc (kd n)=.tup [.str t,.int n])->dee (PR false) false k t (u :: r)=((num? u).map λ n=>(kd n,r))->vt1 XE [.str u] (updM (updM μ p (.lst (sD (u :: r).reverse))) p (.lst (sD r.reverse))) (λ d μ'=>2<=sizeLine /\ Q (.tup [.str t,d]) μ'):=λ kd hkd ed=>by
    rw [ed] at q
    refine ⟨u,rfl,hs u (by simp),?_⟩
    cases en:num? u with
    | none=>rw [en] at q; exact λ μ' e'=>q μ' (uu0 e')
    | some n =>
     rw [en] at q
     refine λ μ' e'=>⟨by decide,?_⟩
     have:=q μ' (uu0 e') (e' _ _ za0)
     rw [hkd] at this
     exact this
   rcases (zd2 t).mp cp' with rfl | rfl | rfl
   ·exact plain .go (λ n=>by simp only [enc]) (ui3 _ _ _ _)
   ·exact plain .jump (λ n=>by simp only [enc]) (tz1 _ _ _ _)
   ·exact plain .turn (λ n=>by simp only [enc]) (uz1 _ _ _ _)
 ·rw [if_neg cp']
  have np:=λ h=>cp' ((zd2 t).mpr h)
  show if (!decide (t = "times"))=true then _ else _
  by_cases ct:t = "times"
  ·rw [decide_eq_true ct]
   subst ct
   refine ⟨p,r,rfl,za0,?_⟩
   cases r with
   | nil =>
    rw [yd1] at q
    exact q _ ExtB.upd
   | cons u r =>
    rw [uq1] at q
    refine ⟨u,rfl,hs u (by simp),?_⟩
    cases en:num? u with
    | none=>rw [en] at q; exact λ μ' e'=>q μ' (uu0 e')
    | some n =>
     rw [en] at q
     dsimp only [Option.bind_some] at q
     intro μ1 e1
     have x1:=uu0 e1
     refine ⟨p, "[",r,rfl,e1 _ _ za0,?_⟩
     cases r with
     | nil=>exact q μ1 x1
     | cons b r =>
      dsimp only
      by_cases cb:b = "["
      ·rw [if_pos cb]
       have iq:inr (PR false) k n (b :: r)=if k < 4 then clo n (PR false (k + 1) r) else none:=by
        unfold inr
        by_cases c4:k < 4
        ·simp only [cb,c4,and_self,if_true]
        ·simp only [c4,and_false,if_false]
       rw [iq] at q
       refine ⟨p,r,k + 1,rfl,za0,by omega,λ _=>by omega,λ t ht=>hs t (by simp [ht]),by simp only [List.length_cons] at hl; omega,?_⟩
       by_cases c4:k < 4
       ·rw [if_pos c4] at q
        rw [if_pos (by omega)]
        cases ep:PR false (k + 1) r with
        | none =>
         rw [ep] at q
         exact λ μ2 e2=>q μ2 (x1.trans (ExtB.upd.trans e2))
        | some y =>
         obtain ⟨v,r3⟩:=y
         rw [ep] at q
         intro μ2 e2 m2
         have x2:ExtB p μ μ2:=x1.trans (ExtB.upd.trans e2)
         refine ⟨p, "]",r3,rfl,m2,?_⟩
         cases r3 with
         | nil=>exact q μ2 x2
         | cons b2 r4 =>
          dsimp only [clo] at q ⊢
          by_cases cb2:b2 = "]"
          ·rw [if_pos cb2] at q ⊢
           refine ⟨(show 3<=sizeLine by decide),?_⟩
           have:=q _ (x2.trans ExtB.upd) za0
           simpa only [enc] using this
          ·rw [if_neg cb2] at q ⊢
           exact q _ (x2.trans ExtB.upd)
       ·rw [if_neg c4] at q
        rw [if_neg (by omega)]
        exact λ μ2 e2=>q μ2 (x1.trans (ExtB.upd.trans e2))
      ·rw [if_neg cb]
       have iq:inr (PR false) k n (b :: r)=none:=by unfold inr; simp only [cb,false_and,if_false]
       rw [iq] at q
       exact q _ (x1.trans ExtB.upd)
  ·rw [decide_eq_false ct]
   rw [vg1 (λ h=>np (.inl h)) (λ h=>np (.inr (.inl h))) (λ h=>np (.inr (.inr h))) ct] at q
   exact ⟨by decide,q _ ExtB.upd⟩
noncomputable def glu (acc:List Dd) (o:Option (List Dd × List Str)):Option (List Dd × List Str):=o.map λ x=>(acc ++ x.1,x.2)
theorem xq1 (o:Option (List Dd × List Str)):glu [] o=o:=by unfold glu; cases o <;> rfl
theorem xg1 (acc:List Dd) {c:Bool} {k:Nat} {t:Str} {r r':List Str} {d:Dd} (ht:t ≠ "]") (hd:dee (PR c) c k t r=some (d,r')):glu acc (PR c k (t :: r))=glu (acc ++ [d]) (PR c k r'):=by
 rw [ws1 ht,hd]
 unfold glu
 dsimp only [Option.bind_some]
 cases PR c k r' with
 | none=>rfl
 | some y=>simp
theorem yg1 (acc:List Dd) {c:Bool} {k:Nat} {t:Str} {r:List Str} (ht:t ≠ "]") (hd:dee (PR c) c k t r=none):glu acc (PR c k (t :: r))=none:=by
 rw [ws1 ht,hd]; rfl
theorem uw0:∀ a b,encs (a ++ b)=encs a ++ encs b
 | [],b=>by simp [encs]
 | d :: r,b=>by simp only [List.cons_append,encs,uw0 r b]
noncomputable def WTw (p f:Addr) (ms:List Str) (k:Nat) (μ:Mu) (m:Nat) (ρ:St3) (μ':Mu):Prop:=∃ (r:List Str) (acc:List Dd),m=r.length /\ ρ=[some (.ref p),some (.int k),some (.ref f)] /\ ExtB p μ μ' /\ μ' p=some (.lst (sD r.reverse)) /\ μ' f=some (.lst (encs acc)) ∧
 PR false k ms=glu acc (PR false k r) /\ acc.length + r.length<=ms.length /\ (∀ t ∈ r,t.length<=9000)
theorem yy2 (j:Nat) (XE:XE3) (ds:List D) (μ:Mu) (Q:VK3) (h:yt1 j XE ds μ Q):xr2 XE (wt1 j) { nx:=λ _ μ'=>Q .non μ',rt:=Q } (start3 wp2 ds) μ:=by
 obtain ⟨p,ms,k,rfl,e,hk,hj,hs,hl,q⟩:=h
 have hz:(100000:Nat) < sizeLine:=by decide
 show if decide ((4:Int) < (k:Int))=true then _ else _
 by_cases c4:k<=4
 ·rw [decide_eq_false (by omega),if_neg (by decide)]
  rw [if_pos c4] at q
  refine ⟨Nat.zero_le _,λ f hf=>?_⟩
  have hpf:p ≠ f:=zb0 e hf
  refine ⟨WTw p f ms k μ,⟨ms.length,ms,[],rfl,rfl,λ c o hc hq=>?_,?_,by rw [za0]; simp [encs],(xq1 _).symm,by simp,hs⟩,?_⟩
  ·rw [xb0 (zb0 hq hf)]; exact hq
  ·rw [xb0 hpf]; exact e
  rintro m ρ μ' ⟨r,acc,rfl,rfl,ex,ep,ef,ea,hln,hsr⟩
  conv=>whnf
  rw [ep]
  show if decide ((0:Int) < ((sD r.reverse).length:Int))=true then _ else _
  have fin:∀ r2,PR false k ms=some (acc,r2)->r2=r->(call3 tupR (cons3 (v3 2) nil3)) [some (.ref p),some (.int k),some (.ref f)] μ' Q:=λ r2 e2 er=>by
   subst er
   rw [e2] at q
   show tupR [.ref f] μ' Q
   simp only [tupR,ef]
   exact q μ' ex ep
  cases r with
  | nil =>
   rw [decide_eq_false (by simp [sD]),if_neg (by decide)]
   exact fin [] (by rw [ea,zs1]; simp [glu]) rfl
  | cons t r =>
   rw [decide_eq_true (by rw [yd0,List.length_reverse,List.length_cons]; omega),if_pos rfl]
   have e1:sD (t :: r).reverse=sD r.reverse ++ [.str t]:=yp0 t r
   have ix:∀ K:VK3,ixR (.ref p) (.int (-1)) μ' K=K (.str t) μ':=λ K=>by
    simp only [ixR,ep,e1,ym2]
   show ixR (.ref p) (.int (-1)) μ' (λ d μ1=>_)
   rw [ix]
   show if (!decide (t = "]"))=true then _ else _
   by_cases cb:t = "]"
   ·rw [decide_eq_true cb]
    subst cb
    exact fin (("]" : Str) :: r) (by rw [ea,xk3]; simp [glu]) rfl
   ·rw [decide_eq_false cb]
    simp only [List.length_cons] at hln
    refine ⟨λ ρ' μ''=>∃ m',m' < (t :: r).length /\ WTw p f ms k μ m' ρ' μ'',λ _ _ h=>h,?_⟩
    conv=>whnf
    rw [ef]
    refine ⟨p,t,r,k,rfl,ep,c4,hj c4,hsr,by simp only [List.length_cons]; omega,?_⟩
    cases hd:dee (PR false) false k t r with
    | none =>
     rw [ea,yg1 acc cb hd] at q
     exact λ μ2 e2=>q μ2 (ex.trans e2)
    | some x =>
     obtain ⟨d,r'⟩:=x
     intro μ2 e2 m2
     have hr':=vi3 hd
     have ef2:μ2 f=some (.lst (encs acc)):=e2 _ _ (Ne.symm hpf) ef
     dsimp only [nil3]
     show appR (.ref f) [enc d] μ2 _
     simp only [appR,ef2]
     refine ⟨by rw [xg0]; omega,r'.length,by simp only [List.length_cons]; omega,r',acc ++ [d],rfl,rfl,λ c o hc hq=>?_,by rw [xb0 hpf]; exact m2,by rw [za0,uw0]; simp only [encs],by rw [ea]; exact xg1 acc cb hd,by rw [List.length_append]; simp only [List.length_cons,List.length_nil]; omega,λ t ht=>?_⟩
     ·rw [xb0 (zb0 hq hf)]
      exact e2 _ _ hc (ex _ _ hc hq)
     ·exact hsr t (List.mem_cons_of_mem _ (vn2 hd t ht))
 ·rw [decide_eq_true (by omega),if_pos rfl]
  rw [if_neg c4] at q
  exact ⟨by decide,q μ (ExtB.refl _ _)⟩
noncomputable def prts (z:Str):List Str:=if z = "" then [] else Txt.split z " "
theorem xk2 {z:Str} (h:z.length<=3000):(prts z).length<=3001 /\ ∀ t ∈ prts z,t.length<=3000:=by
 unfold prts
 split
 ·exact ⟨by simp,λ t ht=>by simp at ht⟩
 ·exact we1 h
noncomputable def sg2:Sp3:=λ ds μ Q=>∃ z:Str,ds=[.str z] /\ z.length<=3000 /\ ∀ p μ',Ext μ μ'->μ p=none->μ' p=some (.lst (sD (prts z).reverse))->Q (.ref p) μ'
theorem yz2 (ds:List D) (μ:Mu) (Q:VK3) (h:sg2 ds μ Q):wf2 { nx:=λ _ μ'=>Q .non μ',rt:=Q } (start3 xb2 ds) μ:=by
 obtain ⟨z,rfl,hl,q⟩:=h
 unfold prts at q
 simp_arith [wf2,xb2]
 by_cases e:z = ""
 ·simp_arith [e,if_true] at q ⊢
  exact ⟨by decide,λ p hp=>q p _ (Ext.new hp) hp (by rw [za0]; simp [sD])⟩
 ·simp_arith [e,if_false] at q ⊢
  refine ⟨⟨by decide,by omega⟩,λ t ht=>?_⟩
  simp_arith [za0]
  intro p hp
  refine q p _ (λ c o hc=>?_) ?_ ?_
  ·have zz:updM μ t (.lst ((Txt.split z " ").map D.str)) c=some o:=by rw [xb0 (zb0 hc ht)]; exact hc
   rw [xb0 (zb0 zz hp)]; exact zz
  ·exact Ext.free (Ext.new ht) hp
  ·rw [za0]; simp [sD]
noncomputable def zb1 (XE:XE3):Sp3:=λ ds μ Q=>∃ z:Str,ds=[.str z] /\ z.length<=3000 /\ ((∃ w,PR false 0 (prts z)=some (w,[]) /\ Wd w /\ ∀ μ',Ext μ μ'->Q (.tup (encs w)) μ') \/ ((∀ w,PR false 0 (prts z)=some (w,[])->¬ Wd w) /\ ∀ μ',Ext μ μ'->XE "BadNote" μ'))
theorem wt2 (w:List Dd):ShV (.tup (encs w)):=.wd _ (vv0 w)
theorem ty2 (XE:XE3) (ds:List D) (μ:Mu) (Q:VK3) (h:zb1 XE ds μ Q):vr2 XE ze1 sg2 (yt1 5) { nx:=λ _ μ'=>Q .non μ',rt:=Q } (start3 sp2 ds) μ:=by
 obtain ⟨z,rfl,hl,q⟩:=h
 obtain ⟨b1,b2⟩:=xk2 hl
 refine ⟨z,rfl,hl,λ p μ1 ex1 hp e1=>?_⟩
 refine ⟨p,prts z,0,rfl,e1,by decide,λ _=>by decide,λ t ht=>Nat.le_trans (b2 t ht) (by decide),by omega,?_⟩
 rw [if_pos (by decide)]
 have toExt:∀ {μ2},ExtB p μ1 μ2->Ext μ μ2:=λ e2 c o hc=>e2 _ _ (zb0 hc hp) (ex1 _ _ hc)
 cases ep:PR false 0 (prts z) with
 | none =>
  rw [ep] at q
  rcases q with ⟨w,e,_⟩ | ⟨_,x⟩
  ·cases e
  ·exact λ μ2 e2=>x μ2 (toExt e2)
 | some y =>
  obtain ⟨w,r⟩:=y
  rw [ep] at q
  intro μ2 e2 m2
  conv=>whnf
  rw [m2]
  show if decide ((0:Int) < ((sD r.reverse).length:Int))=true then _ else _
  cases r with
  | cons b r =>
   rw [decide_eq_true (by rw [yd0,List.length_reverse,List.length_cons]; omega),if_pos rfl]
   rcases q with ⟨w',e,_⟩ | ⟨_,x⟩
   ·cases e
   ·exact ⟨by decide,x μ2 (toExt e2)⟩
  | nil =>
   rw [decide_eq_false (by simp [sD]),if_neg (by decide)]
   refine ⟨_,rfl,wt2 w,?_⟩
   rcases q with ⟨w',e,hw,x⟩ | ⟨n,x⟩
   ·cases e
    rw [(zd1 w).1 hw]
    exact x μ2 (toExt e2)
   ·rw [(zd1 w).2 (n w rfl)]
    exact ⟨rfl,by decide,x μ2 (toExt e2)⟩
open Mt
theorem xa2 {S:Mu->Prop} {p:Addr} {tc:TT3} {Q:VK3} {l:List D} {o:Option D} {rest:St3} {μ:Mu} (f:D->Bool) (hp:μ p=none) (hl:l.length<=sizeLine) (hS:∀ μ',Ext μ μ'->S μ')
    (hx:∀ x ∈ l,∀ μ' R,Ext μ μ'->R (f x) μ'->tc (some x :: rest) μ' R) (hQ:∀ μ',Ext μ μ'->μ' p=some (.lst (l.filter f))->Q (.ref p) μ'):uo2 S p (gn3 0) tc (v3 0) Q l (o :: rest) (updM μ p (.lst [])):=by
 refine ⟨λ r ys ρ μ'=>Ext μ μ' /\ μ' p=some (.lst ys) /\ (∃ o',ρ=o' :: rest) /\ ∃ a,a ++ r=l /\ ys=a.filter f,?_,?_,?_,?_⟩
 ·exact ⟨Ext.new hp,za0,⟨o,rfl⟩,[],rfl,rfl⟩
 ·rintro r ys ρ μ' ⟨h1,h2,_⟩
  exact ⟨hS _ h1,h2⟩
 ·rintro ys ρ μ' ⟨h1,h2,_,a,e,rfl⟩
  rw [List.append_nil] at e
  subst e
  exact hQ _ h1 h2
 ·rintro x r ys ρ μ' ⟨h1,h2,⟨o',rfl⟩,a,e,rfl⟩
  refine ⟨?_,?_⟩
  ·have h3:=congrArg List.length e
   rw [List.length_append,List.length_cons] at h3
   have:=List.length_filter_le f a
   omega
  ·refine hx x (by rw [<- e]; simp) μ' _ h1 ?_
   have e2:(a ++ [x]) ++ r=l:=by rw [<- e]; simp
   cases c:f x with
   | true =>
    refine ⟨h2,λ b v hb=>?_,za0,⟨_,rfl⟩,a ++ [x],e2,?_⟩
    ·rw [xb0 (zb0 hb hp)]
     exact h1 b v hb
    ·rw [List.filter_append]
     simp [c]
   | false =>
    refine ⟨h1,h2,⟨_,rfl⟩,a ++ [x],e2,?_⟩
    rw [List.filter_append]
    simp [c]
noncomputable def numD (z:Str) (l:Int):D:=match num? z with
 | some n=>if l<=n then .int n else .non
 | none=>.non
theorem ye2 (z:Str):((⟨(cut3 z.cps.toList none (some 1)).toArray⟩:Str) = "-") ↔ (cp z).head?=some 45:=by
 have e:(cut3 (cp z) none (some 1))=(cp z).take 1:=by
  unfold cut3 sIx3
  simp only [show ¬ ((1:Int) < 0) by decide,if_false]
  cases cp z with
  | nil=>rfl
  | cons a r=>simp
 constructor
 ·intro h
  have:=congrArg cp h
  rw [xw0] at this
  have h2:(cp z).take 1=[45]:=by rw [<- e]; exact this
  cases ec:cp z with
  | nil=>rw [ec] at h2; cases h2
  | cons a r=>rw [ec] at h2; simp at h2; simp [h2]
 ·intro h
  refine zu0 ?_
  show (cut3 (cp z) none (some 1)).toArray.toList=_
  rw [xw0,e]
  cases ec:cp z with
  | nil=>rw [ec] at h; cases h
  | cons a r=>rw [ec] at h; simp at h; subst h; rfl
theorem zq1 (l:List Nat):(l.filter isDg).length=(bare l).length ↔ (bare l).all isDg=true:=by
 have key:∀ m:List Nat,(m.filter isDg).length=m.length ↔ m.all isDg=true:=λ m=>by
  rw [List.length_filter_eq_length_iff,List.all_eq_true]
 unfold bare
 split
 ·next c =>
  cases l with
  | nil=>cases c
  | cons a r =>
   have ea:a=45:=by simpa using c
   subst ea
   have:(45 :: r).filter isDg=r.filter isDg:=by rw [List.filter_cons]; simp [isDg]
   rw [this]
   exact key r
 ·exact key l
theorem em_iff {f:Str}:f = "" ↔ cp f=[]:=⟨λ e=>by rw [e]; decide +kernel,λ e=>zu0 (by rw [e]; decide +kernel)⟩
theorem z0_iff {f:Str}:f = "0" ↔ cp f=[48]:=⟨λ e=>by rw [e,ta1],λ e=>zu0 (by rw [e,ta1])⟩
noncomputable def spNu:Sp3:=λ ds μ Q=>∃ (z:Str) (l:Int),ds=[.str z,.int l] /\ z.length<=9000 /\ ∀ μ',Ext μ μ'->Q (numD z l) μ'
theorem tn3 (ds:List D) (μ:Mu) (Q:VK3) (h:spNu ds μ Q):t_q6 { nx:=λ _ μ'=>Q .non μ',rt:=Q } (start3 N_q6 ds) μ:=by
 obtain ⟨z,l,rfl,hl,q⟩:=h
 have hz:(100000:Nat) < sizeLine:=by decide
 have hcl:(cp z).length<=9000:=by rw [<- ze0]; exact hl
 intro p hp
 refine xa2 (rest:=[]) (λ d=>isDg (chD d)) hp (by rw [List.length_map]; show (cp z).length<=sizeLine; omega) (λ _ _=>trivial) (λ x hx μ' R ex k=>?_) λ μ1 ex1 e1=>?_
 ·obtain ⟨c,hc,rfl⟩:=List.mem_map.mp hx
  show R (!(Builtin.Str.occurrences ("0123456789" : Str) ⟨#[c]⟩ 0 ("0123456789" : Str).length 1).isEmpty) μ'
  rw [vh3 c]
  exact k
 have el:((z.cps.toList.map λ c=>D.str ⟨#[c]⟩).filter λ d=>isDg (chD d)).length=((cp z).filter isDg).length:=by
  rw [List.filter_map,List.length_map]; rfl
 have main:∀ f:Str,cp f=bare (cp z)->(seq3 (ifs3 (or3 (b3 (o3 eqR (v3 3) (c3 (.str "")))) (or3 (b3 (o3 neR (call3 lenR (cons3 (v3 2) nil3)) (call3 lenR (cons3 (v3 3) nil3)))) (or3 (b3 (o3 gtR (call3 lenR (cons3 (v3 3) nil3)) (c3 (.int 20)))) (and3 (b3 (o3 eqR (o3 sixR (v3 3) (c3 (.int 0))) (c3 (.str "0")))) (b3 (o3 neR (v3 0) (c3 (.str "0")))))))) (ret3 (c3 .non)) next3) (ret3 (if3 (b3 (o3 geR (call3 intR (cons3 (v3 0) nil3)) (v3 1))) (call3 intR (cons3 (v3 0) nil3)) (c3 .non)))) { nx:=λ _ μ'=>Q .non μ',rt:=Q } [some (.str z),some (.int l),some (.ref p),some (.str f)] μ1:=by
  intro f ef
  have fl:f.length=(bare (cp z)).length:=by rw [ze0,ef]
  have fb:f.length<=9000:=by
   rw [fl]; unfold bare; split
   ·rw [List.length_drop]; omega
   ·exact hcl
  have no:¬ okn (cp z)->Q .non μ1:=λ n=>by
   have:=q μ1 ex1
   unfold numD num? at this
   rw [if_neg n] at this
   exact this
  show if decide (f = "")=true then _ else _
  by_cases c1:f = ""
  ·rw [decide_eq_true c1,if_pos rfl]
   refine no λ ok=>?_
   have:=(wj0 ok.1).2.1
   rw [<- ef,em_iff.mp c1] at this
   simp at this
  rw [decide_eq_false c1,if_neg (by decide)]
  conv=>whnf
  rw [e1]
  refine ⟨by omega,?_⟩
  show if (!decide ((((z.cps.toList.map λ c=>D.str ⟨#[c]⟩).filter λ d=>isDg (chD d)).length:Int)=(f.length:Int)))=true then _ else _
  rw [el]
  by_cases c2:((cp z).filter isDg).length=(bare (cp z)).length
  ·rw [decide_eq_true (by rw [fl]; omega)]
   have al:=(zq1 (cp z)).mp c2
   refine ⟨(show f.length<=sizeLine by omega),?_⟩
   show if decide ((20:Int) < (f.length:Int))=true then _ else _
   by_cases c3':(20:Int) < (f.length:Int)
   ·rw [decide_eq_true c3',if_pos rfl]
    refine no λ ok=>?_
    have:=(wj0 ok.1).2.2
    omega
   rw [decide_eq_false c3',if_neg (by decide)]
   have fg:figs (bare (cp z))=true:=by
    unfold figs
    rw [al,decide_eq_true]
    ·rfl
    ·have:(bare (cp z)).length ≠ 0:=λ h0=>c1 (em_iff.mpr (by rw [ef]; exact List.eq_nil_of_length_eq_zero h0))
     omega
   cases eb:bare (cp z) with
   | nil=>exact absurd (em_iff.mpr (by first | exact ef | (rw [ef]; exact eb))) c1
   | cons c0 r0 =>
    have ea:L2.atI f.cps.toList 0=some c0:=by
     have:f.cps.toList=c0 :: r0:=by have e9:f.cps.toList=bare (cp z):=ef; rw [e9,eb]
     rw [this]
     simp [L2.atI,L2.ixN]
    refine ⟨(show f.length<=sizeLine by omega),c0,ea,?_⟩
    show if decide ((⟨#[c0]⟩:Str) = "0")=true then _ else _
    have e48:((⟨#[c0]⟩:Str) = "0") ↔ c0=48:=by
     rw [z0_iff]
     show [c0]=[48] ↔ _
     simp
    have fin:okn (cp z)->(ret3 (if3 (b3 (o3 geR (call3 intR (cons3 (v3 0) nil3)) (v3 1))) (call3 intR (cons3 (v3 0) nil3)) (c3 .non))) { nx:=λ _ μ'=>Q .non μ',rt:=Q } [some (.str z),some (.int l),some (.ref p),some (.str f)] μ1:=λ ok=>by
     obtain ⟨n,en,_,hl2⟩:=wc1 ok
     have hi:∀ K:VK3,intR [.str z] μ1 K=(z.length<=640 /\ K (.int n) μ1):=λ K=>by simp only [intR,en]
     have qq:=q μ1 ex1
     unfold numD num? at qq
     rw [if_pos ok,en] at qq
     dsimp only at qq
     simp only [ret3,if3,b3,o3,call3,cons3,nil3,v3,getI]
     rw [hi]
     refine ⟨hl2,?_⟩
     show if decide (l<=n)=true then _ else _
     by_cases cl:l<=n
     ·rw [decide_eq_true cl,if_pos rfl]
      rw [if_pos cl] at qq
      rw [hi]
      exact ⟨hl2,qq⟩
     ·rw [decide_eq_false cl,if_neg (by decide)]
      rw [if_neg cl] at qq
      exact qq
    by_cases c4:c0=48
    ·rw [decide_eq_true (e48.mpr c4),if_pos rfl]
     show if (!decide (z = "0"))=true then _ else _
     by_cases c5:z = "0"
     ·rw [decide_eq_true c5]
      refine fin ⟨fg,λ h=>h.2 (z0_iff.mp c5)⟩
     ·rw [decide_eq_false c5]
      refine no λ ok=>ok.2 ⟨by rw [eb,c4]; rfl,λ h=>c5 (z0_iff.mpr h)⟩
    ·rw [decide_eq_false (λ h=>c4 (e48.mp h)),if_neg (by decide)]
     refine fin ⟨fg,λ h=>c4 ?_⟩
     have:=h.1
     rw [eb] at this
     simpa using this
  ·rw [decide_eq_false (by rw [fl]; omega)]
   refine no λ ok=>c2 ((zq1 (cp z)).mpr ?_)
   have:=(wj0 ok.1).1
   rw [List.all_eq_true]
   intro c hc
   unfold isDg
   exact decide_eq_true (this c hc)
 refine ⟨(show z.length<=sizeLine by omega),?_⟩
 show if decide ((⟨(cut3 z.cps.toList none (some 1)).toArray⟩:Str) = "-")=true then _ else _
 by_cases c:(cp z).head?=some 45
 ·rw [decide_eq_true ((ye2 z).mpr c),if_pos rfl]
  exact ⟨(show z.length<=sizeLine by omega),main _ (sw0 c)⟩
 ·rw [decide_eq_false (λ h=>c ((ye2 z).mp h)),if_neg (by decide)]
  refine main z ?_
  unfold bare
  rw [if_neg c]
theorem tf1 {p:Addr} {l:List D} {i:Int} {d:D} {μ:Mu} {K:VK3} (h:μ p=some (.lst l)) (e:atI l i=some d) (k:K d μ):ixR (.ref p) (.int i) μ K:=by
 simp only [ixR,h,e]; exact k
theorem xp2 (a:List Str) (t:Str) (r:List Str):atI (sD (a ++ t :: r)) (a.length:Int)=some (.str t):=by
 have hl:(sD (a ++ t :: r)).length=a.length + (r.length + 1):=by rw [yd0,List.length_append,List.length_cons]
 unfold atI ixN
 rw [if_pos (by omega),if_pos (by rw [hl]; omega)]
 simp [sD]
theorem in_S {neg:Bool} {t:Str} {L:List Str} {p:Addr} {μ:Mu} {K:VK3} (h:μ p=some (.lst (sD L))) (k:K (.bl (if neg then !L.contains t else L.contains t)) μ):inSR neg (.str t) (.ref p) μ K:=by
 simp only [inSR,h,xp0]
 exact k
noncomputable def resD (ms:List Str):Option (List Dd × List Str)->D
 | some (w,r)=>.tup [.tup (encs w),.int ((ms.length:Int) - (r.length:Int))]
 | none=>.non
noncomputable def spLr (j:Nat):Sp3:=λ ds μ Q=>∃ (q:Addr) (ms:List Str) (k:Nat),ds=[.ref q,.int k] /\ μ q=some (.lst (sD ms)) /\ k<=4 /\ 4 < k + j /\ ms.length<=9000 /\ szs ms /\ ∀ μ',Ext μ μ'->Q (resD ms (PR true k ms)) μ'
noncomputable def nmD (o:Option Int):D:=match o with
 | some n=>.int n
 | none=>.non
theorem ue3 (u:Str):numD u 0=nmD (nm true true u):=by
 unfold numD nm nmD
 cases num? u with
 | none=>rfl
 | some n =>
  dsimp only
  by_cases c:n < 0
  ·rw [if_neg (by omega),if_pos ⟨rfl,rfl,c⟩]
  ·rw [if_pos (by omega),if_neg (λ h=>c h.2.2)]
theorem se3 (u:Str):numD u (0 - 10 ^ (20:Int).toNat)=nmD (nm true false u):=by
 unfold numD nm nmD
 cases e:num? u with
 | none=>rfl
 | some n =>
  dsimp only
  have:=sc2 e
  have h20:(0 - 10 ^ (20:Int).toNat:Int) = -100000000000000000000:=by decide
  rw [h20,if_pos (by unfold G at this; omega),if_neg (λ h=>by cases h.2.1)]
noncomputable def sg (t:Str):Bool:=!(["jump", "turn"]:List Str).contains t
noncomputable def mkd (t:Str) (n:Int):Dd:=if t = "go" then .go n else if t = "jump" then .jump n else .turn n
theorem wi3 {P:PT} {k:Nat} {t u:Str} {r:List Str} (h:t = "go" \/ t = "jump" \/ t = "turn"):dee P true k t (u :: r)=((nm true (sg t) u).map λ n=>(mkd t n,r)) /\ ∀ n,enc (mkd t n)=.tup [.str t,.int n]:=by
 rcases h with rfl | rfl | rfl
 ·have e:sg "go" = true:=by decide
  rw [e]
  refine ⟨by simp only [dee,mkd,if_true],λ n=>by simp only [mkd,if_true,enc]⟩
 ·have e:sg "jump" = false:=by decide
  rw [e]
  refine ⟨by simp only [dee,mkd,kn_jump_go,if_true,if_false],λ n=>by simp only [mkd,kn_jump_go,if_true,if_false,enc]⟩
 ·have e:sg "turn" = false:=by decide
  rw [e]
  refine ⟨by simp only [dee,mkd,kn_turn_go,kn_turn_jump,if_true,if_false],λ n=>by simp only [mkd,kn_turn_go,kn_turn_jump,if_true,if_false,enc]⟩
theorem yi3 {P:PT} {k:Nat} {u:Str} {r:List Str}:dee P true k "times" (u :: r)=(nm true (sg "times") u).bind λ n=>inr P k n r:=by
 have e:sg "times" = true:=by decide
 rw [e]
 simp only [dee,kn_times_go,kn_times_jump,kn_times_turn,if_true,if_false]
theorem wd2 (t:Str):(["go", "jump", "turn", "times"]:List Str).contains t=true ↔ (t = "go" \/ t = "jump" \/ t = "turn") \/ t = "times" := by
 simp [or_assoc]
theorem zp2 {c:Bool} {k:Nat} {ms r:List Str} {w:List Dd} (h:PR c k ms=some (w,r)):r=[] \/ ∃ r',r=("]" : Str) :: r':=xf1 c _ _ _ _ _ h
theorem sn2 {ms:List Str} {i:Nat} (hi:i<=ms.length):cut3 (sD ms) (some (i:Int)) none=sD (ms.drop i):=by
 unfold cut3 sIx3
 dsimp only
 have e1:min ((i:Int)).toNat ms.length=i:=by rw [Int.toNat_natCast]; omega
 rw [if_neg (by omega),yd0,e1]
 have e2:(List.drop i (sD ms)).length=ms.length - i:=by rw [List.length_drop,yd0]
 rw [<- e2,List.take_length]
 simp [sD,List.map_drop]
noncomputable def WL (q f:Addr) (ms:List Str) (k:Nat) (μ:Mu) (m:Nat) (ρ:St3) (μ':Mu):Prop:=∃ (a r:List Str) (acc:List Dd) (o4 o5 o6 o7:Option D),m=r.length /\ a ++ r=ms /\ ρ=[some (.ref q),some (.int k),some (.ref f),some (.int a.length),o4,o5,o6,o7] /\ Ext μ μ' /\ μ' f=some (.lst (encs acc)) ∧
 PR true k ms=glu acc (PR true k r) /\ acc.length + r.length<=ms.length
section
variable {Q:VK3} {q f:Addr} {ms:List Str} {k j:Nat} {μ:Mu}
theorem yf2 {a r r':List Str} {t:Str} {acc:List Dd} {d:Dd} {o4 o5 o6 o7:Option D} {μ':Mu} {x:Int} (hf:μ f=none) (ea:a ++ t :: r=ms) (ex:Ext μ μ') (ef:μ' f=some (.lst (encs acc))) (eg:PR true k ms=glu acc (PR true k (t :: r))) (hl:acc.length + (t :: r).length<=ms.length) (ht:t ≠ "]") (hd:dee (PR true) true k t r=some (d,r')) (hx:x=(ms.length:Int) - (r'.length:Int)) :
    ∃ m',m' < (t :: r).length /\ WL q f ms k μ m' [some (.ref q),some (.int k),some (.ref f),some (.int x),o4,o5,o6,o7] (updM μ' f (.lst (encs acc ++ [enc d]))):=by
 obtain ⟨b,eb⟩:=zi3 hd
 have hr:=vi3 hd
 simp only [List.length_cons] at hl
 have el:ms.length=a.length + (1 + (b.length + r'.length)):=by rw [<- ea,<- eb]; simp only [List.length_append,List.length_cons]; omega
 refine ⟨r'.length,by simp only [List.length_cons]; omega,a ++ t :: b,r',acc ++ [d],o4,o5,o6,o7,rfl,by rw [<- ea,<- eb]; simp,?_,(λ c o hc=>by rw [xb0 (zb0 hc hf)]; exact ex c o hc),?_,by rw [eg]; exact xg1 acc ht hd,by rw [List.length_append]; simp only [List.length_cons,List.length_nil]; omega⟩
 ·rw [hx,el]
  congr 4
  simp only [List.length_append,List.length_cons]
  congr 1
  congr 1
  omega
 ·rw [za0,uw0]
  simp only [encs]
theorem tl2 {acc:List Dd} {t:Str} {r:List Str} (q0:∀ μ',Ext μ μ'->Q (resD ms (PR true k ms)) μ') (eg:PR true k ms=glu acc (PR true k (t :: r))) (ht:t ≠ "]") (hd:dee (PR true) true k t r=none) {μ':Mu} (ex:Ext μ μ'):Q .non μ':=by
 have:=q0 μ' ex
 rw [eg,yg1 acc ht hd] at this
 exact this
end
noncomputable def tmsT (sL:Sp3):TS3:=(seq3 (ifs3 (or3 (b3 (o3 eqR (v3 1) (c3 (.int 4)))) (or3 (b3 (o3 geR (v3 3) (call3 lenR (cons3 (v3 0) nil3)))) (b3 (o3 neR (o3 ixR (v3 0) (v3 3)) (c3 (.str "[")))))) (ret3 (c3 .non)) next3) (seq3 (set3 7 (call3 sL (cons3 (sl3 slR (v3 0) (pt3 (o3 addR (v3 3) (c3 (.int 1)))) np3) (cons3 (o3 addR (v3 1) (c3 (.int 1))) nil3)))) (seq3 (ifs3 (or3 (b3 (o3 (isNR false) (v3 7) (c3 .non))) (b3 (o3 geR (o3 addR (o3 addR (v3 3) (c3 (.int 1))) (o3 ixR (v3 7) (c3 (.int 1)))) (call3 lenR (cons3 (v3 0) nil3))))) (ret3 (c3 .non)) next3) (seq3 (set3 3 (o3 addR (o3 addR (v3 3) (o3 ixR (v3 7) (c3 (.int 1)))) (c3 (.int 2)))) (drop3 (mt3 appR (v3 2) (cons3 (tup3 (cons3 (v3 4) (cons3 (v3 6) (cons3 (o3 ixR (v3 7) (c3 (.int 0))) nil3)))) nil3)))))))
noncomputable def bodT (sN sL:Sp3):TS3:=(seq3 (ifs3 (or3 (b3 (o3 (inSR true) (v3 4) (lst3 (cons3 (c3 (.str "go")) (cons3 (c3 (.str "jump")) (cons3 (c3 (.str "turn")) (cons3 (c3 (.str "times")) nil3))))))) (b3 (o3 geR (o3 addR (v3 3) (c3 (.int 1))) (call3 lenR (cons3 (v3 0) nil3))))) (ret3 (c3 .non)) next3) (seq3 (set3 6 (call3 sN (cons3 (o3 ixR (v3 0) (o3 addR (v3 3) (c3 (.int 1)))) (cons3 (v3 5) nil3)))) (seq3 (ifs3 (b3 (o3 (isNR false) (v3 6) (c3 .non))) (ret3 (c3 .non)) next3) (seq3 (set3 3 (o3 addR (v3 3) (c3 (.int 2)))) (ifs3 (b3 (o3 eqR (v3 4) (c3 (.str "times")))) (tmsT sL) (drop3 (mt3 appR (v3 2) (cons3 (tup3 (cons3 (v3 4) (cons3 (v3 6) nil3))) nil3))))))))
section
variable {Q:VK3} {q f:Addr} {ms:List Str} {k j:Nat} {μ:Mu}
theorem wx1 {a r:List Str} {acc:List Dd} {n:Int} {o5 o7:Option D} {μ1:Mu} {D':Ends3} (hq:μ q=some (.lst (sD ms))) (hf:μ f=none) (hk:k<=4) (hj:4 < k + (j + 1)) (hm:ms.length<=9000) (hs:szs ms) (ea:a ++ r=ms) (ex:Ext μ μ1) (ef:μ1 f=some (.lst (encs acc))) (hla:acc.length < 9000)
    (qn:inr (PR true) k n r=none->∀ μ',Ext μ μ'->D'.rt .non μ')
    (qs:∀ d r' o7 μ' (x:Int),inr (PR true) k n r=some (d,r')->Ext μ μ'->μ' f=some (.lst (encs acc))->x=(ms.length:Int) - (r'.length:Int)->D'.nx [some (.ref q),some (.int k),some (.ref f),some (.int x),some (.str "times"),o5,some (.int n),o7] (updM μ' f (.lst (encs acc ++ [enc d])))) :
    tmsT (spLr j) D' [some (.ref q),some (.int k),some (.ref f),some (.int a.length),some (.str "times"),o5,some (.int n),o7] μ1:=by
 have hz:(100000:Nat) < sizeLine:=by decide
 have eq':=ex _ _ hq
 have lm:(sD ms).length=a.length + r.length:=by rw [yd0,<- ea,List.length_append]
 show if decide ((k:Int)=4)=true then _ else _
 by_cases c4:k=4
 ·rw [decide_eq_true (by omega),if_pos rfl]
  refine qn ?_ μ1 ex
  unfold inr
  cases r with
  | nil=>rfl
  | cons b r=>dsimp only; rw [if_neg (by omega)]
 rw [decide_eq_false (by omega),if_neg (by decide)]
 conv=>whnf
 rw [eq']
 show if decide (((sD ms).length:Int)<=(a.length:Int))=true then _ else _
 cases r with
 | nil =>
  rw [decide_eq_true (by rw [lm]; simp),if_pos rfl]
  exact qn rfl μ1 ex
 | cons b r =>
  rw [decide_eq_false (by rw [lm,List.length_cons]; omega),if_neg (by decide)]
  have ea0:atI (sD ms) (a.length:Int)=some (.str b):=by rw [<- ea]; exact xp2 a b r
  show ixR (.ref q) (.int a.length) μ1 (λ d μ1=>_)
  refine tf1 eq' ea0 ?_
  show if (!decide (b = "["))=true then _ else _
  by_cases cb:b = "["
  ·rw [decide_eq_true cb]
   have er:ms.drop (a.length + 1)=r:=by
    rw [<- ea,show a ++ b :: r=(a ++ [b]) ++ r by simp]
    rw [show a.length + 1=(a ++ [b]).length by simp]
    exact List.drop_left
   have lr:r.length + a.length + 1=ms.length:=by rw [<- ea]; simp only [List.length_append,List.length_cons]; omega
   have iq:inr (PR true) k n (b :: r)=clo n (PR true (k + 1) r):=by
    unfold inr
    dsimp only
    rw [if_pos ⟨cb,by omega⟩]
   rw [iq] at qn qs
   have ec:=sn2 (ms:=ms) (i:=a.length + 1) (by omega)
   rw [er] at ec
   conv=>whnf
   rw [eq']
   intro p2 hp2
   have ec':cut3 (sD ms) (some ((a.length:Int) + 1)) none=sD r:=ec
   rw [ec']
   have ex2:Ext μ (updM μ1 p2 (.lst (sD r))):=ex.trans (Ext.new hp2)
   have ef2:updM μ1 p2 (.lst (sD r)) f=some (.lst (encs acc)):=by rw [xb0 (zb0 ef hp2)]; exact ef
   refine ⟨p2,r,k + 1,rfl,za0,by omega,by omega,by omega,λ t ht=>hs t (by rw [<- ea]; simp [ht]),λ μ3 e3=>?_⟩
   have ex3:=ex2.trans e3
   have ef3:=e3 _ _ ef2
   have eq3:=ex3 _ _ hq
   cases ep:PR true (k + 1) r with
   | none =>
    rw [ep] at qn
    exact qn rfl μ3 ex3
   | some y =>
    obtain ⟨v,r3⟩:=y
    rw [ep] at qn qs
    have l3:=sg1 ep
    dsimp only [resD]
    conv=>whnf
    rw [eq3]
    show if decide (((sD ms).length:Int)<=(a.length:Int) + 1 + ((r.length:Int) - (r3.length:Int)))=true then _ else _
    rw [yd0]
    rcases zp2 ep with rfl | ⟨r4,rfl⟩
    ·rw [decide_eq_true (by simp only [List.length_nil]; omega),if_pos rfl]
     exact qn rfl μ3 ex3
    ·simp only [List.length_cons] at l3 ⊢
     rw [decide_eq_false (by omega),if_neg (by decide)]
     have hc:clo n (some (v,("]" : Str) :: r4))=some (.times n v,r4):=by simp [clo]
     conv=>whnf
     rw [ef3]
     refine ⟨(show 3<=sizeLine by decide),?_⟩
     dsimp only [nil3]
     show appR (.ref f) _ μ3 _
     simp only [appR,ef3]
     refine ⟨by rw [xg0]; omega,?_⟩
     have:=qs _ _ (some (.tup [.tup (encs v),.int ((r.length:Int) - ((r4.length + 1:Nat):Int))])) μ3 ((a.length:Int) + ((r.length:Int) - ((r4.length + 1:Nat):Int)) + 2) hc ex3 ef3 (by omega)
     simp only [enc] at this
     exact this
  ·rw [decide_eq_false cb]
   refine qn ?_ μ1 ex
   unfold inr
   dsimp only
   rw [if_neg (λ h=>cb h.1)]
end
theorem wn3 (j:Nat) (ds:List D) (μ:Mu) (Q:VK3) (h:spLr (j + 1) ds μ Q):t_q8 spNu (spLr j) { nx:=λ _ μ'=>Q .non μ',rt:=Q } (start3 N_q8 ds) μ:=by
 obtain ⟨q,ms,k,rfl,eq,hk,hj,hm,hs,q0⟩:=h
 have hz:(100000:Nat) < sizeLine:=by decide
 refine ⟨Nat.zero_le _,λ f hf=>?_⟩
 have hqf:q ≠ f:=zb0 eq hf
 refine ⟨WL q f ms k μ,⟨ms.length,[],ms,[],none,none,none,none,rfl,rfl,rfl,Ext.new hf,by rw [za0]; simp [encs],(xq1 _).symm,by simp⟩,?_⟩
 rintro m ρ μ' ⟨a,r,acc,o4,o5,o6,o7,rfl,ea,rfl,ex,ef,eg,hl⟩
 have eq':=ex _ _ eq
 have lm:(sD ms).length=a.length + r.length:=by rw [yd0,<- ea,List.length_append]
 conv=>whnf
 rw [eq']
 show if decide ((a.length:Int) < ((sD ms).length:Int))=true then _ else _
 have fin:PR true k ms=some (acc,r)->(ve0 spNu (spLr j)) { nx:=λ _ μ'=>Q .non μ',rt:=Q } [some (.ref q),some (.int k),some (.ref f),some (.int a.length),o4,o5,o6,o7] μ':=λ e=>by
  have:=q0 μ' ex
  rw [e] at this
  unfold resD at this
  dsimp only at this
  have el:(ms.length:Int) - (r.length:Int)=(a.length:Int):=by rw [<- ea,List.length_append]; omega
  rw [el] at this
  conv=>whnf
  rw [ef]
  exact ⟨(show 2<=sizeLine by decide),this⟩
 cases r with
 | nil =>
  rw [decide_eq_false (by rw [lm]; simp),if_neg (by decide)]
  exact fin (by rw [eg,zs1]; simp [glu])
 | cons t r =>
  rw [decide_eq_true (by rw [lm,List.length_cons]; omega),if_pos rfl]
  have ea0:atI (sD ms) (a.length:Int)=some (.str t):=by rw [<- ea]; exact xp2 a t r
  show ixR (.ref q) (.int a.length) μ' (λ d μ1=>_)
  refine tf1 eq' ea0 ?_
  show if (!decide (t = "]"))=true then _ else _
  by_cases cb:t = "]"
  ·rw [decide_eq_true cb]
   subst cb
   exact fin (by rw [eg,xk3]; simp [glu])
  rw [decide_eq_false cb]
  have ht:t ∈ ms:=by rw [<- ea]; simp
  refine ⟨λ ρ' μ''=>∃ m',m' < (t :: r).length /\ WL q f ms k μ m' ρ' μ'',λ _ _ h=>h,?_⟩
  show ixR (.ref q) (.int a.length) μ' (λ d μ1=>_)
  refine tf1 eq' ea0 ?_
  refine ⟨(show 2<=sizeLine by decide),λ p1 hp1=>?_⟩
  refine in_S (L:=["jump", "turn"]) za0 ?_
  have ex1:Ext μ (updM μ' p1 (.lst (sD ["jump", "turn"]))):=ex.trans (Ext.new hp1)
  have ef1:updM μ' p1 (.lst (sD ["jump", "turn"])) f=some (.lst (encs acc)):=by rw [xb0 (zb0 ef hp1)]; exact ef
  have rest:∀ (L:Int) (μ1:Mu),Ext μ μ1->μ1 f=some (.lst (encs acc))->(∀ u,numD u L=nmD (nm true (sg t) u))->bodT spNu (spLr j) { nx:=λ ρ' μ''=>∃ m',m' < (t :: r).length /\ WL q f ms k μ m' ρ' μ'',ct:=λ ρ' μ''=>∃ m',m' < (t :: r).length /\ WL q f ms k μ m' ρ' μ'',rt:=Q,bk:=(ve0 spNu (spLr j)) { nx:=λ _ μ'=>Q .non μ',rt:=Q } } [some (.ref q),some (.int k),some (.ref f),some (.int a.length),some (.str t),some (.int L),o6,o7] μ1:=by
   intro L μ1 ex1 ef1 hL
   have non:dee (PR true) true k t r=none->∀ μ',Ext μ μ'->Q .non μ':=λ hd μ' e=>tl2 q0 eg cb hd e
   have nxt:∀ d r' o5 o6 o7 μ' (x:Int),dee (PR true) true k t r=some (d,r')->Ext μ μ'->μ' f=some (.lst (encs acc))->x=(ms.length:Int) - (r'.length:Int)->∃ m',m' < (t :: r).length /\ WL q f ms k μ m' [some (.ref q),some (.int k),some (.ref f),some (.int x),some (.str t),o5,o6,o7] (updM μ' f (.lst (encs acc ++ [enc d]))):=λ d r' o5 o6 o7 μ' x hd e1 e2 hx=>yf2 hf ea e1 e2 eg hl cb hd hx
   simp only [List.length_cons] at hl
   have hla:acc.length < 9000:=by omega
   refine ⟨(show 4<=sizeLine by decide),λ p2 hp2=>?_⟩
   refine in_S (L:=["go", "jump", "turn", "times"]) za0 ?_
   have ex2:Ext μ (updM μ1 p2 (.lst [.str "go",.str "jump",.str "turn",.str "times"])):=ex1.trans (Ext.new hp2)
   have ef2:updM μ1 p2 (.lst [.str "go",.str "jump",.str "turn",.str "times"]) f=some (.lst (encs acc)):=by rw [xb0 (zb0 ef1 hp2)]; exact ef1
   have eq2:=ex2 _ _ eq
   show if (!(["go", "jump", "turn", "times"]:List Str).contains t)=true then _ else _
   by_cases c4:(["go", "jump", "turn", "times"]:List Str).contains t=true
   ·rw [c4]
    conv=>whnf
    rw [eq2]
    show if decide (((sD ms).length:Int)<=(a.length:Int) + 1)=true then _ else _
    cases r with
    | nil =>
     rw [decide_eq_true (by rw [lm]; simp),if_pos rfl]
     exact non (yd1 _ _ _ _) _ ex2
    | cons u r =>
     rw [decide_eq_false (by rw [lm]; simp only [List.length_cons]; omega),if_neg (by decide)]
     have ea1:atI (sD ms) ((a.length:Int) + 1)=some (.str u):=by
      have:=xp2 (a ++ [t]) u r
      rw [show (a ++ [t]) ++ u :: r=ms by rw [<- ea]; simp] at this
      rw [List.length_append] at this
      exact this
     show ixR (.ref q) (.int ((a.length:Int) + 1)) _ (λ d μ1=>_)
     refine tf1 eq2 ea1 ?_
     refine ⟨u,L,rfl,hs u (by rw [<- ea]; simp),λ μ3 e3=>?_⟩
     rw [hL u]
     have ex3:=ex2.trans e3
     have ef3:=e3 _ _ ef2
     rcases (wd2 t).mp c4 with hp | rfl
     ·obtain ⟨d1,d2⟩:=wi3 (P:=PR true) (k:=k) (u:=u) (r:=r) hp
      cases en:nm true (sg t) u with
      | none =>
       rw [en] at d1
       exact non d1 μ3 ex3
      | some n =>
       rw [en] at d1
       have nt:t ≠ "times" := by rcases hp with rfl | rfl | rfl <;> decide
       show if decide (t = "times")=true then _ else _
       rw [decide_eq_false nt,if_neg (by decide)]
       conv=>whnf
       rw [ef3]
       refine ⟨(show 2<=sizeLine by decide),?_⟩
       dsimp only [nil3]
       show appR (.ref f) _ μ3 _
       simp only [appR,ef3]
       refine ⟨by rw [xg0]; omega,?_⟩
       have:=nxt (mkd t n) r (some (.int L)) (some (.int n)) o7 μ3 ((a.length:Int) + 2) d1 ex3 ef3 (by rw [<- ea]; simp only [List.length_append,List.length_cons]; omega)
       rw [d2] at this
       exact this
     ·have d1:=yi3 (P:=PR true) (k:=k) (u:=u) (r:=r)
      cases en:nm true (sg "times") u with
      | none =>
       rw [en] at d1
       exact non d1 μ3 ex3
      | some n =>
       rw [en] at d1
       dsimp only [Option.bind_some] at d1
       show tmsT (spLr j) _ [some (.ref q),some (.int k),some (.ref f),some (.int ((a.length:Int) + 2)),some (.str "times"),some (.int L),some (.int n),o7] μ3
       have el2:((a ++ [("times" : Str),u]).length:Int)=(a.length:Int) + 2:=by simp
       rw [<- el2]
       refine wx1 (a:=a ++ [("times" : Str),u]) (r:=r) eq hf hk hj hm hs (by rw [<- ea]; simp) ex3 ef3 hla (λ hd μ' e=>non (by rw [d1]; exact hd) μ' e) (λ d r' o7 μ' x hd e1 e2 hx=>nxt d r' _ _ o7 μ' x (by rw [d1]; exact hd) e1 e2 hx)
   ·have c4':(["go", "jump", "turn", "times"]:List Str).contains t=false:=by simpa using c4
    rw [c4']
    have n4:=λ h=>c4 ((wd2 t).mpr h)
    exact non (vg1 (λ h=>n4 (.inl (.inl h))) (λ h=>n4 (.inl (.inr (.inl h)))) (λ h=>n4 (.inl (.inr (.inr h)))) (λ h=>n4 (.inr h))) _ ex2
  show if (["jump", "turn"]:List Str).contains t=true then _ else _
  by_cases cj:(["jump", "turn"]:List Str).contains t=true
  ·rw [if_pos cj]
   refine ⟨⟨by decide,by decide,by decide⟩,?_⟩
   exact rest _ _ ex1 ef1 λ u=>by rw [se3]; unfold sg; rw [cj]; rfl
  ·rw [if_neg cj]
   exact rest _ _ ex1 ef1 λ u=>by
    have cj':(["jump", "turn"]:List Str).contains t=false:=by simpa using cj
    rw [ue3]; unfold sg; rw [cj']; rfl
noncomputable def xt:List Dd->Nat
 | []=>0
 | .times _ v :: r=>cnts v + xt r
 | .go _ :: r=>xt r
 | .jump _ :: r=>xt r
 | .turn _ :: r=>xt r
theorem so0:∀ w:List Dd,cnts w=w.length + xt w
 | []=>by simp [cnts,xt]
 | .go _ :: r=>by have:=so0 r; simp only [cnts,cnt,xt,List.length_cons]; omega
 | .jump _ :: r=>by have:=so0 r; simp only [cnts,cnt,xt,List.length_cons]; omega
 | .turn _ :: r=>by have:=so0 r; simp only [cnts,cnt,xt,List.length_cons]; omega
 | .times _ v :: r=>by have:=so0 r; simp only [cnts,cnt,xt,List.length_cons]; omega
theorem tx0:∀ a b:List Dd,xt (a ++ b)=xt a + xt b
 | [],b=>by simp [xt]
 | .go _ :: r,b=>by simp only [List.cons_append,xt,tx0 r b]
 | .jump _ :: r,b=>by simp only [List.cons_append,xt,tx0 r b]
 | .turn _ :: r,b=>by simp only [List.cons_append,xt,tx0 r b]
 | .times _ v :: r,b=>by simp only [List.cons_append,xt,tx0 r b]; omega
theorem vq1:∀ {w:List Dd} {n:Int} {v:List Dd},.times n v ∈ w->deps v < deps w
 | d :: r,n,v,h=>by
  rcases List.mem_cons.mp h with e | h
  ·subst e; simp only [deps,dep]; omega
  ·have:=vq1 h; simp only [deps]; omega
noncomputable def spCt (j:Nat):Sp3:=λ ds μ Q=>∃ w,ds=[.tup (encs w)] /\ deps w < j /\ Q (.int (cnts w:Nat)) μ
theorem zo3 (j:Nat) (ds:List D) (μ:Mu) (Q:VK3) (h:spCt (j + 1) ds μ Q):t_q2 (spCt j) { nx:=λ _ μ'=>Q .non μ',rt:=Q } (start3 N_q2 ds) μ:=by
 obtain ⟨w,rfl,hj,q⟩:=h
 refine vq0 (λ l ρ μ'=>μ'=μ /\ ∃ (a r:List Dd) (o:Option D),l=encs r /\ a ++ r=w /\ ρ=[some (.tup (encs w)),some (.int ((w.length + xt a:Nat):Int)),o]) ?_ (λ _ _ _ _=>trivial) ?_ ?_
 ·refine ⟨rfl,[],w,none,rfl,rfl,?_⟩
  have e9:(w.length + xt []:Nat)=(encs w).length:=by rw [xg0]; simp [xt]
  rw [e9]
  rfl
 ·rintro ρ μ' ⟨rfl,a,r,o,e,ea,rfl⟩
  cases r with
  | cons _ _=>simp [encs] at e
  | nil =>
   rw [List.append_nil] at ea
   subst ea
   rw [so0 a] at q
   exact q
 ·rintro x rest ρ μ' ⟨rfl,a,r,o,e,ea,rfl⟩
  cases r with
  | nil=>simp [encs] at e
  | cons d r =>
   simp only [encs,List.cons.injEq] at e
   obtain ⟨rfl,rfl⟩:=e
   have ea2:(a ++ [d]) ++ r=w:=by rw [<- ea]; simp
   have x2:=tx0 a [d]
   have plain:xt [d]=0->(∃ s n,enc d=.tup [.str s,.int n])->(ifs3 (b3 (o3 eqR (call3 lenR (cons3 (v3 2) nil3)) (c3 (.int 3)))) (set3 1 (o3 addR (v3 1) (call3 (spCt j) (cons3 (o3 ixR (v3 2) (c3 (.int 2))) nil3)))) next3) { nx:=λ ρ μ''=>μ''=μ' /\ ∃ (a r':List Dd) (o:Option D),encs r=encs r' /\ a ++ r'=w /\ ρ=[some (.tup (encs w)),some (.int ((w.length + xt a:Nat):Int)),o],rt:=Q,ct:=λ ρ μ''=>μ''=μ' /\ ∃ (a r':List Dd) (o:Option D),encs r=encs r' /\ a ++ r'=w /\ ρ=[some (.tup (encs w)),some (.int ((w.length + xt a:Nat):Int)),o],bk:=(ret3 (v3 1)) { nx:=λ _ μ'=>Q .non μ',rt:=Q } } [some (.tup (encs w)),some (.int ((w.length + xt a:Nat):Int)),some (enc d)] μ':=λ h0 ⟨s,n,hd⟩=>by
    rw [hd]
    refine ⟨rfl,a ++ [d],r,some (.tup [.str s,.int n]),rfl,ea2,?_⟩
    rw [x2,h0,Nat.add_zero]
   cases d with
   | go n=>exact plain (by simp [xt]) ⟨_,_,by simp only [enc]; rfl⟩
   | jump n=>exact plain (by simp [xt]) ⟨_,_,by simp only [enc]; rfl⟩
   | turn n=>exact plain (by simp [xt]) ⟨_,_,by simp only [enc]; rfl⟩
   | times n v =>
    have hd:=vq1 (w:=w) (n:=n) (v:=v) (by rw [<- ea]; simp)
    show (ifs3 _ _ _) _ [some (.tup (encs w)),some (.int ((w.length + xt a:Nat):Int)),some (enc (.times n v))] μ'
    simp only [enc]
    refine ⟨v,rfl,by omega,?_⟩
    refine ⟨rfl,a ++ [.times n v],r,some (.tup [.str "times",.int n,.tup (encs v)]),rfl,ea2,?_⟩
    have x3:xt [.times n v]=cnts v:=by simp [xt]
    have x4:((w.length + xt (a ++ [.times n v]):Nat):Int)=((w.length + xt a:Nat):Int) + ((cnts v:Nat):Int):=by rw [x2,x3]; omega
    rw [x4]
    rfl
noncomputable def due (z:Str):Option (List Dd):=match PR true 0 (prts z) with
 | some (w,[])=>if cnts w<=30 then some w else none
 | _=>none
noncomputable def xh2:Sp3:=λ ds μ Q=>∃ z:Str,ds=[.str z] /\ z.length<=3000 /\ ∀ μ',Ext μ μ'->Q (match due z with | some w=>.tup (encs w) | none=>.non) μ'
theorem xo3 (ds:List D) (μ:Mu) (Q:VK3) (h:xh2 ds μ Q):t_q4 (spCt 6) (spLr 5) { nx:=λ _ μ'=>Q .non μ',rt:=Q } (start3 N_q4 ds) μ:=by
 obtain ⟨z,rfl,hl,q⟩:=h
 unfold due prts at q
 show if decide (z = "")=true then _ else _
 by_cases c:z = ""
 ·rw [decide_eq_true c,if_pos rfl]
  rw [if_pos c,zs1] at q
  refine ⟨Nat.zero_le _,?_⟩
  have:=q μ (Ext.refl _)
  dsimp only at this
  rw [if_pos (by decide)] at this
  simpa only [encs] using this
 ·rw [decide_eq_false c,if_neg (by decide)]
  rw [if_neg c] at q
  obtain ⟨b1,b2⟩:=we1 hl
  refine ⟨⟨by decide,by omega⟩,λ p hp=>?_⟩
  generalize Txt.split z " " = ms at q b1 b2
  have ex1:Ext μ (updM μ p (.lst (ms.map D.str))):=Ext.new hp
  refine ⟨p,ms,0,rfl,za0,by decide,by decide,by omega,λ t ht=>Nat.le_trans (b2 t ht) (by decide),λ μ2 e2=>?_⟩
  have ex2:=ex1.trans e2
  have em:μ2 p=some (.lst (sD ms)):=e2 _ _ za0
  have q2:=q μ2 ex2
  cases ep:PR true 0 ms with
  | none =>
   rw [ep] at q2
   exact q2
  | some y =>
   obtain ⟨w,r⟩:=y
   rw [ep] at q2
   have hbd:=(yf1 true _ _ _ _ _ (by decide) ep).2
   have lr:=sg1 ep
   dsimp only [resD]
   conv=>whnf
   rw [em]
   show if decide ((ms.length:Int) - (r.length:Int) < ((sD ms).length:Int))=true then _ else _
   rw [yd0]
   cases r with
   | cons b r =>
    rw [decide_eq_true (by simp only [List.length_cons]; omega),if_pos rfl]
    exact q2
   | nil =>
    rw [decide_eq_false (by simp),if_neg (by decide)]
    refine ⟨w,rfl,by omega,?_⟩
    show if decide ((30:Int) < ((cnts w:Nat):Int))=true then _ else _
    dsimp only at q2
    by_cases c3':cnts w<=30
    ·rw [if_pos c3'] at q2
     rw [decide_eq_false (by omega),if_neg (by decide)]
     exact q2
    ·rw [if_neg c3'] at q2
     rw [decide_eq_true (by omega),if_pos rfl]
     exact q2
open Mt
noncomputable def Gtx (n:Nat) (l:List Str):Prop:=0 < l.length /\ l.length<=n /\ ∀ t ∈ l,t.length<=1500
theorem Gtx.app {m n:Nat} {a b:List Str} (h:Gtx m a) (k:Gtx n b):Gtx (m + n) (a ++ b):=by
 refine ⟨by rw [List.length_append]; have:=h.1; omega,by rw [List.length_append]; have:=h.2.1; have:=k.2.1; omega,λ t ht=>?_⟩
 rcases List.mem_append.mp ht with z | z
 ·exact h.2.2 t z
 ·exact k.2.2 t z
theorem vt0 {ts:TA3} {rest:TS3} {D':Ends3} {z p:Addr} {st:MO} {o2:Option D} {μ:Mu} {l:List Str} {n:Nat} (hn:n<=1000) (hz:μ z=some st) (hp:μ p=some (.lst (sD l))) (hl:Gtx n l)
    (hts:∀ K:List D->Mu->Prop,(∀ m:List Str,Gtx 20 m->K (sD m) μ)->ts [some (.ref z),some (.ref p),o2] μ K)
    (hr:∀ p' l' μ',μ' z=some st->μ' p'=some (.lst (sD l'))->Gtx (n + 20) l'->rest D' [some (.ref z),some (.ref p'),o2] μ') :
    (seq3 (set3 1 (o3 addR (v3 1) (lst3 ts))) rest) D' [some (.ref z),some (.ref p),o2] μ:=by
 have hZ:(100000:Nat) < sizeLine:=by decide
 refine hts _ λ m hm=>⟨by rw [yd0]; have:=hm.2.1; omega,λ p2 hp2=>?_⟩
 have e1:updM μ p2 (.lst (sD m)) p=some (.lst (sD l)):=by rw [xb0 (zb0 hp hp2)]; exact hp
 have e2:updM μ p2 (.lst (sD m)) z=some st:=by rw [xb0 (zb0 hz hp2)]; exact hz
 show addR (.ref p) (.ref p2) (updM μ p2 (.lst (sD m))) _
 simp only [addR,e1,za0]
 refine ⟨by rw [yd0,yd0]; have:=hm.2.1; have:=hl.2.1; omega,λ p3 hp3=>?_⟩
 refine hr p3 (l ++ m) _ ?_ ?_ (hl.app hm)
 ·rw [xb0 (zb0 e2 hp3)]; exact e2
 ·rw [za0,tm1]
theorem uf0 (a b:Str):(a ++ b).length=a.length + b.length:=by rw [ze0,ze0,ze0,yr1,List.length_append]
theorem vd2:wt (List.replicate 30 ("go 1" : Str))=150:=by decide +kernel
theorem ln1:("9" : Str).length=1:=by decide +kernel
theorem ln2:("go " : Str).length=3:=by decide +kernel
theorem ln3:("turn -" : Str).length=6:=by decide +kernel
theorem ln4:("times 1 [ " : Str).length=10:=by decide +kernel
theorem ln5:(" ]" : Str).length=2:=by decide +kernel
theorem ln6:("]" : Str).length=1:=by decide +kernel
theorem ln7:(" go 1" : Str).length=5:=by decide +kernel
theorem ln8:("times 2 [ " : Str).length=10:=by decide +kernel
noncomputable def spOd:Sp3:=λ ds μ Q=>∃ (z:Addr) (a:Int) (b:Bool),ds=[.ref z] /\ μ z=some (.lst [.int a,.bl b]) /\ 0<=a /\ ∀ (t:Str) μ',t.length<=3000->Q (.str t) μ'
theorem sf1 {l:List Str} {n:Nat} (h1:0 < l.length /\ l.length<=n) (h2:(l.all λ t=>decide (t.length<=1500))=true):Gtx n l:=⟨h1.1,h1.2,λ t ht=>of_decide_eq_true (List.all_eq_true.mp h2 t ht)⟩
theorem vn3 (ds:List D) (μ:Mu) (Q:VK3) (h:spOd ds μ Q):t_q7 yg0 { nx:=λ _ μ'=>Q .non μ',rt:=Q } (start3 N_q7 ds) μ:=by
 obtain ⟨z,a,b,rfl,hz,ha,q⟩:=h
 have hZ:(100000:Nat) < sizeLine:=by decide
 refine ⟨(show 12<=sizeLine by decide),λ p hp=>?_⟩
 have hz1:updM μ p (.lst (sD [" ", "go", "go 1 ", " go 1", "go  1", "go -1", "go +1", "go 01", "go 00", "go -0", "turn -0", "jump --1"])) z=some (.lst [.int a,.bl b]):=by rw [xb0 (zb0 hz hp)]; exact hz
 show yi0 yg0 _ [some (.ref z),some (.ref p),none] _
 unfold yi0
 refine vt0 (l:=[" ", "go", "go 1 ", " go 1", "go  1", "go -1", "go +1", "go 01", "go 00", "go -0", "turn -0", "jump --1"]) (n:=20) (by decide) hz1 za0 (sf1 (by decide) (by decide +kernel)) (λ K k=>k ["Go 1", "go 1 2", "go1", "times 2", "times 2 [", "times 2 ]", "times 2 [ ]", "times 2 []"] (sf1 (by decide) (by decide +kernel))) λ p1 l1 μ1 hz1 e1 g1=>?_
 unfold zl0
 refine vt0 (by decide) hz1 e1 g1 (λ K k=>k ["times -1 [ ]", "times 2 [ go 1", "times 2 [ go 1 ] ]", "] go 1", "[ go 1 ]", "go 1 ]", "go x"] (sf1 (by decide) (by decide +kernel))) λ p2 l2 μ2 hz2 e2 g2=>?_
 unfold yl0
 refine vt0 (by decide) hz2 e2 g2 (λ K k=>?_) λ p3 l3 μ3 hz3 e3 g3=>?_
 ·refine ⟨⟨by decide,by decide⟩,⟨by decide +kernel,by decide +kernel⟩,λ z1 y1=>⟨by rw [y1,ln1,ln2]; decide,⟨by decide,by decide⟩,⟨by decide +kernel,by decide +kernel⟩,λ z2 y2=>⟨by rw [y2,ln1,ln2]; decide,⟨by decide,by decide⟩,⟨by decide +kernel,by decide +kernel⟩,λ z3 y3=>⟨by rw [y3,ln1,ln3]; decide,⟨by decide,by decide⟩,⟨by decide +kernel,by decide +kernel⟩,λ z4 y4=>⟨by rw [y4,ln1,ln3]; decide,?_⟩⟩⟩⟩⟩
  refine k [("go " : Str) ++ z1,("go " : Str) ++ z2,("turn -" : Str) ++ z3,("turn -" : Str) ++ z4] ⟨by simp,by simp,λ t ht=>?_⟩
  rw [ln1] at y1 y2 y3 y4
  simp only [List.mem_cons,List.not_mem_nil,or_false] at ht
  have t20:(20:Int).toNat=20:=rfl
  have t21:(21:Int).toNat=21:=rfl
  rw [t20] at y1 y3
  rw [t21] at y2 y4
  rcases ht with rfl | rfl | rfl | rfl <;> rw [uf0] <;> simp only [ln2,ln3] <;> omega
 unfold xl0
 refine vt0 (by decide) hz3 e3 g3 (λ K k=>k ["go 1.0", "go 1 turn"] (sf1 (by decide) (by decide +kernel))) λ p4 l4 μ4 hz4 e4 g4=>?_
 refine ⟨(show 1<=sizeLine by decide),λ p5 hp5=>?_⟩
 have hz5:updM μ4 p5 (.lst [.str "go 1"]) z=some (.lst [.int a,.bl b]):=by rw [xb0 (zb0 hz4 hp5)]; exact hz4
 have e5:updM μ4 p5 (.lst [.str "go 1"]) p4=some (.lst (sD l4)):=by rw [xb0 (zb0 e4 hp5)]; exact e4
 dsimp only [c3]
 simp only [mulR,za0]
 refine ⟨⟨⟨by decide,by decide⟩,by decide⟩,λ p6 hp6=>?_⟩
 have hz6:updM (updM μ4 p5 (.lst [.str "go 1"])) p6 (.lst (List.replicate (30:Int).toNat [D.str "go 1"]).flatten) z=some (.lst [.int a,.bl b]):=by rw [xb0 (zb0 hz5 hp6)]; exact hz5
 have e6:updM (updM μ4 p5 (.lst [.str "go 1"])) p6 (.lst (List.replicate (30:Int).toNat [D.str "go 1"]).flatten) p4=some (.lst (sD l4)):=by rw [xb0 (zb0 e5 hp6)]; exact e5
 have el:(List.replicate (30:Int).toNat [D.str "go 1"]).flatten=sD (List.replicate 30 "go 1"):=by rfl
 rw [el] at hz6 e6 ⊢
 generalize hμ:updM (updM μ4 p5 (.lst [.str "go 1"])) p6 (.lst (sD (List.replicate 30 "go 1")))=μ6 at hz6 e6 ⊢
 have er:μ6 p6=some (.lst (sD (List.replicate 30 "go 1"))):=by rw [<- hμ]; exact za0
 dsimp only [nil3]
 show joinR " " [.ref p6] μ6 _
 simp only [joinR,er,xp0]
 have hw:((List.replicate 30 ("go 1" : Str)).map (·.length)).sum + (List.replicate 30 ("go 1" : Str)).length=150:=by rw [ye1,vd2]
 refine ⟨⟨by decide +kernel,by omega⟩,?_⟩
 have hm:(Str.join " " (List.replicate 30 ("go 1" : Str))).length<=150:=by rw [<- vd2]; exact yw0 _
 generalize Str.join " " (List.replicate 30 ("go 1" : Str))=many at hm
 show xi0 yg0 _ [some (.ref z),some (.ref p4),some (.str many)] μ6
 unfold xi0
 refine vt0 (by decide) hz6 e6 g4 (λ K k=>?_) λ p7 l7 μ7 hz7 e7 g7=>?_
 ·refine ⟨by rw [ln7]; omega,⟨by decide,by decide⟩,⟨by decide +kernel,by decide +kernel⟩,λ z1 y1=>?_⟩
  have t4:(4:Int).toNat=4:=rfl
  have t3':(3:Int).toNat=3:=rfl
  have t5:(5:Int).toNat=5:=rfl
  rw [ln4,t4] at y1
  refine ⟨by rw [ln6]; omega,⟨by decide,by decide⟩,⟨by decide +kernel,by decide +kernel⟩,λ z2 y2=>?_⟩
  rw [ln5,t3'] at y2
  refine ⟨by rw [uf0,ln6]; omega,⟨by decide,by decide⟩,⟨by decide +kernel,by decide +kernel⟩,λ z3 y3=>?_⟩
  rw [ln4,t5] at y3
  refine ⟨by rw [ln6]; omega,⟨by decide,by decide⟩,⟨by decide +kernel,by decide +kernel⟩,λ z4 y4=>?_⟩
  rw [ln5,t4] at y4
  refine ⟨by rw [uf0,ln6]; omega,?_⟩
  refine k [many,many ++ (" go 1" : Str),z1 ++ ("]" : Str) ++ z2,z3 ++ ("]" : Str) ++ z4] ⟨by simp,by simp,λ t ht=>?_⟩
  simp only [List.mem_cons,List.not_mem_nil,or_false] at ht
  rcases ht with rfl | rfl | rfl | rfl
  ·omega
  ·rw [uf0,ln7]; omega
  ·rw [uf0,uf0,ln6]; omega
  ·rw [uf0,uf0,ln6]; omega
 unfold sk0
 refine vt0 (by decide) hz7 e7 g7 (λ K k=>?_) λ p8 l8 μ8 hz8 e8 g8=>?_
 ·refine ⟨by rw [ln8]; omega,by rw [uf0,ln8,ln5]; omega,?_⟩
  refine k [("times 2 [ " : Str) ++ many ++ (" ]" : Str), "times 2 [ go 1 [ ] ]", "hop 1", "go 1, turn 1", "times 2 [ go 1] "] ⟨by simp,by simp,λ t ht=>?_⟩
  rcases List.mem_cons.mp ht with rfl | ht
  ·rw [uf0,uf0,ln8,ln5]; omega
  ·have:(["times 2 [ go 1 [ ] ]", "hop 1", "go 1, turn 1", "times 2 [ go 1] "]:List Str).all (λ t=>decide (t.length<=1500))=true:=by decide +kernel
   exact of_decide_eq_true (List.all_eq_true.mp this t ht)
 have g81:=g8.1
 have g82:=g8.2.1
 show tk0 yg0 _ [some (.ref z),some (.ref p8),some (.str many)] μ8
 conv=>whnf
 rw [e8]
 refine ⟨z,(sD l8).length,a,b,[],rfl,by rw [yd0]; omega,by rw [yd0]; omega,hz8,ha,λ c a' c0 c1 a'n=>?_⟩
 have nz:p8 ≠ z:=λ h=>by subst h; rw [e8] at hz8; cases l8 with
  | nil=>simp at g81
  | cons x y=>simp [sD] at hz8
 have e9:updM μ8 z (.lst [.int a',.bl b]) p8=some (.lst (sD l8)):=by rw [xb0 nz]; exact e8
 rw [yd0] at c1
 have hi:c.toNat < l8.length:=by omega
 have ea:atI (sD l8) c=some (.str l8[c.toNat]):=by
  unfold atI ixN
  rw [if_pos c0,if_pos (by rw [yd0]; omega)]
  simp [sD,List.getElem?_eq_getElem hi]
 show ixR (.ref p8) (.int c) (updM μ8 z (.lst [.int a',.bl b])) Q
 simp only [ixR,e9,ea]
 exact q _ _ (Nat.le_trans (g8.2.2 _ (List.getElem_mem hi)) (by decide))
theorem se2 (l:List Str) (n:Nat):wt (l.take n)<=wt l:=by
 have:=uh0 (l.take n) (l.drop n)
 rw [List.take_append_drop] at this
 omega
theorem xf2 (l:List Str) (n:Nat):wt (l.drop n)<=wt l:=by
 have:=uh0 (l.take n) (l.drop n)
 rw [List.take_append_drop] at this
 omega
theorem si3 (l:List Str) (lo hi:Option Int):∃ m:List Str,cut3 (sD l) lo hi=sD m /\ wt m<=wt l:=by
 refine ⟨cut3 l lo hi,?_,?_⟩
 ·unfold cut3
  rw [yd0]
  simp [sD,List.map_take,List.map_drop]
 ·unfold cut3
  exact Nat.le_trans (se2 _ _) (xf2 _ _)
theorem xn0 (z:Str) (lo hi:Option Int):(⟨(cut3 z.cps.toList lo hi).toArray⟩:Str).length<=z.length:=by
 rw [ze0,ze0]
 show (cut3 (cp z) lo hi).toArray.toList.length<=_
 unfold cut3
 simp only [List.length_take,List.length_drop]
 omega
theorem zy0 {i:Nat} {tl th:TO3} {ρ:St3} {q:Addr} {l:List Str} {lo hi:Option Int} {μ:Mu} {K:VK3} (hv:getI ρ i=some (.ref q)) (hl:∀ K:Option Int->Mu->Prop,K lo μ->tl ρ μ K) (hh:∀ K:Option Int->Mu->Prop,K hi μ->th ρ μ K) (h:μ q=some (.lst (sD l))) (k:∀ r m,μ r=none->wt m<=wt l->K (.ref r) (updM μ r (.lst (sD m)))):sl3 slR (v3 i) tl th ρ μ K:=by
 obtain ⟨m,e,hm⟩:=si3 l lo hi
 have main:slR (.ref q) lo hi μ K:=by
  simp only [slR,h,e]
  exact λ r hr=>k r m hr hm
 unfold sl3 v3
 rw [hv]
 exact hl _ (hh _ main)
theorem ad_l {p q:Addr} {l m:List Str} {μ:Mu} {K:VK3} (h1:μ p=some (.lst (sD l))) (h2:μ q=some (.lst (sD m))) (hz:wt l + wt m<=10000) (k:∀ r,μ r=none->K (.ref r) (updM μ r (.lst (sD (l ++ m))))):addR (.ref p) (.ref q) μ K:=by
 have hZ:(100000:Nat) < sizeLine:=by decide
 have a1:=tt0 l
 have a2:=tt0 m
 simp only [addR,h1,h2]
 refine ⟨by rw [yd0,yd0]; omega,λ r hr=>?_⟩
 rw [<- tm1]
 exact k r hr
theorem jo_l {p:Addr} {l:List Str} {μ:Mu} {K:VK3} (h1:μ p=some (.lst (sD l))) (hz:wt l<=3000) (k:∀ t:Str,t.length<=3000->K (.str t) μ):joinR " " [.ref p] μ K:=by
 simp only [joinR,h1,xp0]
 refine ⟨⟨by decide +kernel,by rw [ye1]; omega⟩,k _ (Nat.le_trans (yw0 l) hz)⟩
noncomputable def ug2:Sp3:=λ ds μ Q=>∃ (z:Addr) (a:Int) (b:Bool) (x:Str),ds=[.ref z,.str x] /\ μ z=some (.lst [.int a,.bl b]) /\ 0<=a /\ x.length<=400 /\ ∀ (t:Str) μ',t.length<=3000->Q (.str t) μ'
theorem sgn (c:Int) (h0:0<=c) (h1:c < 22):∃ n,L2.atI ("0123456789- []gotujmpx" : Str).cps.toList c=some n:=by
 have hl:("0123456789- []gotujmpx" : Str).cps.toList.length=22:=by decide +kernel
 unfold L2.atI L2.ixN
 rw [if_pos h0,if_pos (by rw [hl]; omega)]
 have:c.toNat < ("0123456789- []gotujmpx" : Str).cps.toList.length:=by rw [hl]; omega
 exact ⟨_,List.getElem?_eq_getElem this⟩
theorem va3 (ds:List D) (μ:Mu) (Q:VK3) (h:ug2 ds μ Q):ys2 yg0 spOd { nx:=λ _ μ'=>Q .non μ',rt:=Q } (start3 vq2 ds) μ:=by
 obtain ⟨z,a,b,x,rfl,hz,ha,hx,q⟩:=h
 have hZ:(100000:Nat) < sizeLine:=by decide
 refine ⟨z,7,a,b,[],rfl,by decide,by decide,hz,ha,λ way a1 w0 w1 a1n=>?_⟩
 refine ⟨by omega,?_⟩
 refine ⟨z,(x.length:Int) + 1,a1,b,[],rfl,by omega,by omega,za0,a1n,λ at' a2 t0 t1 a2n=>?_⟩
 refine ⟨z,22,a2,b,[],rfl,by decide,by decide,za0,a2n,λ cs a3 c0 c1 a3n=>?_⟩
 obtain ⟨n,en⟩:=sgn cs c0 c1
 refine ⟨by decide +kernel,n,en,?_⟩
 have l1:(⟨#[n]⟩:Str).length=1:=rfl
 generalize (⟨#[n]⟩:Str)=sg at l1
 refine ⟨⟨by decide,by omega⟩,λ p hp=>?_⟩
 have hw:=ut1 (z:=x)
 have hpos:=PyProof.Rows.split_pos x " "
 have hln:=tt0 (Txt.split x " ")
 generalize Txt.split x " " = ps at hw hpos hln
 generalize hμ:updM (updM (updM (updM μ z _) z _) z _) p _=μ1
 have hz1:μ1 z=some (.lst [.int a3,.bl b]):=by
  rw [<- hμ,xb0 (λ h=>by subst h; rw [za0] at hp; cases hp),za0]
 have ep:μ1 p=some (.lst (sD ps)):=by rw [<- hμ,za0]; rfl
 show ui0 yg0 spOd _ [some (.ref z),some (.str x),some (.int way),some (.int at'),some (.str sg),some (.ref p),none,none] μ1
 conv=>whnf
 rw [ep]
 refine ⟨z,(sD ps).length,a3,b,[],rfl,by rw [yd0]; omega,by rw [yd0]; omega,hz1,a3n,λ sp a4 s0 s1 a4n=>?_⟩
 have ez2:updM μ1 z (.lst [.int a4,.bl b]) z=some (.lst [.int a4,.bl b]):=za0
 have npz:p ≠ z:=λ h=>by
  subst h; rw [ep] at hz1
  cases ps with
  | nil=>simp at hpos
  | cons y r=>simp [sD] at hz1
 have ep2:updM μ1 z (.lst [.int a4,.bl b]) p=some (.lst (sD ps)):=by rw [xb0 npz]; exact ep
 generalize updM μ1 z (.lst [.int a4,.bl b])=μ2 at ez2 ep2
 show vi0 yg0 spOd _ [some (.ref z),some (.str x),some (.int way),some (.int at'),some (.str sg),some (.ref p),some (.int sp),none] μ2
 show if decide (way=0)=true then _ else _
 by_cases c0':way=0
 ·rw [decide_eq_true c0',if_pos rfl]
  refine ⟨by omega,?_⟩
  have h1:=xn0 x none (some at')
  have h2:=xn0 x (some at') none
  refine ⟨by omega,⟨by omega,⟨by rw [uf0]; omega,q _ _ (by rw [uf0,uf0]; omega)⟩⟩⟩
 rw [decide_eq_false c0',if_neg (by decide)]
 show if decide (way=1)=true then _ else _
 by_cases c1':way=1
 ·rw [decide_eq_true c1',if_pos rfl]
  refine ⟨by omega,?_⟩
  have h1:=xn0 x none (some at')
  have h2:=xn0 x (some (at' + 1)) none
  refine ⟨by omega,⟨by omega,⟨by rw [uf0]; omega,q _ _ (by rw [uf0,uf0]; omega)⟩⟩⟩
 rw [decide_eq_false c1',if_neg (by decide)]
 show if decide (way=2)=true then _ else _
 by_cases c2':way=2
 ·rw [decide_eq_true c2',if_pos rfl]
  refine ⟨by omega,?_⟩
  have h1:=xn0 x none (some at')
  have h2:=xn0 x (some (at' + 1)) none
  refine ⟨by omega,⟨by omega,q _ _ (by rw [uf0]; omega)⟩⟩
 rw [decide_eq_false c2',if_neg (by decide)]
 show if decide (way=3)=true then _ else _
 by_cases c3':way=3
 ·rw [decide_eq_true c3',if_pos rfl]
  dsimp only [ret3,seq3,set3,smt3,cons3,o3,c3]
  refine zy0 rfl (λ K k=>k) (λ K k=>k) ep2 λ r1 m1 hr1 w1=>?_
  have ep3:updM μ2 r1 (.lst (sD m1)) p=some (.lst (sD ps)):=by rw [xb0 (zb0 ep2 hr1)]; exact ep2
  refine zy0 rfl (λ K k=>k) (λ K k=>k) ep3 λ r2 m2 hr2 w2=>?_
  have e1:updM (updM μ2 r1 (.lst (sD m1))) r2 (.lst (sD m2)) r1=some (.lst (sD m1)):=by rw [xb0 (zb0 za0 hr2)]; exact za0
  refine ad_l e1 za0 (by omega) λ r3 hr3=>?_
  dsimp only [nil3]
  exact jo_l za0 (by rw [uh0]; omega) λ t ht=>q t _ ht
 rw [decide_eq_false c3',if_neg (by decide)]
 show if decide (way=4)=true then _ else _
 by_cases c4':way=4
 ·rw [decide_eq_true c4',if_pos rfl]
  dsimp only [ret3,seq3,set3,smt3,cons3,o3,c3]
  refine zy0 rfl (λ K k=>k) (λ K k=>k) ep2 λ r1 m1 hr1 w1=>?_
  have ep3:updM μ2 r1 (.lst (sD m1)) p=some (.lst (sD ps)):=by rw [xb0 (zb0 ep2 hr1)]; exact ep2
  refine zy0 rfl (λ K k=>k) (λ K k=>k) ep3 λ r2 m2 hr2 w2=>?_
  have e1:updM (updM μ2 r1 (.lst (sD m1))) r2 (.lst (sD m2)) r1=some (.lst (sD m1)):=by rw [xb0 (zb0 za0 hr2)]; exact za0
  refine ad_l e1 za0 (by omega) λ r3 hr3=>?_
  dsimp only [nil3]
  exact jo_l za0 (by rw [uh0]; omega) λ t ht=>q t _ ht
 rw [decide_eq_false c4',if_neg (by decide)]
 show if decide (way=5)=true then _ else _
 by_cases c5':way=5
 ·rw [decide_eq_true c5',if_pos rfl]
  dsimp only [ret3,seq3,set3,smt3,cons3,o3,c3]
  refine zy0 rfl (λ K k=>k) (λ K k=>k) ep2 λ r1 m1 hr1 w1=>?_
  have ep3:updM μ2 r1 (.lst (sD m1)) p=some (.lst (sD ps)):=by rw [xb0 (zb0 ep2 hr1)]; exact ep2
  refine zy0 rfl (λ K k=>k) (λ K k=>k) ep3 λ r2 m2 hr2 w2=>?_
  have e1:updM (updM μ2 r1 (.lst (sD m1))) r2 (.lst (sD m2)) r1=some (.lst (sD m1)):=by rw [xb0 (zb0 za0 hr2)]; exact za0
  have ep4:updM (updM μ2 r1 (.lst (sD m1))) r2 (.lst (sD m2)) p=some (.lst (sD ps)):=by rw [xb0 (zb0 ep3 hr2)]; exact ep3
  refine ad_l e1 za0 (by omega) λ r3 hr3=>?_
  generalize hν:updM (updM (updM μ2 r1 (.lst (sD m1))) r2 (.lst (sD m2))) r3 (.lst (sD (m1 ++ m2)))=ν
  have ev3:ν r3=some (.lst (sD (m1 ++ m2))):=by rw [<- hν]; exact za0
  have evp:ν p=some (.lst (sD ps)):=by rw [<- hν,xb0 (zb0 ep4 hr3)]; exact ep4
  refine zy0 rfl (λ K k=>k) (λ K k=>k) evp λ r4 m4 hr4 w4=>?_
  have f3:updM ν r4 (.lst (sD m4)) r3=some (.lst (sD (m1 ++ m2))):=by rw [xb0 (zb0 ev3 hr4)]; exact ev3
  have fp:updM ν r4 (.lst (sD m4)) p=some (.lst (sD ps)):=by rw [xb0 (zb0 evp hr4)]; exact evp
  unfold v3
  refine ad_l za0 f3 (by rw [uh0]; omega) λ r5 hr5=>?_
  have gp:updM (updM ν r4 (.lst (sD m4))) r5 (.lst (sD (m4 ++ (m1 ++ m2)))) p=some (.lst (sD ps)):=by rw [xb0 (zb0 fp hr5)]; exact fp
  refine zy0 rfl (λ K k=>k) (λ K k=>k) gp λ r6 m6 hr6 w6=>?_
  have h5:updM (updM (updM ν r4 (.lst (sD m4))) r5 (.lst (sD (m4 ++ (m1 ++ m2))))) r6 (.lst (sD m6)) r5=some (.lst (sD (m4 ++ (m1 ++ m2)))):=by rw [xb0 (zb0 za0 hr6)]; exact za0
  refine ad_l h5 za0 (by rw [uh0,uh0]; omega) λ r7 hr7=>?_
  dsimp only [nil3]
  exact jo_l za0 (by rw [uh0,uh0,uh0]; omega) λ t ht=>q t _ ht
 rw [decide_eq_false c5',if_neg (by decide)]
 exact ⟨z,a4,b,rfl,ez2,a4n,q⟩
noncomputable def BL5:List D:=[.bl false,.bl false,.bl false,.bl false,.bl false,.bl true,.bl true]
theorem sx50:subX "NoWord" "BadNote" = some false:=by decide
theorem sx51:subX "NoRoom" "BadNote" = some false:=by decide
theorem sx52:subX "NoStep" "BadNote" = some false:=by decide
theorem sx53:subX "NoPicture" "BadNote" = some false:=by decide
theorem sx54:subX "NoNumber" "BadNote" = some false:=by decide
theorem sx55:subX "BadNote" "BadNote" = some true:=by decide
theorem sx56:subX "ValueError" "BadNote" = some true:=by decide
noncomputable def spMk:Sp3:=λ ds μ Q=>ds=[.exc "BadNote"] /\ ∀ p μ',Ext μ μ'->μ' p=some (.lst BL5)->Q (.ref p) μ'
theorem sn3 (ds:List D) (μ:Mu) (Q:VK3) (h:spMk ds μ Q):t_q5 { nx:=λ _ μ'=>Q .non μ',rt:=Q } (start3 N_q5 ds) μ:=by
 obtain ⟨rfl,q⟩:=h
 simp_arith [t_q5,N_q5,isx3,sx50,sx51,sx52,sx53,sx54,sx55,sx56]
 refine ⟨by decide,λ p hp=>⟨by decide,λ r hr=>?_⟩⟩
 have hpr:p ≠ r:=zb0 za0 hr
 simp_arith [xb0 hpr,za0]
 refine ⟨by decide,λ t ht=>q t _ (λ c o hc=>?_) za0⟩
 have z1:updM μ p (.lst [.bl false,.bl false,.bl false,.bl false]) c=some o:=by rw [xb0 (zb0 hc hp)]; exact hc
 have z2:=(Ext.new (o:=.lst [.bl false,.bl true,.bl true]) hr) c o z1
 rw [xb0 (zb0 z2 ht)]; exact z2
noncomputable def tg2:Sp3:=λ ds μ Q=>∃ (p:Addr),ds=[.ref p,.int 5] /\ μ p=some (.lst BL5) /\ ∀ μ',Ext μ μ'->Q (.bl true) μ'
theorem zn3 (ds:List D) (μ:Mu) (Q:VK3) (h:tg2 ds μ Q):t_q9 { nx:=λ _ μ'=>Q .non μ',rt:=Q } (start3 N_q9 ds) μ:=by
 obtain ⟨p,rfl,ep,q⟩:=h
 simp_arith [t_q9,N_q9]
 refine ⟨by decide,λ r hr=>?_⟩
 have hl:(rngD 0 (6:Int).toNat).length<=sizeLine:=by decide
 refine ug1 (λ x=>match x with | .int i=>.bl (decide (i=5)) | _=>.non) hr hl (λ _ _=>trivial) ?_ ?_
 ·intro x hx μ' R ex k
  obtain ⟨i,_,rfl⟩:=List.mem_map.mp hx
  simp_arith [cst0]
  exact k _ (Ext.refl _)
 ·intro μ1 e1 y1
  have y2:μ1 r=some (.lst [.bl false,.bl false,.bl false,.bl false,.bl false,.bl true]):=by rw [y1]; rfl
  refine ⟨by decide,λ t ht=>?_⟩
  have hrt:r ≠ t:=zb0 y2 ht
  simp_arith [xb0 hrt,y2,za0]
  refine ⟨by decide,λ z hz=>?_⟩
  have e2:Ext μ (updM (updM μ1 t (.lst [.bl true])) z (.lst BL5)):=e1.trans ((Ext.new ht).trans (Ext.new hz))
  have d1:datM (updM (updM μ1 t (.lst [.bl true])) z (.lst BL5)) (.ref p)=some (.list [.bool false,.bool false,.bool false,.bool false,.bool false,.bool true,.bool true]):=by
   have:=e2 p _ ep
   simp only [datM,this]; rfl
  have d2:datM (updM (updM μ1 t (.lst [.bl true])) z (.lst BL5)) (.ref z)=some (.list [.bool false,.bool false,.bool false,.bool false,.bool false,.bool true,.bool true]):=by simp only [datM,za0]; rfl
  have dp:(PyData.list [.bool false,.bool false,.bool false,.bool false,.bool false,.bool true,.bool true]).depth<=64:=by decide
  show eqR (.ref p) (.ref z) (updM (updM μ1 t (.lst [.bl true])) z (.lst BL5)) Q
  rw [wn2 rfl d1 d2 dp dp]
  have ev:PyData.eqv (.list [.bool false,.bool false,.bool false,.bool false,.bool false,.bool true,.bool true]) (.list [.bool false,.bool false,.bool false,.bool false,.bool false,.bool true,.bool true])=true:=by decide
  rw [ev]
  exact q _ e2
theorem yk0 {cls c:Str} {b:Bool} (h:subX cls c=some b):c ∈ xnames:=by
 unfold subX at h
 split at h
 ·next e=>simpa using e
 ·cases h
theorem ss2:PyData.strOk ("go" : Str)=true:=by decide +kernel
theorem yu1:PyData.strOk ("jump" : Str)=true:=by decide +kernel
theorem xu1:PyData.strOk ("turn" : Str)=true:=by decide +kernel
theorem wm1:PyData.strOk ("times" : Str)=true:=by decide +kernel
mutual
noncomputable def pe:Dd->PyData
 | .go n=>.tuple [.str "go",.int n]
 | .jump n=>.tuple [.str "jump",.int n]
 | .turn n=>.tuple [.str "turn",.int n]
 | .times n w=>.tuple [.str "times",.int n,.tuple (pes w)]
noncomputable def pes:List Dd->List PyData
 | []=>[]
 | d :: r=>pe d :: pes r
end
mutual
theorem tn2:∀ d,dat (enc d)=some (pe d)
 | .go n=>by simp only [enc,dat,dats,ss2,if_true,pe]
 | .jump n=>by simp only [enc,dat,dats,yu1,if_true,pe]
 | .turn n=>by simp only [enc,dat,dats,xu1,if_true,pe]
 | .times n w=>by simp only [enc,dat,dats,wm1,if_true,pe,wr0 w]
theorem wr0:∀ w,dats (encs w)=some (pes w)
 | []=>by simp only [encs,dats,pes]
 | d :: r=>by simp only [encs,dats,pes,tn2 d,wr0 r]
end
mutual
theorem vz1:∀ d,(pe d).depth<=2 * dep d + 1
 | .go n=>by simp [pe,PyData.depth,PyData.depthAll]
 | .jump n=>by simp [pe,PyData.depth,PyData.depthAll]
 | .turn n=>by simp [pe,PyData.depth,PyData.depthAll]
 | .times n w=>by
  have:=yr0 w
  simp only [pe,PyData.depth,PyData.depthAll,dep]
  omega
theorem yr0:∀ w,PyData.depthAll (pes w)<=2 * deps w + 1
 | []=>by simp [pes,PyData.depthAll]
 | d :: r=>by
  have h1:=vz1 d
  have h2:=yr0 r
  simp only [pes,PyData.depthAll,deps]
  omega
end
mutual
theorem uh3:∀ d,PyData.eqv (pe d) (pe d)=true
 | .go n=>by simp [pe,PyData.eqv,PyData.eqvAll]
 | .jump n=>by simp [pe,PyData.eqv,PyData.eqvAll]
 | .turn n=>by simp [pe,PyData.eqv,PyData.eqvAll]
 | .times n w=>by simp [pe,PyData.eqv,PyData.eqvAll,tc1 w]
theorem tc1:∀ w,PyData.eqvAll (pes w) (pes w)=true
 | []=>by simp [pes,PyData.eqvAll]
 | d :: r=>by simp [pes,PyData.eqvAll,uh3 d,tc1 r]
end
open Mt
noncomputable def su0 (XE:XE3):Sp3:=λ ds μ Q=>∃ w,ds=[.tup (encs w)] /\ Wd w /\ ∀ (x:Str) μ',Ext μ μ'->x.length<=40 * cnts w->Q (.str x) μ'
theorem uy2 (XE:XE3) (ds:List D) (μ:Mu) (Q:VK3) (h:su0 XE ds μ Q):wr2 XE ze1 (zv0 5) { nx:=λ _ μ'=>Q .non μ',rt:=Q } (start3 tp2 ds) μ:=by
 obtain ⟨w,rfl,h,q⟩:=h
 refine ⟨_,rfl,wt2 w,?_⟩
 rw [(zd1 w).1 h]
 refine ⟨w,rfl,by have:=h.2.1; omega,h.2.2,h.1,λ p μ' ex hp ep=>?_⟩
 dsimp only [nil3]
 show joinR " " [.ref p] μ' _
 simp only [joinR,ep,xp0]
 have h1:=td1 w h.1
 have h2:=h.2.2
 refine ⟨⟨by decide +kernel,by rw [ye1]; omega⟩,q _ μ' ex (Nat.le_trans (yw0 _) h1)⟩
theorem sc1 (z:Str) (w:List Dd):due z=some w ↔ PR false 0 (prts z)=some (w,[]) /\ Wd w:=by
 unfold due
 rw [yk3]
 cases e:PR false 0 (prts z) with
 | none=>simp [flt]
 | some y =>
  obtain ⟨v,r⟩:=y
  obtain ⟨b1,b2⟩:=yf1 false _ _ _ _ _ (by decide) e
  have ok:=uo1 v b1
  unfold flt
  dsimp only [Option.bind_some]
  cases cn:nbs v with
  | false =>
   rw [if_neg (by decide)]
   constructor
   ·intro h; cases h
   ·rintro ⟨h1,h2⟩
    cases h1
    have:=ok.mp h2.1
    rw [cn] at this; cases this
  | true =>
   rw [if_pos rfl]
   cases r with
   | cons b r =>
    constructor
    ·intro h; cases h
    ·rintro ⟨h1,_⟩; cases h1
   | nil =>
    dsimp only
    by_cases c:cnts v<=30
    ·rw [if_pos c]
     constructor
     ·intro h; cases h; exact ⟨rfl,ok.mpr cn,by omega,c⟩
     ·rintro ⟨h1,_⟩; cases h1; rfl
    ·rw [if_neg c]
     constructor
     ·intro h; cases h
     ·rintro ⟨h1,h2⟩; cases h1; exact absurd h2.2.2 c
noncomputable def ym1:Sp3:=λ ds μ Q=>∃ z:Str,ds=[.str z] /\ z.length<=3000 /\ ∀ p μ',(match due z with
 | some w=>μ' p=some (.lst [])->Q (.tup [.tup (encs w),.ref p]) μ'
 | none=>μ' p=some (.lst BL5)->Q (.tup [.non,.ref p]) μ')
theorem za3 (ds:List D) (μ:Mu) (Q:VK3) (h:ym1 ds μ Q):yg2 spMk zb1 { nx:=λ _ μ'=>Q .non μ',rt:=Q } (start3 tb2 ds) μ:=by
 obtain ⟨z,rfl,hl,q⟩:=h
 simp_arith [yg2,tb2,try3,wh2]
 refine ⟨by decide,λ p hp=>⟨z,rfl,hl,?_⟩⟩
 cases e:due z with
 | some w =>
  obtain ⟨e1,e2⟩:=(sc1 z w).mp e
  refine .inl ⟨w,e1,e2,λ μ' ex=>⟨by decide,?_⟩⟩
  have:=q p μ'
  rw [e] at this
  exact this (ex _ _ za0)
 | none =>
  refine .inr ⟨λ w h1 h2=>?_,λ μ' ex=>⟨by decide,rfl,λ r μ2 ex2 er=>⟨by decide,?_⟩⟩⟩
  ·have:=(sc1 z w).mpr ⟨h1,h2⟩
   rw [e] at this; cases this
  ·have:=q r μ2
   rw [e] at this
   exact this er
noncomputable def tt1:Sp3:=λ ds μ Q=>∃ nsT:List Int,ds=[.fls (nsT.map D.int)] /\ nsT.length<=63 /\ ∀ μ',Q (.bl true) μ'
theorem yr3 {w:List Dd} (h:deps w<=4) (μ:Mu) (K:VK3):neR (.tup (encs w)) (.tup (encs w)) μ K=K (.bl false) μ:=by
 have d1:datM μ (.tup (encs w))=some (.tuple (pes w)):=by simp only [datM,dat,wr0]
 have d2:(PyData.tuple (pes w)).depth<=64:=by have:=yr0 w; simp only [PyData.depth]; omega
 rw [so1 rfl d1 d1 d2 d2]
 simp [PyData.eqv,tc1]
theorem zr3 {p q:Addr} {μ:Mu} (h1:μ p=some (.lst [])) (h2:μ q=some (.lst [])) (K:VK3):neR (.ref p) (.ref q) μ K=K (.bl false) μ:=by
 have d1:∀ p,μ p=some (.lst [])->datM μ (.ref p)=some (.list []):=λ p h=>by simp only [datM,h,dats]
 rw [so1 rfl (d1 p h1) (d1 q h2) (by decide) (by decide)]
 rfl
theorem zz2 (ds:List D) (μ:Mu) (Q:VK3) (h:tt1 ds μ Q):sr2 (wb1 4) xh2 tg2 ug2 yv0 ym1 su0 { nx:=λ _ μ'=>Q .non μ',rt:=Q } (start3 zq2 ds) μ:=by
 obtain ⟨nsT,rfl,hn,q⟩:=h
 refine ⟨nsT,0,3,8,rfl,by decide,by decide,by decide,by decide,λ w μ1 e1 hc hd hs hw=>?_⟩
 refine ⟨w,rfl,⟨(vm1 w hs),by omega,by omega⟩,λ x μ2 e2 hx=>?_⟩
 have hx4:x.length<=400:=by omega
 refine ⟨⟨by decide,by decide⟩,?_⟩
 refine vq0 (λ l ρ μ'=>(∃ (m:Nat) (lo:Int),0<=lo /\ l=rngD lo m) /\ ∃ y2 y3 y4 y5,ρ=[some (.fls (nsT.map D.int)),some (.str x),y2,y3,y4,y5]) ?_ (λ _ _ _ _=>trivial) ?_ ?_
 ·exact ⟨⟨(4:Int).toNat,0,by decide,rfl⟩,none,none,none,none,rfl⟩
 ·rintro ρ μ' _
  exact q μ'
 ·rintro d rest ρ μ' ⟨⟨m,lo,h0,el⟩,y2,y3,y4,y5,rfl⟩
  cases m with
  | zero=>simp [rngD] at el
  | succ m =>
   rw [yn1] at el
   simp only [List.cons.injEq] at el
   obtain ⟨rfl,rfl⟩:=el
   refine ⟨nsT,1 + lo,rfl,by omega,λ a b p ha hp=>?_⟩
   refine ⟨p,a,b,x,rfl,za0,ha,hx4,λ t μ3 ht=>?_⟩
   refine ⟨t,rfl,ht,λ μ4 e4=>?_⟩
   refine ⟨t,rfl,ht,λ p5 μ5=>?_⟩
   cases ed:due t with
   | none =>
    intro e5
    refine ⟨p5,rfl,e5,λ μ6 e6=>?_⟩
    exact ⟨⟨m,lo + 1,by omega,rfl⟩,_,_,_,_,rfl⟩
   | some v =>
    intro e5
    have hv:=((sc1 t v).mp ed).2.2.1
    refine ⟨Nat.zero_le _,λ p6 hp6=>?_⟩
    have e6:updM μ5 p6 (.lst []) p5=some (.lst []):=by rw [xb0 (zb0 e5 hp6)]; exact e5
    show neR (.ref p5) (.ref p6) (updM μ5 p6 (.lst [])) (λ d μ1=>match d with
     | .bl c=>(if c=true then _ else _)
     | _=>False)
    rw [zr3 e6 za0]
    show neR (.tup (encs v)) (.tup (encs v)) (updM μ5 p6 (.lst [])) (λ d μ1=>match d with
     | .bl c=>(if c=true then _ else _)
     | _=>False)
    rw [yr3 hv]
    exact ⟨⟨m,lo + 1,by omega,rfl⟩,_,_,_,_,rfl⟩
end Pv
namespace Pv
open PySem PySem.Spec PyProof.Rows L2
theorem bn1 {P:List Value->Prop} (h:∀ a,P [a]) (us:List Value) (e:us.length=1):P us:=by
 match us,e with
 | [a],_=>exact h a
theorem bn2 {P:List Value->Prop} (h:∀ a b,P [a,b]) (us:List Value) (e:us.length=2):P us:=by
 match us,e with
 | [a,b],_=>exact h a b
theorem bn4 {P:List Value->Prop} (h:∀ a b c d,P [a,b,c,d]) (us:List Value) (e:us.length=4):P us:=by
 match us,e with
 | [a,b,c,d],_=>exact h a b c d
noncomputable abbrev NsR (K:Fg) (x:Str) (p:Addr):Prop:=PySem.W.nsIn K mainGlobals x=some (some (.ref p))
noncomputable def FnA (K:Fg) (x:Str) (st:Stmt) (p:Addr):Prop:=∃ oc od sl kV dc pm an cd ct,K.lookup p=some ⟨oc,od,.func (PySem.W.fnOf x x (zj0 st) (ub0 st) (wa0 st) .none kV dc pm an cd ct),sl⟩ /\ PySem.W.codeIn K cd x=true /\ PySem.W.keepIn K (.ref p)=true
theorem fnA_mk {K:Fg} {x:Str} {st:Stmt} {p:Addr} {oc kV dc pm cd ct:Value} {od an:Option Addr} {sl:Array (Option Value)} (l:K.lookup p=some ⟨oc,od,.func (PySem.W.fnOf x x (zj0 st) (ub0 st) (wa0 st) .none kV dc pm an cd ct),sl⟩) (c:PySem.W.codeIn K cd x=true) (k:PySem.W.keepIn K (.ref p)=true):FnA K x st p:=⟨_,_,_,_,_,_,_,_,_,l,c,k⟩
theorem FnA.fn {K:Fg} {x:Str} {st:Stmt} {p:Addr} (h:FnA K x st p):∃ fd,Fun K x x st p fd:=by
 obtain ⟨_,_,_,_,_,_,_,_,_,l,c,k⟩:=h
 exact ⟨_,td2 (st:=st) l c k⟩
theorem all_mk {l:PySem.W.OpenLaw} {w:World} {K:Fg} {h:Heap} {mg:Str->Option Value} {fa:Addr} (X:K.In h) (G:h.Ns mainGlobals mg) (hfa:mg "law" = some (.ref fa))
    {p_q16:Addr}
    {p_q17:Addr}
    {p_q18:Addr}
    {p_q15:Addr}
    {p_q25:Addr}
    {p_q22:Addr}
    {p_q24:Addr}
    {p_q21:Addr}
    {p_q29:Addr}
    {p_q27:Addr}
    {p_q28:Addr}
    {p_q26:Addr}
    {p_q23:Addr}
    {p_q14:Addr}
    {p_q19:Addr}
    {p_q0:Addr}
    {p_q11:Addr}
    {p_q1:Addr}
    {p_q13:Addr}
    {p_q3:Addr}
    {p_q5:Addr}
    {p_q9:Addr}
    {p_q6:Addr}
    {p_q8:Addr}
    {p_q2:Addr}
    {p_q4:Addr}
    {p_q7:Addr}
    {p_q10:Addr}
    {p_q12:Addr}
    {p_q20:Addr}
    {t_1:Tok}
    {t_2:Tok}
    {t_3:Tok}
    {t_4:Tok}
    {t_6:Tok}
    {t_7:Tok}
    {t_8:Tok}
    {q_5:Addr} {qo_5:Option Addr} {qn_5:Nat} {qs_5:Array (Option Value)}
    {t_10:Tok}
    {t_11:Tok}
    {q_9:Addr} {qo_9:Option Addr} {qn_9:Nat} {qs_9:Array (Option Value)}
    {t_12:Tok}
    {C_BadNote:Addr} {cdt_BadNote:ClassData}
    {C_NoNumber:Addr} {cdt_NoNumber:ClassData}
    {C_NoPicture:Addr} {cdt_NoPicture:ClassData}
    {C_NoRoom:Addr} {cdt_NoRoom:ClassData}
    {C_NoStep:Addr} {cdt_NoStep:ClassData}
    {C_NoWord:Addr} {cdt_NoWord:ClassData}
    {C_PenError:Addr} {cdt_PenError:ClassData}
    (a_q16:NsR K "check_word" p_q16) (A_q16:FnA K "check_word" ti1 p_q16)
    (a_q17:NsR K "checked_count" p_q17) (A_q17:FnA K "checked_count" ui1 p_q17)
    (a_q18:NsR K "checked_deed_count" p_q18) (A_q18:FnA K "checked_deed_count" vi1 p_q18)
    (a_q15:NsR K "check_number" p_q15) (A_q15:FnA K "check_number" si1 p_q15)
    (a_q25:NsR K "shown" p_q25) (A_q25:FnA K "shown" th1 p_q25)
    (a_q22:NsR K "marks_of" p_q22) (A_q22:FnA K "marks_of" yi1 p_q22)
    (a_q24:NsR K "read" p_q24) (A_q24:FnA K "read" sh1 p_q24)
    (a_q21:NsR K "marks_in" p_q21) (A_q21:FnA K "marks_in" zi1 p_q21)
    (a_q29:NsR K "take_word" p_q29) (A_q29:FnA K "take_word" zh1 p_q29)
    (a_q27:NsR K "take_deed" p_q27) (A_q27:FnA K "take_deed" vh1 p_q27)
    (a_q28:NsR K "take_mark" p_q28) (A_q28:FnA K "take_mark" wh1 p_q28)
    (a_q26:NsR K "take_bracket" p_q26) (A_q26:FnA K "take_bracket" uh1 p_q26)
    (a_q23:NsR K "number_of" p_q23) (A_q23:FnA K "number_of" xi1 p_q23)
    (a_q14:NsR K "are_figures" p_q14) (A_q14:FnA K "are_figures" xj1 p_q14)
    (a_q19:NsR K "has_needless" p_q19) (A_q19:FnA K "has_needless" wi1 p_q19)
    (a_q0:NsR K "_law_cell_at" p_q0) (A_q0:FnA K "_law_cell_at" s_q0 p_q0)
    (a_q11:NsR K "_law_state" p_q11) (A_q11:FnA K "_law_state" wj1 p_q11)
    (a_q1:NsR K "_law_choice" p_q1) (A_q1:FnA K "_law_choice" s_q1 p_q1)
    (a_q13:NsR K "_law_word" p_q13) (A_q13:FnA K "_law_word" yj1 p_q13)
    (a_q3:NsR K "_law_drawn_word" p_q3) (A_q3:FnA K "_law_drawn_word" s_q3 p_q3)
    (a_q5:NsR K "_law_marks" p_q5) (A_q5:FnA K "_law_marks" s_q5 p_q5)
    (a_q9:NsR K "_law_refused" p_q9) (A_q9:FnA K "_law_refused" s_q9 p_q9)
    (a_q6:NsR K "_law_number" p_q6) (A_q6:FnA K "_law_number" s_q6 p_q6)
    (a_q8:NsR K "_law_parts_read" p_q8) (A_q8:FnA K "_law_parts_read" s_q8 p_q8)
    (a_q2:NsR K "_law_count" p_q2) (A_q2:FnA K "_law_count" s_q2 p_q2)
    (a_q4:NsR K "_law_due" p_q4) (A_q4:FnA K "_law_due" s_q4 p_q4)
    (a_q7:NsR K "_law_odd" p_q7) (A_q7:FnA K "_law_odd" s_q7 p_q7)
    (a_q10:NsR K "_law_spoilt" p_q10) (A_q10:FnA K "_law_spoilt" vj1 p_q10)
    (a_q12:NsR K "_law_told" p_q12) (A_q12:FnA K "_law_told" zj1 p_q12)
    (a_q20:NsR K "law" p_q20) (A_q20:FnA K "law" zs0 p_q20)
    (e_MOST_DEEDS:PySem.W.nsIn K mainGlobals "MOST_DEEDS" = some (some (.int (30) t_1)))
    (e_MOST_DEEP:PySem.W.nsIn K mainGlobals "MOST_DEEP" = some (some (.int (4) t_2)))
    (e_MOST_FIGURES:PySem.W.nsIn K mainGlobals "MOST_FIGURES" = some (some (.int (20) t_3)))
    (e_GREATEST_NUMBER:PySem.W.nsIn K mainGlobals "GREATEST_NUMBER" = some (some (.int (99999999999999999999) t_4)))
    (e_PLAIN_KINDS:PySem.W.nsIn K mainGlobals "PLAIN_KINDS" = some (some (.ref q_5)))
    (ql_5:K.lookup q_5=some ⟨.type "tuple",qo_5,.seq #[.str "go" t_6,.str "jump" t_7,.str "turn" t_8] qn_5,qs_5⟩)
    (e_KINDS_FROM_NOUGHT:PySem.W.nsIn K mainGlobals "KINDS_FROM_NOUGHT" = some (some (.ref q_9)))
    (ql_9:K.lookup q_9=some ⟨.type "tuple",qo_9,.seq #[.str "go" t_10,.str "times" t_11] qn_9,qs_9⟩)
    (e_FIGURES:PySem.W.nsIn K mainGlobals "FIGURES" = some (some (.str "0123456789" t_12)))
    (ac_BadNote:PySem.W.nsIn K mainGlobals "BadNote" = some (some (.ref C_BadNote)))
    (cl_BadNote:PySem.W.clsIn K C_BadNote=some cdt_BadNote)
    (tc_BadNote:PySem.W.typeIn K (.ref C_BadNote)=some (.type "type"))
    (ac_NoNumber:PySem.W.nsIn K mainGlobals "NoNumber" = some (some (.ref C_NoNumber)))
    (cl_NoNumber:PySem.W.clsIn K C_NoNumber=some cdt_NoNumber)
    (tc_NoNumber:PySem.W.typeIn K (.ref C_NoNumber)=some (.type "type"))
    (ac_NoPicture:PySem.W.nsIn K mainGlobals "NoPicture" = some (some (.ref C_NoPicture)))
    (cl_NoPicture:PySem.W.clsIn K C_NoPicture=some cdt_NoPicture)
    (tc_NoPicture:PySem.W.typeIn K (.ref C_NoPicture)=some (.type "type"))
    (ac_NoRoom:PySem.W.nsIn K mainGlobals "NoRoom" = some (some (.ref C_NoRoom)))
    (cl_NoRoom:PySem.W.clsIn K C_NoRoom=some cdt_NoRoom)
    (tc_NoRoom:PySem.W.typeIn K (.ref C_NoRoom)=some (.type "type"))
    (ac_NoStep:PySem.W.nsIn K mainGlobals "NoStep" = some (some (.ref C_NoStep)))
    (cl_NoStep:PySem.W.clsIn K C_NoStep=some cdt_NoStep)
    (tc_NoStep:PySem.W.typeIn K (.ref C_NoStep)=some (.type "type"))
    (ac_NoWord:PySem.W.nsIn K mainGlobals "NoWord" = some (some (.ref C_NoWord)))
    (cl_NoWord:PySem.W.clsIn K C_NoWord=some cdt_NoWord)
    (tc_NoWord:PySem.W.typeIn K (.ref C_NoWord)=some (.type "type"))
    (ac_PenError:PySem.W.nsIn K mainGlobals "PenError" = some (some (.ref C_PenError)))
    (cl_PenError:PySem.W.clsIn K C_PenError=some cdt_PenError)
    (tc_PenError:PySem.W.typeIn K (.ref C_PenError)=some (.type "type"))
    (q_BadNote:PySem.W.excIn K C_BadNote [.type "ValueError",.type "Exception",.type "BaseException",.type "object"] "ValueError.__new__" = true)
    (ek0_BadNote:PySem.W.findIn K (.ref C_BadNote) "__getattribute__" = some (some (.builtin "BaseException.__getattribute__")))
    (ek1_BadNote:PySem.W.findIn K (.ref C_BadNote) "__getattr__" = some none)
    (ek2_BadNote:PySem.W.mroIn K C_BadNote (.type "BaseException")=some true)
    (ek4_BadNote:PySem.W.findIn K (.ref C_BadNote) "__class__" = some (some (.builtin "object.__class__")))
    (ek5_BadNote:PySem.W.specialIn K (.builtin "object.__class__") "__get__" = some (some (.builtin "getset_descriptor.__get__")))
    (ek6_BadNote:PySem.W.takesIn K (.builtin "object.__class__")=some true)
    (ek7_BadNote:PySem.W.mroIn K C_BadNote (.type "object")=some true)
    (q_NoWord:PySem.W.excIn K C_NoWord [.type "ValueError",.type "Exception",.type "BaseException",.type "object"] "ValueError.__new__" = true)
    (ek0_NoWord:PySem.W.findIn K (.ref C_NoWord) "__getattribute__" = some (some (.builtin "BaseException.__getattribute__")))
    (ek1_NoWord:PySem.W.findIn K (.ref C_NoWord) "__getattr__" = some none)
    (ek2_NoWord:PySem.W.mroIn K C_NoWord (.type "BaseException")=some true)
    (ek4_NoWord:PySem.W.findIn K (.ref C_NoWord) "__class__" = some (some (.builtin "object.__class__")))
    (ek5_NoWord:PySem.W.specialIn K (.builtin "object.__class__") "__get__" = some (some (.builtin "getset_descriptor.__get__")))
    (ek6_NoWord:PySem.W.takesIn K (.builtin "object.__class__")=some true)
    (ek7_NoWord:PySem.W.mroIn K C_NoWord (.type "object")=some true)
    (sb_NoWord_BadNote:PySem.W.subIn K (.ref C_NoWord) (.ref C_BadNote)=some false)
    (ne_NoWord_BadNote:(Value.ref C_NoWord == Value.ref C_BadNote)=false)
    (sb_BadNote_NoNumber:PySem.W.subIn K (.ref C_BadNote) (.ref C_NoNumber)=some false)
    (ne_BadNote_NoNumber:(Value.ref C_BadNote == Value.ref C_NoNumber)=false)
    (sb_NoWord_NoNumber:PySem.W.subIn K (.ref C_NoWord) (.ref C_NoNumber)=some false)
    (ne_NoWord_NoNumber:(Value.ref C_NoWord == Value.ref C_NoNumber)=false)
    (sb_BadNote_NoPicture:PySem.W.subIn K (.ref C_BadNote) (.ref C_NoPicture)=some false)
    (ne_BadNote_NoPicture:(Value.ref C_BadNote == Value.ref C_NoPicture)=false)
    (sb_NoWord_NoPicture:PySem.W.subIn K (.ref C_NoWord) (.ref C_NoPicture)=some false)
    (ne_NoWord_NoPicture:(Value.ref C_NoWord == Value.ref C_NoPicture)=false)
    (sb_BadNote_NoRoom:PySem.W.subIn K (.ref C_BadNote) (.ref C_NoRoom)=some false)
    (ne_BadNote_NoRoom:(Value.ref C_BadNote == Value.ref C_NoRoom)=false)
    (sb_NoWord_NoRoom:PySem.W.subIn K (.ref C_NoWord) (.ref C_NoRoom)=some false)
    (ne_NoWord_NoRoom:(Value.ref C_NoWord == Value.ref C_NoRoom)=false)
    (sb_BadNote_NoStep:PySem.W.subIn K (.ref C_BadNote) (.ref C_NoStep)=some false)
    (ne_BadNote_NoStep:(Value.ref C_BadNote == Value.ref C_NoStep)=false)
    (sb_NoWord_NoStep:PySem.W.subIn K (.ref C_NoWord) (.ref C_NoStep)=some false)
    (ne_NoWord_NoStep:(Value.ref C_NoWord == Value.ref C_NoStep)=false)
    (sb_BadNote_NoWord:PySem.W.subIn K (.ref C_BadNote) (.ref C_NoWord)=some false)
    (ne_BadNote_NoWord:(Value.ref C_BadNote == Value.ref C_NoWord)=false)
    (sb_BadNote_ValueError:PySem.W.subIn K (.ref C_BadNote) (.type "ValueError")=some true)
    (sb_NoWord_ValueError:PySem.W.subIn K (.ref C_NoWord) (.type "ValueError")=some true)
    (k3s:PySem.W.subIn K (.type "type") (.type "tuple")=some false)
    (k2s_PenError:PySem.W.subIn K (.ref C_PenError) (.type "BaseException")=some true)
    (sb_BadNote_PenError:PySem.W.subIn K (.ref C_BadNote) (.ref C_PenError)=some true)
    (sb_NoWord_PenError:PySem.W.subIn K (.ref C_NoWord) (.ref C_PenError)=some true)
    (k2s_NoWord:PySem.W.subIn K (.ref C_NoWord) (.type "BaseException")=some true)
    (sb_NoWord_NoWord:PySem.W.subIn K (.ref C_NoWord) (.ref C_NoWord)=some true)
    (zz_ValueError:PySem.W.nsIn K mainGlobals "ValueError" = some none)
    (zz_abs:PySem.W.nsIn K mainGlobals "abs" = some none)
    (zz_all:PySem.W.nsIn K mainGlobals "all" = some none)
    (zz_int:PySem.W.nsIn K mainGlobals "int" = some none)
    (zz_isinstance:PySem.W.nsIn K mainGlobals "isinstance" = some none)
    (zz_len:PySem.W.nsIn K mainGlobals "len" = some none)
    (zz_list:PySem.W.nsIn K mainGlobals "list" = some none)
    (zz_range:PySem.W.nsIn K mainGlobals "range" = some none)
    (zz_reversed:PySem.W.nsIn K mainGlobals "reversed" = some none)
    (zz_str:PySem.W.nsIn K mainGlobals "str" = some none)
    (zz_tuple:PySem.W.nsIn K mainGlobals "tuple" = some none) :
    ∃ fd:FuncData,(∀ (s:Shared) (v:Value),BindsTo s fd ⟨[v],[]⟩ [("script",v)]) /\ ∀ base:Heap,K.In base->base.Ns mainGlobals mg->FnOk l.prog w K mg base CX0 16 fa fd ["script"] (lift K tt1):=by
 have e:=hfa.symm.trans (PySem.W.mg_of X G a_q20)
 cases e
 have g_MOST_DEEDS:Gd K mg "MOST_DEEDS" yj0:=zg1 X G e_MOST_DEEDS
 have g_MOST_DEEP:Gd K mg "MOST_DEEP" yh0:=zg1 X G e_MOST_DEEP
 have g_MOST_FIGURES:Gd K mg "MOST_FIGURES" zg0:=zg1 X G e_MOST_FIGURES
 have g_GREATEST_NUMBER:Gd K mg "GREATEST_NUMBER" sf0:=zg1 X G e_GREATEST_NUMBER
 have g_PLAIN_KINDS:Gd K mg "PLAIN_KINDS" wf0:=ud2 X G e_PLAIN_KINDS (TupK.mk ql_5 (show 3<=sizeLine by decide) (.str (.str (.str .nil))))
 have g_KINDS_FROM_NOUGHT:Gd K mg "KINDS_FROM_NOUGHT" zf0:=ud2 X G e_KINDS_FROM_NOUGHT (TupK.mk ql_9 (show 2<=sizeLine by decide) (.str (.str .nil)))
 have g_FIGURES:Gd K mg "FIGURES" sl0:=yh3 X G e_FIGURES
 have m_BadNote:=PySem.W.mg_of X G ac_BadNote
 have m_NoNumber:=PySem.W.mg_of X G ac_NoNumber
 have m_NoPicture:=PySem.W.mg_of X G ac_NoPicture
 have m_NoRoom:=PySem.W.mg_of X G ac_NoRoom
 have m_NoStep:=PySem.W.mg_of X G ac_NoStep
 have m_NoWord:=PySem.W.mg_of X G ac_NoWord
 have m_PenError:=PySem.W.mg_of X G ac_PenError
 have EK_BadNote:ExcK K C_BadNote:=⟨ek0_BadNote,ek1_BadNote,ek2_BadNote,(by rw [cl_BadNote]; rfl),ek4_BadNote,ek5_BadNote,ek6_BadNote,ek7_BadNote⟩
 have EK_NoWord:ExcK K C_NoWord:=⟨ek0_NoWord,ek1_NoWord,ek2_NoWord,(by rw [cl_NoWord]; rfl),ek4_NoWord,ek5_NoWord,ek6_NoWord,ek7_NoWord⟩
 have kk_BadNote_BadNote:PySem.W.kitOne K (.ref C_BadNote) (.ref C_BadNote)=some true:=yz0
 have kk_NoWord_BadNote:PySem.W.kitOne K (.ref C_NoWord) (.ref C_BadNote)=some false:=vg0 ne_NoWord_BadNote (xe0 cl_BadNote tc_BadNote sb_NoWord_BadNote)
 have x_BadNote:∀ c C b,subX "BadNote" c=some b->PySem.W.nsIn K mainGlobals c=some (some (.ref C))->ExcK K C /\ PySem.W.kitOne K (.ref C) (.ref C_BadNote)=some b:=by
  intro c C b hs hn
  have hin:=yk0 hs
  simp only [xnames,List.mem_cons,List.not_mem_nil,or_false] at hin
  rcases hin with rfl | rfl
  ·rw [ac_BadNote] at hn
   cases hn
   rw [show subX "BadNote" "BadNote" = some true by decide] at hs
   cases hs
   exact ⟨EK_BadNote,kk_BadNote_BadNote⟩
  ·rw [ac_NoWord] at hn
   cases hn
   rw [show subX "BadNote" "NoWord" = some false by decide] at hs
   cases hs
   exact ⟨EK_NoWord,kk_NoWord_BadNote⟩
 have kk_BadNote_NoNumber:PySem.W.kitOne K (.ref C_BadNote) (.ref C_NoNumber)=some false:=vg0 ne_BadNote_NoNumber (xe0 cl_NoNumber tc_NoNumber sb_BadNote_NoNumber)
 have kk_NoWord_NoNumber:PySem.W.kitOne K (.ref C_NoWord) (.ref C_NoNumber)=some false:=vg0 ne_NoWord_NoNumber (xe0 cl_NoNumber tc_NoNumber sb_NoWord_NoNumber)
 have x_NoNumber:∀ c C b,subX "NoNumber" c=some b->PySem.W.nsIn K mainGlobals c=some (some (.ref C))->ExcK K C /\ PySem.W.kitOne K (.ref C) (.ref C_NoNumber)=some b:=by
  intro c C b hs hn
  have hin:=yk0 hs
  simp only [xnames,List.mem_cons,List.not_mem_nil,or_false] at hin
  rcases hin with rfl | rfl
  ·rw [ac_BadNote] at hn
   cases hn
   rw [show subX "NoNumber" "BadNote" = some false by decide] at hs
   cases hs
   exact ⟨EK_BadNote,kk_BadNote_NoNumber⟩
  ·rw [ac_NoWord] at hn
   cases hn
   rw [show subX "NoNumber" "NoWord" = some false by decide] at hs
   cases hs
   exact ⟨EK_NoWord,kk_NoWord_NoNumber⟩
 have kk_BadNote_NoPicture:PySem.W.kitOne K (.ref C_BadNote) (.ref C_NoPicture)=some false:=vg0 ne_BadNote_NoPicture (xe0 cl_NoPicture tc_NoPicture sb_BadNote_NoPicture)
 have kk_NoWord_NoPicture:PySem.W.kitOne K (.ref C_NoWord) (.ref C_NoPicture)=some false:=vg0 ne_NoWord_NoPicture (xe0 cl_NoPicture tc_NoPicture sb_NoWord_NoPicture)
 have x_NoPicture:∀ c C b,subX "NoPicture" c=some b->PySem.W.nsIn K mainGlobals c=some (some (.ref C))->ExcK K C /\ PySem.W.kitOne K (.ref C) (.ref C_NoPicture)=some b:=by
  intro c C b hs hn
  have hin:=yk0 hs
  simp only [xnames,List.mem_cons,List.not_mem_nil,or_false] at hin
  rcases hin with rfl | rfl
  ·rw [ac_BadNote] at hn
   cases hn
   rw [show subX "NoPicture" "BadNote" = some false by decide] at hs
   cases hs
   exact ⟨EK_BadNote,kk_BadNote_NoPicture⟩
  ·rw [ac_NoWord] at hn
   cases hn
   rw [show subX "NoPicture" "NoWord" = some false by decide] at hs
   cases hs
   exact ⟨EK_NoWord,kk_NoWord_NoPicture⟩
 have kk_BadNote_NoRoom:PySem.W.kitOne K (.ref C_BadNote) (.ref C_NoRoom)=some false:=vg0 ne_BadNote_NoRoom (xe0 cl_NoRoom tc_NoRoom sb_BadNote_NoRoom)
 have kk_NoWord_NoRoom:PySem.W.kitOne K (.ref C_NoWord) (.ref C_NoRoom)=some false:=vg0 ne_NoWord_NoRoom (xe0 cl_NoRoom tc_NoRoom sb_NoWord_NoRoom)
 have x_NoRoom:∀ c C b,subX "NoRoom" c=some b->PySem.W.nsIn K mainGlobals c=some (some (.ref C))->ExcK K C /\ PySem.W.kitOne K (.ref C) (.ref C_NoRoom)=some b:=by
  intro c C b hs hn
  have hin:=yk0 hs
  simp only [xnames,List.mem_cons,List.not_mem_nil,or_false] at hin
  rcases hin with rfl | rfl
  ·rw [ac_BadNote] at hn
   cases hn
   rw [show subX "NoRoom" "BadNote" = some false by decide] at hs
   cases hs
   exact ⟨EK_BadNote,kk_BadNote_NoRoom⟩
  ·rw [ac_NoWord] at hn
   cases hn
   rw [show subX "NoRoom" "NoWord" = some false by decide] at hs
   cases hs
   exact ⟨EK_NoWord,kk_NoWord_NoRoom⟩
 have kk_BadNote_NoStep:PySem.W.kitOne K (.ref C_BadNote) (.ref C_NoStep)=some false:=vg0 ne_BadNote_NoStep (xe0 cl_NoStep tc_NoStep sb_BadNote_NoStep)
 have kk_NoWord_NoStep:PySem.W.kitOne K (.ref C_NoWord) (.ref C_NoStep)=some false:=vg0 ne_NoWord_NoStep (xe0 cl_NoStep tc_NoStep sb_NoWord_NoStep)
 have x_NoStep:∀ c C b,subX "NoStep" c=some b->PySem.W.nsIn K mainGlobals c=some (some (.ref C))->ExcK K C /\ PySem.W.kitOne K (.ref C) (.ref C_NoStep)=some b:=by
  intro c C b hs hn
  have hin:=yk0 hs
  simp only [xnames,List.mem_cons,List.not_mem_nil,or_false] at hin
  rcases hin with rfl | rfl
  ·rw [ac_BadNote] at hn
   cases hn
   rw [show subX "NoStep" "BadNote" = some false by decide] at hs
   cases hs
   exact ⟨EK_BadNote,kk_BadNote_NoStep⟩
  ·rw [ac_NoWord] at hn
   cases hn
   rw [show subX "NoStep" "NoWord" = some false by decide] at hs
   cases hs
   exact ⟨EK_NoWord,kk_NoWord_NoStep⟩
 have kk_BadNote_NoWord:PySem.W.kitOne K (.ref C_BadNote) (.ref C_NoWord)=some false:=vg0 ne_BadNote_NoWord (xe0 cl_NoWord tc_NoWord sb_BadNote_NoWord)
 have kk_NoWord_NoWord:PySem.W.kitOne K (.ref C_NoWord) (.ref C_NoWord)=some true:=yz0
 have x_NoWord:∀ c C b,subX "NoWord" c=some b->PySem.W.nsIn K mainGlobals c=some (some (.ref C))->ExcK K C /\ PySem.W.kitOne K (.ref C) (.ref C_NoWord)=some b:=by
  intro c C b hs hn
  have hin:=yk0 hs
  simp only [xnames,List.mem_cons,List.not_mem_nil,or_false] at hin
  rcases hin with rfl | rfl
  ·rw [ac_BadNote] at hn
   cases hn
   rw [show subX "NoWord" "BadNote" = some false by decide] at hs
   cases hs
   exact ⟨EK_BadNote,kk_BadNote_NoWord⟩
  ·rw [ac_NoWord] at hn
   cases hn
   rw [show subX "NoWord" "NoWord" = some true by decide] at hs
   cases hs
   exact ⟨EK_NoWord,kk_NoWord_NoWord⟩
 have kk_BadNote_ValueError:PySem.W.kitOne K (.ref C_BadNote) (.type "ValueError")=some true:=vg0 rfl (zq0 (by decide +kernel) sb_BadNote_ValueError)
 have kk_NoWord_ValueError:PySem.W.kitOne K (.ref C_NoWord) (.type "ValueError")=some true:=vg0 rfl (zq0 (by decide +kernel) sb_NoWord_ValueError)
 have x_ValueError:∀ c C b,subX "ValueError" c=some b->PySem.W.nsIn K mainGlobals c=some (some (.ref C))->ExcK K C /\ PySem.W.kitOne K (.ref C) (.type "ValueError")=some b:=by
  intro c C b hs hn
  have hin:=yk0 hs
  simp only [xnames,List.mem_cons,List.not_mem_nil,or_false] at hin
  rcases hin with rfl | rfl
  ·rw [ac_BadNote] at hn
   cases hn
   rw [show subX "ValueError" "BadNote" = some true by decide] at hs
   cases hs
   exact ⟨EK_BadNote,kk_BadNote_ValueError⟩
  ·rw [ac_NoWord] at hn
   cases hn
   rw [show subX "ValueError" "NoWord" = some true by decide] at hs
   cases hs
   exact ⟨EK_NoWord,kk_NoWord_ValueError⟩
 have k3:PySem.W.kitCls K (.type "type") (.type "tuple")=some false:=zq0 (by decide +kernel) k3s
 have k2_PenError:=zq0 (T := "BaseException") (by decide +kernel) k2s_PenError
 have kc_BadNote_PenError:=xe0 cl_PenError tc_PenError sb_BadNote_PenError
 have kc_NoWord_PenError:=xe0 cl_PenError tc_PenError sb_NoWord_PenError
 have ok_PenError:∀ c,okX c=true->∃ C,PySem.W.nsIn K mainGlobals c=some (some (.ref C)) /\ mg c=some (.ref C) /\ PySem.W.kitCls K (.ref C) (.ref C_PenError)=some true:=by
  intro c h
  have hin:c ∈ xnames:=by simpa [okX] using h
  simp only [xnames,List.mem_cons,List.not_mem_nil,or_false] at hin
  rcases hin with rfl | rfl
  ·exact ⟨C_BadNote,ac_BadNote,m_BadNote,kc_BadNote_PenError⟩
  ·exact ⟨C_NoWord,ac_NoWord,m_NoWord,kc_NoWord_PenError⟩
 have k2_NoWord:=zq0 (T := "BaseException") (by decide +kernel) k2s_NoWord
 have kc_NoWord_NoWord:=xe0 cl_NoWord tc_NoWord sb_NoWord_NoWord
 have k4_NoWord:=kc_NoWord_NoWord
 have z_ValueError:=PySem.W.mg_none_of X G zz_ValueError
 have z_abs:=PySem.W.mg_none_of X G zz_abs
 have z_all:=PySem.W.mg_none_of X G zz_all
 have z_int:=PySem.W.mg_none_of X G zz_int
 have z_isinstance:=PySem.W.mg_none_of X G zz_isinstance
 have z_len:=PySem.W.mg_none_of X G zz_len
 have z_list:=PySem.W.mg_none_of X G zz_list
 have z_range:=PySem.W.mg_none_of X G zz_range
 have z_reversed:=PySem.W.mg_none_of X G zz_reversed
 have z_str:=PySem.W.mg_none_of X G zz_str
 have z_tuple:=PySem.W.mg_none_of X G zz_tuple
 obtain ⟨_,F_q16⟩:=A_q16.fn
 have b_q16:=F_q16.binds (ps:=["word"]) λ _ _ _ _ _ _=>bn1 λ _=>rfl
 have m_q16:=PySem.W.mg_of X G a_q16
 obtain ⟨_,F_q17⟩:=A_q17.fn
 have b_q17:=F_q17.binds (ps:=["word", "depth"]) λ _ _ _ _ _ _=>bn2 λ _ _=>rfl
 have m_q17:=PySem.W.mg_of X G a_q17
 obtain ⟨_,F_q18⟩:=A_q18.fn
 have b_q18:=F_q18.binds (ps:=["deed", "depth"]) λ _ _ _ _ _ _=>bn2 λ _ _=>rfl
 have m_q18:=PySem.W.mg_of X G a_q18
 obtain ⟨_,F_q15⟩:=A_q15.fn
 have b_q15:=F_q15.binds (ps:=["kind", "number"]) λ _ _ _ _ _ _=>bn2 λ _ _=>rfl
 have m_q15:=PySem.W.mg_of X G a_q15
 obtain ⟨_,F_q25⟩:=A_q25.fn
 have b_q25:=F_q25.binds (ps:=["word"]) λ _ _ _ _ _ _=>bn1 λ _=>rfl
 have m_q25:=PySem.W.mg_of X G a_q25
 obtain ⟨_,F_q22⟩:=A_q22.fn
 have b_q22:=F_q22.binds (ps:=["word"]) λ _ _ _ _ _ _=>bn1 λ _=>rfl
 have m_q22:=PySem.W.mg_of X G a_q22
 obtain ⟨_,F_q24⟩:=A_q24.fn
 have b_q24:=F_q24.binds (ps:=["text"]) λ _ _ _ _ _ _=>bn1 λ _=>rfl
 have m_q24:=PySem.W.mg_of X G a_q24
 obtain ⟨_,F_q21⟩:=A_q21.fn
 have b_q21:=F_q21.binds (ps:=["text"]) λ _ _ _ _ _ _=>bn1 λ _=>rfl
 have m_q21:=PySem.W.mg_of X G a_q21
 obtain ⟨_,F_q29⟩:=A_q29.fn
 have b_q29:=F_q29.binds (ps:=["marks", "depth"]) λ _ _ _ _ _ _=>bn2 λ _ _=>rfl
 have m_q29:=PySem.W.mg_of X G a_q29
 obtain ⟨_,F_q27⟩:=A_q27.fn
 have b_q27:=F_q27.binds (ps:=["marks", "depth"]) λ _ _ _ _ _ _=>bn2 λ _ _=>rfl
 have m_q27:=PySem.W.mg_of X G a_q27
 obtain ⟨_,F_q28⟩:=A_q28.fn
 have b_q28:=F_q28.binds (ps:=["marks"]) λ _ _ _ _ _ _=>bn1 λ _=>rfl
 have m_q28:=PySem.W.mg_of X G a_q28
 obtain ⟨_,F_q26⟩:=A_q26.fn
 have b_q26:=F_q26.binds (ps:=["marks", "bracket"]) λ _ _ _ _ _ _=>bn2 λ _ _=>rfl
 have m_q26:=PySem.W.mg_of X G a_q26
 obtain ⟨_,F_q23⟩:=A_q23.fn
 have b_q23:=F_q23.binds (ps:=["mark"]) λ _ _ _ _ _ _=>bn1 λ _=>rfl
 have m_q23:=PySem.W.mg_of X G a_q23
 obtain ⟨_,F_q14⟩:=A_q14.fn
 have b_q14:=F_q14.binds (ps:=["text"]) λ _ _ _ _ _ _=>bn1 λ _=>rfl
 have m_q14:=PySem.W.mg_of X G a_q14
 obtain ⟨_,F_q19⟩:=A_q19.fn
 have b_q19:=F_q19.binds (ps:=["mark", "figures"]) λ _ _ _ _ _ _=>bn2 λ _ _=>rfl
 have m_q19:=PySem.W.mg_of X G a_q19
 obtain ⟨_,F_q0⟩:=A_q0.fn
 have b_q0:=F_q0.binds (ps:=["script", "k"]) λ _ _ _ _ _ _=>bn2 λ _ _=>rfl
 have m_q0:=PySem.W.mg_of X G a_q0
 obtain ⟨_,F_q11⟩:=A_q11.fn
 have b_q11:=F_q11.binds (ps:=["script", "k"]) λ _ _ _ _ _ _=>bn2 λ _ _=>rfl
 have m_q11:=PySem.W.mg_of X G a_q11
 obtain ⟨_,F_q1⟩:=A_q1.fn
 have b_q1:=F_q1.binds (ps:=["state", "many"]) λ _ _ _ _ _ _=>bn2 λ _ _=>rfl
 have m_q1:=PySem.W.mg_of X G a_q1
 obtain ⟨_,F_q13⟩:=A_q13.fn
 have b_q13:=F_q13.binds (ps:=["state", "deep"]) λ _ _ _ _ _ _=>bn2 λ _ _=>rfl
 have m_q13:=PySem.W.mg_of X G a_q13
 obtain ⟨_,F_q3⟩:=A_q3.fn
 have b_q3:=F_q3.binds (ps:=["script", "k", "deep", "most"]) λ _ _ _ _ _ _=>bn4 λ _ _ _ _=>rfl
 have m_q3:=PySem.W.mg_of X G a_q3
 obtain ⟨_,F_q5⟩:=A_q5.fn
 have b_q5:=F_q5.binds (ps:=["e"]) λ _ _ _ _ _ _=>bn1 λ _=>rfl
 have m_q5:=PySem.W.mg_of X G a_q5
 obtain ⟨_,F_q9⟩:=A_q9.fn
 have b_q9:=F_q9.binds (ps:=["marks", "which"]) λ _ _ _ _ _ _=>bn2 λ _ _=>rfl
 have m_q9:=PySem.W.mg_of X G a_q9
 obtain ⟨_,F_q6⟩:=A_q6.fn
 have b_q6:=F_q6.binds (ps:=["text", "least"]) λ _ _ _ _ _ _=>bn2 λ _ _=>rfl
 have m_q6:=PySem.W.mg_of X G a_q6
 obtain ⟨_,F_q8⟩:=A_q8.fn
 have b_q8:=F_q8.binds (ps:=["parts", "deep"]) λ _ _ _ _ _ _=>bn2 λ _ _=>rfl
 have m_q8:=PySem.W.mg_of X G a_q8
 obtain ⟨_,F_q2⟩:=A_q2.fn
 have b_q2:=F_q2.binds (ps:=["deeds"]) λ _ _ _ _ _ _=>bn1 λ _=>rfl
 have m_q2:=PySem.W.mg_of X G a_q2
 obtain ⟨_,F_q4⟩:=A_q4.fn
 have b_q4:=F_q4.binds (ps:=["text"]) λ _ _ _ _ _ _=>bn1 λ _=>rfl
 have m_q4:=PySem.W.mg_of X G a_q4
 obtain ⟨_,F_q7⟩:=A_q7.fn
 have b_q7:=F_q7.binds (ps:=["state"]) λ _ _ _ _ _ _=>bn1 λ _=>rfl
 have m_q7:=PySem.W.mg_of X G a_q7
 obtain ⟨_,F_q10⟩:=A_q10.fn
 have b_q10:=F_q10.binds (ps:=["state", "text"]) λ _ _ _ _ _ _=>bn2 λ _ _=>rfl
 have m_q10:=PySem.W.mg_of X G a_q10
 obtain ⟨_,F_q12⟩:=A_q12.fn
 have b_q12:=F_q12.binds (ps:=["text"]) λ _ _ _ _ _ _=>bn1 λ _=>rfl
 have m_q12:=PySem.W.mg_of X G a_q12
 obtain ⟨_,_,_,kV_q20,dc_q20,pm_q20,an_q20,cd_q20,ct_q20,l_q20,c_q20,k_q20⟩:=A_q20
 have F_q20:=td2 (st:=zs0) l_q20 c_q20 k_q20
 have b_q20:=F_q20.binds (ps:=["script"]) λ _ _ _ _ _ _=>bn1 λ _=>rfl
 have m_q20:=PySem.W.mg_of X G a_q20
 refine ⟨PySem.W.fnOf "law" "law" (zj0 zs0) (ub0 zs0) (wa0 zs0) .none kV_q20 dc_q20 pm_q20 an_q20 cd_q20 ct_q20,λ s v=>.of_eq rfl,λ base KB GB=>?_⟩
 have O_BadNote:=tc2 KB GB ac_BadNote q_BadNote
 have O_NoWord:=tc2 KB GB ac_NoWord q_NoWord
 have h_q15:CalX l.prog w K mg base (1) "check_number" ["kind", "number"] sl1:=zh0 F_q15 m_q15 b_q15 vu2 (by rintro _ _ _ _ ⟨_,_,rfl,_⟩; rfl) (k:=0) (λ cdv A outer s H E XE hr EX=>tw2 EX O_NoWord z_abs z_int z_isinstance g_GREATEST_NUMBER g_KINDS_FROM_NOUGHT hr) sz2
 have step_q17:∀ j,CalX l.prog w K mg base (2 * j + 1) "checked_deed_count" ["deed", "depth"] (xv0 j)->CalX l.prog w K mg base (2 * j + 1 + 1) "checked_count" ["word", "depth"] (vo0 j):=λ j ih=>zh0 F_q17 m_q17 b_q17 sc_q17 (by rintro _ _ _ _ ⟨_,_,rfl,_⟩; rfl) (k:=2 * j + 1) (λ cdv A outer s H E XE hr EX=>vw2 EX ih (Nat.le_refl _) O_NoWord z_isinstance z_tuple g_MOST_DEEDS g_MOST_DEEP hr) (uz2 j)
 have fam_q17:∀ j,CalX l.prog w K mg base (2 * j + 1) "checked_deed_count" ["deed", "depth"] (xv0 j):=λ j=>by
  induction j with
  | zero=>exact (xa1 F_q18 m_q18 b_q18 (by intro XE ds μ Q h; first | (obtain ⟨_,_,h⟩:=h; omega) | (obtain ⟨_,_,_,h⟩:=h; omega) | (obtain ⟨_,_,_,_,h⟩:=h; omega))).mono (by omega)
  | succ j ih=>exact (zh0 F_q18 m_q18 b_q18 zu2 (by rintro _ _ _ _ ⟨_,_,rfl,_⟩; rfl) (k:=2 * j + 1 + 1) (λ cdv A outer s H E XE hr EX=>ww2 EX h_q15 (by omega) (step_q17 j ih) (Nat.le_refl _) O_NoWord z_isinstance z_len z_tuple g_PLAIN_KINDS hr) (vz2 j)).mono (by omega)
 have h_q18:=fam_q17 5
 have h_q17:=step_q17 5 h_q18
 have h_q16:CalX l.prog w K mg base (13) "check_word" ["word"] ze1:=zh0 F_q16 m_q16 b_q16 wu2 (by rintro _ _ _ _ ⟨_,rfl,_⟩; rfl) (k:=12) (λ cdv A outer s H E XE hr EX=>uw2 EX h_q17 (by decide) hr) tz2
 have fam_q22:∀ j,Cal l.prog w K mg base (j + 0) "marks_of" ["word"] (zv0 j):=λ j=>by
  induction j with
  | zero=>exact (to0 F_q22 m_q22 b_q22 (by intro ds μ Q h; first | (obtain ⟨_,_,h⟩:=h; omega) | (obtain ⟨_,_,_,h⟩:=h; omega) | (obtain ⟨_,_,_,_,h⟩:=h; omega) | (obtain ⟨_,_,_,_,_,h⟩:=h; omega) | (obtain ⟨_,_,_,_,_,_,h⟩:=h; omega) | (obtain ⟨_,_,_,_,_,_,_,_,h⟩:=h; omega) | (obtain ⟨_,_,_,_,_,_,_,h,_⟩:=h; split at h <;> omega))).mono (by omega)
  | succ j ih=>exact (wg0 F_q22 m_q22 b_q22 sc_q22 (by rintro _ _ _ ⟨_,rfl,_⟩; rfl) (k:=j + 0) (λ cdv A outer s H E hr=>sv2 ih (Nat.le_refl _) z_str hr) (xz2 j)).mono (by omega)
 have h_q22:=fam_q22 5
 have h_q25:CalX l.prog w K mg base (14) "shown" ["word"] su0:=zh0 F_q25 m_q25 b_q25 tt2 (by rintro _ _ _ _ ⟨_,rfl,_⟩; rfl) (k:=13) (λ cdv A outer s H E XE hr EX=>vv2 EX h_q16 (by decide) h_q22 (by decide) hr) uy2
 have h_q28:CalX l.prog w K mg base (1) "take_mark" ["marks"] zt1:=zh0 F_q28 m_q28 b_q28 vt2 (by rintro _ _ _ _ ⟨_,_,rfl,_⟩; rfl) (k:=0) (λ cdv A outer s H E XE hr EX=>yv2 EX O_BadNote z_len hr) zy2
 have h_q26:CalX l.prog w K mg base (2) "take_bracket" ["marks", "bracket"] vg2:=zh0 F_q26 m_q26 b_q26 ut2 (by rintro _ _ _ _ ⟨_,_,_,rfl,_⟩; rfl) (k:=1) (λ cdv A outer s H E XE hr EX=>wv2 EX h_q28 (by decide) O_BadNote hr) vy2
 have h_q14:Cal l.prog w K mg base (1) "are_figures" ["text"] st1:=wg0 F_q14 m_q14 b_q14 uu2 (by rintro _ _ _ ⟨_,rfl,_⟩; rfl) (k:=0) (λ cdv A outer s H E hr=>sw2 z_all z_len g_FIGURES g_MOST_FIGURES hr) xa3
 have h_q19:Cal l.prog w K mg base (1) "has_needless" ["mark", "figures"] ue1:=wg0 F_q19 m_q19 b_q19 yu2 (by rintro _ _ _ ⟨_,_,rfl,_⟩; rfl) (k:=0) (λ cdv A outer s H E hr=>zw2 z_len hr) wz2
 have h_q23:CalX l.prog w K mg base (2) "number_of" ["mark"] vt1:=zh0 F_q23 m_q23 b_q23 sc_q23 (by rintro _ _ _ _ ⟨_,rfl,_⟩; rfl) (k:=1) (λ cdv A outer s H E XE hr EX=>tv2 EX h_q14 (by decide) h_q19 (by decide) O_BadNote z_int hr) sy2
 have step_q29:∀ j,CalX l.prog w K mg base (2 * j + 2) "take_deed" ["marks", "depth"] (wt1 j)->CalX l.prog w K mg base (2 * j + 2 + 1) "take_word" ["marks", "depth"] (yt1 j):=λ j ih=>zh0 F_q29 m_q29 b_q29 sc_q29 (by rintro _ _ _ _ ⟨_,_,_,rfl,_⟩; rfl) (k:=2 * j + 2) (λ cdv A outer s H E XE hr EX=>xv2 EX ih (Nat.le_refl _) O_BadNote z_len z_tuple g_MOST_DEEP hr) (yy2 j)
 have fam_q29:∀ j,CalX l.prog w K mg base (2 * j + 2) "take_deed" ["marks", "depth"] (wt1 j):=λ j=>by
  induction j with
  | zero=>exact (xa1 F_q27 m_q27 b_q27 (by intro XE ds μ Q h; first | (obtain ⟨_,_,h⟩:=h; omega) | (obtain ⟨_,_,_,h⟩:=h; omega) | (obtain ⟨_,_,_,_,h⟩:=h; omega))).mono (by omega)
  | succ j ih=>exact (zh0 F_q27 m_q27 b_q27 sc_q27 (by rintro _ _ _ _ ⟨_,_,_,_,rfl,_⟩; rfl) (k:=2 * j + 2 + 1) (λ cdv A outer s H E XE hr EX=>zv2 EX h_q23 (by omega) h_q26 (by omega) h_q28 (by omega) (step_q29 j ih) (Nat.le_refl _) O_BadNote g_PLAIN_KINDS hr) (wy2 j)).mono (by omega)
 have h_q27:=fam_q29 5
 have h_q29:=step_q29 5 h_q27
 have h_q21:Cal l.prog w K mg base (1) "marks_in" ["text"] sg2:=wg0 F_q21 m_q21 b_q21 xu2 (by rintro _ _ _ ⟨_,rfl,_⟩; rfl) (k:=0) (λ cdv A outer s H E hr=>xw2 z_list z_reversed hr) yz2
 have h_q24:CalX l.prog w K mg base (14) "read" ["text"] zb1:=zh0 F_q24 m_q24 b_q24 sc_q24 (by rintro _ _ _ _ ⟨_,rfl,_⟩; rfl) (k:=13) (λ cdv A outer s H E XE hr EX=>uv2 EX h_q16 (by decide) h_q21 (by decide) h_q29 (by decide) O_BadNote m_NoWord k2_NoWord k3 k4_NoWord z_len hr) ty2
 have h_q0:Cal l.prog w K mg base (1) "_law_cell_at" ["script", "k"] zm1:=wg0 F_q0 m_q0 b_q0 vl3 (by rintro _ _ _ ⟨_,_,rfl,_⟩; rfl) (k:=0) (λ cdv A outer s H E hr=>sm3 z_len hr) vo3
 have h_q11:Cal l.prog w K mg base (2) "_law_state" ["script", "k"] yv0:=wg0 F_q11 m_q11 b_q11 sc_q11 (by rintro _ _ _ ⟨_,_,rfl,_⟩; rfl) (k:=1) (λ cdv A outer s H E hr=>zx2 h_q0 (by decide) hr) wa3
 have h_q1:Cal l.prog w K mg base (1) "_law_choice" ["state", "many"] yg0:=wg0 F_q1 m_q1 b_q1 sc_q1 (by rintro _ _ _ ⟨_,_,_,_,_,rfl,_⟩; rfl) (k:=0) (λ cdv A outer s H E hr=>tm3 hr) wo3
 have fam_q13:∀ j,Cal l.prog w K mg base (j + 1) "_law_word" ["state", "deep"] (ve1 j):=λ j=>by
  induction j with
  | zero=>exact (to0 F_q13 m_q13 b_q13 (by intro ds μ Q h; first | (obtain ⟨_,_,h⟩:=h; omega) | (obtain ⟨_,_,_,h⟩:=h; omega) | (obtain ⟨_,_,_,_,h⟩:=h; omega) | (obtain ⟨_,_,_,_,_,h⟩:=h; omega) | (obtain ⟨_,_,_,_,_,_,h⟩:=h; omega) | (obtain ⟨_,_,_,_,_,_,_,_,h⟩:=h; omega) | (obtain ⟨_,_,_,_,_,_,_,h,_⟩:=h; split at h <;> omega))).mono (by omega)
  | succ j ih=>exact (wg0 F_q13 m_q13 b_q13 sc_q13 (by rintro _ _ _ ⟨_,_,_,_,_,rfl,_⟩; rfl) (k:=j + 1) (λ cdv A outer s H E hr=>xx2 h_q1 (by omega) ih (Nat.le_refl _) z_range z_tuple hr) (ya3 j)).mono (by omega)
 have h_q13:=fam_q13 4
 have h_q3:Cal l.prog w K mg base (6) "_law_drawn_word" ["script", "k", "deep", "most"] (wb1 4):=wg0 F_q3 m_q3 b_q3 sc_q3 (by rintro _ _ _ ⟨_,_,_,_,rfl,_⟩; rfl) (k:=5) (λ cdv A outer s H E hr=>vm3 h_q11 (by decide) h_q13 (by decide) hr) (yo3 4)
 have h_q5:CalM l.prog w K mg base (1) "_law_marks" ["e"] spMk:=to2 F_q5 m_q5 b_q5 sc_q5 (by rintro _ _ _ ⟨rfl,_⟩; rfl) (k:=0) (λ cdv A outer s H E hr=>zm3 m_BadNote x_BadNote m_NoNumber x_NoNumber m_NoPicture x_NoPicture m_NoRoom x_NoRoom m_NoStep x_NoStep m_NoWord x_NoWord x_ValueError z_ValueError z_isinstance hr) sn3
 have h_q9:Cal l.prog w K mg base (1) "_law_refused" ["marks", "which"] tg2:=wg0 F_q9 m_q9 b_q9 wl3 (by rintro _ _ _ ⟨_,rfl,_⟩; rfl) (k:=0) (λ cdv A outer s H E hr=>ul3 z_range hr) zn3
 have h_q6:Cal l.prog w K mg base (1) "_law_number" ["text", "least"] spNu:=wg0 F_q6 m_q6 b_q6 sc_q6 (by rintro _ _ _ ⟨_,_,rfl,_⟩; rfl) (k:=0) (λ cdv A outer s H E hr=>ym3 z_int z_len hr) tn3
 have fam_q8:∀ j,Cal l.prog w K mg base (j + 1) "_law_parts_read" ["parts", "deep"] (spLr j):=λ j=>by
  induction j with
  | zero=>exact (to0 F_q8 m_q8 b_q8 (by intro ds μ Q h; first | (obtain ⟨_,_,h⟩:=h; omega) | (obtain ⟨_,_,_,h⟩:=h; omega) | (obtain ⟨_,_,_,_,h⟩:=h; omega) | (obtain ⟨_,_,_,_,_,h⟩:=h; omega) | (obtain ⟨_,_,_,_,_,_,h⟩:=h; omega) | (obtain ⟨_,_,_,_,_,_,_,_,h⟩:=h; omega) | (obtain ⟨_,_,_,_,_,_,_,h,_⟩:=h; split at h <;> omega))).mono (by omega)
  | succ j ih=>exact (wg0 F_q8 m_q8 b_q8 sc_q8 (by rintro _ _ _ ⟨_,_,_,rfl,_⟩; rfl) (k:=j + 1) (λ cdv A outer s H E hr=>tl3 h_q6 (by omega) ih (Nat.le_refl _) z_len z_tuple hr) (wn3 j)).mono (by omega)
 have h_q8:=fam_q8 5
 have fam_q2:∀ j,Cal l.prog w K mg base (j + 0) "_law_count" ["deeds"] (spCt j):=λ j=>by
  induction j with
  | zero=>exact (to0 F_q2 m_q2 b_q2 (by intro ds μ Q h; first | (obtain ⟨_,_,h⟩:=h; omega) | (obtain ⟨_,_,_,h⟩:=h; omega) | (obtain ⟨_,_,_,_,h⟩:=h; omega) | (obtain ⟨_,_,_,_,_,h⟩:=h; omega) | (obtain ⟨_,_,_,_,_,_,h⟩:=h; omega) | (obtain ⟨_,_,_,_,_,_,_,_,h⟩:=h; omega) | (obtain ⟨_,_,_,_,_,_,_,h,_⟩:=h; split at h <;> omega))).mono (by omega)
  | succ j ih=>exact (wg0 F_q2 m_q2 b_q2 sc_q2 (by rintro _ _ _ ⟨_,rfl,_⟩; rfl) (k:=j + 0) (λ cdv A outer s H E hr=>um3 ih (Nat.le_refl _) z_len hr) (zo3 j)).mono (by omega)
 have h_q2:=fam_q2 6
 have h_q4:Cal l.prog w K mg base (7) "_law_due" ["text"] xh2:=wg0 F_q4 m_q4 b_q4 sc_q4 (by rintro _ _ _ ⟨_,rfl,_⟩; rfl) (k:=6) (λ cdv A outer s H E hr=>wm3 h_q2 (by decide) h_q8 (by decide) z_len hr) xo3
 have h_q7:Cal l.prog w K mg base (2) "_law_odd" ["state"] spOd:=wg0 F_q7 m_q7 b_q7 sc_q7 (by rintro _ _ _ ⟨_,_,_,rfl,_⟩; rfl) (k:=1) (λ cdv A outer s H E hr=>xm3 h_q1 (by decide) z_len hr) vn3
 have h_q10:Cal l.prog w K mg base (3) "_law_spoilt" ["state", "text"] ug2:=wg0 F_q10 m_q10 b_q10 sc_q10 (by rintro _ _ _ ⟨_,_,_,_,rfl,_⟩; rfl) (k:=2) (λ cdv A outer s H E hr=>wx2 h_q1 (by decide) h_q7 (by decide) z_len hr) va3
 have h_q12:Cal l.prog w K mg base (15) "_law_told" ["text"] ym1:=wg0 F_q12 m_q12 b_q12 sc_q12 (by rintro _ _ _ ⟨_,rfl,_⟩; rfl) (k:=14) (λ cdv A outer s H E hr=>yx2 h_q5 (by decide) h_q24 (by decide) m_PenError k2_PenError k3 ok_PenError hr) za3
 exact yq1 F_q20 sc_q20 (by rintro _ _ _ ⟨_,rfl,_⟩; rfl) (k:=15) (λ cdv A outer s H E hr=>yw2 h_q3 (by decide) h_q4 (by decide) h_q9 (by decide) h_q10 (by decide) h_q11 (by decide) h_q12 (by decide) h_q25 (by decide) z_isinstance z_range z_tuple hr) zz2
theorem walk {l:PySem.W.OpenLaw} {q:Program} {loose:List Str} {XP:(Str->Option Value)->Heap->Prop} {YP:World->Heap->Prop} {d:DefRec} {K:Params->Fg} (hn:l.most=some 63) (hdf:d.params.defaults=[])
    (hY:∀ (w:World) (h:Heap),YP w h->(K w.params).In h)
    (F:∀ (w:World) (mg:Str->Option Value) (fa:Addr) (h:Heap),(K w.params).In h->h.Ns mainGlobals mg->mg d.name=some (.ref fa) ->
     ∃ fd:FuncData,(∀ (s:Shared) (u:Value),BindsTo s fd ⟨[u],[]⟩ [("script",u)]) /\ ∀ base:Heap,(K w.params).In base->base.Ns mainGlobals mg->FnOk l.prog w (K w.params) mg base CX0 16 fa fd ["script"] (lift (K w.params) tt1)) :
    PySem.W.WalkO q loose XP YP l.row.toRowW d [] (λ f vs=>PySem.call f vs) :=
 L2.walk_of (n:=63) (k:=16) (x := "script") (CX:=λ _=>CX0) (sp:=λ w=>lift (K w.params) tt1) hn (by decide) hdf ⟨rfl,by decide,by decide⟩ hY F (λ _ _ a nsT hl hO hS=>vx1 hO hS ⟨nsT,rfl,hl,λ _=>rfl⟩) λ _ _ _ _ _ z=>z
end Pv
open PySem PySem.W PyProof.Rows
set_option maxRecDepth 100000 in
set_option maxHeartbeats 0 in
theorem PySem.Challenge.cw_penwright_k06_texts_that_write_no_word_holds : PySem.Challenge.rw_penwright_k06_texts_that_write_no_word.Holds := by
 w_on
 refine PySem.W.holds_law Pv.h_said λ said=>?_
 refine PySem.W.holds_open (YP:=PySem.W.Hook.says (PySem.W.kHook Pv.KK Pv.KA Pv.ke)) Pv.h_left (PySem.W.Hook.of (PySem.W.kHook Pv.KK Pv.KA Pv.ke)) (PySem.W.Hook.keeps (PySem.W.kHook Pv.KK Pv.KA Pv.ke)) (λ s e=>PySem.W.xl_of s (Bool.and_eq_true_iff.mp e).1) PySem.W.XL.keeps (by rfl) (by rfl) (by rfl) (λ s e=>PySem.W.recFacts_of (Bool.and_eq_true_iff.mp e).2) (by rfl) said (by decide +kernel) ⟨rfl,rfl,rfl,rfl,rfl,by decide +kernel⟩ ?hw ?hc
 case hw=>w_witness2
 k_fill
 refine Pv.walk (l:=PySem.Challenge.rw_penwright_k06_texts_that_write_no_word) rfl rfl (λ w h Y=>PySem.W.kIn_of Y) ?F
 case F =>
  intro w mg fa h KX G hmg
  refine' Pv.all_mk KX G hmg ?a_q16 ?A_q16 ?a_q17 ?A_q17 ?a_q18 ?A_q18 ?a_q15 ?A_q15 ?a_q25 ?A_q25 ?a_q22 ?A_q22 ?a_q24 ?A_q24 ?a_q21 ?A_q21 ?a_q29 ?A_q29 ?a_q27 ?A_q27 ?a_q28 ?A_q28 ?a_q26 ?A_q26 ?a_q23 ?A_q23 ?a_q14 ?A_q14 ?a_q19 ?A_q19 ?a_q0 ?A_q0 ?a_q11 ?A_q11 ?a_q1 ?A_q1 ?a_q13 ?A_q13 ?a_q3 ?A_q3 ?a_q5 ?A_q5 ?a_q9 ?A_q9 ?a_q6 ?A_q6 ?a_q8 ?A_q8 ?a_q2 ?A_q2 ?a_q4 ?A_q4 ?a_q7 ?A_q7 ?a_q10 ?A_q10 ?a_q12 ?A_q12 ?a_q20 ?A_q20 ?e_MOST_DEEDS ?e_MOST_DEEP ?e_MOST_FIGURES ?e_GREATEST_NUMBER ?e_PLAIN_KINDS ?ql_5 ?e_KINDS_FROM_NOUGHT ?ql_9 ?e_FIGURES ?ac_BadNote ?cl_BadNote ?tc_BadNote ?ac_NoNumber ?cl_NoNumber ?tc_NoNumber ?ac_NoPicture ?cl_NoPicture ?tc_NoPicture ?ac_NoRoom ?cl_NoRoom ?tc_NoRoom ?ac_NoStep ?cl_NoStep ?tc_NoStep ?ac_NoWord ?cl_NoWord ?tc_NoWord ?ac_PenError ?cl_PenError ?tc_PenError ?q_BadNote ?ek0_BadNote ?ek1_BadNote ?ek2_BadNote ?ek4_BadNote ?ek5_BadNote ?ek6_BadNote ?ek7_BadNote ?q_NoWord ?ek0_NoWord ?ek1_NoWord ?ek2_NoWord ?ek4_NoWord ?ek5_NoWord ?ek6_NoWord ?ek7_NoWord ?sb_NoWord_BadNote ?ne_NoWord_BadNote ?sb_BadNote_NoNumber ?ne_BadNote_NoNumber ?sb_NoWord_NoNumber ?ne_NoWord_NoNumber ?sb_BadNote_NoPicture ?ne_BadNote_NoPicture ?sb_NoWord_NoPicture ?ne_NoWord_NoPicture ?sb_BadNote_NoRoom ?ne_BadNote_NoRoom ?sb_NoWord_NoRoom ?ne_NoWord_NoRoom ?sb_BadNote_NoStep ?ne_BadNote_NoStep ?sb_NoWord_NoStep ?ne_NoWord_NoStep ?sb_BadNote_NoWord ?ne_BadNote_NoWord ?sb_BadNote_ValueError ?sb_NoWord_ValueError ?k3s ?k2s_PenError ?sb_BadNote_PenError ?sb_NoWord_PenError ?k2s_NoWord ?sb_NoWord_NoWord ?zz_ValueError ?zz_abs ?zz_all ?zz_int ?zz_isinstance ?zz_len ?zz_list ?zz_range ?zz_reversed ?zz_str ?zz_tuple
  (case e_MOST_DEEDS | e_MOST_DEEP | e_MOST_FIGURES | e_GREATEST_NUMBER | e_PLAIN_KINDS | ql_5 | e_KINDS_FROM_NOUGHT | ql_9 | e_FIGURES | ac_BadNote | cl_BadNote | tc_BadNote | ac_NoNumber | cl_NoNumber | tc_NoNumber | ac_NoPicture | cl_NoPicture | tc_NoPicture | ac_NoRoom | cl_NoRoom | tc_NoRoom | ac_NoStep | cl_NoStep | tc_NoStep | ac_NoWord | cl_NoWord | tc_NoWord | ac_PenError | cl_PenError | tc_PenError | ek0_BadNote | ek1_BadNote | ek2_BadNote | ek4_BadNote | ek5_BadNote | ek6_BadNote | ek7_BadNote | ek0_NoWord | ek1_NoWord | ek2_NoWord | ek4_NoWord | ek5_NoWord | ek6_NoWord | ek7_NoWord | sb_NoWord_BadNote | sb_BadNote_NoNumber | sb_NoWord_NoNumber | sb_BadNote_NoPicture | sb_NoWord_NoPicture | sb_BadNote_NoRoom | sb_NoWord_NoRoom | sb_BadNote_NoStep | sb_NoWord_NoStep | sb_BadNote_NoWord | sb_BadNote_ValueError | sb_NoWord_ValueError | k3s | k2s_PenError | sb_BadNote_PenError | sb_NoWord_PenError | k2s_NoWord | sb_NoWord_NoWord | zz_ValueError | zz_abs | zz_all | zz_int | zz_isinstance | zz_len | zz_list | zz_range | zz_reversed | zz_str | zz_tuple=>k_is)
  (case a_q16 | a_q17 | a_q18 | a_q15 | a_q25 | a_q22 | a_q24 | a_q21 | a_q29 | a_q27 | a_q28 | a_q26 | a_q23 | a_q14 | a_q19 | a_q0 | a_q11 | a_q1 | a_q13 | a_q3 | a_q5 | a_q9 | a_q6 | a_q8 | a_q2 | a_q4 | a_q7 | a_q10 | a_q12 | a_q20=>(show _=_; k_is))
  (case A_q16 | A_q17 | A_q18 | A_q15 | A_q25 | A_q22 | A_q24 | A_q21 | A_q29 | A_q27 | A_q28 | A_q26 | A_q23 | A_q14 | A_q19 | A_q0 | A_q11 | A_q1 | A_q13 | A_q3 | A_q5 | A_q9 | A_q6 | A_q8 | A_q2 | A_q4 | A_q7 | A_q10 | A_q12 | A_q20=>(refine' Pv.fnA_mk ?l ?c ?k; (case l=>k_is); (case c=>k_is); (case k=>k_is)))
  (case q_BadNote | q_NoWord=>k_exc)
  (case ne_NoWord_BadNote | ne_BadNote_NoNumber | ne_NoWord_NoNumber | ne_BadNote_NoPicture | ne_NoWord_NoPicture | ne_BadNote_NoRoom | ne_NoWord_NoRoom | ne_BadNote_NoStep | ne_NoWord_NoStep | ne_BadNote_NoWord=>rfl)
