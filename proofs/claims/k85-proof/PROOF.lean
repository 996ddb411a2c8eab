import PyProof.Rows.All
import Wide.All
import OpenK.AllK
import Wide.FinOn
import Lean
import PyProof.EqAt
import PyProof.EqKinds
import PyProof.TupleCall
import PyProof.P3Statements
import KE.KIntText
import KE.KRevIter
import KE.KRevSl
import KE.KSortTup
import KE.KDictSum
import KE.KIsAll
import PyProof.ExcAttrAll.ValueError
import PySem.Challenge.RW_penwright_k85_sheets
open List(length_map map_cons length_cons length_append mem_cons_of_mem size_toArray length_nil map_map getElem?_map mem_cons_self append_nil getElem?_eq_getElem map_nil getD_eq_getElem?_getD mem_append_right length_take any_cons nil_append cons_append set_cons_succ mem_cons find?_cons map_congr_left not_mem_nil map_append set_cons_zero flatten_cons replicate_succ mem_singleton length_drop lookup_cons getElem?_cons_succ mem_append filterMap_cons getElem?_set_ne length_range of_mem_zip append_assoc getElem_mem nodup_nil getElem?_drop range_succ)
open Array(length_toList getElem?_toList getElem?_eq_none size_map)
set_option Elab.async false
set_option linter.all false
set_option maxRecDepth 100000
set_option maxHeartbeats 4000000
open PySem.W (fnOf kHook methodObj hideAll hideAll_get of_hideAll findIn specialIn takesIn mroIn keepIn callWith_K cellsFrom_some codeIn codeRec_of nsIn kitOne kia_one mg_of clsIn looks_findIn looks_mroIn kitCls kit_cls excIn typeIn subIn mg_none_of)
open PySem.F (slot_tuple_add entry_tuple_add args_tuple_add_2 slot_dict_get entry_dict_get excBase_ValueError)
noncomputable section
theorem Z0:4<=PySem.sizeLine:=by decide
theorem Z1:1<=PySem.sizeLine:=by decide
namespace L2
open PySem PySem.Spec PyProof.Rows
def vj0 (s:Stmt):Arguments:=match s with
 | .FunctionDef _ a _ _ _ _ _ _ _ _=>a
 | _=>{ posonlyargs:=[],args:=[],vararg:=none,kwonlyargs:=[],kw_defaults:=[],kwarg:=none,defaults:=[] }
def zb0 (s:Stmt):List Stmt:=match s with
 | .FunctionDef _ _ b _ _ _ _ _ _ _=>b
 | _=>[]
def wa0 (s:Stmt):Scope:=match s with
 | .FunctionDef _ _ _ _ _ _ sc _ _ _=>sc
 | _=>{ kind:=.function,names:=[],isGenerator:=false,isCoroutine:=false }
end L2
namespace Pv
open PySem PySem.Spec PyProof.Rows L2
def top (i:Nat):Stmt:=PySem.Challenge.pw_penwright_k85_sheets.main.body.getD i (.Pass ⟨0,0,0,0⟩)
abbrev wu1:Stmt:=top 10
abbrev zu1:Stmt:=top 11
abbrev tt1:Stmt:=top 12
abbrev yt1:Stmt:=top 13
abbrev wt1:Stmt:=top 14
abbrev ss1:Stmt:=top 19
abbrev xu1:Stmt:=top 20
abbrev us1:Stmt:=top 21
abbrev ts1:Stmt:=top 22
abbrev vs1:Stmt:=top 23
abbrev xt1:Stmt:=top 24
abbrev yu1:Stmt:=top 25
abbrev vt1:Stmt:=top 26
abbrev zt1:Stmt:=top 27
abbrev ws1:Stmt:=top 28
abbrev ut1:Stmt:=top 29
abbrev s_q0:Stmt:=top 31
abbrev vu1:Stmt:=top 32
abbrev su1:Stmt:=top 33
abbrev s_q1:Stmt:=top 34
abbrev s_q6:Stmt:=top 35
abbrev s_q4:Stmt:=top 36
abbrev s_q2:Stmt:=top 37
abbrev s_q3:Stmt:=top 38
abbrev uu1:Stmt:=top 39
abbrev s_q7:Stmt:=top 40
abbrev s_q9:Stmt:=top 41
abbrev s_q5:Stmt:=top 42
abbrev s_q8:Stmt:=top 43
abbrev tu1:Stmt:=top 44
abbrev yw0:Stmt:=top 45
abbrev vb:Value:=.bool true
abbrev vi:Value:=.int 181 0
def en (P:Params) (x:Str) (t:Tok) (v:Value):DictEntry:=⟨PyData.keyHash P x,.str x t,v⟩
def fo (x y:Str) (st:Stmt) (m c:Value):Obj:=⟨.type "function",none,.func (fnOf x y (vj0 st) (zb0 st) (wa0 st) .none .none .none m none c .none),#[]⟩
def co (x:Str) (a:Tok) (y:Str) (b c:Tok) (ns:List Int) (vs:List Value) (d e:Int) (f:Tok):Obj:=⟨.type "code",none,.fields (.str x a :: .str y b :: .str "/claim/cut.py" c :: (ns.map (λ n=>Value.int n 0) ++ (vs ++ [.int d 0,.int e 0,.str "/claim/cut.py" f]))).toArray,#[]⟩
def tO (vs:List Value):Obj:=⟨.type "tuple",none,.seq vs.toArray 0,#[]⟩
abbrev z6:Value:=.str "law_penwright_k85_sheets" 440
def z7 (x:Str) (s:Stmt) (c:Addr):Obj:=fo x x s z6 (.ref c)
def z8 (x:Str) (a:Tok):=co x a x
def z9 (P:Params) (x:Str) (t:Tok) (a:Addr):DictEntry:=en P x t (.ref a)
def Z2 (x:Str):=fo x x
abbrev Z3:Value:=.str "penwright.errors" 187
abbrev Z4:Value:=.str "penwright.pictures" 303
abbrev Z5:Value:=.str "penwright.sheets" 344
def KK:PySem.Params->PySem.W.Frag:=λ P=>(nat_lit 2,⟨.none,none,.dict #[] 0,#[]⟩) :: (nat_lit 3,⟨.type "dict",none,.dict #[en P "__name__" 165 z6,en P "__doc__" 166 (.none),en P "__package__" 167 (.none),en P "__loader__" 168 (.builtin "__main__.__loader__#opaque"),en P "__spec__" 169 (.none),z9 P "__annotations__" 170 6,z9 P "__builtins__" 171 4,en P "__file__" 173 (.str "/claim/cut.py" 172),en P "__cached__" 174 (.none),z9 P "PenError" 206 24,z9 P "NoWord" 222 37,z9 P "NoPicture" 238 49,z9 P "NoRoom" 254 61,z9 P "NoStep" 270 73,z9 P "NoNumber" 286 85,z9 P "BadNote" 302 97,z9 P "WAYS" 307 100,z9 P "check_picture" 316 107,z9 P "check_stroke" 323 114,z9 P "ends_of" 330 121,z9 P "picture_with" 337 128,z9 P "picture_box" 343 133,en P "MOST_POINTS" 347 (.int 40 346),en P "NO_STROKES" 349 (.str "none" 348),z9 P "STROKE_SIGNS" 352 134,z9 P "sheet_of" 360 141,z9 P "corner_line" 367 148,z9 P "sign_lines" 373 153,z9 P "sign_line" 379 158,z9 P "signs_of" 385 163,z9 P "read_sheet" 394 170,z9 P "corner_in" 402 177,z9 P "number_in" 410 184,z9 P "picture_in" 423 191,z9 P "strokes_shown" 431 198,z9 P "is_sheet_of" 439 205,z9 P "_law_cell_at" 449 212,z9 P "_law_whole" 456 219,z9 P "_law_state" 465 226,z9 P "_law_choice" 475 233,z9 P "_law_picture" 488 240,z9 P "_law_is_picture" 494 245,z9 P "_law_ends" 504 252,z9 P "_law_from_ends" 514 259,z9 P "_law_ways" 531 266,z9 P "_law_points" 542 273,z9 P "_law_sheet" 548 278,z9 P "_law_marks" 556 285,z9 P "_law_refused" 562 290,z9 P "_law_told" 572 297,z9 P "law" 578 302] 51,#[]⟩) :: (nat_lit 15,tO [.type "ValueError"]) :: (nat_lit 22,tO []) :: (nat_lit 23,⟨.type "dict",none,.dict #[en P "__module__" 196 Z3,en P "__firstlineno__" 200 (.int 2 199),z9 P "__static_attributes__" 201 22,z9 P "__weakref__" 203 25,en P "__doc__" 204 (.none)] 3,#[]⟩) :: (nat_lit 24,⟨.type "type",none,.cls ⟨"PenError",[.type "ValueError"],[.ref 24,.type "ValueError",.type "Exception",.type "BaseException",.type "object"],23, "PenError",true,[],[.ref 37,.ref 49,.ref 61,.ref 73,.ref 85,.ref 97],false,none,false⟩,#[some (.ref 15),none,some (.str "PenError" 189),some (.str "PenError" 197),some (.builtin "ValueError.__new__"),some (.bool true)]⟩) :: (nat_lit 25,⟨.type "getset_descriptor",none,.fields #[.str "__weakref__" 202,.ref 24,.builtin "ExceptionGroup.__weakref__",.none],#[]⟩) :: (nat_lit 28,tO [.ref 24]) :: (nat_lit 35,tO []) :: (nat_lit 36,⟨.type "dict",none,.dict #[en P "__module__" 214 Z3,en P "__firstlineno__" 218 (.int 4 217),z9 P "__static_attributes__" 219 35,en P "__doc__" 220 (.none)] 2,#[]⟩) :: (nat_lit 37,⟨.type "type",none,.cls ⟨"NoWord",[.ref 24],[.ref 37,.ref 24,.type "ValueError",.type "Exception",.type "BaseException",.type "object"],36, "NoWord",true,[],[],false,none,false⟩,#[some (.ref 28),none,some (.str "NoWord" 207),some (.str "NoWord" 215),some (.builtin "ValueError.__new__"),some (.bool true)]⟩) :: (nat_lit 40,tO [.ref 24]) :: (nat_lit 47,tO []) :: (nat_lit 48,⟨.type "dict",none,.dict #[en P "__module__" 230 Z3,en P "__firstlineno__" 234 (.int 6 233),z9 P "__static_attributes__" 235 47,en P "__doc__" 236 (.none)] 2,#[]⟩) :: (nat_lit 49,⟨.type "type",none,.cls ⟨"NoPicture",[.ref 24],[.ref 49,.ref 24,.type "ValueError",.type "Exception",.type "BaseException",.type "object"],48, "NoPicture",true,[],[],false,none,false⟩,#[some (.ref 40),none,some (.str "NoPicture" 223),some (.str "NoPicture" 231),some (.builtin "ValueError.__new__"),some (.bool true)]⟩) :: (nat_lit 52,tO [.ref 24]) :: (nat_lit 59,tO []) :: (nat_lit 60,⟨.type "dict",none,.dict #[en P "__module__" 246 Z3,en P "__firstlineno__" 250 (.int 8 249),z9 P "__static_attributes__" 251 59,en P "__doc__" 252 (.none)] 2,#[]⟩) :: (nat_lit 61,⟨.type "type",none,.cls ⟨"NoRoom",[.ref 24],[.ref 61,.ref 24,.type "ValueError",.type "Exception",.type "BaseException",.type "object"],60, "NoRoom",true,[],[],false,none,false⟩,#[some (.ref 52),none,some (.str "NoRoom" 239),some (.str "NoRoom" 247),some (.builtin "ValueError.__new__"),some (.bool true)]⟩) :: (nat_lit 64,tO [.ref 24]) :: (nat_lit 71,tO []) :: (nat_lit 72,⟨.type "dict",none,.dict #[en P "__module__" 262 Z3,en P "__firstlineno__" 266 (.int 10 265),z9 P "__static_attributes__" 267 71,en P "__doc__" 268 (.none)] 2,#[]⟩) :: (nat_lit 73,⟨.type "type",none,.cls ⟨"NoStep",[.ref 24],[.ref 73,.ref 24,.type "ValueError",.type "Exception",.type "BaseException",.type "object"],72, "NoStep",true,[],[],false,none,false⟩,#[some (.ref 64),none,some (.str "NoStep" 255),some (.str "NoStep" 263),some (.builtin "ValueError.__new__"),some (.bool true)]⟩) :: (nat_lit 76,tO [.ref 24]) :: (nat_lit 83,tO []) :: (nat_lit 84,⟨.type "dict",none,.dict #[en P "__module__" 278 Z3,en P "__firstlineno__" 282 (.int 12 281),z9 P "__static_attributes__" 283 83,en P "__doc__" 284 (.none)] 2,#[]⟩) :: (nat_lit 85,⟨.type "type",none,.cls ⟨"NoNumber",[.ref 24],[.ref 85,.ref 24,.type "ValueError",.type "Exception",.type "BaseException",.type "object"],84, "NoNumber",true,[],[],false,none,false⟩,#[some (.ref 76),none,some (.str "NoNumber" 271),some (.str "NoNumber" 279),some (.builtin "ValueError.__new__"),some (.bool true)]⟩) :: (nat_lit 88,tO [.ref 24]) :: (nat_lit 95,tO []) :: (nat_lit 96,⟨.type "dict",none,.dict #[en P "__module__" 294 Z3,en P "__firstlineno__" 298 (.int 14 297),z9 P "__static_attributes__" 299 95,en P "__doc__" 300 (.none)] 2,#[]⟩) :: (nat_lit 97,⟨.type "type",none,.cls ⟨"BadNote",[.ref 24],[.ref 97,.ref 24,.type "ValueError",.type "Exception",.type "BaseException",.type "object"],96, "BadNote",true,[],[],false,none,false⟩,#[some (.ref 88),none,some (.str "BadNote" 287),some (.str "BadNote" 295),some (.builtin "ValueError.__new__"),some (.bool true)]⟩) :: (nat_lit 100,tO [.int 0 305,.int 1 306]) :: (nat_lit 106,z8 "check_picture" 308 309 310 [18,1,0,0,3] [.ref 101,vb,vi,.ref 102,.none,.ref 103,.ref 104,.ref 105] 314 18 315) :: (nat_lit 107,Z2 "check_picture" wu1 Z4 (.ref 106)) :: (nat_lit 113,z8 "check_stroke" 317 318 319 [24,1,0,0,3] [.ref 108,vb,vi,.ref 109,.none,.ref 110,.ref 111,.ref 112] 321 24 322) :: (nat_lit 114,Z2 "check_stroke" zu1 Z4 (.ref 113)) :: (nat_lit 120,z8 "ends_of" 324 325 326 [27,1,0,0,3] [.ref 115,vb,vi,.ref 116,.none,.ref 117,.ref 118,.ref 119] 328 27 329) :: (nat_lit 121,Z2 "ends_of" tt1 Z4 (.ref 120)) :: (nat_lit 127,z8 "picture_with" 331 332 333 [31,1,0,0,3] [.ref 122,vb,vi,.ref 123,.none,.ref 124,.ref 125,.ref 126] 335 31 336) :: (nat_lit 128,Z2 "picture_with" yt1 Z4 (.ref 127)) :: (nat_lit 132,z8 "picture_box" 338 339 340 [33,1,0,0,3] [.ref 129,vb,vi,.ref 130,.none,.none,.none,.ref 131] 341 33 342) :: (nat_lit 133,Z2 "picture_box" wt1 Z4 (.ref 132)) :: (nat_lit 134,tO [.str "-" 350,.str "|" 351]) :: (nat_lit 140,z8 "sheet_of" 353 354 355 [44,1,0,0,3] [.ref 135,vb,vi,.ref 136,.none,.ref 137,.ref 138,.ref 139] 358 44 359) :: (nat_lit 141,Z2 "sheet_of" ss1 Z5 (.ref 140)) :: (nat_lit 147,z8 "corner_line" 361 362 363 [52,1,0,0,3] [.ref 142,vb,vi,.ref 143,.none,.ref 144,.ref 145,.ref 146] 365 52 366) :: (nat_lit 148,Z2 "corner_line" xu1 Z5 (.ref 147)) :: (nat_lit 152,z8 "sign_lines" 368 369 370 [54,2,0,0,3] [.ref 149,vb,vi,.ref 150,.none,.none,.none,.ref 151] 371 54 372) :: (nat_lit 153,Z2 "sign_lines" us1 Z5 (.ref 152)) :: (nat_lit 157,z8 "sign_line" 374 375 376 [58,3,0,0,3] [.ref 154,vb,vi,.ref 155,.none,.none,.none,.ref 156] 377 58 378) :: (nat_lit 158,Z2 "sign_line" ts1 Z5 (.ref 157)) :: (nat_lit 162,z8 "signs_of" 380 381 382 [60,2,0,0,3] [.ref 159,vb,vi,.ref 160,.none,.none,.none,.ref 161] 383 60 384) :: (nat_lit 163,Z2 "signs_of" vs1 Z5 (.ref 162)) :: (nat_lit 169,z8 "read_sheet" 386 387 388 [69,1,0,0,3] [.ref 164,vb,vi,.ref 165,.none,.ref 166,.ref 167,.ref 168] 392 69 393) :: (nat_lit 170,Z2 "read_sheet" xt1 Z5 (.ref 169)) :: (nat_lit 176,z8 "corner_in" 395 396 397 [77,1,0,0,3] [.ref 171,vb,vi,.ref 172,.none,.ref 173,.ref 174,.ref 175] 400 77 401) :: (nat_lit 177,Z2 "corner_in" yu1 Z5 (.ref 176)) :: (nat_lit 183,z8 "number_in" 403 404 405 [82,1,0,0,3] [.ref 178,vb,vi,.ref 179,.none,.ref 180,.ref 181,.ref 182] 408 82 409) :: (nat_lit 184,Z2 "number_in" vt1 Z5 (.ref 183)) :: (nat_lit 190,z8 "picture_in" 411 412 413 [88,2,0,0,3] [.ref 185,vb,vi,.ref 186,.none,.ref 187,.ref 188,.ref 189] 421 88 422) :: (nat_lit 191,Z2 "picture_in" zt1 Z5 (.ref 190)) :: (nat_lit 197,z8 "strokes_shown" 424 425 426 [96,2,0,0,3] [.ref 192,vb,vi,.ref 193,.none,.ref 194,.ref 195,.ref 196] 429 96 430) :: (nat_lit 198,Z2 "strokes_shown" ws1 Z5 (.ref 197)) :: (nat_lit 204,z8 "is_sheet_of" 432 433 434 [102,2,0,0,3] [.ref 199,vb,vi,.ref 200,.none,.ref 201,.ref 202,.ref 203] 437 102 438) :: (nat_lit 205,Z2 "is_sheet_of" ut1 Z5 (.ref 204)) :: (nat_lit 211,z8 "_law_cell_at" 442 443 444 [108,2,0,0,3] [.ref 206,vb,vi,.ref 207,.none,.ref 208,.ref 209,.ref 210] 447 108 448) :: (nat_lit 212,z7 "_law_cell_at" s_q0 211) :: (nat_lit 218,z8 "_law_whole" 450 451 452 [112,1,0,0,3] [.ref 213,vb,vi,.ref 214,.none,.ref 215,.ref 216,.ref 217] 454 112 455) :: (nat_lit 219,z7 "_law_whole" vu1 218) :: (nat_lit 225,z8 "_law_state" 457 458 459 [114,2,0,0,3] [.ref 220,vb,vi,.ref 221,.none,.ref 222,.ref 223,.ref 224] 463 114 464) :: (nat_lit 226,z7 "_law_state" su1 225) :: (nat_lit 232,z8 "_law_choice" 466 467 468 [119,2,0,0,3] [.ref 227,vb,vi,.ref 228,.none,.ref 229,.ref 230,.ref 231] 473 119 474) :: (nat_lit 233,z7 "_law_choice" s_q1 232) :: (nat_lit 239,z8 "_law_picture" 476 477 478 [128,2,0,0,3] [.ref 234,vb,vi,.ref 235,.none,.ref 236,.ref 237,.ref 238] 486 128 487) :: (nat_lit 240,z7 "_law_picture" s_q6 239) :: (nat_lit 244,z8 "_law_is_picture" 489 490 491 [140,2,0,0,3] [.ref 241,vb,vi,.ref 242,.none,.none,.none,.ref 243] 492 140 493) :: (nat_lit 245,z7 "_law_is_picture" s_q4 244) :: (nat_lit 251,z8 "_law_ends" 495 496 497 [147,1,0,0,3] [.ref 246,vb,vi,.ref 247,.none,.ref 248,.ref 249,.ref 250] 502 147 503) :: (nat_lit 252,z7 "_law_ends" s_q2 251) :: (nat_lit 258,z8 "_law_from_ends" 505 506 507 [150,2,0,0,3] [.ref 253,vb,vi,.ref 254,.none,.ref 255,.ref 256,.ref 257] 512 150 513) :: (nat_lit 259,z7 "_law_from_ends" s_q3 258) :: (nat_lit 265,z8 "_law_ways" 515 516 517 [154,5,0,0,3] [.ref 260,vb,vi,.ref 261,.none,.ref 262,.ref 263,.ref 264] 529 154 530) :: (nat_lit 266,z7 "_law_ways" uu1 265) :: (nat_lit 272,z8 "_law_points" 532 533 534 [166,1,0,0,3] [.ref 267,vb,vi,.ref 268,.none,.ref 269,.ref 270,.ref 271] 540 166 541) :: (nat_lit 273,z7 "_law_points" s_q7 272) :: (nat_lit 277,z8 "_law_sheet" 543 544 545 [173,1,0,0,3] [.ref 274,vb,vi,.ref 275,.none,.none,.none,.ref 276] 546 173 547) :: (nat_lit 278,z7 "_law_sheet" s_q9 277) :: (nat_lit 284,z8 "_law_marks" 549 550 551 [195,1,0,0,3] [.ref 279,vb,vi,.ref 280,.none,.ref 281,.ref 282,.ref 283] 554 195 555) :: (nat_lit 285,z7 "_law_marks" s_q5 284) :: (nat_lit 289,z8 "_law_refused" 557 558 559 [198,2,0,0,3] [.ref 286,vb,vi,.ref 287,.none,.none,.none,.ref 288] 560 198 561) :: (nat_lit 290,z7 "_law_refused" s_q8 289) :: (nat_lit 296,z8 "_law_told" 563 564 565 [200,1,0,0,3] [.ref 291,vb,vi,.ref 292,.none,.ref 293,.ref 294,.ref 295] 570 200 571) :: (nat_lit 297,z7 "_law_told" tu1 296) :: (nat_lit 301,z8 "law" 573 574 575 [208,1,0,0,3] [.ref 298,vb,vi,.ref 299,.none,.none,.none,.ref 300] 576 208 577) :: (nat_lit 302,z7 "law" yw0 301) :: []
def KA:List Addr:=[2,3,15,22,23,24,25,28,35,36,37,40,47,48,49,52,59,60,61,64,71,72,73,76,83,84,85,88,95,96,97,100,106,107,113,114,120,121,127,128,132,133,134,140,141,147,148,152,153,157,158,162,163,169,170,176,177,183,184,190,191,197,198,204,205,211,212,218,219,225,226,232,233,239,240,244,245,251,252,258,259,265,266,272,273,277,278,284,285,289,290,296,297,301,302]
theorem ke:∀ P,KA=(KK P).map (·.1):=λ _=>by kernel_rfl
def vw:Program:={ PySem.Challenge.pw_penwright_k85_sheets with main:={ PySem.Challenge.pw_penwright_k85_sheets.main with body:=[top 1,top 2,top 3,top 4,top 5,top 6,top 7,top 9,top 10,top 11,top 12,top 13,top 14,top 16,top 17,top 18,top 19,top 20,top 21,top 22,top 23,top 24,top 25,top 26,top 27,top 28,top 29,top 31,top 32,top 33,top 34,top 35,top 36,top 37,top 38,top 39,top 40,top 41,top 42,top 43,top 44,top 45] } }
theorem h_said:PySem.Challenge.rw_penwright_k85_sheets.wellSaid=true:=by kernel_rfl
theorem h_left:PySem.W.LeftO (PySem.W.OpenLaw.row PySem.Challenge.rw_penwright_k85_sheets).prog vw [] (λ s=>PySem.W.xlAt vw [] s && PySem.W.recOk (PySem.W.RowW.records (PySem.W.OpenRow.toRowW (PySem.W.OpenLaw.row PySem.Challenge.rw_penwright_k85_sheets))) s) (PySem.W.Hook.obs (kHook KK KA ke)) (PySem.W.Hook.val (kHook KK KA ke)) 5062:=by
 intro w
 delta PySem.W.openEnds PySem.W.fencedOpening PySem.W.topFrom
 rw [PySem.W.Fast.te14082659384304107361,PySem.W.Fast.te10274390034422433532,PySem.W.Fast.te14289696077712309145,PySem.W.Fast.te1435165496053646825,PySem.W.Fast.te14364793385576792824,PySem.W.Fast.te4187177175401517315]
 kernel_rfl
end Pv
namespace L2
open PySem PySem.Spec PyProof.Rows
abbrev Key:=Sum Int Str
def xw1:Key->Value->Bool
 | .inl k,v=>Value.isInt k v
 | .inr x,v=>Value.isStrOf x v
def keyH (w:World):Key->Int
 | .inl k=>hashInt k
 | .inr x=>hashStr w x
theorem td0:∀ {k:Key} {v:Value},xw1 k v=true->(∃ i t,k=Sum.inl i /\ v=Value.int i t) \/ (∃ x t,k=Sum.inr x /\ v=Value.str x t)
 | .inl i,v,h=>by
  obtain ⟨t,e⟩:=Value.isInt_shape (k:=i) (v:=v) h
  exact .inl ⟨i,t,rfl,e⟩
 | .inr x,v,h=>by
  obtain ⟨t,e⟩:=Value.isStrOf_shape (x:=x) (v:=v) h
  exact .inr ⟨x,t,rfl,e⟩
theorem te2 (i:Int) (t:Tok):xw1 (.inl i) (.int i t)=true:=by simp [xw1,Value.isInt]
theorem ue2 (x:Str) (t:Tok):xw1 (.inr x) (.str x t)=true:=by simp [xw1,Value.isStrOf]
theorem vi4 (a b:Int):decide ((Sum.inl a:Key)=Sum.inl b)=(a == b):=by
 by_cases e:a=b
 ·subst e; simp
 ·have h:¬ (Sum.inl a:Key)=Sum.inl b:=λ q=>e (Sum.inl.inj q)
  rw [decide_eq_false h]
  exact (beq_eq_false_iff_ne.mpr e).symm
theorem yi4 (a b:Str):decide ((Sum.inr a:Key)=Sum.inr b)=decide (a=b):=by
 by_cases e:a=b
 ·subst e; simp
 ·have h:¬ (Sum.inr a:Key)=Sum.inr b:=λ q=>e (Sum.inr.inj q)
  rw [decide_eq_false h,decide_eq_false e]
theorem wi4 (a:Int) (b:Str):decide ((Sum.inl a:Key)=Sum.inr b)=false:=decide_eq_false (λ q=>nomatch q)
theorem zi4 (a:Str) (b:Int):decide ((Sum.inr a:Key)=Sum.inl b)=false:=decide_eq_false (λ q=>nomatch q)
def ue0 (prog:Program) (w:World):PySem.KeyKind prog w Key where
 is:=xw1
 hash:=keyH w
 inj:=λ v a b ha hb=>by
  rcases td0 ha with ⟨i,t,rfl,rfl⟩ | ⟨x,t,rfl,rfl⟩
  ·rcases td0 hb with ⟨j,u,rfl,e⟩ | ⟨y,u,rfl,e⟩
   ·injection e with e1 _; rw [e1]
   ·exact nomatch e
  ·rcases td0 hb with ⟨j,u,rfl,e⟩ | ⟨y,u,rfl,e⟩
   ·exact nomatch e
   ·injection e with e1 _; rw [e1]
 byValue:=λ k v h=>by
  rcases td0 h with ⟨i,t,rfl,rfl⟩ | ⟨x,t,rfl,rfl⟩ <;> rfl
 pyHash:=λ hv h=>by
  rcases td0 hv with ⟨i,t,rfl,rfl⟩ | ⟨x,t,rfl,rfl⟩
  ·exact wpAny_pyHash_int h
  ·exact wpAny_pyHash_str h
 eqBool:=λ hu hv h=>by
  rcases td0 hu with ⟨i,t,rfl,rfl⟩ | ⟨x,t,rfl,rfl⟩
  ·rcases td0 hv with ⟨j,u,rfl,rfl⟩ | ⟨y,u,rfl,rfl⟩
   ·rw [vi4] at h; exact wpAny_eqBool_int h
   ·rw [wi4] at h; exact SeqAt.EqAt.int_str i t y u _ _ _ _ h
  ·rcases td0 hv with ⟨j,u,rfl,rfl⟩ | ⟨y,u,rfl,rfl⟩
   ·rw [zi4] at h; exact SeqAt.EqAt.str_int x t j u _ _ _ _ h
   ·rw [yi4] at h; exact wpAny_eqBool_str h
 «strs» := λ k x t v h=>by
  rcases td0 h with ⟨i,u,rfl,e⟩ | ⟨y,u,rfl,e⟩
  ·exact nomatch e
  ·injection e with e1 _
   subst e1
   cases v <;> rfl
theorem xl1 (prog:Program) (w:World) (i:Int) (t:Tok):(ue0 prog w).is (.inl i) (.int i t)=true:=te2 i t
theorem sk1 (prog:Program) (w:World) (x:Str) (t:Tok):(ue0 prog w).is (.inr x) (.str x t)=true:=ue2 x t
inductive V where
 | non | bl (b:Bool) | int (i:Int) | str (x:Str) | byt (b:Array UInt8) | flt (b:UInt64) | ref (a:Addr) | ty (n:String)
 deriving DecidableEq
def RelV:V->Value->Prop
 | .non,u=>u=Value.none
 | .bl b,u=>u=Value.bool b
 | .int i,u=>∃ t,u=Value.int i t
 | .str x,u=>∃ t,u=Value.str x t
 | .byt b,u=>∃ t,u=Value.bytes b t
 | .flt b,u=>∃ t,u=Value.float b t
 | .ref a,u=>u=Value.ref a
 | .ty n,u=>u=Value.type n
abbrev Vals:List V->List Value->Prop:=Paired RelV
theorem Vals.length {xs:List V} {us:List Value} (r:Vals xs us):xs.length=us.length:=Paired.length r
theorem Vals.get:∀ {xs:List V} {us:List Value} {i:Nat} {x:V},Vals xs us->xs[i]?=some x->∃ u,us[i]?=some u /\ RelV x u
 | _,_,_,_,.nil,e=>by simp at e
 | _,_,0,_,.cons r _,e=>by simp at e; subst e; exact ⟨_,rfl,r⟩
 | _,_,i + 1,x,.cons _ t,e=>by
  obtain ⟨u,h1,h2⟩:=Vals.get (i:=i) (x:=x) t (by simpa using e)
  exact ⟨u,by simpa using h1,h2⟩
theorem Vals.set {x:V} {u:Value} (r:RelV x u):∀ {xs:List V} {us:List Value} (i:Nat),Vals xs us->Vals (xs.set i x) (us.set i u)
 | _,_,_,.nil=>.nil
 | _,_,0,.cons _ t=>.cons r t
 | _,_,i + 1,.cons q t=>.cons q (Vals.set r i t)
theorem Vals.append:∀ {xs ys:List V} {us ws:List Value},Vals xs us->Vals ys ws->Vals (xs ++ ys) (us ++ ws)
 | _,_,_,_,.nil,s=>s
 | _,_,_,_,.cons r t,s=>.cons r (Vals.append t s)
theorem Vals.take:∀ {xs:List V} {us:List Value} (n:Nat),Vals xs us->Vals (xs.take n) (us.take n)
 | _,_,0,_=>.nil
 | _,_,_ + 1,.nil=>.nil
 | _,_,n + 1,.cons r t=>.cons r (Vals.take n t)
theorem Vals.drop:∀ {xs:List V} {us:List Value} (n:Nat),Vals xs us->Vals (xs.drop n) (us.drop n)
 | _,_,0,r=>r
 | _,_,_ + 1,.nil=>.nil
 | _,_,n + 1,.cons _ t=>Vals.drop n t
def RelO:Option V->Option Value->Prop
 | some v,some u=>RelV v u
 | none,none=>True
 | _,_=>False
def KV {κ:Type}:List (κ × V)->List (κ × Value)->Prop:=Paired λ (p:κ × V) (q:κ × Value)=>p.1=q.1 /\ RelV p.2 q.2
def kV:Key->V
 | .inl i=>.int i
 | .inr x=>.str x
inductive HO where
 | lst (xs:List V)
 | tup (xs:List V)
 | dK (kvs:List (Key × V)) | dT (kvs:List (List Key × V))
 | set (S:Int->Bool) (n:Nat)
 | ins (C dx:Addr) (fs:List (Str × V))
 | own (x:Addr)
 | xd (fs:List (Str × V))
 | met (f x:Addr)
 | rng (lo hi:Int)
 | frz (o:Obj) (u:HO)
 | tbl (ps:Array Value)
 | ext (φ:Heap->Prop)
abbrev Hp:=Addr->Option HO
def upd (H:Hp) (a:Addr) (o:HO):Hp:=λ b=>if b=a then some o else H b
theorem wd0 {H:Hp} {a:Addr} {o:HO}:upd H a o a=some o:=by unfold upd; rw [if_pos rfl]
theorem vb0 {H:Hp} {a b:Addr} {o:HO} (h:b ≠ a):upd H a o b=H b:=by unfold upd; rw [if_neg h]
theorem xe2 {H:Hp} {a b:Addr} {o u:HO} (h:H a=some o) (h':H b=some u) (d:o ≠ u):a ≠ b:=by
 intro e; subst e; rw [h] at h'; exact d (Option.some.inj h')
theorem uf0 {H:Hp} {a b:Addr} {o:HO} (h:H a=some o) (h':H b=none):a ≠ b:=by
 intro e; subst e; rw [h] at h'; cases h'
section
variable (P:Program) (w:World)
def ObjOk (H:Hp) (h:Heap) (a:Addr):HO->Prop
 | .lst xs=>xs.length<=sizeLine /\ ∃ (its:List Value) (n:Nat),Vals xs its /\ h.get? a=some { cls:=.type "list",data:=.seq its.toArray n }
 | .tup xs=>xs.length<=sizeLine /\ ∃ its:List Value,Vals xs its /\ IsTup h a its.toArray
 | .dK kvs=>kvs.length<=sizeLine /\ (a == sysModules)=false /\ ∃ vs,KV kvs vs /\ h.DictOf (ue0 P w) a vs
 | .dT kvs=>kvs.length<=sizeLine /\ (a == sysModules)=false /\ ∃ xs:List (List Key × Addr × Value),
     Paired (λ (p:List Key × V) (q:List Key × Addr × Value)=>p.1=q.1 /\ H q.2.1=some (.tup (p.1.map kV)) /\ RelV p.2 q.2.2) kvs xs ∧
     ∃ o es ep,h.get? a=some o /\ o.ExactDict /\ o.data=.dict es ep /\ es.toList=xs.map (entryOfKey (tupleKind (ue0 P w))) /\ (xs.map (·.1)).Nodup /\ ep=kvs.length
 | .set S n=>h.SetOf (intKind P w) a S n
 | .ins C dx fs=>H dx=some (.own a) /\ fs.length<=1000 /\ dx ≠ a /\ h.get? a=some (PySem.W.instObj C dx) ∧
     ∃ mA,h.Ns1 dx mA /\ (∀ f,RelO (fs.lookup f) (mA f)) /\ PySem.Within mA (fs.map (·.1))
 | .own _=>∃ o,h.get? a=some o
 | .xd fs=>∃ mA,h.Ns1 a mA /\ ∀ f,RelO (fs.lookup f) (mA f)
 | .rng lo hi=>∃ t u v,h.get? a=some { cls:=.type "range",data:=.fields #[.int lo t,.int hi u,.int 1 v] }
 | .frz o u=>h.get? a=some o /\ ObjOk H h a u
 | .tbl ps=>h.get? a=some { cls:=.none,data:=.fields ps }
 | .met f x=>h.get? a=some (methodObj (.ref f) (.ref x))
 | .ext φ=>φ h /\ (∃ o,h.get? a=some o) /\ ∀ h1 h2:Heap,φ h1->(∀ o,h1.get? a=some o->h2.get? a=some o)->φ h2
def HOk (H:Hp) (h:Heap):Prop:=∀ a o,H a=some o->ObjOk P w H h a o
end
section
variable {P:Program} {w:World} {H H':Hp} {h h':Heap} {a:Addr} {o:HO}
theorem ObjOk.lt (x:ObjOk P w H h a o):a < h.objs.size:=by
 cases o with
 | lst xs=>obtain ⟨_,_,_,_,e⟩:=x; exact Heap.lt_size e
 | tup xs=>obtain ⟨_,_,_,p⟩:=x; exact p.lt
 | dK kvs=>obtain ⟨_,_,_,_,o,_,_,e,_⟩:=x; exact Heap.lt_size e
 | dT kvs=>obtain ⟨_,_,_,_,o,_,_,e,_⟩:=x; exact Heap.lt_size e
 | set S n=>obtain ⟨o,_,_,_,e,_⟩:=x; exact Heap.lt_size e
 | ins C dx fs=>obtain ⟨_,_,_,e,_⟩:=x; exact Heap.lt_size e
 | own y=>obtain ⟨_,e⟩:=x; exact Heap.lt_size e
 | xd fs=>obtain ⟨_,⟨_,_,_,e,_⟩,_⟩:=x; exact Heap.lt_size e
 | rng lo hi=>obtain ⟨_,_,_,e⟩:=x; exact Heap.lt_size e
 | frz ob u=>obtain ⟨e,_⟩:=x; exact Heap.lt_size e
 | tbl ps=>exact Heap.lt_size (show h.get? a=some _ from x)
 | met f y=>exact Heap.lt_size (show h.get? a=some _ from x)
 | ext φ=>obtain ⟨_,⟨_,e⟩,_⟩:=x; exact Heap.lt_size e
theorem Paired.mapP {α β:Type} {F G:α->β->Prop}:∀ {l₁:List α} {l₂:List β},Paired F l₁ l₂->(∀ a b,F a b->G a b)->Paired G l₁ l₂
 | _,_,.nil,_=>.nil
 | _,_,.cons r t,f=>.cons (f _ _ r) (Paired.mapP t f)
theorem ObjOk.stay (x:ObjOk P w H h a o) (k:∀ b u,(b=a \/ H b=some (.own a))->h.get? b=some u->h'.get? b=some u)
    (ho:∀ b,H b=some (.own a)->H' b=some (.own a)) (ht:∀ b xs,H b=some (.tup xs)->H' b=some (.tup xs)):ObjOk P w H' h' a o:=by
 induction o with
 | lst xs=>obtain ⟨z,its,n,r,e⟩:=x; exact ⟨z,its,n,r,k _ _ (.inl rfl) e⟩
 | tup xs=>obtain ⟨z,its,r,ob,e,c⟩:=x; exact ⟨z,its,r,ob,k _ _ (.inl rfl) e,c⟩
 | dK kvs=>obtain ⟨z,y,vs,r,ob,es,ep,e,c⟩:=x; exact ⟨z,y,vs,r,ob,es,ep,k _ _ (.inl rfl) e,c⟩
 | dT kvs =>
  obtain ⟨z,y,xs,r,ob,es,ep,e,c⟩:=x
  exact ⟨z,y,xs,Paired.mapP r λ p q z=>⟨z.1,ht _ _ z.2.1,z.2.2⟩,ob,es,ep,k _ _ (.inl rfl) e,c⟩
 | set S n=>obtain ⟨ob,es,ep,t,e,c⟩:=x; exact ⟨ob,es,ep,t,k _ _ (.inl rfl) e,c⟩
 | ins C dx fs =>
  obtain ⟨d,z,ne,e,mA,⟨od,es,ep,e2,c⟩,r⟩:=x
  exact ⟨ho _ d,z,ne,k _ _ (.inl rfl) e,mA,⟨od,es,ep,k _ _ (.inr d) e2,c⟩,r⟩
 | own y=>obtain ⟨ob,e⟩:=x; exact ⟨ob,k _ _ (.inl rfl) e⟩
 | xd fs=>obtain ⟨mA,⟨od,es,ep,e,c⟩,r⟩:=x; exact ⟨mA,⟨od,es,ep,k _ _ (.inl rfl) e,c⟩,r⟩
 | rng lo hi=>obtain ⟨t,u,v,e⟩:=x; exact ⟨t,u,v,k _ _ (.inl rfl) e⟩
 | frz ob u ih=>obtain ⟨e,q⟩:=x; exact ⟨k _ _ (.inl rfl) e,ih q⟩
 | tbl ps =>
  have e:h.get? a=some { cls:=.none,data:=.fields ps }:=x
  show h'.get? a=some { cls:=.none,data:=.fields ps }
  exact k a _ (.inl rfl) e
 | met f y =>
  have e:h.get? a=some (methodObj (.ref f) (.ref y)):=x
  show h'.get? a=some (methodObj (.ref f) (.ref y))
  exact k a _ (.inl rfl) e
 | ext φ=>obtain ⟨p,⟨o,e⟩,st⟩:=x; exact ⟨st _ _ p λ o q=>k _ _ (.inl rfl) q,⟨o,k _ _ (.inl rfl) e⟩,st⟩
theorem HOk.lt (x:HOk P w H h) (e:H a=some o):a < h.objs.size:=(x a o e).lt
theorem HOk.fresh (x:HOk P w H h) (e:h.objs.size<=a):H a=none:=by
 cases q:H a with
 | none=>rfl
 | some u=>exact absurd (Nat.lt_of_lt_of_le (x.lt q) e) (Nat.lt_irrefl _)
theorem HOk.kept (x:HOk P w H h) (k:∀ b u,h.get? b=some u->h'.get? b=some u):HOk P w H h':=λ a o e =>
 (x a o e).stay (λ b u _ q=>k b u q) (λ _ q=>q) λ _ _ q=>q
theorem HOk.laid (x:HOk P w H h) (k:∀ b u,h.get? b=some u->h'.get? b=some u) (hp:h.objs.size<=a) (new:ObjOk P w (upd H a o) h' a o):HOk P w (upd H a o) h':=λ b u e=>by
 have hn:=x.fresh hp
 by_cases hb:b=a
 ·subst hb; rw [wd0] at e; cases e; exact new
 ·rw [vb0 hb] at e
  exact (x b u e).stay (λ c v _ q=>k c v q) (λ c q=>by rw [vb0 (uf0 q hn)]; exact q) λ c xs q=>by rw [vb0 (uf0 q hn)]; exact q
end
def Rd (H:Hp) (a:Addr) (u:HO):Prop:=H a=some u \/ ∃ o,H a=some (.frz o u)
theorem Rd.ok {P:Program} {w:World} {H:Hp} {h:Heap} {a:Addr} {u:HO} (r:Rd H a u) (x:HOk P w H h):ObjOk P w H h a u:=by
 rcases r with r | ⟨o,r⟩
 ·exact x a u r
 ·obtain ⟨_,q⟩:=x a _ r
  exact q
def Mut:Option HO->Prop
 | some (.lst _)=>True
 | some (.dK _)=>True
 | some (.dT _)=>True
 | some (.set _ _)=>True
 | some (.ins _ _ _)=>True
 | some (.ext _)=>True
 | _=>False
section
variable {P:Program} {w:World} {H:Hp} {h h':Heap} {x e:Addr} {o':HO}
theorem HOk.write (ok:HOk P w H h) (mu:Mut (H x)) (he:e=x \/ H e=some (.own x)) (k:∀ b u,b ≠ e->h.get? b=some u->h'.get? b=some u) (heo:∃ u,h'.get? e=some u)
    (new:ObjOk P w (upd H x o') h' x o'):HOk P w (upd H x o') h':=λ b u q=>by
 have nown:∀ c y,H c=some (.own y)->c ≠ x:=λ c y r z=>by subst z; rw [r] at mu; exact mu
 have ntup:∀ c xs,H c=some (.tup xs)->c ≠ x:=λ c xs r z=>by subst z; rw [r] at mu; exact mu
 by_cases hb:b=x
 ·subst hb; rw [wd0] at q; cases q; exact new
 ·rw [vb0 hb] at q
  by_cases hbe:b=e
  ·have q':H b=some (.own x):=by
     rcases he with z | z
     ·exact absurd (hbe.trans z) hb
     ·rw [hbe]; exact z
   rw [q] at q'; cases q'
   obtain ⟨v,hv⟩:=heo
   exact ⟨v,by rw [hbe]; exact hv⟩
  ·refine (ok b u q).stay (λ c v hc r=>k c v ?_ r) (λ c r=>by rw [vb0 (nown c b r)]; exact r) λ c xs r=>by rw [vb0 (ntup c xs r)]; exact r
   rcases hc with rfl | hc
   ·exact hbe
   ·rintro rfl
    rcases he with z | z
    ·exact nown c b hc z
    ·rw [hc] at z; cases z; exact hb rfl
end
structure Un (fs ex:List Addr) (H H':Hp) (h h':Heap):Prop where
 keep:∀ b o,h.get? b=some o->H b=none->b ∉ fs->b ∉ ex->h'.get? b=some o
 slot:∀ b o,h.get? b=some o->H b=none->b ∈ fs->b ∉ ex->∃ sl,h'.get? b=some { o with slots:=sl }
 free:∀ b o,h.get? b=some o->H b=none->b ∉ ex->H' b=none
 there:∀ b o,h.get? b=some o->b ∉ ex->∃ o',h'.get? b=some o'
 tups:∀ b xs,H b=some (.tup xs)->H' b=some (.tup xs)
 frzs:∀ b o u,H b=some (.frz o u)->H' b=some (.frz o u)
 tbls:∀ b ps,H b=some (.tbl ps)->∃ more,H' b=some (.tbl (ps ++ more))
section
variable {fs fs' ex ex':List Addr} {H H1 H2:Hp} {h h1 h2 h':Heap} {a x e:Addr} {o:HO}
theorem Un.any (u:Un fs ex H H1 h h1) {b:Addr} {ob:Obj} (q:h.get? b=some ob) (n:H b=none) (hx:b ∉ ex):∃ sl,h1.get? b=some { ob with slots:=sl }:=by
 by_cases hb:b ∈ fs
 ·exact u.slot b ob q n hb hx
 ·exact ⟨ob.slots,u.keep b ob q n hb hx⟩
theorem Un.kept (k:∀ b u,h.get? b=some u->h'.get? b=some u):Un fs ex H H h h' :=
 ⟨λ b ob q _ _ _=>k b ob q,λ b ob q _ _ _=>⟨ob.slots,k b ob q⟩,λ _ _ _ n _=>n,λ b ob q _=>⟨ob,k b ob q⟩,λ _ _ q=>q,λ _ _ _ q=>q,λ _ ps q=>⟨#[],by rw [q]; simp⟩⟩
theorem Un.refl:Un fs ex H H h h:=Un.kept λ _ _ q=>q
theorem Un.laid (k:∀ b u,h.get? b=some u->h'.get? b=some u) (hp:h.objs.size<=a) (hn:H a=none):Un fs ex H (upd H a o) h h' where
 keep:=λ b u q _ _ _=>k b u q
 slot:=λ b u q _ _ _=>⟨u.slots,k b u q⟩
 free:=λ b u q n _=>by rw [vb0 (Nat.ne_of_lt (Nat.lt_of_lt_of_le (Heap.lt_size q) hp))]; exact n
 there:=λ b u q _=>⟨u,k b u q⟩
 tups:=λ b xs q=>by rw [vb0 (uf0 q hn)]; exact q
 frzs:=λ b u xs q=>by rw [vb0 (uf0 q hn)]; exact q
 tbls:=λ b ps q=>⟨#[],by rw [vb0 (uf0 q hn),q]; simp⟩
theorem Un.write (mu:Mut (H x)) (he:e=x \/ H e=some (.own x)) (k:∀ b u,b ≠ e->h.get? b=some u->h'.get? b=some u) (heo:∃ u,h'.get? e=some u):Un fs ex H (upd H x o) h h':=by
 have hx:∀ b,H b=none->b ≠ x:=λ b n z=>by subst z; rw [n] at mu; exact mu
 have hb:∀ b,H b=none->b ≠ e:=λ b n z=>by
  subst z
  rcases he with r | r
  ·exact hx b n r
  ·rw [n] at r; cases r
 have hm:∀ b u,H b=some u->¬ Mut (some u)->b ≠ x:=λ b u q nm z=>by subst z; rw [q] at mu; exact nm mu
 refine ⟨λ b u q n _ _=>k b u (hb b n) q,λ b u q n _ _=>⟨u.slots,k b u (hb b n) q⟩,λ b u q n _=>by rw [vb0 (hx b n)]; exact n,λ b u q _=>?_,
  λ b xs q=>by rw [vb0 (hm b _ q λ z=>z)]; exact q,λ b u xs q=>by rw [vb0 (hm b _ q λ z=>z)]; exact q,λ b ps q=>⟨#[],by rw [vb0 (hm b _ q λ z=>z),q]; simp⟩⟩
 by_cases hbe:b=e
 ·subst hbe; exact heo
 ·exact ⟨u,k b u hbe q⟩
end
def trk (h:Heap) (H:Hp):List Addr:=(List.range h.objs.size).filter λ a=>(H a).isSome
def hidT (h:Heap) (H:Hp):Heap:=hideAll h (trk h H)
theorem wf2 (h:Heap) (H:Hp):(hidT h H).objs.size=h.objs.size:=PySem.W.hideAll_size _ _
theorem zs2 {h:Heap} {H:Hp} {b:Addr} {o:Obj} (e:h.get? b=some o) (n:H b=none):(hidT h H).get? b=some o :=
 hideAll_get _ e λ hm=>by
  have q:(H b).isSome=true:=(List.mem_filter.mp hm).2
  rw [n] at q; simp at q
theorem xj3 {h:Heap} {H:Hp} {b:Addr} {o:Obj} (e:(hidT h H).get? b=some o):h.get? b=some o /\ H b=none:=by
 have e':h.get? b=some o:=of_hideAll (trk h H) e
 refine ⟨e',?_⟩
 cases q:H b with
 | none=>rfl
 | some x =>
  have hm:b ∈ trk h H:=List.mem_filter.mpr ⟨List.mem_range.mpr (Heap.lt_size e'),by simp [q]⟩
  have z:(hidT h H).get? b=none:=PySem.W.hideAll_none (trk h H) hm
  rw [z] at e; cases e
def sm3 (g h:Heap) (L:Addr):List (Addr × Obj):=(List.range h.objs.size).filterMap λ a=>if a=L \/ (g.get? a).isSome=true then none else (h.get? a).map λ o=>(a,o)
def rest (g h:Heap) (L d:Addr):List (Addr × Obj):=(sm3 g h L).filter λ p=>decide (p.1 ≠ d)
structure Mod (K:PySem.W.Frag) (mg:Str->Option Value) (base:Heap):Prop where
 kin:K.In base
 glob:base.Ns mainGlobals mg
 blt:∃ mb,base.Ns builtinsNs mb /\ ∀ x:Str,x ≠ "__name__" -> mb x=bootBuiltins x
 nolimit:base.NoLimit
structure Cx where
 prog:Program
 w:World
 K:PySem.W.Frag
 mg:Str->Option Value
 base:Heap
 A:Around
 N:List Str
 s₀:Shared
 H₀:Hp
 env:Env
 outer:List Env
 stack:List Env
 ex:List Addr
 fn:Str->Bool
 calm:Bool
 pn:List (Addr × Obj)
 xe:Value->Shared->Prop
def frs (l:List Env):List Addr:=l.filterMap (·.frame)
abbrev Cx.fs (X:Cx):List Addr:=frs X.outer
def Vis (sc:Scope) (x:Str):Prop:=sc.names.lookup x=some .local \/ sc.names.lookup x=some .cell \/ sc.names.lookup x=some .free
def Loc (sc:Scope) (x:Str):Prop:=sc.names.lookup x=some .local \/ sc.names.lookup x=some .cell
def Look (env:Env) (h:Heap) (m:Str->Option Value) (x:Str) (u:Value):Prop :=
 (env.kindOf x=some .local /\ m x=some u) \/ ((env.kindOf x=some .cell \/ env.kindOf x=some .free) /\ ∃ c,env.cells.lookup x=some c /\ h.IsCell c (some u))
structure Cx.Ok (X:Cx):Prop where
 mod:Mod X.K X.mg X.base
 kind:X.env.scope.kind=.function
 glob:X.env.globals=mainGlobals
 blt:X.env.builtins=builtinsNs
 above:X.s₀.heap.objs.size<=X.env.locals
 inj:∀ x y c,X.env.cells.lookup x=some c->X.env.cells.lookup y=some c->x=y
 has:∀ x,(X.env.kindOf x=some .cell \/ X.env.kindOf x=some .free)->∃ c,X.env.cells.lookup x=some c
 cab:∀ x c,X.fn x=true->X.env.cells.lookup x=some c->X.s₀.heap.objs.size<=c
 hd:X.calm=true->X.A.handled=none
 frames:X.A.frames=some X.stack
 stk:X.stack=X.outer \/ (X.stack=X.env :: X.outer /\ X.env.frame=some X.env.locals)
 exf:∀ b ∈ X.ex,b ≠ X.env.locals /\ ∀ x c,X.env.cells.lookup x=some c->c ≠ b
 bs:∀ b o,X.base.get? b=some o->X.s₀.heap.get? b=some o /\ X.H₀ b=none
 bsz:X.base.objs.size<=X.s₀.heap.objs.size
 noex:∀ b o,X.base.get? b=some o->b ∉ X.ex
 exfs:∀ b ∈ X.ex,b ∉ X.fs
 funs:X.s₀.heap.FunFrames X.base X.outer
 frf:∀ b ∈ X.fs,X.H₀ b=none
structure Inv (X:Cx) (pins:List (Addr × Obj)) (σ:List (Option V)) (H:Hp) (s:Shared):Prop where
 ok:X.Ok
 os:s.os=X.s₀.os
 bare:AllBare s.gens
 base:Un X.fs X.ex X.H₀ H X.s₀.heap s.heap
 loc:∃ m,s.heap.Ns X.env.locals m /\ ∀ (i:Nat) (x:Str) (v:V),X.N[i]?=some x->σ[i]?=some (some v)->Vis X.env.scope x->∃ u,RelV v u /\ Look X.env s.heap m x u
 cell:∀ x c,X.env.cells.lookup x=some c->∃ v,s.heap.IsCell c v
 free:H X.env.locals=none
 freeC:∀ x c,X.env.cells.lookup x=some c->H c=none
 pin:∀ p ∈ X.pn ++ pins,s.heap.get? p.1=some p.2 /\ H p.1=none /\ p.1 ≠ X.env.locals /\ p.1 ∉ X.fs /\ ∀ v,p.2.data ≠ .cell v
 hok:HOk X.prog X.w H s.heap
 len:σ.length=X.N.length
section
variable {X:Cx} {pins:List (Addr × Obj)} {σ:List (Option V)} {H H':Hp} {s:Shared} {h':Heap}
theorem Cx.Ok.nofr (ok:X.Ok) {b:Addr} {o:Obj} (e:X.base.get? b=some o):b ∉ X.fs:=λ hb=>by
 have:=(ok.funs.mem hb).1
 rw [e] at this; cases this
theorem Inv.bs (I:Inv X pins σ H s):∀ b o,X.base.get? b=some o->s.heap.get? b=some o /\ H b=none:=λ b o e =>
 ⟨I.base.keep b o (I.ok.bs b o e).1 (I.ok.bs b o e).2 (I.ok.nofr e) (I.ok.noex b o e),I.base.free b o (I.ok.bs b o e).1 (I.ok.bs b o e).2 (I.ok.noex b o e)⟩
theorem Inv.bk (I:Inv X pins σ H s):∀ b o,X.base.get? b=some o->s.heap.get? b=some o:=λ b o e=>(I.bs b o e).1
theorem Inv.mod (I:Inv X pins σ H s):Mod X.K X.mg X.base:=I.ok.mod
theorem Inv.kIn (I:Inv X pins σ H s):X.K.In s.heap:=I.ok.mod.kin.keeps I.bk
theorem Inv.lt (I:Inv X pins σ H s):X.env.locals < s.heap.objs.size:=let ⟨_,hn,_⟩:=I.loc; hn.lt
theorem Inv.sz (I:Inv X pins σ H s):X.s₀.heap.objs.size<=s.heap.objs.size:=Nat.le_trans I.ok.above (Nat.le_of_lt I.lt)
theorem Inv.nofs (I:Inv X pins σ H s) {a:Addr} (h:s.heap.objs.size<=a):a ∉ X.fs:=λ hb=>by
 obtain ⟨_,o,ho,_⟩:=I.ok.funs.mem hb
 exact absurd (Nat.lt_of_lt_of_le (Heap.lt_size ho) (Nat.le_trans I.sz h)) (Nat.lt_irrefl _)
theorem Inv.cne (I:Inv X pins σ H s):∀ x c,X.env.cells.lookup x=some c->c ≠ X.env.locals:=λ x c e z=>by
 obtain ⟨v,o,ho,hd⟩:=I.cell x c e
 obtain ⟨m,⟨o',es,ep,ho',hd',_⟩,_⟩:=I.loc
 rw [z,ho'] at ho; cases ho; rw [hd'] at hd; cases hd
theorem Inv.funs (I:Inv X pins σ H s):s.heap.FunFrames X.base X.outer:=by
 have all:∀ (l:List Env),(∀ b ∈ frs l,b ∈ X.fs)->X.s₀.heap.FunFrames X.base l->s.heap.FunFrames X.base l:=by
  intro l
  induction l with
  | nil=>intro _ _; trivial
  | cons env r ih =>
   intro hs hl
   obtain ⟨hk,⟨L,o,hf,hn,ho,hd⟩,hr⟩:=hl
   have hL:L ∈ X.fs:=hs L (by unfold frs; rw [filterMap_cons,hf]; exact mem_cons_self)
   obtain ⟨sl,e⟩:=I.base.slot L o ho (I.ok.frf L hL) hL λ z=>I.ok.exfs L z hL
   exact ⟨hk,⟨L,_,hf,hn,e,hd⟩,ih (λ b hb=>hs b (by unfold frs; rw [filterMap_cons,hf]; exact mem_cons_of_mem _ hb)) hr⟩
 exact all X.outer (λ _ hb=>hb) I.ok.funs
theorem Inv.stack (I:Inv X pins σ H s):s.heap.FunFrames X.base X.stack:=by
 rcases I.ok.stk with e | ⟨e,hf⟩
 ·rw [e]; exact I.funs
 ·rw [e]
  obtain ⟨m,hn,_⟩:=I.loc
  refine .cons (by rw [I.ok.kind]; decide) hf hn ?_ I.funs
  exact Heap.get?_none_of_le (Nat.le_trans I.ok.bsz I.ok.above)
theorem Inv.stkSub (I:Inv X pins σ H s):∀ b ∈ frs X.stack,b ∈ X.env.locals :: X.fs:=λ b hb=>by
 rcases I.ok.stk with e | ⟨e,hf⟩
 ·rw [e] at hb; exact mem_cons_of_mem _ hb
 ·rw [e] at hb
  unfold frs at hb
  rw [filterMap_cons,hf] at hb
  exact hb
theorem Inv.stkFree (I:Inv X pins σ H s):∀ b ∈ frs X.stack,H b=none:=λ b hb=>by
 rcases List.mem_cons.mp (I.stkSub b hb) with e | hb
 ·rw [e]; exact I.free
 ·obtain ⟨_,o,ho,_⟩:=I.ok.funs.mem hb
  exact I.base.free b o ho (I.ok.frf b hb) λ z=>I.ok.exfs b z hb
theorem Inv.step {g':Array GenState} {t':Nat} {d':Drawn} {ch:List Addr} (I:Inv X pins σ H s)
    (hch:∀ b ∈ ch,(b ∈ X.ex \/ X.s₀.heap.objs.size<=b) /\ b ≠ X.env.locals /\ (∀ x c,X.env.cells.lookup x=some c->c ≠ b) /\ ∀ p ∈ X.pn ++ pins,p.1 ≠ b)
    (keep:∀ b o,b ≠ X.env.locals->b ∉ X.fs->b ∉ ch->s.heap.get? b=some o->H b=none->h'.get? b=some o)
    (slot:∀ b o,b ≠ X.env.locals->b ∈ X.fs->b ∉ ch->s.heap.get? b=some o->H b=none->∃ sl,h'.get? b=some { o with slots:=sl }) (free:∀ b o,b ∉ ch->s.heap.get? b=some o->H b=none->H' b=none)
    (there:∀ b o,b ∉ ch->s.heap.get? b=some o->∃ o',h'.get? b=some o')
    (tups:∀ b xs,H b=some (.tup xs)->H' b=some (.tup xs)) (frzs:∀ b o u,H b=some (.frz o u)->H' b=some (.frz o u)) (tbls:∀ b ps,H b=some (.tbl ps)->∃ more,H' b=some (.tbl (ps ++ more)))
    (ns:∀ m,s.heap.Ns X.env.locals m->h'.Ns X.env.locals m) (hok:HOk X.prog X.w H' h') (hg:AllBare g') :
    Inv X pins σ H' { s with heap:=h',gens:=g',drawn:=d',toks:=t' }:=by
 have neL:∀ b o,X.s₀.heap.get? b=some o->b ≠ X.env.locals:=λ b o e=>Nat.ne_of_lt (Nat.lt_of_lt_of_le (Heap.lt_size e) I.ok.above)
 have neC:∀ b o,X.s₀.heap.get? b=some o->b ∉ X.ex->b ∉ ch:=λ b o e hx hb=>by
  rcases (hch b hb).1 with z | z
  ·exact hx z
  ·exact absurd (Nat.lt_of_lt_of_le (Heap.lt_size e) z) (Nat.lt_irrefl _)
 have cellK:∀ x c,X.env.cells.lookup x=some c->∀ v,s.heap.IsCell c v->h'.IsCell c v:=λ x c e v ⟨o,ho,hd⟩=>by
  have nch:c ∉ ch:=λ z=>(hch c z).2.2.1 x c e rfl
  by_cases hc:c ∈ X.fs
  ·obtain ⟨sl,q⟩:=slot c o (I.cne x c e) hc nch ho (I.freeC x c e)
   exact ⟨_,q,hd⟩
  ·exact ⟨o,keep c o (I.cne x c e) hc nch ho (I.freeC x c e),hd⟩
 refine ⟨I.ok,I.os,hg,⟨λ b o e n hb hx=>?_,λ b o e n hb hx=>?_,λ b o e n hx=>?_,λ b o e hx=>?_,λ b xs e=>tups b xs (I.base.tups b xs e),λ b o xs e=>frzs b o xs (I.base.frzs b o xs e),λ b ps e=>?_⟩,?_,λ x c e=>?_,?_,λ x c e=>?_,λ p hp=>?_,hok,I.len⟩
 ·exact keep b o (neL b o e) hb (neC b o e hx) (I.base.keep b o e n hb hx) (I.base.free b o e n hx)
 ·obtain ⟨sl,e1⟩:=I.base.slot b o e n hb hx
  obtain ⟨sl',e2⟩:=slot b _ (neL b o e) hb (neC b o e hx) e1 (I.base.free b o e n hx)
  exact ⟨sl',e2⟩
 ·obtain ⟨o',e1⟩:=I.base.there b o e hx
  exact free b o' (neC b o e hx) e1 (I.base.free b o e n hx)
 ·obtain ⟨o',e1⟩:=I.base.there b o e hx
  exact there b o' (neC b o e hx) e1
 ·obtain ⟨m1,e1⟩:=I.base.tbls b ps e
  obtain ⟨m2,e2⟩:=tbls b _ e1
  exact ⟨m1 ++ m2,by rw [e2,Array.append_assoc]⟩
 ·obtain ⟨m,hn,hl⟩:=I.loc
  refine ⟨m,ns m hn,λ i x v e1 e2 e3=>?_⟩
  obtain ⟨u,r,l⟩:=hl i x v e1 e2 e3
  refine ⟨u,r,?_⟩
  rcases l with l | ⟨k,c,e,z⟩
  ·exact .inl l
  ·exact .inr ⟨k,c,e,cellK x c e _ z⟩
 ·obtain ⟨v,z⟩:=I.cell x c e
  exact ⟨v,cellK x c e v z⟩
 ·obtain ⟨m,⟨o,_,_,ho,_⟩,_⟩:=I.loc
  exact free _ o (λ z=>(hch _ z).2.1 rfl) ho I.free
 ·obtain ⟨v,o,ho,hd⟩:=I.cell x c e
  exact free c o (λ z=>(hch c z).2.2.1 x c e rfl) ho (I.freeC x c e)
 ·obtain ⟨e,n,ne,nf,d⟩:=I.pin p hp
  have nch:p.1 ∉ ch:=λ z=>(hch p.1 z).2.2.2 p hp rfl
  exact ⟨keep p.1 p.2 ne nf nch e n,free p.1 p.2 nch e n,ne,nf,d⟩
theorem Inv.un {t':Nat} (I:Inv X pins σ H s) (u:Un X.fs [] H H' s.heap h') (hok:HOk X.prog X.w H' h'):Inv X pins σ H' { s with heap:=h',toks:=t' }:=by
 obtain ⟨m,⟨o,es,ep,ho,r⟩,_⟩:=id I.loc
 obtain ⟨sl,hL⟩:=u.any ho I.free (by simp)
 exact I.step (g':=s.gens) (d':=s.drawn) (ch:=[]) (λ _ z=>nomatch z) (λ b o _ hb _ e n=>u.keep b o e n hb (by simp)) (λ b o _ hb _ e n=>u.slot b o e n hb (by simp)) (λ b o _ e n=>u.free b o e n (by simp)) (λ b o _ e=>u.there b o e (by simp)) u.tups u.frzs u.tbls (λ m' hm=>by
  obtain ⟨o',es',ep',ho',r'⟩:=hm
  rw [ho] at ho'; cases ho'
  exact ⟨_,es',ep',hL,r'⟩) hok I.bare
theorem Inv.call {g':Array GenState} {t':Nat} {d':Drawn} {ch:List Addr} (I:Inv X pins σ H s) (u:Un (frs X.stack) ch H H' s.heap h') (hok:HOk X.prog X.w H' h') (hg:AllBare g')
    (hch:∀ b ∈ ch,(b ∈ X.ex \/ X.s₀.heap.objs.size<=b) /\ b ≠ X.env.locals /\ (∀ x c,X.env.cells.lookup x=some c->c ≠ b) /\ ∀ p ∈ X.pn ++ pins,p.1 ≠ b) :
    Inv X pins σ H' { s with heap:=h',gens:=g',drawn:=d',toks:=t' }:=by
 obtain ⟨m,⟨o,es,ep,ho,r⟩,_⟩:=id I.loc
 obtain ⟨sl,hL⟩:=u.any ho I.free λ z=>(hch _ z).2.1 rfl
 exact I.step (ch:=ch) hch (λ b o hL hb hc e n=>u.keep b o e n (λ z=>(List.mem_cons.mp (I.stkSub b z)).elim hL hb) hc) (λ b o _ _ hc e n=>u.any e n hc) (λ b o hc e n=>u.free b o e n hc) (λ b o hc e=>u.there b o e hc) u.tups u.frzs u.tbls (λ m' hm=>by
  obtain ⟨o',es',ep',ho',r'⟩:=hm
  rw [ho] at ho'; cases ho'
  exact ⟨_,es',ep',hL,r'⟩) hok hg
theorem Inv.turned {t':Nat} {it:Addr} (I:Inv X pins σ H s) (k:∀ b o,b ≠ it->s.heap.get? b=some o->h'.get? b=some o) (hn:H it=none) (hL:it ≠ X.env.locals)
    (h1:it ∈ X.ex \/ X.s₀.heap.objs.size<=it) (h2:∀ x c,X.env.cells.lookup x=some c->c ≠ it) (h3:∀ p ∈ X.pn ++ pins,p.1 ≠ it):Inv X pins σ H { s with heap:=h',toks:=t' }:=by
 have nit:∀ b u,H b=some u->b ≠ it:=λ b u e z=>by rw [z,hn] at e; cases e
 refine I.step (g':=s.gens) (d':=s.drawn) (ch:=[it]) (λ b hb=>?_) (λ b o _ _ hc e _=>k b o (λ z=>hc (by simp [z])) e) (λ b o _ _ hc e _=>⟨o.slots,k b o (λ z=>hc (by simp [z])) e⟩) (λ _ _ _ _ n=>n)
  (λ b o hc e=>⟨o,k b o (λ z=>hc (by simp [z])) e⟩) (λ _ _ e=>e) (λ _ _ _ e=>e) (λ b ps e=>⟨#[],by rw [e]; simp⟩) (λ m hm=>?_) (λ b u e=>?_) I.bare
 ·have e:b=it:=by simpa using hb
  subst e
  exact ⟨h1,hL,h2,h3⟩
 ·obtain ⟨o,es,ep,ho,r⟩:=hm
  exact ⟨o,es,ep,k _ o (Ne.symm hL) ho,r⟩
 ·refine (I.hok b u e).stay (λ c v hc q=>k c v ?_ q) (λ _ q=>q) λ _ _ q=>q
  rcases hc with z | z
  ·rw [z]; exact nit b u e
  ·exact nit c _ z
theorem Inv.tok (I:Inv X pins σ H s) (t:Nat):Inv X pins σ H { s with toks:=t }:=I.un (h':=s.heap) (t':=t) Un.refl I.hok
theorem Inv.kept {t':Nat} (I:Inv X pins σ H s) (k:∀ b u,s.heap.get? b=some u->h'.get? b=some u):Inv X pins σ H { s with heap:=h',toks:=t' }:=I.un (Un.kept k) (I.hok.kept k)
theorem Inv.laid {a:Addr} {o:HO} {t':Nat} (I:Inv X pins σ H s) (k:∀ b u,s.heap.get? b=some u->h'.get? b=some u) (hp:s.heap.objs.size<=a) (new:ObjOk X.prog X.w (upd H a o) h' a o) :
    Inv X pins σ (upd H a o) { s with heap:=h',toks:=t' }:=I.un (Un.laid k hp (I.hok.fresh hp)) (I.hok.laid k hp new)
theorem Inv.write {x e:Addr} {o:HO} {t':Nat} (I:Inv X pins σ H s) (mu:Mut (H x)) (he:e=x \/ H e=some (.own x)) (k:∀ b u,b ≠ e->s.heap.get? b=some u->h'.get? b=some u) (heo:∃ u,h'.get? e=some u)
    (new:ObjOk X.prog X.w (upd H x o) h' x o):Inv X pins σ (upd H x o) { s with heap:=h',toks:=t' }:=I.un (Un.write mu he k heo) (I.hok.write mu he k heo new)
theorem Inv.pins_of {pins':List (Addr × Obj)} (I:Inv X pins σ H s) (h:∀ p ∈ pins',s.heap.get? p.1=some p.2 /\ H p.1=none /\ p.1 ≠ X.env.locals /\ p.1 ∉ X.fs /\ ∀ v,p.2.data ≠ .cell v):Inv X pins' σ H s :=
 ⟨I.ok,I.os,I.bare,I.base,I.loc,I.cell,I.free,I.freeC,λ p hp=>(List.mem_append.mp hp).elim (λ z=>I.pin p (List.mem_append_left _ z)) (h p),I.hok,I.len⟩
theorem yc1 {N:List Str} (hN:N.Nodup) {i j:Nat} {x:Str} (a:N[i]?=some x) (b:N[j]?=some x):i=j:=by
 obtain ⟨h1,e1⟩:=List.getElem?_eq_some_iff.mp a
 obtain ⟨h2,e2⟩:=List.getElem?_eq_some_iff.mp b
 exact (List.getElem_inj hN).mp (e1.trans e2.symm)
theorem we1 {M:Model} {A:Around} {E:Value->Shared->Prop} {i:Nat} {x:Str} {v:V} {u:Value} {Q:Unit->Shared->Prop} (I:Inv X pins σ H s) (hN:X.N.Nodup) (hi:X.N[i]?=some x) (hx:Loc X.env.scope x) (r:RelV v u)
    (h:∀ s',Inv X pins (σ.set i (some v)) H s'->(∃ a,Heap.SameBut a s.heap s'.heap /\ (a=X.env.locals \/ X.env.cells.lookup x=some a))->Q () s') (hf:X.fn x=true \/ X.env.scope.names.lookup x=some .local:=by first | exact .inl rfl | exact .inr rfl | assumption):wpAny M A (storeName X.env x u) Q E s:=by
 obtain ⟨m,hn,hl⟩:=id I.loc
 have hcls:(X.env.scope.kind == .class || (X.env.scope.kind == .module && X.env.locals != X.env.globals))=false:=by rw [I.ok.kind]; rfl
 have hiσ:i < σ.length:=by rw [I.len]; exact (List.getElem?_eq_some_iff.mp hi).1
 have cne:=I.cne
 have tracked:∀ {a:Addr} {h':Heap},(∃ o,s.heap.get? a=some o /\ H a=none)->Heap.SameBut a s.heap h'->HOk X.prog X.w H h':=λ {a h'} ha hs b ob e=>by
  obtain ⟨_,_,hfree⟩:=ha
  refine (I.hok b ob e).stay (λ c w' hc q=>(hs.2 c ?_).trans q) (λ _ q=>q) λ _ _ q=>q
  rintro rfl
  rcases hc with rfl | hc
  ·rw [hfree] at e; cases e
  ·rw [hfree] at hc; cases hc
 rcases hx with hk | hk
 ·refine wpAny_storeName_local hk hn (λ h' hn' hs=>?_) hcls
  obtain ⟨oL,_,_,hoL,_⟩:=id hn
  refine h _ ⟨I.ok,I.os,I.bare,⟨λ b o e n hb hx=>?_,λ b o e n hb hx=>?_,I.base.free,λ b o e hx=>?_,I.base.tups,I.base.frzs,I.base.tbls⟩,⟨_,hn',λ j y v' e1 e2 e3=>?_⟩,λ y c e=>?_,I.free,I.freeC,λ p hp=>?_,tracked ⟨oL,hoL,I.free⟩ hs,by simpa using I.len⟩ ⟨_,hs,.inl rfl⟩
  ·exact (hs.2 b (Nat.ne_of_lt (Nat.lt_of_lt_of_le (Heap.lt_size e) I.ok.above))).trans (I.base.keep b o e n hb hx)
  ·obtain ⟨sl,e1⟩:=I.base.slot b o e n hb hx
   exact ⟨sl,(hs.2 b (Nat.ne_of_lt (Nat.lt_of_lt_of_le (Heap.lt_size e) I.ok.above))).trans e1⟩
  ·obtain ⟨o',e1⟩:=I.base.there b o e hx
   exact ⟨o',(hs.2 b (Nat.ne_of_lt (Nat.lt_of_lt_of_le (Heap.lt_size e) I.ok.above))).trans e1⟩
  ·by_cases hj:j=i
   ·subst hj
    rw [hi] at e1; cases e1
    rw [List.getElem?_set_self hiσ] at e2
    cases e2
    exact ⟨u,r,.inl ⟨hk,by simp⟩⟩
   ·rw [getElem?_set_ne (Ne.symm hj)] at e2
    obtain ⟨u',r',q⟩:=hl j y v' e1 e2 e3
    refine ⟨u',r',?_⟩
    rcases q with ⟨k,e⟩ | ⟨k,c,e,z⟩
    ·refine .inl ⟨k,?_⟩
     have:y ≠ x:=λ e=>hj (yc1 hN e1 (e ▸ hi))
     simp [this,e]
    ·exact .inr ⟨k,c,e,z.sameBut hs (cne y c e)⟩
  ·obtain ⟨w',z⟩:=I.cell y c e
   exact ⟨w',z.sameBut hs (cne y c e)⟩
  ·obtain ⟨e,n,ne,nf,d⟩:=I.pin p hp
   exact ⟨(hs.2 p.1 ne).trans e,n,ne,nf,d⟩
 ·have hfn:X.fn x=true:=by
    rcases hf with z | z
    ·exact z
    ·rw [z] at hk; cases hk
  obtain ⟨c,hc⟩:=I.ok.has x (.inl hk)
  obtain ⟨w',z⟩:=I.cell x c hc
  refine wpAny_storeName_cell I.ok.kind hk hc z (λ h' hc' hs=>?_)
  obtain ⟨oc,hoc,hocd⟩:=id z
  refine h { s with heap:=h' } ⟨I.ok,I.os,I.bare,⟨λ b o e n hb hx=>?_,λ b o e n hb hx=>?_,I.base.free,λ b o e hx=>?_,I.base.tups,I.base.frzs,I.base.tbls⟩,⟨m,hn.sameBut hs (Ne.symm (cne x c hc)),λ j y v' e1 e2 e3=>?_⟩,λ y c' e=>?_,I.free,I.freeC,λ p hp=>?_,tracked ⟨oc,hoc,I.freeC x c hc⟩ hs,by simpa using I.len⟩ ⟨c,hs,.inr hc⟩
  ·exact (hs.2 b (Nat.ne_of_lt (Nat.lt_of_lt_of_le (Heap.lt_size e) (I.ok.cab x c hfn hc)))).trans (I.base.keep b o e n hb hx)
  ·obtain ⟨sl,e1⟩:=I.base.slot b o e n hb hx
   exact ⟨sl,(hs.2 b (Nat.ne_of_lt (Nat.lt_of_lt_of_le (Heap.lt_size e) (I.ok.cab x c hfn hc)))).trans e1⟩
  ·obtain ⟨o',e1⟩:=I.base.there b o e hx
   exact ⟨o',(hs.2 b (Nat.ne_of_lt (Nat.lt_of_lt_of_le (Heap.lt_size e) (I.ok.cab x c hfn hc)))).trans e1⟩
  ·by_cases hj:j=i
   ·subst hj
    rw [hi] at e1; cases e1
    rw [List.getElem?_set_self hiσ] at e2
    cases e2
    exact ⟨u,r,.inr ⟨.inl hk,c,hc,hc'⟩⟩
   ·rw [getElem?_set_ne (Ne.symm hj)] at e2
    obtain ⟨u',r',q⟩:=hl j y v' e1 e2 e3
    refine ⟨u',r',?_⟩
    rcases q with q | ⟨k,c',e,z'⟩
    ·exact .inl q
    ·refine .inr ⟨k,c',e,z'.sameBut hs ?_⟩
     rintro rfl
     exact hj (yc1 hN e1 (I.ok.inj _ _ _ e hc ▸ hi))
  ·by_cases hcc:c'=c
   ·subst hcc; exact ⟨_,hc'⟩
   ·obtain ⟨w2,z2⟩:=I.cell y c' e
    exact ⟨w2,z2.sameBut hs hcc⟩
  ·obtain ⟨e,n,ne,nf,d⟩:=I.pin p hp
   refine ⟨(hs.2 p.1 ?_).trans e,n,ne,nf,d⟩
   intro q
   rw [q,hoc] at e
   have q':oc=p.2:=Option.some.inj e
   exact d w' (by rw [<- q']; exact hocd)
theorem xk0 {M:Model} {A:Around} {E:Value->Shared->Prop} {i:Nat} {x:Str} {v:V} {u:Value} {Q:Unit->Shared->Prop} (I:Inv X pins σ H s) (hN:X.N.Nodup) (hi:X.N[i]?=some x) (hx:Loc X.env.scope x) (r:RelV v u)
    (h:∀ s',Inv X pins (σ.set i (some v)) H s'->Q () s') (hf:X.fn x=true \/ X.env.scope.names.lookup x=some .local:=by first | exact .inl rfl | exact .inr rfl | assumption):wpAny M A (storeName X.env x u) Q E s :=
 we1 I hN hi hx r (λ s' I' _=>h s' I') hf
theorem Inv.call' {s':Shared} {ch:List Addr} (I:Inv X pins σ H s) (ho:s'.os=s.os) (u:Un (frs X.stack) ch H H' s.heap s'.heap) (hok:HOk X.prog X.w H' s'.heap) (hg:AllBare s'.gens)
    (hch:∀ b ∈ ch,(b ∈ X.ex \/ X.s₀.heap.objs.size<=b) /\ b ≠ X.env.locals /\ (∀ x c,X.env.cells.lookup x=some c->c ≠ b) /\ ∀ p ∈ X.pn ++ pins,p.1 ≠ b):Inv X pins σ H' s':=by
 obtain ⟨h',g',d',t',o'⟩:=s'
 have e:o'=s.os:=ho
 subst e
 exact I.call (g':=g') (t':=t') (d':=d') u hok hg hch
end
abbrev XK:=Value->Option Addr->Hp->Prop
abbrev St:=List (Option V)
abbrev VK:=V->Hp->Prop
abbrev TE:=St->Hp->VK->Prop
abbrev TT:=St->Hp->(Bool->Hp->Prop)->Prop
abbrev TA:=St->Hp->(List V->Hp->Prop)->Prop
structure Ends where
 nx:St->Hp->Prop
 rt:VK
 bk:St->Hp->Prop:=λ _ _=>False
 ct:St->Hp->Prop:=λ _ _=>False
abbrev TS:=Ends->St->Hp->Prop
def EP (X:Cx) (pins:List (Addr × Obj)) (σ:St) (Q:VK) (u:Value) (s':Shared):Prop:=∃ v H',Inv X pins σ H' s' /\ RelV v u /\ Q v H'
def TP (X:Cx) (pins:List (Addr × Obj)) (σ:St) (Q:Bool->Hp->Prop) (b:Bool) (s':Shared):Prop:=∃ H',Inv X pins σ H' s' /\ Q b H'
def AP (X:Cx) (pins:List (Addr × Obj)) (σ:St) (Q:List V->Hp->Prop) (us:List Value) (s':Shared):Prop:=∃ vs H',Inv X pins σ H' s' /\ Vals vs us /\ Q vs H'
def SP (X:Cx) (pins:List (Addr × Obj)) (D:Ends) (f:Flow) (s':Shared):Prop :=
 match f with
 | .next=>∃ σ' H',Inv X pins σ' H' s' /\ D.nx σ' H'
 | .brk=>∃ σ' H',Inv X pins σ' H' s' /\ D.bk σ' H'
 | .cont=>∃ σ' H',Inv X pins σ' H' s' /\ D.ct σ' H'
 | .ret u=>∃ v σ' H',Inv X pins σ' H' s' /\ RelV v u /\ D.rt v H'
def PE (X:Cx) (e:Expr) (t:TE):Prop :=
 ∀ (pins:List (Addr × Obj)) (s:Shared) (σ:St) (H:Hp) (Q:VK),Inv X pins σ H s->t σ H Q->wpAny (model X.prog X.w) X.A (eval e X.env) (EP X pins σ Q) X.xe s
def PT (X:Cx) (e:Expr) (t:TT):Prop :=
 ∀ (pins:List (Addr × Obj)) (s:Shared) (σ:St) (H:Hp) (Q:Bool->Hp->Prop),Inv X pins σ H s->t σ H Q->wpAny (model X.prog X.w) X.A (isTrue e X.env (eval e X.env)) (TP X pins σ Q) X.xe s
def PW (X:Cx) (e:Expr) (t:TT):Prop :=
 ∀ (whole:Sem Value) (pins:List (Addr × Obj)) (s:Shared) (σ:St) (H:Hp) (Q:Bool->Hp->Prop),Inv X pins σ H s->t σ H Q->wpAny (model X.prog X.w) X.A (isTrue e X.env whole) (TP X pins σ Q) X.xe s
theorem PW.pt {X:Cx} {e:Expr} {t:TT} (h:PW X e t):PT X e t:=h _
def PA (X:Cx) (es:List Expr) (t:TA):Prop :=
 ∀ (pos:Pos) (pins:List (Addr × Obj)) (s:Shared) (σ:St) (H:Hp) (Q:List V->Hp->Prop),Inv X pins σ H s->t σ H Q->wpAny (model X.prog X.w) X.A (spliced (backTo pos (starEach es X.env))) (AP X pins σ Q) X.xe s
def PS (X:Cx) (st:Stmt) (t:TS):Prop :=
 ∀ (pins:List (Addr × Obj)) (s:Shared) (σ:St) (H:Hp) (D:Ends),Inv X pins σ H s->t D σ H->wpAny (model X.prog X.w) X.A (exec st X.env) (SP X pins D) X.xe s
def PSs (X:Cx) (st:List Stmt) (t:TS):Prop :=
 ∀ (pins:List (Addr × Obj)) (s:Shared) (σ:St) (H:Hp) (D:Ends),Inv X pins σ H s->t D σ H->wpAny (model X.prog X.w) X.A (execs st X.env) (SP X pins D) X.xe s
theorem thn {α:Type} {t:Sem α} {Q Q':α->Shared->Prop} {M:Model} {A:Around} {E:Value->Shared->Prop} {s:Shared} (h:wpAny M A t Q E s) (hQ:∀ a s,Q a s->Q' a s):wpAny M A t Q' E s:=wpAny_mono h hQ λ _ _ x=>x
section
variable {X:Cx}
def tVar (i:Nat):TE:=λ σ H Q=>∃ v,σ[i]?=some (some v) /\ Q v H
def tC (v:V):TE:=λ _ H Q=>Q v H
theorem vw2 {i:Nat} {x:Str} {pos:Pos} (hN:X.N[i]?=some x) (hv:Vis X.env.scope x) (hd:(x == ("__debug__" : Str))=false:=by decide) (hcd:(x == ("__classdict__" : Str))=false:=by decide):PE X (.Name x pos) (tVar i):=by
 intro pins s σ H Q I h
 obtain ⟨v,e,h⟩:=h
 obtain ⟨m,hn,hl⟩:=I.loc
 obtain ⟨u,r,l⟩:=hl i x v hN e hv
 have fin:EP X pins σ Q u s:=⟨v,H,I,r,h⟩
 rcases l with ⟨hk,hm⟩ | ⟨hk,c,hc,hcell⟩
 ·exact wpAny_Name (wpAny_loadName_local I.ok.kind hk hn hm fin) hd
 ·rcases hk with hk | hk
  ·exact wpAny_Name (wpAny_loadName_cell I.ok.kind hk hc hcell fin) hd
  ·exact wpAny_Name (wpAny_loadName_free I.ok.kind hk hc hcell fin hcd) hd
theorem yf4 {i j pos}:PE X (.Constant (.int i) j pos) (tC (.int i)):=λ _ _ _ H _ I h=>wpAny_Constant_int ⟨.int i,H,I.tok _,⟨_,rfl⟩,h⟩
theorem yt4 {b j pos}:PE X (.Constant (.bool b) j pos) (tC (.bl b)):=λ _ _ _ H _ I h=>Constant_bool ⟨.bl b,H,I,rfl,h⟩
theorem se4 {j pos}:PE X (.Constant .none j pos) (tC .non):=λ _ _ _ H _ I h=>Constant_none ⟨.non,H,I,rfl,h⟩
theorem ve4 {x j pos}:PE X (.Constant (.str x) j pos) (tC (.str x)):=λ _ _ _ H _ I h=>Calls.Constant_str ⟨.str x,H,I.tok _,⟨_,rfl⟩,h⟩
def Gl (X:Cx) (x:Str):Prop:=X.env.kindOf x=some .globalImplicit
theorem vl0 {E:Value->Shared->Prop} {pins:List (Addr × Obj)} {s:Shared} {σ:St} {H:Hp} {x:Str} {u:Value} {pos:Pos} {Q:Value->Shared->Prop} (I:Inv X pins σ H s) (hg:Gl X x) (hm:X.mg x=some u) (h:Q u s)
    (hd:(x == ("__debug__" : Str))=false:=by decide):wpAny (model X.prog X.w) X.A (eval (.Name x pos) X.env) Q E s :=
 Calls.Name_function_global I.ok.kind hg (Calls.loadGlobal_global (by rw [I.ok.glob]; exact I.mod.glob.keeps I.bk) hm h) hd
theorem tt0 {E:Value->Shared->Prop} {pins:List (Addr × Obj)} {s:Shared} {σ:St} {H:Hp} {x:Str} {u:Value} {pos:Pos} {Q:Value->Shared->Prop} (I:Inv X pins σ H s) (hg:Gl X x) (hm:X.mg x=none) (hv:bootBuiltins x=some u) (h:Q u s)
    (hn:x ≠ "__name__" := by decide) (hd:(x == ("__debug__" : Str))=false:=by decide):wpAny (model X.prog X.w) X.A (eval (.Name x pos) X.env) Q E s:=by
 obtain ⟨mb,h1,h2⟩:=I.mod.blt
 exact Calls.Name_function_global I.ok.kind hg (Calls.loadGlobal_builtin (by rw [I.ok.glob]; exact I.mod.glob.keeps I.bk) hm (by rw [I.ok.blt]; exact h1.keeps I.bk) ((h2 x hn).trans hv) h) hd
theorem xi3 {x:Str} {v:V} {u:Value} {pos:Pos} (hg:Gl X x) (hm:X.mg x=some u) (r:RelV v u) (hd:(x == ("__debug__" : Str))=false:=by decide):PE X (.Name x pos) (tC v) :=
 λ _ _ _ H _ I h=>vl0 I hg hm ⟨v,H,I,r,h⟩ hd
theorem xd2 {x:Str} {v:V} {u:Value} {pos:Pos} (hg:Gl X x) (hm:X.mg x=none) (hv:bootBuiltins x=some u) (r:RelV v u) (hn:x ≠ "__name__" := by decide) (hd:(x == ("__debug__" : Str))=false:=by decide):PE X (.Name x pos) (tC v) :=
 λ _ _ _ H _ I h=>tt0 I hg hm hv ⟨v,H,I,r,h⟩ hn hd
variable {a b:Expr} {ta tb:TE} {pos:Pos}
def tB (t:TE):TT:=λ σ H Q=>t σ H λ x H1=>∃ c,x=.bl c /\ Q c H1
theorem zd4 {e:Expr} {t:TE} (h:PE X e t) (he:∀ whole,isTrue e X.env whole=(do let v <- whole; standAt e.pos; holding [v] (truthy v)):=by intro _; rfl):PT X e (tB t):=by
 intro pins s σ H Q I hw
 refine isTrue_plain (thn (h pins s σ H _ I hw) λ v s1 ⟨x,H1,I1,r1,q1⟩=>?_) (he _)
 obtain ⟨d,rfl,q⟩:=q1
 cases r1
 exact wpAny_truthy_bool ⟨H1,I1,q⟩
variable {tA tB':TT} {rest:List Expr}
def tAnd (t u:TT):TT:=λ σ H Q=>t σ H λ c H1=>if c=true then u σ H1 Q else Q false H1
def tOr (t u:TT):TT:=λ σ H Q=>t σ H λ c H1=>if c=true then Q true H1 else u σ H1 Q
def tNot (t:TT):TT:=λ σ H Q=>t σ H λ c H1=>Q (!c) H1
theorem xg3 (ha:PT X a tA):PW X (.BoolOp .And [a] pos) tA:=by
 intro wh pins s σ H Q I h
 refine isTrue_and (thn (ha pins s σ H Q I h) λ c s1 e=>?_)
 cases c with
 | true=>exact isTrue_and_nil e
 | false=>exact e
theorem xd4 (ha:PT X a tA):PW X (.BoolOp .Or [a] pos) tA:=by
 intro wh pins s σ H Q I h
 refine isTrue_or (thn (ha pins s σ H Q I h) λ c s1 e=>?_)
 cases c with
 | false=>exact isTrue_or_nil e
 | true=>exact e
theorem yd4 (ha:PT X a tA) (hb:PW X (.BoolOp .And (b :: rest) pos) tB'):PW X (.BoolOp .And (a :: b :: rest) pos) (tAnd tA tB'):=by
 intro wh pins s σ H Q I h
 refine isTrue_and (thn (ha pins s σ H _ I h) λ c s1 ⟨H1,I1,q1⟩=>?_)
 cases c with
 | true=>exact hb wh pins s1 σ H1 Q I1 q1
 | false=>exact ⟨H1,I1,q1⟩
theorem vs4 (ha:PT X a tA) (hb:PW X (.BoolOp .Or (b :: rest) pos) tB'):PW X (.BoolOp .Or (a :: b :: rest) pos) (tOr tA tB'):=by
 intro wh pins s σ H Q I h
 refine isTrue_or (thn (ha pins s σ H _ I h) λ c s1 ⟨H1,I1,q1⟩=>?_)
 cases c with
 | true=>exact ⟨H1,I1,q1⟩
 | false=>exact hb wh pins s1 σ H1 Q I1 q1
theorem wd4 (ha:PT X a tA):PT X (.UnaryOp .Not a pos) (tNot tA):=by
 intro pins s σ H Q I h
 exact isTrue_not (ha pins s σ H (λ c H1=>Q (!c) H1) I h)
def vn4 (ta tb:TE):TE:=λ σ H Q=>ta σ H λ x H1=>∃ c,x=.bl c /\ if c=true then tb σ H1 Q else Q (.bl false) H1
def xn4 (ta:TE):TE:=λ σ H Q=>ta σ H λ x H1=>∃ c,x=.bl c /\ Q (.bl (!c)) H1
theorem ue4 {op} {t:TE} (h:PE X a t):PE X (.BoolOp op [a] pos) t:=λ pins s σ H Q I hw=>BoolOp_one (h pins s σ H Q I hw)
theorem zf4 (ha:PE X a ta) (hb:PE X (.BoolOp .And (b :: rest) pos) tb):PE X (.BoolOp .And (a :: b :: rest) pos) (vn4 ta tb):=by
 intro pins s σ H Q I h
 refine BoolOp_and (thn (ha pins s σ H _ I h) λ v s1 ⟨x,H1,I1,r1,q1⟩=>?_)
 obtain ⟨c,rfl,q1⟩:=q1
 cases r1
 refine wpAny_truthy_bool ?_
 cases c with
 | true=>exact hb pins s1 σ H1 Q I1 q1
 | false=>exact ⟨.bl false,H1,I1,rfl,q1⟩
theorem te4 (ha:PE X a ta):PE X (.UnaryOp .Not a pos) (xn4 ta):=by
 intro pins s σ H Q I h
 refine UnaryOp_ (thn (ha pins s σ H _ I h) λ v s1 ⟨x,H1,I1,r1,q1⟩=>?_)
 obtain ⟨c,rfl,q1⟩:=q1
 cases r1
 exact not_of (wpAny_truthy_bool ⟨.bl (!c),H1,I1,rfl,q1⟩)
end
def SqL (K:PySem.W.Frag) (H:Hp) (a:Addr) (xs:List V):Prop :=
 Rd H a (.lst xs) ∨
  ∃ (o:Obj) (its:Array Value) (n:Nat),K.lookup a=some o /\ o.cls=.type "list" /\ o.dict=none /\ o.data=.seq its n /\ its.size<=sizeLine /\ Vals xs its.toList
def SqT (K:PySem.W.Frag) (H:Hp) (a:Addr) (xs:List V):Prop :=
 Rd H a (.tup xs) ∨
  ∃ (o:Obj) (its:Array Value) (n:Nat),K.lookup a=some o /\ o.cls=.type "tuple" /\ o.data=.seq its n /\ its.size<=sizeLine /\ Vals xs its.toList
def absV:Value->Option V
 | .none=>some .non
 | .bool b=>some (.bl b)
 | .int i _=>some (.int i)
 | .str x _=>some (.str x)
 | .bytes b _=>some (.byt b)
 | .float b _=>some (.flt b)
 | .ref a=>some (.ref a)
 | .type n=>some (.ty n)
 | _=>none
theorem RelV.abs {x:V} {u:Value} (r:RelV x u):absV u=some x:=by
 cases x with
 | non=>cases r; rfl
 | bl _=>cases r; rfl
 | int _=>obtain ⟨t,rfl⟩:=r; rfl
 | str _=>obtain ⟨t,rfl⟩:=r; rfl
 | byt _=>obtain ⟨t,rfl⟩:=r; rfl
 | flt _=>obtain ⟨t,rfl⟩:=r; rfl
 | ref _=>cases r; rfl
 | ty _=>cases r; rfl
theorem RelV.inj {x y:V} {u:Value} (r:RelV x u) (q:RelV y u):x=y:=Option.some.inj (r.abs.symm.trans q.abs)
theorem Vals.inj:∀ {xs ys:List V} {us:List Value},Vals xs us->Vals ys us->xs=ys
 | _,_,_,.nil,.nil=>rfl
 | _,_,_,.cons r t,.cons r' t'=>by rw [r.inj r',Vals.inj t t']
section
variable {X:Cx} {pins:List (Addr × Obj)} {σ:St} {H:Hp} {s:Shared} {a:Addr} {xs ys:List V}
theorem SqL.of {K:PySem.W.Frag} (h:H a=some (.lst xs)):SqL K H a xs:=.inl (.inl h)
theorem SqT.of {K:PySem.W.Frag} (h:H a=some (.tup xs)):SqT K H a xs:=.inl (.inl h)
theorem Inv.list (I:Inv X pins σ H s) (h:SqL X.K H a xs):∃ its:List Value,Vals xs its /\ PlainL s.heap a its.toArray /\ xs.length<=sizeLine:=by
 rcases h with h | ⟨o,its,n,hk,hc,hd,hs,hz,r⟩
 ·obtain ⟨z,its,n,r,e⟩:=h.ok I.hok
  exact ⟨its,r,⟨_,n,e,rfl,rfl,rfl⟩,z⟩
 ·refine ⟨its.toList,r,⟨o,n,I.kIn a o hk,hc,hd,by simpa using hs⟩,?_⟩
  have e:=r.length
  simp only [length_toList] at e
  omega
theorem Inv.tuple (I:Inv X pins σ H s) (h:SqT X.K H a xs):∃ its:List Value,Vals xs its /\ IsTup s.heap a its.toArray /\ xs.length<=sizeLine:=by
 rcases h with h | ⟨o,its,n,hk,hc,hs,hz,r⟩
 ·obtain ⟨z,its,r,p⟩:=h.ok I.hok
  exact ⟨its,r,p,z⟩
 ·refine ⟨its.toList,r,⟨o,I.kIn a o hk,hc,n,by simpa using hs⟩,?_⟩
  have e:=r.length
  simp only [length_toList] at e
  omega
theorem Inv.list_inj (I:Inv X pins σ H s) (h:SqL X.K H a xs) (h':SqL X.K H a ys):xs=ys:=by
 obtain ⟨its,r,⟨o,n,e,_,_,d⟩,_⟩:=I.list h
 obtain ⟨its',r',⟨o',n',e',_,_,d'⟩,_⟩:=I.list h'
 rw [e] at e'; cases e'
 rw [d] at d'
 injection d' with d1 _
 have:its=its':=by simpa using congrArg Array.toList d1
 subst this
 exact r.inj r'
theorem Inv.tuple_inj (I:Inv X pins σ H s) (h:SqT X.K H a xs) (h':SqT X.K H a ys):xs=ys:=by
 obtain ⟨its,r,⟨o,e,_,n,d⟩,_⟩:=I.tuple h
 obtain ⟨its',r',⟨o',e',_,n',d'⟩,_⟩:=I.tuple h'
 rw [e] at e'; cases e'
 rw [d] at d'
 injection d' with d1 _
 have:its=its':=by simpa using congrArg Array.toList d1
 subst this
 exact r.inj r'
end
abbrev Cx.wish (X:Cx) (E:Value->Shared->Prop):Cx:={ X with xe:=E }
abbrev Cx.nox (X:Cx):Cx:=X.wish λ _ _=>False
theorem Cx.Ok.wish {X:Cx} (ok:X.Ok) (E:Value->Shared->Prop):(X.wish E).Ok :=
 ⟨ok.mod,ok.kind,ok.glob,ok.blt,ok.above,ok.inj,ok.has,ok.cab,ok.hd,ok.frames,ok.stk,ok.exf,ok.bs,ok.bsz,ok.noex,ok.exfs,ok.funs,ok.frf⟩
theorem Cx.Ok.unwish {X:Cx} {E:Value->Shared->Prop} (ok:(X.wish E).Ok):X.Ok :=
 ⟨ok.mod,ok.kind,ok.glob,ok.blt,ok.above,ok.inj,ok.has,ok.cab,ok.hd,ok.frames,ok.stk,ok.exf,ok.bs,ok.bsz,ok.noex,ok.exfs,ok.funs,ok.frf⟩
section
variable {X:Cx} {pins:List (Addr × Obj)} {σ:St} {H:Hp} {s:Shared} {E:Value->Shared->Prop}
theorem Inv.wish (I:Inv X pins σ H s) (E:Value->Shared->Prop):Inv (X.wish E) pins σ H s:=⟨I.ok.wish E,I.os,I.bare,I.base,I.loc,I.cell,I.free,I.freeC,I.pin,I.hok,I.len⟩
theorem Inv.unwish (I:Inv (X.wish E) pins σ H s):Inv X pins σ H s:=⟨I.ok.unwish,I.os,I.bare,I.base,I.loc,I.cell,I.free,I.freeC,I.pin,I.hok,I.len⟩
theorem SP.unwish {D:Ends} {f:Flow} {s':Shared} (h:SP (X.wish E) pins D f s'):SP X pins D f s':=by
 cases f with
 | next=>obtain ⟨σ',H',I,q⟩:=h; exact ⟨σ',H',I.unwish,q⟩
 | brk=>obtain ⟨σ',H',I,q⟩:=h; exact ⟨σ',H',I.unwish,q⟩
 | cont=>obtain ⟨σ',H',I,q⟩:=h; exact ⟨σ',H',I.unwish,q⟩
 | ret u=>obtain ⟨v,σ',H',I,r,q⟩:=h; exact ⟨v,σ',H',I.unwish,r,q⟩
theorem PSs.nox {st:List Stmt} {t:TS} (h:PSs X.nox st t):PSs X st t:=λ pins s σ H D I hw =>
 wpAny_mono (h pins s σ H D (I.wish _) hw) (λ _ _ q=>q.unwish) λ _ _ z=>False.elim z
end
section
variable {X:Cx} {st:Stmt} {rest:List Stmt} {t u:TS} {e:Expr} {te:TE} {pos:Pos}
def yn4:TS:=λ D σ H=>D.nx σ H
def tSeq (t u:TS):TS:=λ D σ H=>t { D with nx:=u D } σ H
theorem vg3:PSs X [] yn4:=λ _ _ σ H _ I h=>wpAny_execs_nil ⟨σ,H,I,h⟩
theorem uo2 (h1:PS X st t) (h2:PSs X rest u):PSs X (st :: rest) (tSeq t u):=by
 intro pins s σ H D I h
 refine wpAny_execs_cons (thn (h1 pins s σ H { D with nx:=u D } I h) λ f s1 q=>?_)
 cases f with
 | next =>
  obtain ⟨σ',H',I',q⟩:=q
  exact h2 pins s1 σ' H' D I' q
 | ret v=>exact q
 | brk=>exact q
 | cont=>exact q
theorem wg3 (h1:PS X st t):PSs X [st] t:=by
 intro pins s σ H D I h
 refine wpAny_execs_cons (thn (h1 pins s σ H D I h) λ f s1 q=>?_)
 cases f with
 | next=>exact wpAny_execs_nil q
 | ret v=>exact q
 | brk=>exact q
 | cont=>exact q
theorem Inv.quiet {pins:List (Addr × Obj)} {σ:St} {H:Hp} {s:Shared} (I:Inv X pins σ H s):interactive X.env=false:=by simp [interactive,I.ok.kind]
def zn4 (te:TE):TS:=λ D σ H=>te σ H λ _ H1=>D.nx σ H1
theorem xh3 (he:PE X e te) (hs:swapsWith e none pos.line X.env=pure false:=by rfl):PS X (.Expr e pos) (zn4 te):=by
 intro pins s σ H D I h
 exact wpAny_Expr_any (thn (he pins s σ H _ I h) λ v s1 ⟨x,H1,I1,r1,q1⟩=>⟨σ,H1,I1,q1⟩) I.quiet hs
def tRet (te:TE):TS:=λ D σ H=>te σ H D.rt
theorem ud4 (he:PE X e te):PS X (.Return (some e) pos) (tRet te):=by
 intro pins s σ H D I h
 exact wpAny_Return_some (thn (he pins s σ H _ I h) λ v s1 ⟨x,H1,I1,r1,q1⟩=>⟨x,σ,H1,I1,r1,q1⟩)
def tIfS (c:TT) (t u:TS):TS:=λ D σ H=>c σ H λ b H1=>if b=true then t D σ H1 else u D σ H1
theorem us4 {c:Expr} {a b:List Stmt} {tc:TT} (hc:PT X c tc) (ha:PSs X a t) (hb:PSs X b u):PS X (.If c a b pos) (tIfS tc t u):=by
 intro pins s σ H D I h
 refine wpAny_If (thn (hc pins s σ H _ I h) λ d s1 ⟨H1,I1,q1⟩=>?_)
 cases d with
 | true=>exact ha pins s1 σ H1 D I1 q1
 | false=>exact hb pins s1 σ H1 D I1 q1
end
abbrev TG:=V->St->Hp->(St->Hp->Prop)->Prop
abbrev TGs:=List V->St->Hp->(St->Hp->Prop)->Prop
def PG (X:Cx) (target:Expr) (t:TG):Prop :=
 ∀ (pins:List (Addr × Obj)) (s:Shared) (σ:St) (H:Hp) (v:V) (u:Value) (Q:St->Hp->Prop),Inv X pins σ H s->RelV v u->t v σ H Q ->
  wpAny (model X.prog X.w) X.A (assign target X.env u) (λ _ s'=>∃ σ' H',Inv X pins σ' H' s' /\ Q σ' H') X.xe s
def PGs (X:Cx) (ts:List Expr) (t:TGs):Prop :=
 ∀ (pins:List (Addr × Obj)) (s:Shared) (σ:St) (H:Hp) (vs:List V) (us:List Value) (Q:St->Hp->Prop),Inv X pins σ H s->Vals vs us->t vs σ H Q ->
  wpAny (model X.prog X.w) X.A (assignInOrder ((assignEach ts X.env).map (·.2)) us) (λ _ s'=>∃ σ' H',Inv X pins σ' H' s' /\ Q σ' H') X.xe s
abbrev TSet:=V->V->V->Hp->(Hp->Prop)->Prop
def PSet (X:Cx) (t:TSet):Prop :=
 ∀ (pins:List (Addr × Obj)) (s:Shared) (σ:St) (H:Hp) (o i v:V) (ov iv u:Value) (Q:Hp->Prop),Inv X pins σ H s->RelV o ov->RelV i iv->RelV v u->t o i v H Q ->
  wpAny (model X.prog X.w) X.A (setItem ov iv u) (λ _ s'=>∃ H',Inv X pins σ H' s' /\ Q H') X.xe s
section
variable {X:Cx} {pos:Pos}
def yl3 (i:Nat):TG:=λ v σ H Q=>Q (σ.set i (some v)) H
theorem th3 {i:Nat} {x:Str} (hN:X.N.Nodup) (hi:X.N[i]?=some x) (hx:Loc X.env.scope x) (hf:X.fn x=true \/ X.env.scope.names.lookup x=some .local:=by first | exact .inl rfl | exact .inr rfl | assumption):PG X (.Name x pos) (yl3 i):=by
 intro pins s σ H v u Q I r h
 exact wpAny_assign_Name (xk0 I hN hi hx r (λ s' I'=>⟨_,H,I',h⟩) hf)
def gNil:TGs:=λ vs σ H Q=>vs=[] /\ Q σ H
def tu4 (t:TG) (u:TGs):TGs:=λ vs σ H Q=>∃ v r,vs=v :: r /\ t v σ H λ σ' H'=>u r σ' H' Q
theorem uh3:PGs X [] gNil:=by
 intro pins s σ H vs us Q I r h
 obtain ⟨e,h⟩:=h
 subst e
 cases r
 exact assignInOrder_nil ⟨σ,H,I,h⟩
theorem xp2 {e:Expr} {es:List Expr} {t:TG} {u:TGs} (h1:PG X e t) (h2:PGs X es u)
    (hs:(assignEach (e :: es) X.env).map (·.2)=assign e X.env :: (assignEach es X.env).map (·.2):=by rfl):PGs X (e :: es) (tu4 t u):=by
 intro pins s σ H vs us Q I r h
 obtain ⟨v,vr,e1,h⟩:=h
 subst e1
 cases r with
 | cons r rr =>
  rw [hs]
  refine assignInOrder_cons (thn (h1 pins s σ H _ _ _ I r h) λ _ s1 ⟨σ1,H1,I1,q1⟩=>?_)
  exact h2 pins s1 σ1 H1 _ _ Q I1 rr q1
def gTup (K:PySem.W.Frag) (n:Nat) (t:TGs):TG:=λ v σ H Q=>∃ a xs,v=.ref a /\ SqT K H a xs /\ xs.length=n /\ t xs σ H Q
theorem ze4 {es:List Expr} {k:Nat} {t:TGs} {n:Nat} (hc:X.calm=true) (h:PGs X es t)
    (hn:(assignEach es X.env).length=n:=by rfl) (hst:(assignEach es X.env).findIdx? (·.1)=none:=by rfl):PG X (.Tuple es k pos) (gTup X.K n t):=by
 intro pins s σ H v u Q I r hw
 obtain ⟨a,xs,e1,hq,hl,hw⟩:=hw
 subst e1
 cases r
 obtain ⟨its,rv,ht,hz⟩:=I.tuple hq
 refine assign_Tuple_tuple (I.ok.hd hc) ht (by simp [hn,<- hl,rv.length]) hst λ h' hx=>?_
 have I1:Inv X pins σ H { s with heap:=h' }:=I.kept (t':=s.toks) λ b o e=>hx b o (Nat.ne_of_lt (Heap.lt_size e)) e
 exact h pins _ σ H xs _ Q I1 (by simpa using rv) hw
def gSub (to ti:TE) (t:TSet):TG:=λ v σ H Q=>to σ H λ o H1=>ti σ H1 λ i H2=>t o i v H2 λ H3=>Q σ H3
theorem we4 {o i:Expr} {to ti:TE} {t:TSet} (ho:PE X o to) (hi:PE X i ti) (hs:PSet X t)
    (ha:∀ v,assign (.Subscript o i pos) X.env v=(do
     let ov <- holding [v] (eval o X.env)
     let iv <- holding [v,ov] (eval i X.env)
     standAt pos
     holding [v,ov,iv] (setItem ov iv v)
     release [v,ov,iv] []):=by intro _; rfl):PG X (.Subscript o i pos) (gSub to ti t):=by
 intro pins s σ H v u Q I r h
 rw [ha]
 refine wpAny_bind (wpAny_holding (thn (ho pins s σ H _ I h) λ ov s1 ⟨x,H1,I1,r1,q1⟩=>?_))
 refine wpAny_bind (wpAny_holding (thn (hi pins s1 σ H1 _ I1 q1) λ iv s2 ⟨y,H2,I2,r2,q2⟩=>?_))
 refine wpAny_bind (wpAny_standAt (wpAny_bind (wpAny_holding (thn (hs pins s2 σ H2 x y v ov iv u _ I2 r1 r2 r q2) λ _ s3 ⟨H3,I3,q3⟩=>?_))))
 exact wpAny_release ⟨σ,H3,I3,q3⟩
def tAsg (te:TE) (g:TG):TS:=λ D σ H=>te σ H λ x H1=>g x σ H1 D.nx
theorem xe4 {tg e:Expr} {te:TE} {g:TG} (he:PE X e te) (hg:PG X tg g) (hs:swapsWithSole [tg] e pos.line X.env=pure false:=by rfl) (hw:swappedStores [tg] e X.env=pure none:=by rfl)
    (h1:(assignEach [tg] X.env).map (·.2)=[assign tg X.env]:=by rfl):PS X (.Assign [tg] e pos) (tAsg te g):=by
 intro pins s σ H D I h
 refine wpAny_Assign_stores (thn (he pins s σ H _ I h) λ v s1 ⟨x,H1,I1,r1,q1⟩=>?_) hs hw
 rw [h1]
 exact thn (hg pins s1 σ H1 x v _ I1 r1 q1) λ _ s2 q=>q
theorem sb2 {i:Nat} {x:Str} {e:Expr} {te:TE} {pos':Pos} (hN:X.N.Nodup) (hi:X.N[i]?=some x) (hx:Loc X.env.scope x) (he:PE X e te) (hs:swapsWith e (some (.Name x pos')) pos.line X.env=pure false:=by rfl) (hf:X.fn x=true \/ X.env.scope.names.lookup x=some .local:=by first | exact .inl rfl | exact .inr rfl | assumption) :
    PS X (.Assign [.Name x pos'] e pos) (tAsg te (yl3 i)):=by
 intro pins s σ H D I h
 refine wpAny_Assign_Name (thn (he pins s σ H _ I h) λ v s1 ⟨y,H1,I1,r1,q1⟩=>?_) hs
 exact xk0 I1 hN hi hx r1 (λ s2 I2=>⟨_,H1,I2,q1⟩) hf
def tPar (i j:Nat) (ta:TA):TS:=λ D σ H=>ta σ H λ vs H1=>∃ v w,vs=[v,w] /\ D.nx ((σ.set i (some v)).set j (some w)) H1
theorem td4 {i j:Nat} {x y:Str} {a b:Expr} {ta:TA} {px py pt:Pos} {kt k2 pt2} (hc:X.calm=true) (hN:X.N.Nodup) (hi:X.N[i]?=some x) (hj:X.N[j]?=some y) (hij:i ≠ j)
    (hx:X.env.scope.names.lookup x=some .local) (hy:X.env.scope.names.lookup y=some .local) (ha:PA X [a,b] ta)
    (hw:swappedStores [.Tuple [.Name x px,.Name y py] kt pt] (.Tuple [a,b] k2 pt2) X.env=pure (some [x,y]))
    (hs:swapsWithSole [.Tuple [.Name x px,.Name y py] kt pt] (.Tuple [a,b] k2 pt2) pos.line X.env=pure false:=by rfl) :
    PS X (.Assign [.Tuple [.Name x px,.Name y py] kt pt] (.Tuple [a,b] k2 pt2) pos) (tPar i j ta):=by
 intro pins s σ H D I h
 rw [exec_Assign_arm]
 refine wpAny_bind (wpAny_standAt ?_)
 rw [hs]
 refine wpAny_bind (wpAny_pure ?_)
 rw [if_neg (by decide)]
 refine wpAny_bind (Tuple_ (thn (ha _ pins s σ H _ I h) λ us s1 ⟨vs,H1,I1,r1,q1⟩=>?_))
 obtain ⟨v,w,e1,q1⟩:=q1
 subst e1
 obtain ⟨u1,u2,rfl,rv,rw'⟩:∃ u1 u2,us=[u1,u2] /\ RelV v u1 /\ RelV w u2:=by
  cases r1 with
  | cons p q =>
   cases q with
   | cons p' q' =>
    cases q'
    exact ⟨_,_,rfl,p,p'⟩
 refine wpAny_newObj_type ?_ (by show 2<=sizeLine; decide)
 have I2:Inv X pins σ H1 { s1 with heap:=s1.heap.push { cls:=.type "tuple",data:=.seq [u1,u2].toArray } }:=I1.kept (t':=s1.toks) λ b o e=>Heap.get?_push_of_some _ e
 rw [hw]
 refine wpAny_bind (wpAny_pure ?_)
 show wpAny (model X.prog X.w) X.A (do rule "assign.swapped-stores"; let items <- unpackItems (.ref s1.heap.objs.size) 2 none; assignInOrder [λ v=>bindName X.env y v,λ v=>bindName X.env x v] items.reverse; pure Flow.next) _ _ _
 refine wpAny_bind (wpAny_rule (wpAny_bind (unpackItems_tuple (items:=#[u1,u2]) (I.ok.hd hc) (IsTup.new s1.heap _) λ h' hx'=>?_)))
 have I3:=I2.kept (h':=h') (t':=s1.toks) λ b o e=>hx' b o (Nat.ne_of_lt (Heap.lt_size e)) e
 show wpAny _ _ (assignInOrder [λ v=>bindName X.env y v,λ v=>bindName X.env x v] [u2,u1] >>= λ _=>pure Flow.next) _ _ _
 refine wpAny_bind (assignInOrder_cons (wpAny_bindName (xk0 I3 hN hj (.inl hy) rw' (λ s2 I4=>?_) (.inr hy))))
 refine assignInOrder_cons (wpAny_bindName (xk0 I4 hN hi (.inl hx) rv (λ s3 I5=>assignInOrder_nil (wpAny_pure ?_)) (.inr hx)))
 rw [List.set_comm _ _ (Ne.symm hij)] at I5
 exact ⟨_,H1,I5,q1⟩
end
section
variable {X:Cx} {pos:Pos}
end
structure It where
 go:Nat->Hp->Prop
 yld:Nat->Hp->V->Hp->Prop
 stop:Nat->Hp->Prop
def FpOk (X:Cx) (pins:List (Addr × Obj)) (H:Hp) (b:Addr):Prop :=
 H b=none /\ b ≠ X.env.locals /\ b ∉ X.fs /\ (b ∈ X.ex \/ X.s₀.heap.objs.size<=b) /\ (∀ x c,X.env.cells.lookup x=some c->c ≠ b) /\ ∀ p ∈ X.pn ++ pins,p.1 ≠ b
theorem Inv.fpOk {X:Cx} {pins:List (Addr × Obj)} {σ:St} {H H':Hp} {s:Shared} {b:Addr} (I:Inv X pins σ H s) (hb:s.heap.objs.size<=b) (hn:H' b=none):FpOk X pins H' b:=by
 refine ⟨hn,Nat.ne_of_gt (Nat.lt_of_lt_of_le I.lt hb),I.nofs hb,.inr (Nat.le_trans I.sz hb),λ x c e z=>?_,λ p hp z=>?_⟩
 ·obtain ⟨v,q⟩:=I.cell x c e
  exact absurd (Nat.lt_of_lt_of_le q.lt (by rw [z]; exact hb)) (Nat.lt_irrefl _)
 ·exact absurd (Nat.lt_of_lt_of_le (Heap.lt_size (I.pin p hp).1) (by rw [z]; exact hb)) (Nat.lt_irrefl _)
structure Turn (P:Program) (w:World) (K:PySem.W.Frag) (tg:Expr) (J:It) (fp:List Addr) (it:Addr) (tn:Nat->Heap->Prop):Prop where
 mem:it ∈ fp
 obj:∀ i h,tn i h->∀ b ∈ fp,∃ o,h.get? b=some o /\ ∀ v,o.data ≠ .cell v
 keep:∀ i h h',tn i h->(∀ b ∈ fp,∀ o,h.get? b=some o->h'.get? b=some o)->tn i h'
 item:∀ (X:Cx),X.prog=P->X.w=w->X.K=K->X.calm=true->∀ (i:Nat) (pins:List (Addr × Obj)) (s:Shared) (σ:St) (H:Hp) (E:Value->Shared->Prop),Inv X pins σ H s->(∀ b ∈ fp,FpOk X pins H b)->tn i s.heap->J.go i H ->
  wpAny (model P w) X.A (pyNext (.ref it)) (λ r s1=>∃ u,r=some u ∧
   wpAny (model P w) X.A (letOwnedTupleGo tg (.ref it) u) (λ _ s2=>∃ x H',Inv X pins σ H' s2 /\ RelV x u /\ J.yld i H x H' /\ tn (i + 1) s2.heap /\ ∀ b ∈ fp,H' b=none) E s1) E s
 done:∀ (X:Cx),X.prog=P->X.w=w->X.K=K->X.calm=true->∀ (i:Nat) (pins:List (Addr × Obj)) (s:Shared) (σ:St) (H:Hp) (E:Value->Shared->Prop),Inv X pins σ H s->(∀ b ∈ fp,FpOk X pins H b)->tn i s.heap->J.stop i H ->
  wpAny (model P w) X.A (pyNext (.ref it)) (λ r s1=>r=none /\ Inv X pins σ H s1) E s
 self:∀ (A:Around) (i:Nat) (s:Shared) (Q:Value->Shared->Prop) (E:Value->Shared->Prop),tn i s.heap->Q (.ref it) s->wpAny (model P w) A (pyIter (.ref it)) Q E s
abbrev TI:=St->Hp->(It->Hp->Prop)->Prop
def PIE (X:Cx) (pins:List (Addr × Obj)) (σ:St) (tg:Expr) (R:It->Hp->Prop) (itv:Value) (s2:Shared):Prop :=
 ∃ (it:Addr) (fp:List Addr) (tn:Nat->Heap->Prop) (J:It) (H':Hp),itv=.ref it /\ Inv X pins σ H' s2 /\ Turn X.prog X.w X.K tg J fp it tn /\ tn 0 s2.heap /\ (∀ b ∈ fp,FpOk X pins H' b) /\ R J H'
def PI (X:Cx) (tg iter:Expr) (wi:TI):Prop :=
 ∀ (pins:List (Addr × Obj)) (s:Shared) (σ:St) (H:Hp) (R:It->Hp->Prop),Inv X pins σ H s->wi σ H R ->
  wpAny (model X.prog X.w) X.A (eval iter X.env) (λ v s1=>wpAny (model X.prog X.w) X.A (pyIter v) (PIE X pins σ tg R) X.xe s1) X.xe s
theorem vf2 {M:Model} {A:Around} {E:Value->Shared->Prop} {s:Shared} {tg:Expr} {it:Addr} {u:Value} {o:Obj} {n:String} {vs:Array Value} {Q:Unit->Shared->Prop} (ho:s.heap.get? it=some o) (hc:o.cls=.type n) (hd:o.data=.fields vs)
    (hn:["enumerate", "zip", "dict_itemiterator", "dict_reverseitemiterator", "odict_iterator", "itertools.zip_longest", "itertools.pairwise"].contains n=false) (hQ:Q () s):wpAny M A (letOwnedTupleGo tg (.ref it) u) Q E s:=by
 unfold letOwnedTupleGo
 cases tg <;> first
  | exact wpAny_pure hQ
  | (cases u <;> first
      | exact wpAny_pure hQ
      | (refine wpAny_bind (wpAny_load ho ?_)
         rw [hc,hd]
         show wpAny M A (if (["enumerate", "zip", "dict_itemiterator", "dict_reverseitemiterator", "odict_iterator", "itertools.zip_longest", "itertools.pairwise"].contains n && vs[0]? == some (rawInt _))=true then _ else _) Q E s
         rw [if_neg (by intro h; rw [hn,Bool.false_and] at h; cases h)]
         exact wpAny_pure hQ))
def Itl (K:PySem.W.Frag) (a:Addr):It :=
 ⟨λ i H=>∃ xs x,SqL K H a xs /\ xs[i]?=some x,λ i H x H'=>H'=H /\ ∀ xs,SqL K H a xs->xs[i]?=some x,λ i H=>∃ xs,SqL K H a xs /\ xs.length<=i⟩
def Itt (K:PySem.W.Frag) (a:Addr):It :=
 ⟨λ i H=>∃ xs x,SqT K H a xs /\ xs[i]?=some x,λ i H x H'=>H'=H /\ ∀ xs,SqT K H a xs->xs[i]?=some x,λ i H=>∃ xs,SqT K H a xs /\ xs.length<=i⟩
def Itr (lo:Int) (n:Nat):It:=⟨λ i _=>i < n,λ i H x H'=>H'=H /\ x=.int (lo + i),λ i _=>n<=i⟩
theorem vx1 {P:Program} {w:World} {K:PySem.W.Frag} {tg:Expr} (a it:Addr):Turn P w K tg (Itl K a) [it] it (λ i h=>h.IsListIter it a i) where
 mem:=by simp
 obj:=λ i h st b hb=>by
  have e:b=it:=by simpa using hb
  subst e
  obtain ⟨o,e,c,d⟩:=st
  exact ⟨o,e,λ v z=>by rw [d] at z; cases z⟩
 keep:=λ i h h' st k=>st.at λ o e=>k it (by simp) o e
 item:=by
  intro X hP hw hK hc i pins s σ H E I hf st hg
  subst hP hw hK
  obtain ⟨xs,x,hq,hx⟩:=hg
  obtain ⟨its,rv,p,hz⟩:=I.list hq
  obtain ⟨u,hu,ru⟩:=rv.get hx
  obtain ⟨f0,f1,f2,f3,f4,f5⟩:=hf it (by simp)
  refine wpAny_pyNext_list_item st p.isList (x:=u) (by simpa using hu) λ h' st' sb=>?_
  have I1:Inv X pins σ H { s with heap:=h' }:=I.turned (t':=s.toks) (λ b o hb e=>(sb.2 b hb).trans e) f0 f1 f3 f4 f5
  obtain ⟨o,e,c,d⟩:=id st'
  exact ⟨u,rfl,vf2 (s:={ s with heap:=h' }) e c d (by decide) ⟨x,H,I1,ru,⟨rfl,λ ys hy=>by rw [I.list_inj hy hq]; exact hx⟩,st',λ b hb=>(hf b hb).1⟩⟩
 done:=by
  intro X hP hw hK hc i pins s σ H E I hf st hg
  subst hP hw hK
  obtain ⟨xs,hq,hx⟩:=hg
  obtain ⟨its,rv,p,hz⟩:=I.list hq
  obtain ⟨f0,f1,f2,f3,f4,f5⟩:=hf it (by simp)
  have hl:=rv.length
  exact wpAny_pyNext_list_end (I.ok.hd hc) st p.isList (by simp; omega) λ h' eb=>⟨rfl,I.turned (t':=s.toks) (λ b o hb e=>eb b o hb e) f0 f1 f3 f4 f5⟩
 self:=λ _ _ _ _ _ st h=>wpAny_pyIter_listiter st h
theorem tr1 {P:Program} {w:World} {K:PySem.W.Frag} {tg:Expr} (a it:Addr):Turn P w K tg (Itt K a) [it] it (λ i h=>h.IsTupleIter it a i) where
 mem:=by simp
 obj:=λ i h st b hb=>by
  have e:b=it:=by simpa using hb
  subst e
  obtain ⟨o,e,c,d⟩:=st
  exact ⟨o,e,λ v z=>by rw [d] at z; cases z⟩
 keep:=λ i h h' st k=>st.at λ o e=>k it (by simp) o e
 item:=by
  intro X hP hw hK hc i pins s σ H E I hf st hg
  subst hP hw hK
  obtain ⟨xs,x,hq,hx⟩:=hg
  obtain ⟨its,rv,p,hz⟩:=I.tuple hq
  obtain ⟨u,hu,ru⟩:=rv.get hx
  obtain ⟨f0,f1,f2,f3,f4,f5⟩:=hf it (by simp)
  refine wpAny_pyNext_tuple_item st (show s.heap.IsTuple a its.toArray from p) (x:=u) (by simpa using hu) λ h' st' sb=>?_
  have I1:Inv X pins σ H { s with heap:=h' }:=I.turned (t':=s.toks) (λ b o hb e=>(sb.2 b hb).trans e) f0 f1 f3 f4 f5
  obtain ⟨o,e,c,d⟩:=id st'
  exact ⟨u,rfl,vf2 (s:={ s with heap:=h' }) e c d (by decide) ⟨x,H,I1,ru,⟨rfl,λ ys hy=>by rw [I.tuple_inj hy hq]; exact hx⟩,st',λ b hb=>(hf b hb).1⟩⟩
 done:=by
  intro X hP hw hK hc i pins s σ H E I hf st hg
  subst hP hw hK
  obtain ⟨xs,hq,hx⟩:=hg
  obtain ⟨its,rv,p,hz⟩:=I.tuple hq
  obtain ⟨f0,f1,f2,f3,f4,f5⟩:=hf it (by simp)
  have hl:=rv.length
  exact wpAny_pyNext_tuple_end (I.ok.hd hc) st (show s.heap.IsTuple a its.toArray from p) (by simp; omega) λ h' eb=>⟨rfl,I.turned (t':=s.toks) (λ b o hb e=>eb b o hb e) f0 f1 f3 f4 f5⟩
 self:=λ _ _ _ _ _ st h=>wpAny_pyIter_tupleiter st h
theorem sr1 {P:Program} {w:World} {K:PySem.W.Frag} {tg:Expr} (it:Addr) (lo:Int) (n:Nat):Turn P w K tg (Itr lo n) [it] it (λ i h=>IsRangeIter h it (lo + (i:Nat) * 1) ((n:Int) - (i:Nat)) 1) where
 mem:=by simp
 obj:=λ i h st b hb=>by
  have e:b=it:=by simpa using hb
  subst e
  exact ⟨_,st,λ v z=>by
   have z':Data.fields _=Data.cell v:=z
   cases z'⟩
 keep:=λ i h h' st k=>k it (by simp) _ st
 item:=by
  intro X hP hw hK hc i pins s σ H E I hf st hg
  subst hP hw hK
  obtain ⟨f0,f1,f2,f3,f4,f5⟩:=hf it (by simp)
  have W:=Walks.range (prog:=X.prog) (w:=X.w) (I.ok.hd hc) it lo 1 n
  refine W.item i s _ _ hg st λ v h' tk hv st' kk=>?_
  obtain ⟨t,rfl⟩:=hv
  have I1:Inv X pins σ H { s with heap:=h',toks:=tk }:=I.turned (λ b o hb e=>kk b o (by simpa using hb) e) f0 f1 f3 f4 f5
  refine ⟨_,rfl,vf2 (s:={ s with heap:=h',toks:=tk }) (n := "range_iterator") st' rfl rfl (by decide) ⟨.int (lo + i),H,I1,⟨t,?_⟩,⟨rfl,rfl⟩,st',λ b hb=>(hf b hb).1⟩⟩
  rw [Int.mul_one]
 done:=by
  intro X hP hw hK hc i pins s σ H E I hf st hg
  subst hP hw hK
  obtain ⟨f0,f1,f2,f3,f4,f5⟩:=hf it (by simp)
  exact wpAny_pyNext_range_end (I.ok.hd hc) st (by have:n<=i:=hg; omega) λ h' eb=>⟨rfl,I.turned (t':=s.toks) (λ b o hb e=>eb b o hb e) f0 f1 f3 f4 f5⟩
 self:=λ _ _ _ _ _ st h=>wpAny_pyIter_rangeiter st h
section
variable {X:Cx} {tg:Expr}
theorem xo1 {pins:List (Addr × Obj)} {σ:St} {H:Hp} {s:Shared} {R:It->Hp->Prop} {E:Value->Shared->Prop} {lo hi:Int} {t u v:Tok} {tk:Nat} (I:Inv X pins σ H s) (h1 : -(2 ^ 62)<=lo) (h2:lo < 2 ^ 62) (h3 : -(2 ^ 62)<=hi) (h4:hi < 2 ^ 62)
    (q:R (Itr lo (hi - lo).toNat) H):wpAny (model X.prog X.w) X.A (pyIter (.ref s.heap.objs.size)) (PIE X pins σ tg R) E { s with heap:=s.heap.push { cls:=.type "range",data:=.fields #[.int lo t,.int hi u,.int 1 v] },toks:=tk }:=by
 refine wpAny_pyIter_range (IsRange.new ..) (small_one h1 h2 h3 h4) ?_
 have I1:Inv X pins σ H { s with heap:=s.heap.push { cls:=.type "range",data:=.fields #[.int lo t,.int hi u,.int 1 v] },toks:=tk }:=I.kept λ b o e=>Heap.get?_push_of_some _ e
 refine ⟨(s.heap.push { cls:=.type "range",data:=.fields #[.int lo t,.int hi u,.int 1 v] }).objs.size,[(s.heap.push { cls:=.type "range",data:=.fields #[.int lo t,.int hi u,.int 1 v] }).objs.size],_,_,H,rfl,
  I1.kept (t':=tk) λ b o e=>Heap.get?_push_of_some _ e,sr1 _ lo (hi - lo).toNat,?_,λ b hb=>?_,q⟩
 ·have e1:lo + ((0:Nat):Int) * 1=lo:=by simp
  have e2:(((hi - lo).toNat:Nat):Int) - ((0:Nat):Int)=Builtin.Range.rangeSize lo hi 1:=by rw [rangeSize_one]; split <;> omega
  show IsRangeIter _ _ (lo + ((0:Nat):Int) * 1) ((((hi - lo).toNat:Nat):Int) - ((0:Nat):Int)) 1
  rw [e1,e2]
  exact Heap.get?_push_size _ rfl
 ·have e:b=(s.heap.push { cls:=.type "range",data:=.fields #[.int lo t,.int hi u,.int 1 v] }).objs.size:=by simpa using hb
  subst e
  exact I1.fpOk (Nat.le_refl _) (I1.hok.fresh (Nat.le_refl _))
def uu4 (ta:TA):TI:=λ σ H R=>ta σ H λ vs H1=>∃ j:Int,vs=[.int j] /\ -(2 ^ 62)<=j /\ j < 2 ^ 62 /\ R (Itr 0 j.toNat) H1
def vu4 (ta:TA):TI:=λ σ H R=>ta σ H λ vs H1=>∃ i j:Int,vs=[.int i,.int j] /\ (-(2 ^ 62)<=i /\ i < 2 ^ 62 /\ -(2 ^ 62)<=j /\ j < 2 ^ 62) /\ R (Itr i (j - i).toNat) H1
theorem tc2 {a:Expr} {ta:TA} {p pos:Pos} (hg:Gl X "range") (hm:X.mg "range" = none) (ha:PA X [a] ta) (hs:starEach [a] X.env=[(false,eval a X.env)]:=by rfl):PI X tg (.Call (.Name "range" p) [a] [] pos) (uu4 ta):=by
 intro pins s σ H R I h
 refine Call_ (tt0 I hg hm boot_range (PyProof.Rows.callWith_type1 (thn (ha pos pins s σ H _ I h) λ us s1 ⟨vs,H1,I1,r1,q1⟩=>?_) hs rfl))
 obtain ⟨j,e,q1,q2,q⟩:=q1
 subst e
 cases r1 with
 | cons r rr =>
  cases rr
  obtain ⟨t,rfl⟩:=r
  exact call_range_1 (xo1 I1 (by omega) (by omega) q1 q2 (by simpa using q))
theorem uc2 {a b:Expr} {ta:TA} {p pos:Pos} (hg:Gl X "range") (hm:X.mg "range" = none) (ha:PA X [a,b] ta) (hs:starEach [a,b] X.env=[(false,eval a X.env),(false,eval b X.env)]:=by rfl) (hs2:starEach [b] X.env=[(false,eval b X.env)]:=by rfl) :
    PI X tg (.Call (.Name "range" p) [a,b] [] pos) (vu4 ta):=by
 intro pins s σ H R I h
 refine Call_ (tt0 I hg hm boot_range (PyProof.Rows.callWith_type1 (thn (ha pos pins s σ H _ I h) λ us s1 ⟨vs,H1,I1,r1,q1⟩=>?_) (by rw [hs,hs2]) (by rw [hs2]; rfl)))
 obtain ⟨i,j,e,⟨q1,q2,q3,q4⟩,q⟩:=q1
 subst e
 cases r1 with
 | cons r rr =>
  cases rr with
  | cons r' rr =>
   cases rr
   obtain ⟨t,rfl⟩:=r
   obtain ⟨t',rfl⟩:=r'
   exact call_range_2 (xo1 I1 q1 q2 q3 q4 q)
def tFor (wi:TI) (g:TG) (tb:TS):TS:=λ D σ H=>wi σ H λ J H1=>∃ W:Nat->Nat->St->Hp->Prop,(∃ m,W 0 m σ H1) /\ ∀ i m σ H,W i m σ H ->
 (J.stop i H /\ D.nx σ H) \/ (J.go i H /\ ∃ N:St->Hp->Prop,(∀ σ' H',N σ' H'->∃ m',m' < m /\ W (i + 1) m' σ' H') /\ ∀ x H',J.yld i H x H'->g x σ H' λ σ2 H2=>tb { D with nx:=N,ct:=N,bk:=D.nx } σ2 H2)
def tx0 (fp:List Addr) (h:Heap):List (Addr × Obj):=fp.filterMap λ b=>(h.get? b).map λ o=>(b,o)
theorem tg0 {fp:List Addr} {h:Heap} {b:Addr} {o:Obj} (hb:b ∈ fp) (e:h.get? b=some o):(b,o) ∈ tx0 fp h:=List.mem_filterMap.mpr ⟨b,hb,by rw [e]; rfl⟩
theorem td2 {fp:List Addr} {h:Heap} {p:Addr × Obj} (hp:p ∈ tx0 fp h):p.1 ∈ fp /\ h.get? p.1=some p.2:=by
 obtain ⟨b,hb,e⟩:=List.mem_filterMap.mp hp
 cases q:h.get? b with
 | none=>rw [q] at e; cases e
 | some o =>
  rw [q] at e
  have e':(b,o)=p:=Option.some.inj e
  subst e'
  exact ⟨hb,q⟩
theorem Inv.pinned {pins:List (Addr × Obj)} {σ:St} {H:Hp} {s:Shared} {fp:List Addr} (I:Inv X pins σ H s) (hf:∀ b ∈ fp,FpOk X pins H b) (ho:∀ b ∈ fp,∃ o,s.heap.get? b=some o /\ ∀ v,o.data ≠ .cell v):Inv X (pins ++ tx0 fp s.heap) σ H s :=
 I.pins_of λ p hp=>(List.mem_append.mp hp).elim (λ z=>I.pin p (mem_append_right _ z)) λ z=>by
  obtain ⟨hb,e⟩:=td2 z
  obtain ⟨f0,f1,f2,_⟩:=hf p.1 hb
  obtain ⟨o,e',d⟩:=ho p.1 hb
  rw [e] at e'; cases e'
  exact ⟨e,f0,f1,f2,d⟩
theorem Inv.unpinned {pins pl:List (Addr × Obj)} {σ:St} {H:Hp} {s:Shared} (I:Inv X (pins ++ pl) σ H s):Inv X pins σ H s:=I.pins_of λ p hp=>I.pin p (mem_append_right _ (List.mem_append_left _ hp))
theorem sd4 {iter:Expr} {body:List Stmt} {wi:TI} {g:TG} {tb:TS} {pos:Pos} (hp:PassesOwn (model X.prog X.w) X.A X.env X.xe) (hc:X.calm=true) (hi:PI X tg iter wi) (hg:PG X tg g) (hb:PSs X body tb)
    (hs:∀ x,foldedSetIterable iter X.env x=pure x:=by intro _; rfl):PS X (.For tg iter body [] pos) (tFor wi g tb):=by
 intro pins s σ H D I h
 refine wpAny_For (thn (hi pins s σ H _ I h) λ v s1 h1=>thn h1 λ itv s2 h2=>?_) hs
 obtain ⟨it,fp,tn,J,H2,e,I2,T,st2,f2,W,⟨m0,w0⟩,turn⟩:=h2
 subst e
 have stat:∀ {H':Hp},(∀ b ∈ fp,H' b=none)->∀ b ∈ fp,FpOk X pins H' b:=λ hn b hb=>⟨hn b hb,(f2 b hb).2⟩
 refine codeAny_forLoop_any (λ n s'=>∃ i σ' H',Inv X pins σ' H' s' /\ tn i s'.heap /\ (∀ b ∈ fp,H' b=none) /\ W i n σ' H') ?_ m0 ⟨0,σ,H2,I2,st2,λ b hb=>(f2 b hb).1,w0⟩
 rintro n s3 ⟨i,σ3,H3,I3,st3,fr3,w3⟩
 rcases turn i n σ3 H3 w3 with ⟨stop,qn⟩ | ⟨go,N,hN,step⟩
 ·refine wpAny_passesOwn hp (thn (T.done X rfl rfl rfl hc i pins s3 σ3 H3 X.xe I3 (stat fr3) st3 stop) λ r s4 ⟨hr,I4⟩=>?_)
  subst hr
  exact wpAny_execs_nil ⟨σ3,H3,I4,qn⟩
 ·refine wpAny_passesOwn hp (thn (T.item X rfl rfl rfl hc i pins s3 σ3 H3 X.xe I3 (stat fr3) st3 go) λ r s4 ⟨u,hr,h4⟩=>?_)
  subst hr
  refine wpAny_passesOwn hp (thn h4 λ _ s5 ⟨x,H5,I5,r5,y5,st5,fr5⟩=>?_)
  have I5':=I5.pinned (stat fr5) (T.obj _ _ st5)
  refine wpAny_passesOwn hp (thn (hg _ s5 σ3 H5 x u _ I5' r5 (step x H5 y5)) λ _ s6 ⟨σ6,H6,I6,q6⟩=>?_)
  refine wpAny_passesOwn hp (thn (hb _ s6 σ6 H6 _ I6 q6) λ f s7 q7=>?_)
  have again:∀ {σ7:St} {H7:Hp},Inv X (pins ++ tx0 fp s5.heap) σ7 H7 s7->N σ7 H7->∃ m,m < n /\ ∃ i σ' H',Inv X pins σ' H' s7 /\ tn i s7.heap /\ (∀ b ∈ fp,H' b=none) /\ W i m σ' H':=λ {σ7 H7} I7 n7=>by
   obtain ⟨m',hm,w7⟩:=hN σ7 H7 n7
   refine ⟨m',hm,i + 1,σ7,H7,I7.unpinned,T.keep _ _ _ st5 λ b hb o e=>(I7.pin (b,o) (mem_append_right _ (mem_append_right _ (tg0 hb e)))).1,λ b hb=>?_,w7⟩
   obtain ⟨o,e,d⟩:=T.obj _ _ st5 b hb
   exact (I7.pin (b,o) (mem_append_right _ (mem_append_right _ (tg0 hb e)))).2.1
  cases f with
  | next=>obtain ⟨σ7,H7,I7,n7⟩:=q7; exact again I7 n7
  | cont=>obtain ⟨σ7,H7,I7,n7⟩:=q7; exact again I7 n7
  | brk=>obtain ⟨σ7,H7,I7,q7⟩:=q7; exact ⟨σ7,H7,I7.unpinned,q7⟩
  | ret v=>obtain ⟨x7,σ7,H7,I7,r7,q7⟩:=q7; exact ⟨x7,σ7,H7,I7.unpinned,r7,q7⟩
end
abbrev R2:=V->V->Hp->VK->Prop
def OpR (X:Cx) (f:Value->Value->Sem Value) (r:R2):Prop :=
 ∀ (pins:List (Addr × Obj)) (s:Shared) (σ:St) (H:Hp) (x y:V) (v u:Value) (Q:VK),Inv X pins σ H s->RelV x v->RelV y u->r x y H Q ->
  wpAny (model X.prog X.w) X.A (f v u) (EP X pins σ Q) X.xe s
def UnR (X:Cx) (f:Value->Sem Value) (r:V->Hp->VK->Prop):Prop :=
 ∀ (pins:List (Addr × Obj)) (s:Shared) (σ:St) (H:Hp) (x:V) (v:Value) (Q:VK),Inv X pins σ H s->RelV x v->r x H Q ->
  wpAny (model X.prog X.w) X.A (f v) (EP X pins σ Q) X.xe s
def CallR (X:Cx) (f:Value) (r:List V->Hp->VK->Prop):Prop :=
 ∀ (pins:List (Addr × Obj)) (s:Shared) (σ:St) (H:Hp) (xs:List V) (us:List Value) (Q:VK),Inv X pins σ H s->Vals xs us->r xs H Q ->
  wpAny (model X.prog X.w) X.A (call f us) (EP X pins σ Q) X.xe s
def tOp (r:R2) (ta tb:TE):TE:=λ σ H Q=>ta σ H λ x H1=>tb σ H1 λ y H2=>r x y H2 Q
def tUn (r:V->Hp->VK->Prop) (ta:TE):TE:=λ σ H Q=>ta σ H λ x H1=>r x H1 Q
def rI (C:Int->Int->Prop) (g:Int->Int->V):R2:=λ x y H Q=>∃ i j,x=.int i /\ y=.int j /\ C i j /\ Q (g i j) H
def rI0 (g:Int->Int->V):R2:=λ x y H Q=>∃ i j,x=.int i /\ y=.int j /\ Q (g i j) H
def rU (g:Int->V):V->Hp->VK->Prop:=λ x H Q=>∃ i,x=.int i /\ Q (g i) H
section
variable {X:Cx} {a b c:Expr} {ta tb tc:TE} {pos:Pos}
theorem binT (ha:PE X a ta) (hb:PE X b tb) {pins:List (Addr × Obj)} {s:Shared} {σ:St} {H:Hp} {R:V->V->Hp->Prop} (I:Inv X pins σ H s)
    (h:ta σ H λ x H1=>tb σ H1 λ y H2=>R x y H2) {Q:Value->Shared->Prop} {f:Value->Value->Sem Value}
    (hf:∀ v u s2 x y H2,Inv X pins σ H2 s2->RelV x v->RelV y u->R x y H2->wpAny (model X.prog X.w) X.A (f v u) Q X.xe s2) :
    wpAny (model X.prog X.w) X.A (eval a X.env) (λ v s₁=>wpAny (model X.prog X.w) X.A (eval b X.env) (λ u s₂=>wpAny (model X.prog X.w) X.A (f v u) Q X.xe s₂) X.xe s₁) X.xe s:=by
 refine thn (ha pins s σ H _ I h) λ v s1 ⟨x,H1,I1,r1,q1⟩=>?_
 refine thn (hb pins s1 σ H1 _ I1 q1) λ u s2 ⟨y,H2,I2,r2,q2⟩=>?_
 exact hf v u s2 x y H2 I2 r1 r2 q2
theorem ss4 {op:Operator} {r:R2} (ho:OpR X (binaryOp op) r) (ha:PE X a ta) (hb:PE X b tb):PE X (.BinOp a op b pos) (tOp r ta tb):=by
 intro pins s σ H Q I h
 exact wpAny_BinOp (binT ha hb I h λ v u s2 x y H2 I2 rx ry q=>ho pins s2 σ H2 x y v u Q I2 rx ry q)
theorem ts4 {op:UnaryOp} {r:V->Hp->VK->Prop} (ho:UnR X (unaryOp op) r) (ha:PE X a ta):PE X (.UnaryOp op a pos) (tUn r ta):=by
 intro pins s σ H Q I h
 exact UnaryOp_ (thn (ha pins s σ H _ I h) λ v s1 ⟨x,H1,I1,r1,q1⟩=>ho pins s1 σ H1 x v Q I1 r1 q1)
theorem opI {f:Value->Value->Sem Value} {C:Int->Int->Prop} {g:Int->Int->Int}
    (rule:∀ (i j:Int) (t u:Tok) (s:Shared) (Q:Value->Shared->Prop) (E:Value->Shared->Prop),C i j->Q (.int (g i j) s.toks) { s with toks:=s.toks + 1 }->wpAny (model X.prog X.w) X.A (f (.int i t) (.int j u)) Q E s) :
    OpR X f (rI C λ i j=>.int (g i j)):=by
 intro pins s σ H x y v u Q I rx ry h
 obtain ⟨i,j,rfl,rfl,hc,q⟩:=h
 obtain ⟨t,rfl⟩:=rx
 obtain ⟨t',rfl⟩:=ry
 exact rule i j t t' s _ _ hc ⟨.int (g i j),H,I.tok _,⟨_,rfl⟩,q⟩
theorem opI0 {f:Value->Value->Sem Value} {g:Int->Int->Int}
    (rule:∀ (i j:Int) (t u:Tok) (s:Shared) (Q:Value->Shared->Prop) (E:Value->Shared->Prop),Q (.int (g i j) s.toks) { s with toks:=s.toks + 1 }->wpAny (model X.prog X.w) X.A (f (.int i t) (.int j u)) Q E s) :
    OpR X f (rI0 λ i j=>.int (g i j)):=by
 intro pins s σ H x y v u Q I rx ry h
 obtain ⟨i,j,rfl,rfl,q⟩:=h
 obtain ⟨t,rfl⟩:=rx
 obtain ⟨t',rfl⟩:=ry
 exact rule i j t t' s _ _ ⟨.int (g i j),H,I.tok _,⟨_,rfl⟩,q⟩
theorem opB0 {f:Value->Value->Sem Value} {g:Int->Int->Bool}
    (rule:∀ (i j:Int) (t u:Tok) (s:Shared) (Q:Value->Shared->Prop) (E:Value->Shared->Prop),Q (.bool (g i j)) s->wpAny (model X.prog X.w) X.A (f (.int i t) (.int j u)) Q E s) :
    OpR X f (rI0 λ i j=>.bl (g i j)):=by
 intro pins s σ H x y v u Q I rx ry h
 obtain ⟨i,j,rfl,rfl,q⟩:=h
 obtain ⟨t,rfl⟩:=rx
 obtain ⟨t',rfl⟩:=ry
 exact rule i j t t' s _ _ ⟨.bl (g i j),H,I,rfl,q⟩
def CPow (i j:Int):Prop:=0<=j /\ j<=1000000 /\ i.natAbs < 2 ^ 64
def CMul (i j:Int):Prop:=(-(2 ^ 64) < i /\ i < 2 ^ 64) \/ (-(2 ^ 64) < j /\ j < 2 ^ 64)
theorem CMul.ok {i j:Int} (h:CMul i j):IntMulOk i j:=by
 rcases h with ⟨h1,h2⟩ | ⟨h1,h2⟩
 ·exact .of_left (intBits_le_64 h1 h2)
 ·exact .of_right (intBits_le_64 h1 h2)
theorem op_add:OpR X (binaryOp .Add) (rI0 λ i j=>.int (i + j)):=opI0 λ _ _ _ _ _ _ _ q=>add_int q
theorem vf4:OpR X (binaryOp .Sub) (rI0 λ i j=>.int (i - j)):=opI0 λ _ _ _ _ _ _ _ q=>sub_int q
theorem xg4:OpR X (binaryOp .Mod) (rI (λ _ j=>0 < j) λ i j=>.int (i % j)):=opI λ i j _ _ _ _ _ hc q=>by
 have h1:(0:Int) < j:=hc
 exact mod_int' (by omega) (by rw [Int.fmod_eq_emod_of_nonneg i (by omega)]; exact q)
theorem tf4:OpR X (binaryOp .Pow) (rI CPow λ i j=>.int (i ^ j.toNat)):=opI λ _ _ _ _ _ _ _ hc q=>pow_int_small hc.1 hc.2.1 hc.2.2 q
theorem unI {f:Value->Sem Value} {g:Int->Int}
    (rule:∀ (i:Int) (t:Tok) (s:Shared) (Q:Value->Shared->Prop) (E:Value->Shared->Prop),Q (.int (g i) s.toks) { s with toks:=s.toks + 1 }->wpAny (model X.prog X.w) X.A (f (.int i t)) Q E s) :
    UnR X f (rU λ i=>.int (g i)):=by
 intro pins s σ H x v Q I rx h
 obtain ⟨i,rfl,q⟩:=h
 obtain ⟨t,rfl⟩:=rx
 exact rule i t s _ _ ⟨.int (g i),H,I.tok _,⟨_,rfl⟩,q⟩
theorem tp3:UnR X (unaryOp .USub) (rU λ i=>.int (-i)):=unI λ _ _ _ _ _ q=>neg_int q
end
def scal:V->V->Bool
 | .non,.non=>true | .non,.int _=>true | .int _,.non=>true | .non,.bl _=>true | .bl _,.non=>true | .non,.str _=>true | .str _,.non=>true
 | .int _,.int _=>true | .bl _,.bl _=>true | .str _,.str _=>true | .byt _,.byt _=>true
 | .int _,.str _=>true | .str _,.int _=>true | .bl _,.str _=>true | .str _,.bl _=>true
 | _,_=>false
def rEq:R2:=λ x y H Q=>scal x y=true /\ Q (.bl (decide (x=y))) H
def rNe:R2:=λ x y H Q=>scal x y=true /\ Q (.bl (!decide (x=y))) H
theorem wh2 {i j:Int}:decide (V.int i=V.int j)=(i == j):=by
 rw [Bool.eq_iff_iff]
 simp
theorem vz2 {i j:Bool}:decide (V.bl i=V.bl j)=(i == j):=by
 rw [Bool.eq_iff_iff]
 simp
theorem zh2 {i j:Str}:decide (V.str i=V.str j)=(i == j):=by
 rw [Bool.eq_iff_iff]
 simp
theorem vh2 {i j:Array UInt8}:decide (V.byt i=V.byt j)=(i.toList == j.toList):=by
 rw [Bool.eq_iff_iff]
 cases i
 cases j
 simp
section
variable {X:Cx} {a b c:Expr} {ta tb tc:TE} {pos:Pos}
theorem sc0 {pins:List (Addr × Obj)} {σ:St} {H:Hp} {s:Shared} {Q:VK} {k k':Bool} (I:Inv X pins σ H s) (q:Q (.bl k) H) (e:k=k'):EP X pins σ Q (.bool k') s:=by
 subst e
 exact ⟨.bl k,H,I,rfl,q⟩
theorem op_eq:OpR X (compareOp .Eq) rEq:=by
 intro pins s σ H x y v u Q I rx ry h
 obtain ⟨hs,q⟩:=h
 cases x with
 | non =>
  cases rx
  cases y with
  | non=>cases ry; exact PySem.EqNone.eq_none_none (sc0 I q (by simp))
  | bl j=>cases ry; exact PySem.EqNone.eq_none_bool (sc0 I q (by simp))
  | int j=>obtain ⟨t',rfl⟩:=ry; exact PySem.EqNone.eq_none_int (sc0 I q (by simp))
  | str j=>obtain ⟨t',rfl⟩:=ry; exact PySem.EqNone.eq_none_str (sc0 I q (by simp))
  | _=>exact absurd (show false=true from hs) Bool.false_ne_true
 | bl i =>
  cases rx
  cases y with
  | non=>cases ry; exact PySem.EqNone.eq_bool_none (sc0 I q (by simp))
  | bl j=>cases ry; exact eq_bool (sc0 I q vz2)
  | str j=>obtain ⟨t',rfl⟩:=ry; exact PySem.EqMixed.eq_bool_str (sc0 I q (by simp))
  | _=>exact absurd (show false=true from hs) Bool.false_ne_true
 | int i =>
  obtain ⟨t,rfl⟩:=rx
  cases y with
  | non=>cases ry; exact PySem.EqNone.eq_int_none (sc0 I q (by simp))
  | int j=>obtain ⟨t',rfl⟩:=ry; exact eq_int (sc0 I q wh2)
  | str j=>obtain ⟨t',rfl⟩:=ry; exact PySem.EqMixed.eq_int_str (sc0 I q (by simp))
  | _=>exact absurd (show false=true from hs) Bool.false_ne_true
 | str i =>
  obtain ⟨t,rfl⟩:=rx
  cases y with
  | non=>cases ry; exact PySem.EqNone.eq_str_none (sc0 I q (by simp))
  | bl j=>cases ry; exact PySem.EqMixed.eq_str_bool (sc0 I q (by simp))
  | int j=>obtain ⟨t',rfl⟩:=ry; exact PySem.EqMixed.eq_str_int (sc0 I q (by simp))
  | str j=>obtain ⟨t',rfl⟩:=ry; exact eq_str (sc0 I q zh2)
  | _=>exact absurd (show false=true from hs) Bool.false_ne_true
 | byt i =>
  obtain ⟨t,rfl⟩:=rx
  cases y with
  | byt j=>obtain ⟨t',rfl⟩:=ry; exact PySem.W.eq_bytes (sc0 I q vh2)
  | _=>exact absurd (show false=true from hs) Bool.false_ne_true
 | _=>cases y <;> exact absurd (show false=true from hs) Bool.false_ne_true
theorem op_ne:OpR X (compareOp .NotEq) rNe:=by
 intro pins s σ H x y v u Q I rx ry h
 obtain ⟨hs,q⟩:=h
 cases x with
 | non =>
  cases rx
  cases y with
  | non=>cases ry; exact PySem.EqNone.ne_none_none (sc0 I q (by simp))
  | bl j=>cases ry; exact PySem.EqNone.ne_none_bool (sc0 I q (by simp))
  | int j=>obtain ⟨t',rfl⟩:=ry; exact PySem.EqNone.ne_none_int (sc0 I q (by simp))
  | str j=>obtain ⟨t',rfl⟩:=ry; exact PySem.EqNone.ne_none_str (sc0 I q (by simp))
  | _=>exact absurd (show false=true from hs) Bool.false_ne_true
 | bl i =>
  cases rx
  cases y with
  | non=>cases ry; exact PySem.EqNone.ne_bool_none (sc0 I q (by simp))
  | bl j=>cases ry; exact ne_bool (sc0 I q (congrArg not vz2))
  | str j=>obtain ⟨t',rfl⟩:=ry; exact PySem.EqMixed.ne_bool_str (sc0 I q (by simp))
  | _=>exact absurd (show false=true from hs) Bool.false_ne_true
 | int i =>
  obtain ⟨t,rfl⟩:=rx
  cases y with
  | non=>cases ry; exact PySem.EqNone.ne_int_none (sc0 I q (by simp))
  | int j=>obtain ⟨t',rfl⟩:=ry; exact ne_int (sc0 I q (congrArg not wh2))
  | str j=>obtain ⟨t',rfl⟩:=ry; exact PySem.EqMixed.ne_int_str (sc0 I q (by simp))
  | _=>exact absurd (show false=true from hs) Bool.false_ne_true
 | str i =>
  obtain ⟨t,rfl⟩:=rx
  cases y with
  | non=>cases ry; exact PySem.EqNone.ne_str_none (sc0 I q (by simp))
  | bl j=>cases ry; exact PySem.EqMixed.ne_str_bool (sc0 I q (by simp))
  | int j=>obtain ⟨t',rfl⟩:=ry; exact PySem.EqMixed.ne_str_int (sc0 I q (by simp))
  | str j=>obtain ⟨t',rfl⟩:=ry; exact ne_str (sc0 I q (congrArg not zh2))
  | _=>exact absurd (show false=true from hs) Bool.false_ne_true
 | byt i =>
  obtain ⟨t,rfl⟩:=rx
  cases y with
  | byt j=>obtain ⟨t',rfl⟩:=ry; exact PySem.W.ne_bytes (sc0 I q (congrArg not vh2))
  | _=>exact absurd (show false=true from hs) Bool.false_ne_true
 | _=>cases y <;> exact absurd (show false=true from hs) Bool.false_ne_true
theorem wt4:OpR X (compareOp .Lt) (rI0 λ i j=>.bl (decide (i < j))):=opB0 λ _ _ _ _ _ _ _ q=>lt_int q
theorem vt4:OpR X (compareOp .Gt) (rI0 λ i j=>.bl (decide (j < i))):=opB0 λ _ _ _ _ _ _ _ q=>gt_int q
theorem op_ge:OpR X (compareOp .GtE) (rI0 λ i j=>.bl (decide (j<=i))):=opB0 λ _ _ _ _ _ _ _ q=>ge_int q
theorem ud2:OpR X (compareOp .In) (λ x y H Q=>∃ i j,x=.str i /\ y=.str j /\ Q (.bl (!(Builtin.Str.occurrences j i 0 j.length 1).isEmpty)) H):=by
 intro pins s σ H x y v u Q I rx ry h
 obtain ⟨i,j,rfl,rfl,q⟩:=h
 obtain ⟨t,rfl⟩:=rx
 obtain ⟨t',rfl⟩:=ry
 exact in_str (sc0 I q rfl)
theorem yg4:OpR X (compareOp .Is) (λ x y H Q=>y=.non /\ Q (.bl (decide (x=.non))) H):=by
 intro pins s σ H x y v u Q I rx ry h
 obtain ⟨rfl,q⟩:=h
 cases ry
 refine is_none_gen (sc0 I q ?_)
 cases x <;> first
  | (cases rx; rfl)
  | (obtain ⟨t,rfl⟩:=rx; rfl)
theorem OpR.or {f:Value->Value->Sem Value} {r r':R2} (h:OpR X f r) (h':OpR X f r'):OpR X f (λ x y H Q=>r x y H Q \/ r' x y H Q):=by
 intro pins s σ H x y v u Q I rx ry q
 rcases q with q | q
 ·exact h pins s σ H x y v u Q I rx ry q
 ·exact h' pins s σ H x y v u Q I rx ry q
theorem sw2 (b:Expr) {op:CmpOp} (h:op ≠ .In:=by decide) (h2:op ≠ .NotIn:=by decide):behindInMarks op b=false:=by
 have e1:(op == CmpOp.In)=false:=by cases op <;> first | rfl | exact absurd rfl h
 have e2:(op == CmpOp.NotIn)=false:=by cases op <;> first | rfl | exact absurd rfl h2
 cases b <;> simp [behindInMarks,e1,e2]
theorem zi3 {op:CmpOp} {r:R2} (ho:OpR X (compareOp op) r) (ha:PE X a ta) (hb:PE X b tb) (hm:behindInMarks op b=false):PE X (.Compare a [op] [b] pos) (tOp r ta tb):=by
 intro pins s σ H Q I h
 exact wpAny_Compare1 (binT ha hb I h λ v u s2 x y H2 I2 rx ry q=>ho pins s2 σ H2 x y v u Q I2 rx ry q) hm
def ws3 (t:TE):TT:=λ σ H Q=>t σ H λ x H'=>∃ k,x=.bl k /\ Q k H'
theorem zg3 {op:CmpOp} {r:R2} (ho:OpR X (compareOp op) r) (ha:PE X a ta) (hb:PE X b tb) (hm:behindInMarks op b=false):PT X (.Compare a [op] [b] pos) (ws3 (tOp r ta tb)):=by
 intro pins s σ H Q I h
 refine wpAny_isTrue_Compare1 (thn (ha pins s σ H _ I h) λ v s1 ⟨x,H1,I1,r1,q1⟩=>thn (hb pins s1 σ H1 _ I1 q1) λ u s2 ⟨y,H2,I2,r2,q2⟩ =>
  thn (ho pins s2 σ H2 x y v u _ I2 r1 r2 q2) λ c s3 ⟨z,H3,I3,r3,k,e,q3⟩=>?_) hm
 subst e
 cases r3
 exact wpAny_truthy_bool ⟨H3,I3,q3⟩
theorem xy0:(sizeLine:Nat) < 2 ^ 63:=by rw [sizeLine_eq]; decide
theorem vv1:OpR X (binaryOp .Add) (λ x y H Q=>∃ i j,x=.str i /\ y=.str j /\ i.length + j.length<=sizeLine /\ Q (.str (i ++ j)) H):=by
 intro pins s σ H x y v u Q I rx ry h
 obtain ⟨i,j,rfl,rfl,hz,q⟩:=h
 obtain ⟨t,rfl⟩:=rx
 obtain ⟨t',rfl⟩:=ry
 exact add_str (λ t' tk=>⟨.str (i ++ j),H,I.tok _,⟨_,rfl⟩,q⟩) hz
theorem xw0 {x:V} {us:List Value} (r:Vals [x] us):∃ u,us=[u] /\ RelV x u:=by
 cases r with
 | cons r1 r2=>cases r2; exact ⟨_,rfl,r1⟩
theorem sv0 {x y:V} {us:List Value} (r:Vals [x,y] us):∃ u w',us=[u,w'] /\ RelV x u /\ RelV y w':=by
 cases r with
 | cons r1 r2 =>
  cases r2 with
  | cons r3 r4=>cases r4; exact ⟨_,_,rfl,r1,r3⟩
theorem si2 (hc:X.calm=true):CallR X (.builtin "max") (λ xs H Q=>∃ i j,xs=[.int i,.int j] /\ Q (.int (if j > i then j else i)) H):=by
 intro pins s σ H xs us Q I r h
 obtain ⟨i,j,rfl,q⟩:=h
 obtain ⟨u,w',rfl,⟨t,rfl⟩,⟨t',rfl⟩⟩:=sv0 r
 refine max_two_ints (I.ok.hd hc) λ h' tk k=>⟨_,H,I.kept k,?_,q⟩
 by_cases hj:j > i
 ·rw [if_pos hj,if_pos hj]; exact ⟨_,rfl⟩
 ·rw [if_neg hj,if_neg hj]; exact ⟨_,rfl⟩
theorem vi2 (hc:X.calm=true):CallR X (.builtin "min") (λ xs H Q=>∃ i j,xs=[.int i,.int j] /\ Q (.int (if j < i then j else i)) H):=by
 intro pins s σ H xs us Q I r h
 obtain ⟨i,j,rfl,q⟩:=h
 obtain ⟨u,w',rfl,⟨t,rfl⟩,⟨t',rfl⟩⟩:=sv0 r
 refine min_two_ints (I.ok.hd hc) λ h' tk k=>⟨_,H,I.kept k,?_,q⟩
 by_cases hj:j < i
 ·rw [if_pos hj,if_pos hj]; exact ⟨_,rfl⟩
 ·rw [if_neg hj,if_neg hj]; exact ⟨_,rfl⟩
theorem call_int1:CallR X (.type "int") (λ xs H Q=>(∃ i,xs=[.int i] /\ Q (.int i) H) \/ ∃ k,xs=[.bl k] /\ Q (.int (if k then 1 else 0)) H):=by
 intro pins s σ H xs us Q I r h
 rcases h with ⟨i,rfl,q⟩ | ⟨k,rfl,q⟩
 ·obtain ⟨u,rfl,t,rfl⟩:=xw0 r
  exact call_int_int ⟨.int i,H,I,⟨_,rfl⟩,q⟩
 ·obtain ⟨u,rfl,r1⟩:=xw0 r
  cases r1
  exact call_int_bool ⟨.int (if k then 1 else 0),H,I.tok _,⟨_,rfl⟩,q⟩
theorem xi1:CallR X (.type "str") (λ xs H Q=>∃ i,xs=[.int i] /\ i.natAbs.log2 < 1920 /\ Q (.str (toString i)) H):=by
 intro pins s σ H xs us Q I r h
 obtain ⟨i,rfl,hz,q⟩:=h
 obtain ⟨u,rfl,t,rfl⟩:=xw0 r
 exact PySem.P.str_of_int hz ⟨.str _,H,I.tok _,⟨_,rfl⟩,q⟩
end
section
variable {prog:Program} {w:World} {A:Around} {E:Value->Shared->Prop} {s:Shared} {K:PySem.W.Frag} {x dx C f:Addr} {mA:Str->Option Value} {name:Str} {v:Value}
end
section
variable {P:Program} {w:World} {H H':Hp} {h h':Heap} {a C dx:Addr} {fs fs':List (Str × V)}
end
structure Cls (K:PySem.W.Frag) (C:Addr):Prop where
 pg:PySem.W.plainGet K C Str.empty=true
 hd:PySem.W.hasDictIn K C=true
 po:PySem.W.plainOver K C=true
 sa:findIn K (.ref C) "__setattr__" = some (some (.builtin "object.__setattr__"))
section
variable {X:Cx} {pins:List (Addr × Obj)} {σ:St} {H:Hp} {s:Shared} {a C dx:Addr} {fs:List (Str × V)} {f:Str} {v:V} {A:Around} {E:Value->Shared->Prop}
end
section
variable {X:Cx} {o e value:Expr} {f:Str} {pos pos' tpos:Pos} {ta tv:TE}
end
section
variable {X:Cx} {pins:List (Addr × Obj)} {σ:St} {H:Hp} {s:Shared} {A:Around} {E:Value->Shared->Prop} {Q:Value->Shared->Prop} {c:Value} {b:Bool}
inductive TyOf (K:PySem.W.Frag) (H:Hp):V->Value->Prop where
 | non:TyOf K H .non (.type "NoneType")
 | bl (x:Bool):TyOf K H (.bl x) (.type "bool")
 | int (i:Int):TyOf K H (.int i) (.type "int")
 | str (x:Str):TyOf K H (.str x) (.type "str")
 | flt (x:UInt64):TyOf K H (.flt x) (.type "float")
 | lst {a:Addr} {xs:List V} (e:H a=some (.lst xs)):TyOf K H (.ref a) (.type "list")
 | frz {a:Addr} {o:Obj} {xs:List V} (e:H a=some (.frz o (.lst xs))):TyOf K H (.ref a) (.type "list")
 | tup {a:Addr} {xs:List V} (e:H a=some (.tup xs)):TyOf K H (.ref a) (.type "tuple")
 | dK {a:Addr} {kvs:List (Key × V)} (e:H a=some (.dK kvs)):TyOf K H (.ref a) (.type "dict")
 | dT {a:Addr} {kvs:List (List Key × V)} (e:H a=some (.dT kvs)):TyOf K H (.ref a) (.type "dict")
 | ins {a C dx:Addr} {fs:List (Str × V)} (e:H a=some (.ins C dx fs)) (cl:Cls K C) (ha:findIn K (.ref C) "__class__" = some (some (.builtin "object.__class__")))
     (hn:specialIn K (.builtin "object.__class__") "__get__" = some (some (.builtin "getset_descriptor.__get__"))) (htk:takesIn K (.builtin "object.__class__")=some true)
     (hm:mroIn K C (.type "object")=some true):TyOf K H (.ref a) (.ref C)
end
structure Room (k:Nat) (A:Around):Prop where
 hd:A.handled=none
 dp:A.depth + 3 * k + 5 < recursionLimit
 un:A.units + 16 * k + 200 < cLine
theorem Room.mono {j k:Nat} {A:Around} (r:Room k A) (h:j<=k):Room j A:=⟨r.hd,by have:=r.dp; omega,by have:=r.un; omega⟩
theorem Room.deeper {k:Nat} {A:Around} (r:Room (k + 1) A) (env:Env):Room k (A.deeper env) :=
 ⟨r.hd,by have:=r.dp; show A.depth + 1 + 3 * k + 5 < _; omega,by have:=r.un; show A.units + 3 + 16 * k + 200 < _; omega⟩
theorem Room.depth {k:Nat} {A:Around} (r:Room k A):A.depth < recursionLimit:=by have:=r.dp; omega
def tNil:TA:=λ _ H Q=>Q [] H
def wn4 (ta:TE) (tr:TA):TA:=λ σ H Q=>ta σ H λ x H1=>tr σ H1 λ xs H2=>Q (x :: xs) H2
section
variable {X:Cx} {e:Expr} {es:List Expr} {te:TE} {t:TA} {pos:Pos}
theorem tw2:PA X [] tNil:=λ _ _ _ _ H Q I h=>Calls.spliced_nil ⟨[],H,I,.nil,h⟩
theorem uk1 (ha:PE X e te) (hr:PA X es t) (hs:starEach (e :: es) X.env=(false,eval e X.env) :: starEach es X.env:=by rfl):PA X (e :: es) (wn4 te t):=by
 intro pos pins s σ H Q I h
 rw [hs]
 show wpAny _ _ (spliced ((false,eval e X.env) :: backTo pos (starEach es X.env))) _ _ s
 refine Calls.spliced_cons (thn (ha pins s σ H _ I h) λ u s1 ⟨x,H1,I1,r1,q1⟩=>?_)
 exact thn (hr pos pins s1 σ H1 _ I1 q1) λ us s2 ⟨xs,H2,I2,r2,q2⟩=>⟨x :: xs,H2,I2,.cons r1 r2,q2⟩
def tTup (t:TA):TE:=λ σ H Q=>t σ H λ xs H1=>xs.length<=sizeLine /\ ∀ p,H1 p=none->Q (.ref p) (upd H1 p (.tup xs))
def tLst (t:TA):TE:=λ σ H Q=>t σ H λ xs H1=>xs.length<=sizeLine /\ ∀ p,H1 p=none->Q (.ref p) (upd H1 p (.lst xs))
theorem uw2 {x1} (h:PA X es t):PE X (.Tuple es x1 pos) (tTup t):=by
 intro pins s σ H Q I hq
 refine wpAny_Tuple_spliced (thn (h pos pins s σ H _ I hq) λ us s1 ⟨xs,H1,I1,r,z,q⟩=>⟨by rw [<- r.length]; exact z,?_⟩)
 have hf:H1 s1.heap.objs.size=none:=I1.hok.fresh (Nat.le_refl _)
 refine ⟨.ref s1.heap.objs.size,upd H1 s1.heap.objs.size (.tup xs),I1.laid (t':=s1.toks) (λ b u e=>Heap.get?_push_of_some _ e) (Nat.le_refl _) ?_,rfl,q _ hf⟩
 exact ⟨z,us,r,⟨_,Heap.get?_push_size _ rfl,rfl,_,rfl⟩⟩
theorem xf4 (h:PA X es t):PE X (.List es pos) (tLst t):=by
 intro pins s σ H Q I hq
 refine wpAny_List_spliced (thn (h pos pins s σ H _ I hq) λ us s1 ⟨xs,H1,I1,r,z,q⟩=>⟨by rw [<- r.length]; exact z,?_⟩)
 have hf:H1 s1.heap.objs.size=none:=I1.hok.fresh (Nat.le_refl _)
 refine ⟨.ref s1.heap.objs.size,upd H1 s1.heap.objs.size (.lst xs),I1.laid (t':=s1.toks) (λ b u e=>Heap.get?_push_of_some _ e) (Nat.le_refl _) ?_,rfl,q _ hf⟩
 exact ⟨z,us,0,r,Heap.get?_push_size _ rfl⟩
end
abbrev Sp:=List V->Hp->VK->XK->Prop
abbrev CXT:=List Env->Hp->Shared->XK->Value->Shared->Prop
structure Env0 (P:Program) (w:World) (K:PySem.W.Frag) (mg:Str->Option Value) (base:Heap) (A:Around) (outer:List Env) (s:Shared) (H:Hp):Prop where
 frames:A.frames=some outer
 mod:Mod K mg base
 bs:∀ b o,base.get? b=some o->s.heap.get? b=some o /\ H b=none
 bsz:base.objs.size<=s.heap.objs.size
 funs:s.heap.FunFrames base outer
 frf:∀ b ∈ frs outer,H b=none
 hok:HOk P w H s.heap
 bare:AllBare s.gens
def CE (outer:List Env) (P:Program) (w:World) (H:Hp) (s:Shared) (Q:VK) (u:Value) (s':Shared):Prop :=
 ∃ v H',s'.os=s.os /\ AllBare s'.gens /\ Un (frs outer) [] H H' s.heap s'.heap /\ HOk P w H' s'.heap /\ RelV v u /\ Q v H'
def CR (CX:CXT) (outer:List Env) (P:Program) (w:World) (H:Hp) (s:Shared) (Q:VK) (E:XK) (r:Result) (s':Shared):Prop :=
 match r with
 | .ok (.ret u)=>CE outer P w H s Q u s'
 | .ok _=>False
 | .error e=>CX outer H s E e s'
structure FnOk (P:Program) (w:World) (K:PySem.W.Frag) (mg:Str->Option Value) (base:Heap) (CX:CXT) (k:Nat) (f:Addr) (fd:FuncData) (ps:List Str) (sp:Sp):Prop where
 len:∀ vs H Q E,sp vs H Q E->vs.length=ps.length
 run:∀ (A:Around) (outer:List Env) (s:Shared) (H:Hp) (args:Args) (us:List Value) (vs:List V) (Q:VK) (E:XK),Room k A->Env0 P w K mg base A outer s H->BindsTo s fd args (ps.zip us)->Vals vs us->sp vs H Q E ->
  codeAny (model P w) A (.call (.ref f) args) (CR CX outer P w H s Q E) s
theorem FnOk.mono {P:Program} {w:World} {K:PySem.W.Frag} {mg:Str->Option Value} {base:Heap} {CX:CXT} {j k:Nat} {f:Addr} {fd:FuncData} {ps:List Str} {sp:Sp} (F:FnOk P w K mg base CX j f fd ps sp) (h:j<=k) :
    FnOk P w K mg base CX k f fd ps sp:=⟨F.len,λ A outer s H args us vs Q E hr=>F.run A outer s H args us vs Q E (hr.mono h)⟩
section
variable {X:Cx} {pins:List (Addr × Obj)} {σ:St} {H:Hp} {s s':Shared}
theorem Inv.env0 (I:Inv X pins σ H s):Env0 X.prog X.w X.K X.mg X.base X.A X.stack s H :=
 ⟨I.ok.frames,I.ok.mod,I.bs,Nat.le_trans I.ok.bsz I.sz,I.stack,I.stkFree,I.hok,I.bare⟩
theorem Inv.after {Q:VK} {u:Value} (I:Inv X pins σ H s) (h:CE X.stack X.prog X.w H s Q u s'):EP X pins σ Q u s':=by
 obtain ⟨v,H',os,bare,un,hok,r,q⟩:=h
 obtain ⟨hh,g,d,t,os'⟩:=s'
 obtain rfl:os'=s.os:=os
 exact ⟨v,H',I.call (h':=hh) (g':=g) (d':=d) (t':=t) (ch:=[]) un hok bare (λ b z=>absurd z (by simp)),r,q⟩
end
def ts3 (sp:Sp) (dvs:List V) (E:XK) (t:TA):TE:=λ σ H Q=>t σ H λ vs H1=>sp (vs ++ dvs) H1 Q E
def Binds (K:PySem.W.Frag) (fd:FuncData) (ps:List Str) (ds:List Value):Prop :=
 ∀ (s:Shared) (us:List Value),K.In s.heap->(us ++ ds).length=ps.length->BindsTo s fd ⟨us,[]⟩ (ps.zip (us ++ ds))
theorem Binds.all {K:PySem.W.Frag} {fd:FuncData} {ps:List Str} (h:∀ us:List Value,us.length=ps.length->bindArgs fd ⟨us,[]⟩=pure (ps.zip us)):Binds K fd ps []:=λ s us _ hl=>by
 rw [append_nil] at hl ⊢
 exact .of_eq (h us hl)
def yj1 (CX:CXT) (X:Cx) (E:XK):Prop:=∀ (pins:List (Addr × Obj)) (σ:St) (H:Hp) (s:Shared) (e:Value) (s':Shared),Inv X pins σ H s->CX X.stack H s E e s'->X.xe e s'
section
variable {X:Cx} {CX:CXT} {k:Nat} {f C:Addr} {fd:FuncData} {ps:List Str} {sp:Sp} {dvs:List V} {ds:List Value} {E:XK} {x m:Str} {p pos apos:Pos} {e o:Expr} {es:List Expr} {ta:TE} {t:TA}
theorem wv3 {pins:List (Addr × Obj)} {σ:St} {H:Hp} {s:Shared} {Q:VK} {us:List Value} {vs:List V} (F:FnOk X.prog X.w X.K X.mg X.base CX k f fd ps sp) (hr:Room k X.A) (hb:Binds X.K fd ps ds) (hd:Vals dvs ds) (hx:yj1 CX X E)
    (I:Inv X pins σ H s) (r:Vals vs us) (h:sp (vs ++ dvs) H Q E):wpAny (model X.prog X.w) X.A (call (.ref f) us) (EP X pins σ Q) X.xe s:=by
 have r2:Vals (vs ++ dvs) (us ++ ds):=r.append hd
 have hl:(us ++ ds).length=ps.length:=by rw [<- r2.length]; exact F.len _ _ _ _ h
 refine wpAny_call (codeAny_mono (F.run X.A X.stack s H ⟨us,[]⟩ (us ++ ds) (vs ++ dvs) Q E hr I.env0 (hb s us I.kIn hl) r2 h) λ r s' hq=>?_)
 cases r with
 | error e=>exact hx pins σ H s e s' I hq
 | ok fl =>
  cases fl with
  | ret u=>exact I.after hq
  | next=>exact False.elim hq
  | brk=>exact False.elim hq
  | cont=>exact False.elim hq
theorem vk1 (F:FnOk X.prog X.w X.K X.mg X.base CX k f fd ps sp) (hr:Room k X.A) (hg:Gl X x) (hm:X.mg x=some (.ref f)) (hk:keepIn X.K (.ref f)=true) (hb:Binds X.K fd ps ds) (hd:Vals dvs ds) (hx:yj1 CX X E)
    (ha:PA X (e :: es) t) (hdb:(x == ("__debug__" : Str))=false:=by decide) (he:starEach (e :: es) X.env=(false,eval e X.env) :: starEach es X.env:=by rfl) (hpl:(backTo pos (starEach es X.env)).any (·.1)=false:=by rfl) :
    PE X (.Call (.Name x p) (e :: es) [] pos) (ts3 sp dvs E t):=by
 intro pins s σ H Q I h
 refine wpAny_Call_Name_kw (vl0 I hg hm ?_ hdb)
 refine callWith_K (h₀:=X.base) I.ok.mod.kin hk (thn (ha pos pins s σ H _ I h) λ us s1 ⟨vs,H1,I1,r,q⟩=>⟨I1.kIn,?_⟩) he hpl
 exact wv3 F hr hb hd hx I1 r q
end
section
variable {X:Cx} {CX:CXT} {k:Nat} {f C:Addr} {fd:FuncData} {ps ks:List Str} {sp:Sp} {E:XK} {x m:Str} {p pos apos kpos:Pos} {e o:Expr} {es:List Expr} {kws:List Keyword} {te ta:TE} {t tk:TA} {nm:Option Str}
variable {g:List Value->List Value->List Value} {gV:List V->List V->List V}
end
structure FnScope (N P:List Str) (sc:Scope):Prop where
 kind:sc.kind=.function
 co:sc.isCoroutine=false
 gen:sc.isGenerator=false
 nd:N.Nodup
 pre:N.take P.length=P
 par:∀ x ∈ P,sc.names.lookup x=some .local \/ sc.names.lookup x=some .cell
 nofree:∀ y ∈ sc.names,y.2 ≠ .free
theorem vi1 {kindOf:Str->Option NameKind} {x:Str}:∀ {binds:List (Str × Value)} {m:Str->Option Value},(∀ v,(x,v) ∉ binds)->bindL kindOf binds m x=m x
 | [],_,_=>rfl
 | (n,v) :: r,m,h=>by
  unfold bindL
  rw [vi1 λ w hw=>h w (mem_cons_of_mem _ hw)]
  split
  ·have:x ≠ n:=by rintro rfl; exact h v mem_cons_self
   simp [this]
  ·rfl
theorem ti1 {kindOf:Str->Option NameKind} {x:Str}:∀ {binds:List (Str × Value)} {m:Str->Option Value},(∀ v,(x,v) ∉ binds)->bindC kindOf binds m x=m x
 | [],_,_=>rfl
 | (n,v) :: r,m,h=>by
  unfold bindC
  rw [ti1 λ w hw=>h w (mem_cons_of_mem _ hw)]
  split
  ·rfl
  ·have:x ≠ n:=by rintro rfl; exact h v mem_cons_self
   simp [this]
theorem ui1 {kindOf:Str->Option NameKind} {x:Str} {v:Value}:∀ {P:List Str} {vs:List Value} {i:Nat} {m:Str->Option Value},P.Nodup->P[i]?=some x->vs[i]?=some v->kindOf x=some .local ->
    bindL kindOf (P.zip vs) m x=some v
 | [],_,_,_,_,h,_,_=>by simp at h
 | _ :: _,[],_,_,_,_,h,_=>by simp at h
 | p :: P,w :: vs,0,m,nd,h1,h2,hk=>by
  simp at h1 h2; subst h1; subst h2
  show bindL kindOf ((p,w) :: P.zip vs) m p=_
  unfold bindL
  rw [vi1 λ v hv=>(List.nodup_cons.mp nd).1 (of_mem_zip hv).1,if_pos hk]
  simp
 | p :: P,w :: vs,i + 1,m,nd,h1,h2,hk=>by
  show bindL kindOf ((p,w) :: P.zip vs) m x=_
  unfold bindL
  exact ui1 (i:=i) (List.nodup_cons.mp nd).2 (by simpa using h1) (by simpa using h2) hk
theorem si1 {kindOf:Str->Option NameKind} {x:Str} {v:Value}:∀ {P:List Str} {vs:List Value} {i:Nat} {m:Str->Option Value},P.Nodup->P[i]?=some x->vs[i]?=some v->kindOf x ≠ some .local ->
    bindC kindOf (P.zip vs) m x=some v
 | [],_,_,_,_,h,_,_=>by simp at h
 | _ :: _,[],_,_,_,_,h,_=>by simp at h
 | p :: P,w :: vs,0,m,nd,h1,h2,hk=>by
  simp at h1 h2; subst h1; subst h2
  show bindC kindOf ((p,w) :: P.zip vs) m p=_
  unfold bindC
  rw [ti1 λ v hv=>(List.nodup_cons.mp nd).1 (of_mem_zip hv).1,if_neg hk]
  simp
 | p :: P,w :: vs,i + 1,m,nd,h1,h2,hk=>by
  show bindC kindOf ((p,w) :: P.zip vs) m x=_
  unfold bindC
  exact si1 (i:=i) (List.nodup_cons.mp nd).2 (by simpa using h1) (by simpa using h2) hk
def start (N:List Str) (vs:List V):St:=vs.map some ++ List.replicate (N.length - vs.length) none
def cxOf (CX:CXT) (P:Program) (w:World) (K:PySem.W.Frag) (mg:Str->Option Value) (base:Heap) (N:List Str) (qual:Str) (scope:Scope) (f:Addr) (cd:Value) (A:Around) (outer:List Env) (s:Shared) (H:Hp) (E:XK):Cx where
 prog:=P
 w:=w
 K:=K
 mg:=mg
 base:=base
 A:=A.deeper (envOfC qual scope s.heap.objs.size f cd)
 N:=N
 s₀:=s
 H₀:=H
 env:=envOfC qual scope s.heap.objs.size f cd
 outer:=outer
 stack:=envOfC qual scope s.heap.objs.size f cd :: outer
 ex:=[]
 calm:=true
 fn:=λ _=>true
 pn:=[]
 xe:=λ e s'=>wpAny (model P w) (A.deeper (envOfC qual scope s.heap.objs.size f cd)) (leaving (envOfC qual scope s.heap.objs.size f cd) e) (λ _ s''=>CX outer H s E e s'') (λ e' s''=>CX outer H s E e' s'') s'
theorem ud1 {sc:Scope} {n:Nat} {x:Str} (h:sc.names.lookup x=some .cell):∃ c,(cellsFrom n sc.names []).lookup x=some c:=by
 have q:=cellsFrom_some sc.names n [] (.inl h)
 exact Option.isSome_iff_exists.mp q
theorem xh1 {CX:CXT} {P:Program} {w:World} {K:PySem.W.Frag} {mg:Str->Option Value} {base:Heap} {N ps:List Str} {qual:Str} {scope:Scope} {f:Addr} {cd:Value} {A:Around} {outer:List Env} {s s1:Shared} {H:Hp} {E:XK} {us:List Value} {vs:List V}
    (S:FnScope N ps scope) (hd:A.handled=none) (e0:Env0 P w K mg base A outer s H) (hl:vs.length=ps.length) (r:Vals vs us)
    (x:InCallC s s.heap.objs.size (bindL (envOfC qual scope s.heap.objs.size f cd).kindOf (ps.zip us) λ _=>none) (cellsFrom (s.heap.objs.size + 1) scope.names []) (bindC (envOfC qual scope s.heap.objs.size f cd).kindOf (ps.zip us) λ _=>none) s1) :
    Inv (cxOf CX P w K mg base N qual scope f cd A outer s H E) [] (start N vs) H s1:=by
 have hpl:ps.length<=N.length:=by have:=congrArg List.length S.pre; rw [length_take] at this; omega
 obtain ⟨h1,tk,rfl,hk⟩:=x.done
 have noA:∀ b:Addr,b ∉ (cxOf CX P w K mg base N qual scope f cd A outer s H E).ex:=λ b z=>absurd (show b ∈ ([]:List Addr) from z) (by simp)
 refine ⟨⟨e0.mod,S.kind,rfl,rfl,Nat.le_refl _,λ y z c h1 h2=>?_,λ y hy=>?_,λ y c _ h=>?_,λ _=>hd,Around.frames_deeper e0.frames,.inr ⟨rfl,rfl⟩,λ b z=>absurd z (noA b),e0.bs,e0.bsz,λ b _ _=>noA b,λ b z=>absurd z (noA b),e0.funs,e0.frf⟩,
  rfl,e0.bare,Un.kept hk,⟨_,x.toInCall.ns,λ i y v h1 h2 h3=>?_⟩,λ y c h=>⟨_,x.cell y c h⟩,e0.hok.fresh (Nat.le_refl _),λ y c h=>?_,λ p hp=>absurd (show p ∈ ([]:List (Addr × Obj)) from hp) (by simp),e0.hok.kept hk,?_⟩
 ·exact name_of_addr x.apart (PySem.mem_of_lookup h1) (PySem.mem_of_lookup h2)
 ·have hy:scope.names.lookup y=some .cell \/ scope.names.lookup y=some .free:=hy
  rcases hy with hy | hy
  ·exact ud1 hy
  ·exact absurd rfl (S.nofree _ (PySem.mem_of_lookup hy))
 ·exact Nat.le_of_lt (x.above y c (PySem.mem_of_lookup h))
 ·have hi:i < vs.length:=by
    unfold start at h2
    by_cases hi:i < vs.length
    ·exact hi
    ·rw [List.getElem?_append_right (by simpa using hi)] at h2
     rw [List.getElem?_replicate] at h2
     split at h2 <;> cases h2
  have ha:vs[i]?=some v:=by
   unfold start at h2
   rw [List.getElem?_append_left (by simpa using hi),getElem?_map] at h2
   cases e:vs[i]? with
   | none=>rw [e] at h2; cases h2
   | some a=>rw [e] at h2; cases h2; rfl
  obtain ⟨u,hu,rv⟩:=r.get ha
  have hp:ps[i]?=some y:=by
   rw [<- S.pre,List.getElem?_take_of_lt (by omega)]; exact h1
  have ndP:ps.Nodup:=by rw [<- S.pre]; exact S.nd.sublist (List.take_sublist _ _)
  refine ⟨u,rv,?_⟩
  rcases S.par y (List.mem_of_getElem? hp) with k | k
  ·exact .inl ⟨k,ui1 ndP hp hu k⟩
  ·obtain ⟨c,e⟩:=ud1 (n:=s.heap.objs.size + 1) k
   refine .inr ⟨.inl k,c,e,?_⟩
   have q:=x.cell y c e
   rw [si1 ndP hp hu (by show scope.names.lookup y ≠ _; rw [k]; decide)] at q
   exact q
 ·exact e0.hok.fresh (Nat.le_of_lt (x.above y c (PySem.mem_of_lookup h)))
 ·unfold start
  show _=N.length
  rw [length_append,length_map,List.length_replicate]
  omega
theorem tj4 {CX:CXT} {P:Program} {w:World} {K:PySem.W.Frag} {mg:Str->Option Value} {base:Heap} {k:Nat} {f:Addr} {name qual:Str} {params:Arguments} {body:List Stmt} {scope:Scope} {dV kV doc pm cdv ct oc:Value} {an od:Option Addr}
    {osl:Array (Option Value)} {N ps:List Str} {sp:Sp} (lk:K.lookup f=some ⟨oc,od,.func (fnOf name qual params body scope dV kV doc pm an cdv ct),osl⟩) (hcd:codeIn K cdv qual=true) (S:FnScope N ps scope)
    (len:∀ vs H Q E,sp vs H Q E->vs.length=ps.length)
    (hbody:∀ (A:Around) (outer:List Env) (s:Shared) (H:Hp) (vs:List V) (Q:VK) (E:XK),Room k (A.deeper (envOfC qual scope s.heap.objs.size f cdv))->sp vs H Q E ->
     ∃ t,PSs (cxOf CX P w K mg base N qual scope f cdv A outer s H E) body t /\ t { nx:=λ _ H'=>Q .non H',rt:=Q } (start N vs) H) :
    FnOk P w K mg base CX (k + 1) f (fnOf name qual params body scope dV kV doc pm an cdv ct) ps sp:=by
 refine ⟨len,λ A outer s H args us vs Q E hr e0 hb r hsp=>?_⟩
 have hl:=len _ _ _ _ hsp
 have KX:K.In s.heap:=e0.mod.kin.keeps λ b o e=>(e0.bs b o e).1
 have lim:s.heap.NoLimit:=e0.mod.nolimit.keeps λ b o e=>(e0.bs b o e).1
 have hkind:∀ y ∈ ps.zip us,scope.names.lookup y.1=some .local \/ (scope.names.lookup y.1=some .cell /\ ((cellsFrom (s.heap.objs.size + 1) scope.names []).lookup y.1).isSome=true):=λ ⟨n,v⟩ hy=>by
  rcases S.par n (of_mem_zip hy).1 with q | q
  ·exact .inl q
  ·exact .inr ⟨q,cellsFrom_some _ _ _ (.inl q)⟩
 refine codeAny_call_function hr.depth (KX _ _ lk) rfl S.co S.gen rfl (codeRec_of KX hcd) (hb _ _ _ _ ?_)
 refine wpAny_newFunctionEnv_cells S.kind hkind λ env he s1 x=>?_
 subst he
 refine ⟨lim.keeps x.toInCall.keep,codeAny_func ?_⟩
 obtain ⟨t,ht,hq⟩:=hbody A outer s H vs Q E (hr.deeper _) hsp
 have I:Inv (cxOf CX P w K mg base N qual scope f cdv A outer s H E) [] (start N vs) H s1:=xh1 S hr.hd e0 hl r x
 refine wpAny_mono (ht [] s1 (start N vs) H _ I hq) (λ fl s' hs=>?_) λ e s' hs=>hs
 have fin:∀ {σ':St} {H':Hp} {v:V} {u:Value},Inv (cxOf CX P w K mg base N qual scope f cdv A outer s H E) [] σ' H' s'->RelV v u->Q v H'->CE outer P w H s Q u s' :=
  λ {σ' H' v u} J rv q=>⟨v,H',J.os,J.bare,J.base,J.hok,rv,q⟩
 cases fl with
 | ret u =>
  obtain ⟨v,σ',H',J,rv,q⟩:=hs
  exact fin J rv q
 | next =>
  obtain ⟨σ',H',J,q⟩:=hs
  exact fin (v:=V.non) (u:=Value.none) J rfl q
 | brk =>
  obtain ⟨_,_,_,q⟩:=hs
  exact False.elim q
 | cont =>
  obtain ⟨_,_,_,q⟩:=hs
  exact False.elim q
section
variable {X:Cx} {x:Str} {p pos:Pos} {e:Expr} {es:List Expr} {t:TA} {id T:String} {r:List V->Hp->VK->Prop}
def tCB (r:List V->Hp->VK->Prop) (t:TA):TE:=λ σ H Q=>t σ H λ vs H1=>r vs H1 Q
theorem zo1 (hc:CallR X (.builtin id) r) (hg:Gl X x) (hm:X.mg x=none) (hv:bootBuiltins x=some (.builtin id)) (ha:PA X (e :: es) t) (hn:x ≠ "__name__" := by decide) (hdb:(x == ("__debug__" : Str))=false:=by decide)
    (he:starEach (e :: es) X.env=(false,eval e X.env) :: starEach es X.env:=by rfl) (hpl:(backTo pos (starEach es X.env)).any (·.1)=false:=by rfl):PE X (.Call (.Name x p) (e :: es) [] pos) (tCB r t):=by
 intro pins s σ H Q I h
 refine wpAny_Call_Name_kw (tt0 I hg hm hv ?_ hn hdb)
 exact PyProof.Rows.callWith_builtin1 (thn (ha pos pins s σ H _ I h) λ us s1 ⟨vs,H1,I1,r1,q1⟩=>hc pins s1 σ H1 vs us Q I1 r1 q1) he hpl
theorem sc2 (hc:CallR X (.type T) r) (hg:Gl X x) (hm:X.mg x=none) (hv:bootBuiltins x=some (.type T)) (ha:PA X (e :: es) t) (hn:x ≠ "__name__" := by decide) (hdb:(x == ("__debug__" : Str))=false:=by decide)
    (he:starEach (e :: es) X.env=(false,eval e X.env) :: starEach es X.env:=by rfl) (hpl:(backTo pos (starEach es X.env)).any (·.1)=false:=by rfl):PE X (.Call (.Name x p) (e :: es) [] pos) (tCB r t):=by
 intro pins s σ H Q I h
 refine wpAny_Call_Name_kw (tt0 I hg hm hv ?_ hn hdb)
 exact PyProof.Rows.callWith_type1 (thn (ha pos pins s σ H _ I h) λ us s1 ⟨vs,H1,I1,r1,q1⟩=>hc pins s1 σ H1 vs us Q I1 r1 q1) he hpl
end
end L2
namespace HT
open PySem PyProof.Rows
section
open PySem.SeqAt
open PySem.AutoSeq1 (wpAny_loadPart')
open PySem.MeetsSeq PySem.MeetsSeq2 PySem.MeetsSeq3
end
section
variable {prog:Program} {w:World} {A:Around} {E:Value->Shared->Prop} {s:Shared}
theorem cat_tup {t b:Addr} {vs ws:List Value} {Q:Value->Shared->Prop} (ht:IsTup s.heap t vs.toArray) (hb:IsTup s.heap b ws.toArray) (hv:vs ≠ [])
    (h1:ws=[]->Q (.ref t) s) (h2:ws ≠ []->Q (.ref s.heap.objs.size) { s with heap:=s.heap.push { cls:=.type "tuple",data:=.seq (vs ++ ws).toArray } })
    (hsz:vs.length + ws.length<=sizeLine):wpAny (model prog w) A (binaryOp .Add (.ref t) (.ref b)) Q E s:=by
 obtain ⟨⟨cls,dd,data,sl⟩,ho,hc,n,hd⟩:=id ht
 obtain ⟨⟨cls2,dd2,data2,sl2⟩,ho2,hc2,n2,hd2⟩:=id hb
 simp only at hc hd hc2 hd2
 subst hc hd hc2 hd2
 have e:vs.toArray ++ ws.toArray=(vs ++ ws).toArray:=by simp
 by_cases hw:ws=[]
 ·exact concat_meets ⟨_,ho,rfl⟩ ⟨_,ho2,rfl⟩ noFill_tuple_add seq_tuple_add slot_tuple_add entry_tuple_add (args_tuple_add_2 _ _)
    (tuple_addW1 t b vs.toArray ws.toArray n n2 dd dd2 sl sl2 (by simpa using hv) (by simp [hw])) ⟨ho,ho2,h1 hw⟩
 ·refine concat_meets ⟨_,ho,rfl⟩ ⟨_,ho2,rfl⟩ noFill_tuple_add seq_tuple_add slot_tuple_add entry_tuple_add (args_tuple_add_2 _ _)
    (tuple_addW2 t b vs.toArray ws.toArray n n2 dd dd2 sl sl2 (by simpa using hv) (by simpa using hw) (by rw [size_toArray,size_toArray]; exact hsz)) ⟨ho,ho2,?_⟩
  rw [e]
  exact h2 hw
def sIx (n d:Nat):Option Int->Nat
 | none=>d
 | some v=>if v < 0 then (v + (n:Int)).toNat else min v.toNat n
theorem xv3 (n d:Nat) (hd:d<=n) (o:Option Int):sIx n d o<=n:=by
 cases o with
 | none=>exact hd
 | some v =>
  show (if v < 0 then (v + (n:Int)).toNat else min v.toNat n)<=n
  by_cases hv:v < 0
  ·rw [if_pos hv]; omega
  ·rw [if_neg hv]; exact Nat.min_le_right _ _
theorem xi2 (v:Int) (n d:Nat):(if v < 0 then max (v + (n:Int)) 0 else min v (n:Int))=((sIx n d (some v):Nat):Int):=by
 show (if v < 0 then max (v + (n:Int)) 0 else min v (n:Int))=(((if v < 0 then (v + (n:Int)).toNat else min v.toNat n):Nat):Int)
 by_cases hv:v < 0
 ·simp only [if_pos hv]; omega
 ·simp only [if_neg hv]; omega
theorem zx1 (lo hi:Option Int) (n:Nat):Builtin.Slice.sliceAdjust lo hi 1 (n:Int)=(((sIx n 0 lo:Nat):Int),((sIx n n hi:Nat):Int)):=by
 have h1:¬ ((1:Int) < 0):=by omega
 unfold Builtin.Slice.sliceAdjust
 simp only [h1,if_false]
 refine Prod.ext ?_ ?_
 ·cases lo with
  | none=>rfl
  | some v=>exact xi2 v n 0
 ·cases hi with
  | none=>rfl
  | some v=>exact xi2 v n n
theorem zv1 (i j:Nat):Builtin.Slice.slicePlaces (i:Int) (j:Int) 1=j - i:=by
 unfold Builtin.Slice.slicePlaces
 have h1:(1:Int) > 0:=by omega
 simp only [h1,if_true,Int.ediv_one]
 split <;> omega
theorem xx0 {v:Value} {o:Option Int} {Q:Option Int->Shared->Prop} (p:IsPart v o) (h:Q o s):wpAny (model prog w) A (Builtin.Slice.slicePartIndex v) Q E s:=by
 cases p with
 | none=>exact slicePart_none h
 | int i t=>exact slicePart_int h
theorem sliceApplied_gen {sl:Addr} {vl vu:Value} {lo hi:Option Int} {n:Nat} {Q:Int × Int × Nat->Shared->Prop} (hs:s.heap.IsSliceOf sl vl vu .none) (pl:IsPart vl lo) (pu:IsPart vu hi)
    (h:Q (((sIx n 0 lo:Nat):Int),1,sIx n n hi - sIx n 0 lo) s):wpAny (model prog w) A (Builtin.Slice.sliceApplied (.ref sl) (pure (n:Int))) Q E s:=by
 obtain ⟨os,hos,hcs,hds⟩:=id hs
 unfold Builtin.Slice.sliceApplied Builtin.Slice.sliceFields
 refine wpAny_bind (wpAny_bind (wpAny_field hos hds (x:=vl) rfl (wpAny_bind (wpAny_field hos hds (x:=vu) rfl (wpAny_bind (wpAny_field hos hds (x:=.none) rfl (wpAny_pure ?_)))))))
 refine wpAny_bind (slicePart_none ?_)
 show wpAny _ _ (if ((1:Int) == 0)=true then _ else _) _ _ s
 rw [if_neg (by decide)]
 refine wpAny_bind (xx0 pl (wpAny_bind (xx0 pu (wpAny_bind (wpAny_pure ?_)))))
 show wpAny _ _ (match Builtin.Slice.sliceAdjust lo hi 1 (n:Int) with | (lo,hi)=>pure (lo,(1:Int),Builtin.Slice.slicePlaces lo hi 1)) _ _ s
 rw [zx1 lo hi n]
 show wpAny _ _ (pure (((sIx n 0 lo:Nat):Int),(1:Int),Builtin.Slice.slicePlaces ((sIx n 0 lo:Nat):Int) ((sIx n n hi:Nat):Int) 1)) _ _ s
 rw [zv1]
 exact wpAny_pure h
theorem so2 (xs:Array Value) (i k:Nat):((List.range k).filterMap λ (m:Nat)=>xs[((i:Int) + (m:Int) * 1).toNat]?).toArray=((xs.toList.drop i).take k).toArray:=by
 have e:(λ (m:Nat)=>xs[((i:Int) + (m:Int) * 1).toNat]?)=λ m=>xs[i + m]?:=by
  funext m
  have:((i:Int) + (m:Int) * 1).toNat=i + m:=by omega
  rw [this]
 rw [e]
 have:=pick_run xs i k
 rw [List.filterMap_map] at this
 have e2:((λ x=>xs[x]?) ∘ λ x=>i + x)=λ m=>xs[i + m]?:=rfl
 rw [e2] at this
 rw [this]
theorem getItem_tuple_cut {t sl:Addr} {items:Array Value} {vl vu:Value} {lo hi:Option Int} {Q:Value->Shared->Prop} (ht:IsTup s.heap t items) (hs:s.heap.IsSliceOf sl vl vu .none) (pl:IsPart vl lo) (pu:IsPart vu hi)
    (hw:¬ (sIx items.size 0 lo=0 /\ sIx items.size items.size hi=items.size))
    (h:Q (.ref s.heap.objs.size) { s with heap:=s.heap.push { cls:=.type "tuple",data:=.seq ((items.toList.drop (sIx items.size 0 lo)).take (sIx items.size items.size hi - sIx items.size 0 lo)).toArray } })
    (hsz:items.size<=sizeLine):wpAny (model prog w) A (getItem (.ref t) (.ref sl)) Q E s:=by
 have htake:sizeOk (.seq ((items.toList.drop (sIx items.size 0 lo)).take (sIx items.size items.size hi - sIx items.size 0 lo)).toArray):=by
  show ((items.toList.drop (sIx items.size 0 lo)).take (sIx items.size items.size hi - sIx items.size 0 lo)).toArray.size<=sizeLine
  rw [size_toArray,length_take,length_drop,length_toList]
  omega
 have hj:sIx items.size items.size hi<=items.size:=xv3 _ _ (Nat.le_refl _) hi
 obtain ⟨os,hos,hcs,hds⟩:=id hs
 have hTs:s.TypeIs (.ref sl) "slice" := ⟨os,hos,hcs⟩
 unfold getItem
 try with_reducible refine wpAny_holding ?_
 first | refine wpAny_bind (wpAny_pure ?_) | skip
 refine wpAny_bind (wpAny_sequenceKey ht.typeIs (by decide) ?_)
 refine wpAny_bind (wpAny_callSpecial?_slot (name:=Str.ofString "__getitem__") ht.typeIs PyProof.Rows.slot_tuple_getitem
  (wpAny_call_entry PyProof.Rows.slot_tuple_getitem ht.typeIs entry_tuple_getitem ?_ (args_tuple_getitem _ _)))
 show wpAny _ _ (Builtin.Tuple.tupleItemsOf (.ref t) >>= _) _ _ s
 refine wpAny_bind (tupleItemsOf_ ht ?_)
 refine wpAny_bind (wpAny_typeOf hTs ?_)
 rw [if_pos (by decide)]
 refine wpAny_bind (sliceApplied_gen hs pl pu ?_)
 have hno:¬ ((((sIx items.size 0 lo:Nat):Int) == 0 && (1:Int) == 1 && (sIx items.size items.size hi - sIx items.size 0 lo) == items.size)=true):=by
  intro q
  rw [Bool.and_eq_true,Bool.and_eq_true] at q
  have q1:((sIx items.size 0 lo:Nat):Int)=0:=eq_of_beq q.1.1
  have q2:sIx items.size items.size hi - sIx items.size 0 lo=items.size:=eq_of_beq q.2
  exact hw ⟨by omega,by omega⟩
 show wpAny _ _ (if (((sIx items.size 0 lo:Nat):Int) == 0 && (1:Int) == 1 && (sIx items.size items.size hi - sIx items.size 0 lo) == items.size)=true then _ else _) _ _ s
 rw [if_neg hno,so2]
 first
  | exact wpAny_bind (m:=Builtin.Tuple.tupleExact _) (wpAny_newObj_type (wpAny_pure ⟨_,rfl,wpAny_pure h⟩) htake)
  | exact wpAny_bind (m:=Builtin.Tuple.tupleExact _) (wpAny_newObj_type (wpAny_bind (wpAny_pure (wpAny_pure ⟨_,rfl,wpAny_pure h⟩))) htake)
  | exact wpAny_bind (wpAny_bind (m:=Builtin.Tuple.tupleExact _) (wpAny_newObj_type (wpAny_pure (wpAny_pure ⟨_,rfl,wpAny_pure h⟩)) htake))
  | exact wpAny_bind (wpAny_bind (m:=Builtin.Tuple.tupleExact _) (wpAny_newObj_type (wpAny_pure ⟨_,rfl,wpAny_pure h⟩) htake))
end
end HT
namespace L2
open PySem PySem.Spec PyProof.Rows
abbrev TO:=St->Hp->(Option Int->Hp->Prop)->Prop
def PO (X:Cx) (e:Option Expr) (t:TO):Prop :=
 ∀ (pins:List (Addr × Obj)) (s:Shared) (σ:St) (H:Hp) (Q:Option Int->Hp->Prop),Inv X pins σ H s->t σ H Q ->
  wpAny (model X.prog X.w) X.A (evalPart e X.env) (λ u s'=>∃ o H',Inv X pins σ H' s' /\ IsPart u o /\ Q o H') X.xe s
def sb3:TO:=λ _ H Q=>Q none H
def tm4 (t:TE):TO:=λ σ H Q=>t σ H λ x H1=>∃ i,x=.int i /\ Q (some i) H1
theorem yy0 {ns:List Int}:∀ {us:List Value},Vals (ns.map V.int) us->IntsAre us ns:=by
 induction ns with
 | nil=>intro us r; rw [map_nil] at r; cases r; exact .nil
 | cons n ns ih =>
  intro us r
  rw [map_cons] at r
  cases r with
  | cons r1 r2 =>
   obtain ⟨t,e⟩:=r1
   subst e
   exact .cons n t (ih r2)
section
variable {X:Cx} {e:Expr} {te:TE} {lo hi:Option Expr} {tl th:TO} {pos p2:Pos}
theorem zh3:PO X none sb3:=by
 intro pins s σ H Q I h
 rw [evalPart_none]
 exact wpAny_pure ⟨none,H,I,.none,h⟩
theorem yh3 (h:PE X e te):PO X (some e) (tm4 te):=by
 intro pins s σ H Q I hw
 rw [evalPart_some]
 refine thn (h pins s σ H _ I hw) λ u s1 ⟨x,H1,I1,r1,q1⟩=>?_
 obtain ⟨i,rfl,q⟩:=q1
 obtain ⟨t,rfl⟩:=r1
 exact ⟨some i,H1,I1,.int i t,q⟩
def SlR (X:Cx) (r:V->Option Int->Option Int->Hp->VK->Prop):Prop :=
 ∀ (pins:List (Addr × Obj)) (s:Shared) (σ:St) (H:Hp) (x:V) (v vl vu:Value) (lo hi:Option Int) (sl:Addr) (Q:VK),Inv X pins σ H s->RelV x v->s.heap.IsSliceOf sl vl vu .none->IsPart vl lo->IsPart vu hi->r x lo hi H Q ->
  ∃ T id,typeLookup (.type T) "__getitem__" = pure (some (.builtin id)) /\ s.TypeIs v T /\ wpAny (model X.prog X.w) X.A (getItem v (.ref sl)) (EP X pins σ Q) X.xe s
theorem SlR.or {r r':V->Option Int->Option Int->Hp->VK->Prop} (h:SlR X r) (h':SlR X r'):SlR X (λ x lo hi H Q=>r x lo hi H Q \/ r' x lo hi H Q):=by
 intro pins s σ H x v vl vu lo hi sl Q I rx hs pl pu q
 rcases q with q | q
 ·exact h pins s σ H x v vl vu lo hi sl Q I rx hs pl pu q
 ·exact h' pins s σ H x v vl vu lo hi sl Q I rx hs pl pu q
def tSl (r:V->Option Int->Option Int->Hp->VK->Prop) (te:TE) (tl th:TO):TE:=λ σ H Q=>te σ H λ x H1=>tl σ H1 λ l H2=>th σ H2 λ u H3=>r x l u H3 Q
theorem zp2 {r:V->Option Int->Option Int->Hp->VK->Prop} (hr:SlR X r) (he:PE X e te) (hl:PO X lo tl) (hu:PO X hi th):PE X (.Subscript e (.Slice lo hi none p2) pos) (tSl r te tl th):=by
 intro pins s σ H Q I h
 refine Subscript_ (thn (he pins s σ H _ I h) λ v s1 ⟨x,H1,I1,r1,q1⟩=>?_)
 refine wpAny_Slice (thn (hl pins s1 σ H1 _ I1 q1) λ vl s2 ⟨l,H2,I2,pl,q2⟩=>thn (hu pins s2 σ H2 _ I2 q2) λ vu s3 ⟨u,H3,I3,pu,q3⟩=>?_)
 rw [evalPart_none]
 refine wpAny_pure ?_
 have I4:Inv X pins σ H3 { s3 with heap:=s3.heap.push { cls:=.type "slice",data:=.fields #[vl,vu,.none] } }:=I3.kept (t':=s3.toks) λ b ob q=>Heap.get?_push_of_some _ q
 obtain ⟨T,id,hT,ht,hg⟩:=hr pins { s3 with heap:=s3.heap.push { cls:=.type "slice",data:=.fields #[vl,vu,.none] } } σ H3 x v vl vu l u s3.heap.objs.size Q I4 r1 (Heap.IsSliceOf.new ..) pl pu q3
 show wpAny (model X.prog X.w) X.A (subscriptTail e (.Slice lo hi none p2) v (.ref s3.heap.objs.size)) (EP X pins σ Q) X.xe { s3 with heap:=s3.heap.push { cls:=.type "slice",data:=.fields #[vl,vu,.none] } }
 exact tail_any (ops:=[.ref s3.heap.objs.size,v]) ht hT hg (by with_unfolding_all rfl)
def cutV (xs:List V) (lo hi:Option Int):List V:=(xs.drop (HT.sIx xs.length 0 lo)).take (HT.sIx xs.length xs.length hi - HT.sIx xs.length 0 lo)
theorem tu0 (xs:List V) (lo hi:Option Int):(cutV xs lo hi).length<=xs.length:=by
 unfold cutV
 rw [length_take,length_drop]
 omega
def rSlT (K:PySem.W.Frag):V->Option Int->Option Int->Hp->VK->Prop:=λ x lo hi H Q=>∃ a xs,x=.ref a /\ SqT K H a xs ∧
 ¬ (HT.sIx xs.length 0 lo=0 /\ HT.sIx xs.length xs.length hi=xs.length) /\ ∀ p,H p=none->Q (.ref p) (upd H p (.tup (cutV xs lo hi)))
theorem xt3:SlR X (rSlT X.K):=by
 intro pins s σ H x v vl vu lo hi sl Q I rx hs pl pu h
 obtain ⟨a,xs,rfl,hx,hw,q⟩:=h
 cases rx
 obtain ⟨its,r,ht,hz⟩:=I.tuple hx
 have hlen:its.toArray.size=xs.length:=by rw [size_toArray]; exact r.length.symm
 refine ⟨"tuple",_,PyProof.Rows.slot_tuple_getitem.lookup,ht.typeIs,?_⟩
 refine HT.getItem_tuple_cut ht hs pl pu (by rw [hlen]; exact hw) ?_ (by rw [hlen]; exact hz)
 rw [hlen]
 refine ⟨.ref s.heap.objs.size,_,I.laid (t':=s.toks) (o:=.tup (cutV xs lo hi)) (λ b ob q=>Heap.get?_push_of_some _ q) (Nat.le_refl _) ?_,rfl,q _ (I.hok.fresh (Nat.le_refl _))⟩
 exact ⟨Nat.le_trans (tu0 xs lo hi) hz,_,(r.drop (HT.sIx xs.length 0 lo)).take (HT.sIx xs.length xs.length hi - HT.sIx xs.length 0 lo),IsTup.new _ _⟩
def vr4 (K:PySem.W.Frag):R2:=λ x y H Q=>∃ a b xs ys,x=.ref a /\ y=.ref b /\ SqT K H a xs /\ SqT K H b ys /\ xs ≠ [] /\ xs.length + ys.length<=sizeLine ∧
 (ys=[]->Q (.ref a) H) /\ (ys ≠ []->∀ p,H p=none->Q (.ref p) (upd H p (.tup (xs ++ ys))))
theorem Vals.nil_iff {xs:List V} {us:List Value} (r:Vals xs us):us=[] ↔ xs=[]:=by
 cases r with
 | nil=>simp
 | cons _ _=>simp
theorem ti3:OpR X (binaryOp .Add) (vr4 X.K):=by
 intro pins s σ H x y v u Q I rx ry h
 obtain ⟨a,b,xs,ys,rfl,rfl,ha,hb,hx,hz,q1,q2⟩:=h
 cases rx
 cases ry
 obtain ⟨its,r1,p1,_⟩:=I.tuple ha
 obtain ⟨its2,r2,p2,_⟩:=I.tuple hb
 refine HT.cat_tup p1 p2 (λ z=>hx (r1.nil_iff.mp z)) (λ z=>⟨.ref a,H,I,rfl,q1 (r2.nil_iff.mp z)⟩) (λ z=>?_) (by rw [<- r1.length,<- r2.length]; exact hz)
 refine ⟨.ref s.heap.objs.size,_,I.laid (t':=s.toks) (o:=.tup (xs ++ ys)) (λ b ob q=>Heap.get?_push_of_some _ q) (Nat.le_refl _) ?_,rfl,q2 (λ w=>z (r2.nil_iff.mpr w)) _ (I.hok.fresh (Nat.le_refl _))⟩
 exact ⟨by rw [length_append]; exact hz,_,r1.append r2,IsTup.new _ _⟩
end
def ixN (n:Nat) (i:Int):Option Nat:=if 0<=i then (if i < n then some i.toNat else none) else if -(n:Int)<=i then some (i + n).toNat else none
def atI {α:Type} (xs:List α) (i:Int):Option α:=(ixN xs.length i).bind λ j=>xs[j]?
theorem xf2 {n:Nat} {i:Int} {j:Nat} (h:ixN n i=some j):seqIndex? i n=some j /\ j < n /\ -(n:Int)<=i /\ i < n:=by
 unfold ixN at h
 by_cases h0:0<=i
 ·rw [if_pos h0] at h
  by_cases h1:i < n
  ·rw [if_pos h1] at h
   have e:i.toNat=j:=Option.some.inj h
   exact ⟨by rw [seqIndex_of h0 h1,e],by omega,by omega,h1⟩
  ·rw [if_neg h1] at h; cases h
 ·rw [if_neg h0] at h
  by_cases h1 : -(n:Int)<=i
  ·rw [if_pos h1] at h
   have e:(i + n).toNat=j:=Option.some.inj h
   exact ⟨by rw [seqIndex_neg (by omega) h1,e],by omega,h1,by omega⟩
  ·rw [if_neg h1] at h; cases h
theorem ym1 {α:Type} {xs:List α} {i:Int} {v:α} (h:atI xs i=some v):∃ j,seqIndex? i xs.length=some j /\ xs[j]?=some v /\ j < xs.length /\ -(xs.length:Int)<=i /\ i < xs.length:=by
 unfold atI at h
 cases e:ixN xs.length i with
 | none=>rw [e] at h; cases h
 | some j =>
  rw [e] at h
  obtain ⟨h1,h2,h3,h4⟩:=xf2 e
  exact ⟨j,h1,h,h2,h3,h4⟩
theorem atI_nat {α:Type} {xs:List α} {j:Nat} {v:α} (h:xs[j]?=some v):atI xs (j:Int)=some v:=by
 have hj:j < xs.length:=(List.getElem?_eq_some_iff.mp h).1
 have e:ixN xs.length (j:Int)=some j:=by
  unfold ixN
  rw [if_pos (by omega),if_pos (by omega)]; simp
 unfold atI; rw [e]; exact h
theorem atI_last {α:Type} (xs:List α) (v:α):atI (xs ++ [v]) (-1)=some v:=by
 have hl:(xs ++ [v]).length=xs.length + 1:=by simp
 have e:ixN (xs ++ [v]).length (-1)=some xs.length:=by
  unfold ixN
  rw [hl,if_neg (by decide),if_pos (by omega)]
  congr 1
  omega
 unfold atI
 rw [e]
 show (xs ++ [v])[xs.length]?=some v
 simp
def zk2 (b:Expr):Prop:=∀ o i,subscripted b false o i=operate [o,i] (getItem o i)
def IxR (X:Cx) (r:R2):Prop :=
 ∀ (value slice:Expr) (pins:List (Addr × Obj)) (s:Shared) (σ:St) (H:Hp) (x y:V) (v u:Value) (Q:VK),Inv X pins σ H s->RelV x v->RelV y u->r x y H Q ->
  subscripted slice false v u=operate [v,u] (getItem v u)->wpAny (model X.prog X.w) X.A (subscriptTail value slice v u) (EP X pins σ Q) X.xe s
def MtR (X:Cx) (id:String) (r:V->List V->Hp->VK->Prop):Prop :=
 ∀ (pins:List (Addr × Obj)) (s:Shared) (σ:St) (H:Hp) (x:V) (xs:List V) (v:Value) (us:List Value) (Q:VK),Inv X pins σ H s->RelV x v->Vals xs us->r x xs H Q ->
  wpAny (model X.prog X.w) X.A (call (.builtin id) (v :: us)) (EP X pins σ Q) X.xe s
section
variable {X:Cx} {a b:Expr} {ta tb:TE} {pos:Pos}
theorem IxR.or {r r':R2} (h:IxR X r) (h':IxR X r'):IxR X (λ x y H Q=>r x y H Q \/ r' x y H Q):=by
 intro value slice pins s σ H x y v u Q I rx ry q hs
 rcases q with q | q
 ·exact h value slice pins s σ H x y v u Q I rx ry q hs
 ·exact h' value slice pins s σ H x y v u Q I rx ry q hs
theorem xt4 {r:R2} (hr:IxR X r) (ha:PE X a ta) (hb:PE X b tb) (hs:zk2 b):PE X (.Subscript a b pos) (tOp r ta tb):=by
 intro pins s σ H Q I h
 exact Subscript_ (binT ha hb I h λ v u s2 x y H2 I2 rx ry q=>hr a b pins s2 σ H2 x y v u Q I2 rx ry q (hs _ _))
def rIxL (K:PySem.W.Frag):R2:=λ x y H Q=>∃ p xs i v,x=.ref p /\ y=.int i /\ SqL K H p xs /\ atI xs i=some v /\ Q v H
def rIxT (K:PySem.W.Frag):R2:=λ x y H Q=>∃ p xs i v,x=.ref p /\ y=.int i /\ SqT K H p xs /\ atI xs i=some v /\ Q v H
def rIxS:R2:=λ x y H Q=>∃ z i c,x=.str z /\ y=.int i /\ z.length<=sizeLine /\ atI z.cps.toList i=some c /\ Q (.str ⟨#[c]⟩) H
theorem ix_list:IxR X (rIxL X.K):=by
 intro value slice pins s σ H x y v u Q I rx ry h hs
 obtain ⟨p,xs,i,z,rfl,rfl,hq,he,q⟩:=h
 cases rx
 obtain ⟨t,rfl⟩:=ry
 obtain ⟨its,r,pl,hz⟩:=I.list hq
 obtain ⟨j,h1,h2,h3,h4,h5⟩:=ym1 he
 obtain ⟨w,ew,rw'⟩:=r.get h2
 have hl:=r.length
 have hn:=xy0
 have fin:EP X pins σ Q w s:=⟨z,H,I,rw',q⟩
 by_cases h0:0<=i
 ·have hj:i.toNat=j:=by
    rw [seqIndex_of h0 h5] at h1
    exact Option.some.inj h1
  exact item_listR pl.isList h0 (by omega) (by rw [hj]; simpa using ew) fin hs
 ·have hj:(i + (its.toArray.size:Int)).toNat=j:=by
    rw [seqIndex_neg (by omega) h4] at h1
    rw [size_toArray,<- hl]
    exact Option.some.inj h1
  exact subscriptTail_builtinR (x:=w) pl.isList.typeIs slot_list_getitem.lookup
   (wpAny_getItem_list_neg (Q:=λ r s'=>r=w /\ EP X pins σ Q r s') pl.isList (by omega) (by rw [size_toArray] <;> omega) (by omega) (by rw [hj]; simpa using ew) ⟨rfl,fin⟩) hs
theorem ui4:IxR X (rIxT X.K):=by
 intro value slice pins s σ H x y v u Q I rx ry h hs
 obtain ⟨p,xs,i,z,rfl,rfl,hq,he,q⟩:=h
 cases rx
 obtain ⟨t,rfl⟩:=ry
 obtain ⟨its,r,pl,hz⟩:=I.tuple hq
 obtain ⟨j,h1,h2,h3,h4,h5⟩:=ym1 he
 obtain ⟨w,ew,rw'⟩:=r.get h2
 have hl:=r.length
 have hn:=xy0
 have fin:EP X pins σ Q w s:=⟨z,H,I,rw',q⟩
 exact subscriptTail_builtinR (x:=w) pl.typeIs slot_tuple_getitem.lookup
  (getItem_tuple (j:=j) (Q:=λ r s'=>r=w /\ EP X pins σ Q r s') pl (by omega) (by omega) (by rw [size_toArray,<- hl]; exact h1) (by simpa using ew) ⟨rfl,fin⟩) hs
theorem ti4:IxR X rIxS:=by
 intro value slice pins s σ H x y v u Q I rx ry h hs
 obtain ⟨z,i,c,rfl,rfl,hz,he,q⟩:=h
 obtain ⟨t,rfl⟩:=rx
 obtain ⟨t',rfl⟩:=ry
 obtain ⟨j,h1,h2,h3,h4,h5⟩:=ym1 he
 have hl:z.cps.toList.length=z.length:=by simp [Str.length]
 rw [hl] at h1 h4 h5
 have hn:=xy0
 exact tail_any (typeIs_str s z t) slot_str_getitem.lookup (getItem_str (c:=c) (by
  have e1:decide (i < -(2 ^ 63:Int))=false:=decide_eq_false (by omega)
  have e2:decide (i ≥ 2 ^ 63)=false:=decide_eq_false (by omega)
  rw [e1,e2,Bool.or_false]) (by rw [h1]; simpa using h2) ⟨.str ⟨#[c]⟩,H,I.tok _,⟨_,rfl⟩,q⟩) hs
theorem sv1 (its:List Value) (n j:Nat) (u:Value):Obj.mapSeq (·.setIfInBounds j u) { cls:=.type "list",data:=.seq its.toArray n }={ cls:=.type "list",data:=.seq (its.set j u).toArray n }:=by
 simp [Obj.mapSeq]
theorem Inv.lst {pins:List (Addr × Obj)} {σ:St} {H:Hp} {s:Shared} {p:Addr} {xs:List V} (I:Inv X pins σ H s) (h:H p=some (.lst xs)) :
    ∃ (its:List Value) (n:Nat),Vals xs its /\ s.heap.get? p=some { cls:=.type "list",data:=.seq its.toArray n } /\ xs.length<=sizeLine:=by
 obtain ⟨z,its,n,r,e⟩:=I.hok p _ h
 exact ⟨its,n,r,e,z⟩
theorem Inv.lstUpd {pins:List (Addr × Obj)} {σ:St} {H:Hp} {s:Shared} {p:Addr} {xs ys:List V} {its its':List Value} {n n':Nat} {f:Obj->Obj} (I:Inv X pins σ H s) (h:H p=some (.lst xs))
    (ho:s.heap.get? p=some { cls:=.type "list",data:=.seq its.toArray n }) (hf:f { cls:=.type "list",data:=.seq its.toArray n }={ cls:=.type "list",data:=.seq its'.toArray n' }) (r:Vals ys its') (hz:ys.length<=sizeLine) (t:Nat) :
    Inv X pins σ (upd H p (.lst ys)) { s with heap:=s.heap.update p f,toks:=t }:=by
 have e:(s.heap.update p f).get? p=some { cls:=.type "list",data:=.seq its'.toArray n' }:=by
  rw [Heap.get?_update_self f ho (by rw [hf] <;> rfl),hf]
 refine I.write (x:=p) (e:=p) (by rw [h]; trivial) (.inl rfl) (λ b u hb q=>(Heap.get?_update_other _ _ (Ne.symm hb)).trans q) ⟨_,e⟩ ?_
 exact ⟨hz,its',n',r,e⟩
def zr4:V->V->V->Hp->(Hp->Prop)->Prop:=λ o i v H Q=>∃ p xs k j,o=.ref p /\ i=.int k /\ H p=some (.lst xs) /\ ixN xs.length k=some j /\ Q (upd H p (.lst (xs.set j v)))
theorem wa1:PSet X zr4:=by
 intro pins s σ H o i v ov iv u Q I ro ri rv h
 obtain ⟨p,xs,k,j,rfl,rfl,hp,hj,q⟩:=h
 cases ro
 obtain ⟨t,rfl⟩:=ri
 obtain ⟨its,n,r,ho,hz⟩:=I.lst hp
 obtain ⟨h1,h2,h3,h4⟩:=xf2 hj
 have hl:=r.length
 have hn:=xy0
 have I':Inv X pins σ (upd H p (.lst (xs.set j v))) { s with heap:=s.heap.update p (Obj.mapSeq (·.setIfInBounds j u)) } :=
  I.lstUpd hp ho (sv1 its n j u) (r.set rv j) (by rw [List.length_set]; exact hz) s.toks
 by_cases h0:0<=k
 ·have hk:k.toNat=j:=by
    rw [seqIndex_of h0 h4] at h1
    exact Option.some.inj h1
  exact PySem.W.ki_setAt ho h0 (by omega) (by rw [size_toArray,<- hl]; exact h4) (by rw [hk]; exact ⟨_,I',q⟩)
 ·have hk:(k + (its.toArray.size:Int)).toNat=j:=by
    rw [seqIndex_neg (by omega) h3] at h1
    rw [size_toArray,<- hl]
    exact Option.some.inj h1
  exact PySem.W.ki_setBack ho (by omega) (by rw [size_toArray,<- hl]; exact h3) (by omega) (by rw [hk]; exact ⟨_,I',q⟩)
theorem te1 (lo hi:Option Int) (n:Nat):(sliceBounds lo hi none n).1=((HT.sIx n 0 lo:Nat):Int) /\ (sliceBounds lo hi none n).2.1=((HT.sIx n n hi:Nat):Int) /\ (sliceBounds lo hi none n).2.2=1:=by
 refine ⟨?_,?_,rfl⟩
 ·cases lo with
  | none=>simp [sliceBounds,HT.sIx]
  | some i =>
   simp only [sliceBounds,HT.sIx,Option.getD_none,show (1:Int) > 0 by decide,if_true]
   by_cases h:i < 0
   ·simp only [h,if_true] <;> omega
   ·simp only [h,if_false] <;> omega
 ·cases hi with
  | none=>simp [sliceBounds,HT.sIx]
  | some i =>
   simp only [sliceBounds,HT.sIx,Option.getD_none,show (1:Int) > 0 by decide,if_true]
   by_cases h:i < 0
   ·simp only [h,if_true] <;> omega
   ·simp only [h,if_false] <;> omega
theorem za1 (its:List Value) (lo hi:Option Int):slicePick its.toArray lo hi none=((its.drop (HT.sIx its.length 0 lo)).take (HT.sIx its.length its.length hi - HT.sIx its.length 0 lo)).toArray:=by
 obtain ⟨h1,h2,h3⟩:=te1 lo hi its.toArray.size
 unfold slicePick
 rw [h1,h2,h3]
 simp only [sliceRange_one,pick_run,size_toArray] <;> rfl
def rSlL (K:PySem.W.Frag):V->Option Int->Option Int->Hp->VK->Prop:=λ x lo hi H Q=>∃ a xs,x=.ref a /\ SqL K H a xs /\ ∀ p,H p=none->Q (.ref p) (upd H p (.lst (cutV xs lo hi)))
theorem vc3:SlR X (rSlL X.K):=by
 intro pins s σ H x v vl vu lo hi sl Q I rx hs pl pu h
 obtain ⟨a,xs,rfl,hx,q⟩:=h
 cases rx
 obtain ⟨its,r,ht,hz⟩:=I.list hx
 have hlen:=r.length
 refine ⟨"list",_,slot_list_getitem.lookup,ht.isList.typeIs,?_⟩
 refine wpAny_getItem_list_slice ht.isList hs pl pu .none (by simp) ?_ (by rw [size_toArray] <;> omega)
 rw [za1,<- hlen]
 refine ⟨.ref s.heap.objs.size,_,I.laid (t':=s.toks) (o:=.lst (cutV xs lo hi)) (λ b ob q=>Heap.get?_push_of_some _ q) (Nat.le_refl _) ?_,rfl,q _ (I.hok.fresh (Nat.le_refl _))⟩
 exact ⟨Nat.le_trans (tu0 xs lo hi) hz,_,0,(r.drop (HT.sIx xs.length 0 lo)).take (HT.sIx xs.length xs.length hi - HT.sIx xs.length 0 lo),Heap.get?_push_size _ rfl⟩
def sc1:V->Bool
 | .non=>true
 | .bl _=>true
 | .int _=>true
 | .str _=>true
 | _=>false
def eqV:V->V->Bool
 | .non,.non=>true
 | .bl a,.bl b=>a == b
 | .bl a,.int b=>(if a then 1 else 0) == b
 | .int a,.bl b=>a == (if b then 1 else 0)
 | .int a,.int b=>a == b
 | .str a,.str b=>a == b
 | _,_=>false
theorem zk4 {A:Around} {s:Shared} {y x:V} {u v:Value} (ry:RelV y u) (rx:RelV x v) (fy:sc1 y=true) (fx:sc1 x=true):SeqAt.EqAt A s u v (eqV y x):=by
 cases y with
 | non =>
  cases ry
  cases x with
  | non=>cases rx; exact SeqAt.EqAt.same _
  | bl b=>cases rx; exact SeqAt.EqAt.none_bool b
  | int b=>obtain ⟨t,rfl⟩:=rx; exact SeqAt.EqAt.none_int b t
  | str b=>obtain ⟨t,rfl⟩:=rx; exact SeqAt.EqAt.none_str b t
  | _=>exact absurd (show false=true from fx) Bool.false_ne_true
 | bl a =>
  cases ry
  cases x with
  | non=>cases rx; exact SeqAt.EqAt.bool_none a
  | bl b=>cases rx; exact SeqAt.EqAt.bool_bool a b
  | int b=>obtain ⟨t,rfl⟩:=rx; exact SeqAt.EqAt.bool_int a b t
  | str b=>obtain ⟨t,rfl⟩:=rx; exact SeqAt.EqAt.bool_str a b t
  | _=>exact absurd (show false=true from fx) Bool.false_ne_true
 | int a =>
  obtain ⟨t',rfl⟩:=ry
  cases x with
  | non=>cases rx; exact SeqAt.EqAt.int_none a t'
  | bl b=>cases rx; exact SeqAt.EqAt.int_bool a t' b
  | int b=>obtain ⟨t,rfl⟩:=rx; exact SeqAt.EqAt.int_int a t' b t
  | str b=>obtain ⟨t,rfl⟩:=rx; exact SeqAt.EqAt.int_str a t' b t
  | _=>exact absurd (show false=true from fx) Bool.false_ne_true
 | str a =>
  obtain ⟨t',rfl⟩:=ry
  cases x with
  | non=>cases rx; exact SeqAt.EqAt.str_none a t'
  | bl b=>cases rx; exact SeqAt.EqAt.str_bool a t' b
  | int b=>obtain ⟨t,rfl⟩:=rx; exact SeqAt.EqAt.str_int a t' b t
  | str b=>obtain ⟨t,rfl⟩:=rx; exact SeqAt.EqAt.str_str a t' b t
  | _=>exact absurd (show false=true from fx) Bool.false_ne_true
 | _=>exact absurd (show false=true from fy) Bool.false_ne_true
def eqU (x:V) (u:Value):Bool:=match u with
 | .none=>eqV .non x
 | .bool b=>eqV (.bl b) x
 | .int i _=>eqV (.int i) x
 | .str z _=>eqV (.str z) x
 | _=>false
theorem xz2 {x y:V} {u:Value} (r:RelV y u) (f:sc1 y=true):eqU x u=eqV y x:=by
 cases y with
 | non=>cases r; rfl
 | bl b=>cases r; rfl
 | int i=>obtain ⟨t,rfl⟩:=r; rfl
 | str z=>obtain ⟨t,rfl⟩:=r; rfl
 | _=>exact absurd (show false=true from f) Bool.false_ne_true
theorem tv0 {x:V}:∀ {xs:List V} {us:List Value},Vals xs us->xs.all sc1=true->us.any (eqU x)=xs.any λ y=>eqV y x
 | _,_,.nil,_=>rfl
 | y :: xs,u :: us,.cons r t,f=>by
  rw [List.all_cons,Bool.and_eq_true] at f
  rw [any_cons,any_cons,xz2 r f.1,tv0 t f.2]
theorem vm0 {A:Around} {s:Shared} {x:V} {v:Value} (rx:RelV x v) (fx:sc1 x=true):∀ {xs:List V} {us:List Value},Vals xs us->xs.all sc1=true->∀ u ∈ us,SeqAt.EqAt A s u v (eqU x u)
 | _,_,.nil,_=>λ u hu=>by cases hu
 | y :: xs,u :: us,.cons r t,f=>λ u' hu=>by
  rw [List.all_cons,Bool.and_eq_true] at f
  rcases List.mem_cons.mp hu with rfl | hu
  ·rw [xz2 r f.1]; exact zk4 r rx f.1 fx
  ·exact vm0 rx fx t f.2 u' hu
def inV (x:V) (xs:List V):Bool:=xs.any λ y=>eqV y x
def rIn (K:PySem.W.Frag) (neg:Bool):R2:=λ x y H Q=>∃ p xs,y=.ref p /\ (SqL K H p xs \/ SqT K H p xs) /\ sc1 x=true /\ xs.all sc1=true /\ Q (.bl (if neg then !inV x xs else inV x xs)) H
theorem op_in_seq:OpR X (compareOp .In) (rIn X.K false):=by
 intro pins s σ H x y v u Q I rx ry h
 obtain ⟨p,xs,rfl,hq,fx,fs,q⟩:=h
 cases ry
 rcases hq with hq | hq
 ·obtain ⟨its,r,pl,hz⟩:=I.list hq
  refine SeqAt.in_listAt (eqU x) pl.isList (λ w hw=>vm0 rx fx r fs w (by simpa using hw)) ⟨.bl _,H,I,rfl,?_⟩
  rw [show its.toArray.any (eqU x)=its.any (eqU x) by simp,tv0 r fs]
  exact q
 ·obtain ⟨its,r,pl,hz⟩:=I.tuple hq
  refine SeqAt.in_tupleAt (eqU x) pl (λ w hw=>vm0 rx fx r fs w (by simpa using hw)) ⟨.bl _,H,I,rfl,?_⟩
  rw [show its.toArray.any (eqU x)=its.any (eqU x) by simp,tv0 r fs]
  exact q
theorem op_notIn_seq:OpR X (compareOp .NotIn) (rIn X.K true):=by
 intro pins s σ H x y v u Q I rx ry h
 obtain ⟨p,xs,rfl,hq,fx,fs,q⟩:=h
 cases ry
 rcases hq with hq | hq
 ·obtain ⟨its,r,pl,hz⟩:=I.list hq
  refine SeqAt.notIn_listAt (eqU x) pl.isList (λ w hw=>vm0 rx fx r fs w (by simpa using hw)) ⟨.bl _,H,I,rfl,?_⟩
  rw [show its.toArray.any (eqU x)=its.any (eqU x) by simp,tv0 r fs]
  exact q
 ·obtain ⟨its,r,pl,hz⟩:=I.tuple hq
  refine SeqAt.notIn_tupleAt (eqU x) pl (λ w hw=>vm0 rx fx r fs w (by simpa using hw)) ⟨.bl _,H,I,rfl,?_⟩
  rw [show its.toArray.any (eqU x)=its.any (eqU x) by simp,tv0 r fs]
  exact q
theorem yg1:OpR X (compareOp .NotIn) (λ x y H Q=>∃ i j,x=.str i /\ y=.str j /\ Q (.bl (!(!(Builtin.Str.occurrences j i 0 j.length 1).isEmpty))) H):=by
 intro pins s σ H x y v u Q I rx ry h
 obtain ⟨i,j,rfl,rfl,q⟩:=h
 obtain ⟨t,rfl⟩:=rx
 obtain ⟨t',rfl⟩:=ry
 exact notIn_str ⟨.bl _,H,I,rfl,q⟩
theorem call_len_seq:CallR X (.builtin "len") (λ xs H Q=>∃ p ys,xs=[.ref p] /\ (SqL X.K H p ys \/ SqT X.K H p ys) /\ Q (.int ys.length) H):=by
 intro pins s σ H xs us Q I r h
 obtain ⟨p,ys,rfl,hq,q⟩:=h
 obtain ⟨u,rfl,rx⟩:=xw0 r
 cases rx
 have hn:=xy0
 rcases hq with hq | hq
 ·obtain ⟨its,r',pl,hz⟩:=I.list hq
  have hlen:=r'.length
  exact Calls.call_len_list pl.isList (by simp only [size_toArray] <;> omega) ⟨.int ys.length,H,I.tok _,⟨s.toks + 1,by rw [size_toArray,hlen]⟩,q⟩
 ·obtain ⟨its,r',pl,hz⟩:=I.tuple hq
  have hlen:=r'.length
  exact len_tuple pl (by simp only [size_toArray] <;> omega) ⟨.int ys.length,H,I.tok _,⟨s.toks + 1,by rw [size_toArray,hlen]⟩,q⟩
theorem yi1:CallR X (.builtin "len") (λ xs H Q=>∃ z,xs=[.str z] /\ z.length<=sizeLine /\ Q (.int z.length) H):=by
 intro pins s σ H xs us Q I r h
 obtain ⟨z,rfl,hz,q⟩:=h
 obtain ⟨u,rfl,t,rfl⟩:=xw0 r
 have hn:=xy0
 exact len_str (by omega) ⟨.int z.length,H,I.tok _,⟨_,rfl⟩,q⟩
theorem CallR.or {f:Value} {r r':List V->Hp->VK->Prop} (h:CallR X f r) (h':CallR X f r'):CallR X f (λ xs H Q=>r xs H Q \/ r' xs H Q):=by
 intro pins s σ H xs us Q I rs q
 rcases q with q | q
 ·exact h pins s σ H xs us Q I rs q
 ·exact h' pins s σ H xs us Q I rs q
theorem td1:CallR X (.type "tuple") (λ xs H Q=>∃ p ys,xs=[.ref p] /\ ((SqL X.K H p ys /\ ∀ l,H l=none->Q (.ref l) (upd H l (.tup ys))) \/ (SqT X.K H p ys /\ Q (.ref p) H))):=by
 intro pins s σ H xs us Q I r h
 obtain ⟨p,ys,rfl,h⟩:=h
 obtain ⟨u,rfl,rx⟩:=xw0 r
 cases rx
 rcases h with ⟨hq,q⟩ | ⟨hq,q⟩
 ·obtain ⟨its,r',pl,hz⟩:=I.list hq
  have hlen:=r'.length
  refine call_tuple_list pl.isList (λ h' kp=>?_) (by simp only [size_toArray] <;> omega)
  have I1:Inv X pins σ H { s with heap:=h' }:=I.kept (t':=s.toks) kp
  have I2:Inv X pins σ (upd H h'.objs.size (.tup ys)) { s with heap:=h'.push { cls:=.type "tuple",data:=.seq its.toArray } } :=
   I1.laid (t':=s.toks) (λ b o e=>Heap.get?_push_of_some _ e) (Nat.le_refl _) (show ObjOk X.prog X.w _ _ _ (.tup ys) from ⟨hz,its,r',IsTup.new _ _⟩)
  exact ⟨.ref h'.objs.size,_,I2,rfl,q _ (I1.hok.fresh (Nat.le_refl _))⟩
 ·obtain ⟨its,r',pl,hz⟩:=I.tuple hq
  exact call_tuple_same pl ⟨.ref p,H,I,rfl,q⟩
def tyV (K:PySem.W.Frag) (T:String) (x:V) (H:Hp):Prop:=match x with
 | .str _=>T = "str"
 | .int _=>T = "int"
 | .ref p=>(T = "list" /\ ∃ xs,SqL K H p xs) \/ (T = "tuple" /\ ∃ o,K.lookup p=some o /\ o.cls=.type "tuple" /\ o.dict=none) ∨
     (T = "dict" /\ ((∃ kvs,H p=some (.dK kvs)) \/ ∃ kvs,H p=some (.dT kvs))) \/ (T = "set" /\ ∃ S n,H p=some (.set S n))
 | _=>False
theorem sp3 {pins:List (Addr × Obj)} {σ:St} {H:Hp} {s:Shared} {T:String} {x:V} {v:Value} (I:Inv X pins σ H s) (r:RelV x v) (ty:tyV X.K T x H) :
    s.TypeIs v T /\ ∀ a,v=.ref a->∃ ob,s.heap.get? a=some ob /\ ob.dict=none:=by
 cases x with
 | str z =>
  obtain ⟨t,rfl⟩:=r
  cases (show T = "str" from ty)
  exact ⟨typeIs_str s z t,λ _ e=>nomatch e⟩
 | int i =>
  obtain ⟨t,rfl⟩:=r
  cases (show T = "int" from ty)
  exact ⟨typeIs_int s i t,λ _ e=>nomatch e⟩
 | ref p =>
  cases r
  rcases ty with ⟨rfl,xs,hq⟩ | ⟨rfl,o,hk,hc,hd⟩ | ⟨rfl,hk⟩ | ⟨rfl,S,n,hk⟩
  ·obtain ⟨its,_,pl,_⟩:=I.list hq
   refine ⟨pl.isList.typeIs,λ a e=>?_⟩
   cases e
   obtain ⟨o,n,e,c,hd,_⟩:=pl
   exact ⟨o,e,hd⟩
  ·refine ⟨⟨o,I.kIn p o hk,hc⟩,λ a e=>?_⟩
   cases e
   exact ⟨o,I.kIn _ o hk,hd⟩
  ·have z:∃ o,s.heap.get? p=some o /\ o.ExactDict:=by
     rcases hk with ⟨kvs,hk⟩ | ⟨kvs,hk⟩
     ·obtain ⟨_,_,_,_,o,_,_,e,ex,_⟩:=I.hok p _ hk
      exact ⟨o,e,ex⟩
     ·obtain ⟨_,_,_,_,o,_,_,e,ex,_⟩:=I.hok p _ hk
      exact ⟨o,e,ex⟩
   obtain ⟨o,e,ex⟩:=z
   refine ⟨⟨o,e,ex.1⟩,λ a e2=>?_⟩
   cases e2
   exact ⟨o,e,ex.2.1⟩
  ·obtain ⟨o,_,_,_,e,ex,_⟩:=I.hok p _ hk
   refine ⟨⟨o,e,ex.1⟩,λ a e2=>?_⟩
   cases e2
   exact ⟨o,e,ex.2.1⟩
 | _=>exact False.elim ty
def tBM (K:PySem.W.Frag) (T:String) (r:V->List V->Hp->VK->Prop) (to:TE) (t:TA):TE:=λ σ H Q=>to σ H λ x H1=>tyV K T x H1 /\ t σ H1 λ xs H2=>r x xs H2 Q
variable {o e:Expr} {es:List Expr} {to:TE} {t:TA} {name:Str} {apos cpos:Pos} {T id:String} {r:V->List V->Hp->VK->Prop}
theorem wi3 (pa:PlainAttrs T) (slot:Slot T name id) (hty:typeOf (.builtin id)=pure (.type "method_descriptor")) (hm:MtR X id r) (ho:PE X o to) (ha:PA X (e :: es) t)
    (hbase:attributeBase o name X.env (eval o X.env)=eval o X.env:=by rfl)
    (hfew:((backTo cpos (starEach (e :: es) X.env)).all (λ x=>!x.1) && (backToKw cpos (keywordEach [] X.env)).all (λ x=>x.1.isSome)
     && decide ((e :: es).length + ([]:List Keyword).length + (if ([]:List Keyword).isEmpty then 0 else 1) < 30))=true:=by rfl)
    (hline:(apos.endLine == cpos.line)=true:=by rfl) (hs:starEach (e :: es) X.env=(false,eval e X.env) :: starEach es X.env:=by rfl) (hplain:(backTo cpos (starEach es X.env)).any (·.1)=false:=by rfl) :
    PE X (.Call (.Attribute o name apos) (e :: es) [] cpos) (tBM X.K T r to t):=by
 intro pins s σ H Q I h
 refine wpAny_Call_method_late hbase hfew hline rfl (thn (ho pins s σ H _ I h) λ v s1 ⟨x,H1,I1,r1,ty,q1⟩=>?_)
 obtain ⟨h1,h2⟩:=sp3 I1 r1 ty
 refine ⟨T,id,pa,slot,hty,h1,h2,?_⟩
 have hA:=ha cpos pins s1 σ H1 _ I1 q1
 rw [hs] at hA ⊢
 refine Calls.callWith_builtin (by show (false || (backTo cpos (starEach es X.env)).any (·.1))=false; rw [hplain] <;> rfl) (Calls.evalArgs_plain ?_)
 exact thn hA λ us s2 ⟨vs,H2,I2,r2,q2⟩=>hm pins s2 σ H2 x vs v us Q I2 r1 r2 q2
end
def MtM (X:Cx) (id:String) (r:V->List V->Hp->VK->Prop):Prop :=
 ∀ (pins:List (Addr × Obj)) (s:Shared) (σ:St) (H:Hp) (x:V) (xs:List V) (v:Value) (us:List Value) (Q:VK),Inv X pins σ H s->RelV x v->Vals xs us->r x xs H Q ->
  wpAny (model X.prog X.w) X.A (call (.builtin id) (v :: us)) (EP X pins σ Q) X.xe s
theorem Vals.one:∀ {x:V} {us:List Value},Vals [x] us->∃ u,us=[u] /\ RelV x u
 | _,_,.cons r .nil=>⟨_,rfl,r⟩
theorem Vals.rep {xs:List V} {us:List Value} (h:Vals xs us):∀ k:Nat,Vals (List.replicate k xs).flatten (List.replicate k us).flatten
 | 0=>.nil
 | k + 1=>by
  rw [replicate_succ,replicate_succ,flatten_cons,flatten_cons]
  exact Vals.append h (Vals.rep h k)
theorem zu0 (its:List Value):∀ (k:Nat) (acc:List Value),
    List.foldl (λ x1 x2=>x1 ++ x2) acc.toArray (List.replicate k its.toArray)=(acc ++ (List.replicate k its).flatten).toArray
 | 0,acc=>by simp
 | k + 1,acc=>by
  have e:acc.toArray ++ its.toArray=(acc ++ its).toArray:=by simp
  have e2:(acc ++ its) ++ (List.replicate k its).flatten=acc ++ (List.replicate (k + 1) its).flatten:=by
   rw [replicate_succ,flatten_cons,append_assoc]
  rw [<- e2,<- zu0 its k (acc ++ its),<- e,replicate_succ,List.foldl_cons]
section
variable {X:Cx} {pins:List (Addr × Obj)} {σ:St} {H:Hp} {s:Shared} {l b:Addr} {xs ys zs:List V}
theorem Inv.lset {its its':List Value} {n:Nat} {f:Array Value->Array Value} {t':Nat} (I:Inv X pins σ H s) (hH:H l=some (.lst xs))
    (e:s.heap.get? l=some { cls:=.type "list",data:=.seq its.toArray n }) (hf:f its.toArray=its'.toArray) (hv:Vals ys its') (hz:ys.length<=sizeLine) :
    Inv X pins σ (upd H l (.lst ys)) { s with heap:=s.heap.update l (Obj.mapSeq f),toks:=t' }:=by
 have q:=PySem.IsL.update e f
 rw [hf] at q
 refine I.write (x:=l) (e:=l) (by rw [hH]; exact trivial) (.inl rfl) (λ b' u hb hu=>(Heap.get?_update_other s.heap (Obj.mapSeq f) (Ne.symm hb)).trans hu) ⟨_,q⟩ ?_
 exact ⟨hz,its',_,hv,q⟩
theorem Inv.lnew {its:List Value} {t':Nat} (I:Inv X pins σ H s) (hv:Vals ys its) (hz:ys.length<=sizeLine) :
    Inv X pins σ (upd H s.heap.objs.size (.lst ys)) { s with heap:=s.heap.push { cls:=.type "list",data:=.seq its.toArray },toks:=t' } :=
 I.laid (λ _ _ q=>Heap.get?_push_of_some _ q) (Nat.le_refl _) ⟨hz,its,0,hv,Heap.get?_push_size _ rfl⟩
theorem Inv.fresh (I:Inv X pins σ H s):H s.heap.objs.size=none:=I.hok.fresh (Nat.le_refl _)
theorem Inv.lstM (I:Inv X pins σ H s) (hH:H l=some (.lst xs)):xs.length<=sizeLine /\ ∃ (its:List Value) (n:Nat),Vals xs its /\ xs.length=its.length /\ s.heap.get? l=some { cls:=.type "list",data:=.seq its.toArray n }:=by
 obtain ⟨z,its,n,r,e⟩:=I.hok l _ hH
 exact ⟨z,its,n,r,r.length,e⟩
theorem to1 {n:Nat} (h:n<=sizeLine):Builtin.List.listTooLong n=false:=by
 unfold Builtin.List.listTooLong
 exact decide_eq_false (by omega)
end
section
variable {X:Cx}
def uf3:V->List V->Hp->VK->Prop:=λ x vs H Q=>∃ l xs y,x=.ref l /\ vs=[y] /\ H l=some (.lst xs) /\ xs.length < sizeLine /\ Q .non (upd H l (.lst (xs ++ [y])))
theorem vt0:MtM X "list.append" uf3:=by
 intro pins s σ H x vs v us Q I rx rv h
 obtain ⟨l,xs,y,rfl,rfl,hH,hz,q⟩:=h
 cases rx
 obtain ⟨u,rfl,ru⟩:=rv.one
 obtain ⟨z,its,n,r,hl,e⟩:=I.lstM hH
 refine call_meets F.slot_list_append ⟨_,e,rfl⟩ F.entry_list_append (F.args_list_append_2 _ _) (PySem.list_append l its.toArray n u (by rw [size_toArray]; omega)) ⟨e,?_⟩
 refine ⟨.non,_,I.lset (its':=its ++ [u]) hH e (by simp) (r.append (.cons ru .nil)) ?_,rfl,q⟩
 rw [length_append,List.length_singleton]
 omega
def vf3:V->List V->Hp->VK->Prop:=λ x vs H Q=>∃ l b xs zs,x=.ref l /\ vs=[.ref b] /\ H l=some (.lst xs) /\ H b=some (.lst zs) /\ xs.length + zs.length<=sizeLine /\ Q .non (upd H l (.lst (xs ++ zs)))
theorem ye2:MtM X "list.extend" vf3:=by
 intro pins s σ H x vs v us Q I rx rv h
 obtain ⟨l,b,xs,zs,rfl,rfl,hH,hB,hz,q⟩:=h
 cases rx
 obtain ⟨u,rfl,ru⟩:=rv.one
 cases ru
 obtain ⟨z,its,n,r,hl,e⟩:=I.lstM hH
 obtain ⟨z2,its2,n2,r2,hl2,e2⟩:=I.lstM hB
 have hsz:its.toArray.size + its2.toArray.size<=sizeLine:=by rw [size_toArray,size_toArray]; omega
 have hlong:¬ (!its.toArray.isEmpty && Builtin.List.listTooLong (its.toArray.size + its2.toArray.size))=true:=by
  rw [to1 hsz,Bool.and_false]
  exact Bool.false_ne_true
 refine call_meets F.slot_list_extend ⟨_,e,rfl⟩ F.entry_list_extend (F.args_list_extend_2 _ _)
  (AutoSeq1.list_extend_list_list_0 l its.toArray n b its2.toArray n2 hlong (by rw [size_toArray]; omega) (by omega)) ⟨e,e2,?_⟩
 refine ⟨.non,_,I.lset (its':=its ++ its2) hH e (by simp) (r.append r2) ?_,rfl,q⟩
 rw [length_append]
 omega
def rCat:R2:=λ x y H Q=>∃ l b xs zs,x=.ref l /\ y=.ref b /\ H l=some (.lst xs) /\ H b=some (.lst zs) /\ xs.length + zs.length<=sizeLine /\ ∀ p,H p=none->Q (.ref p) (upd H p (.lst (xs ++ zs)))
theorem op_cat:OpR X (binaryOp .Add) rCat:=by
 intro pins s σ H x y v u Q I rx ry h
 obtain ⟨l,b,xs,zs,rfl,rfl,hH,hB,hz,q⟩:=h
 cases rx
 cases ry
 obtain ⟨z,its,n,r,hl,e⟩:=I.lstM hH
 obtain ⟨z2,its2,n2,r2,hl2,e2⟩:=I.lstM hB
 refine PySem.P.add_list e e2 ?_ (by rw [size_toArray,size_toArray]; omega)
 have ea:its.toArray ++ its2.toArray=(its ++ its2).toArray:=by simp
 rw [ea]
 exact ⟨.ref _,_,I.lnew (t':=s.toks) (r.append r2) (by rw [length_append]; omega),rfl,q _ I.fresh⟩
def rRep:R2:=λ x y H Q=>∃ l k xs,x=.ref l /\ y=.int k /\ H l=some (.lst xs) /\ -(2 ^ 63)<=k /\ k < 2 ^ 63 /\ xs.length * k.toNat<=sizeLine ∧
 ∀ p,H p=none->Q (.ref p) (upd H p (.lst (List.replicate k.toNat xs).flatten))
theorem yl1 {α:Type} (xs:List α) (k:Nat):(List.replicate k xs).flatten.length=k * xs.length:=by
 induction k with
 | zero=>simp
 | succ k ih=>rw [replicate_succ,flatten_cons,length_append,ih,Nat.succ_mul,Nat.add_comm]
theorem uf4:OpR X (binaryOp .Mult) rRep:=by
 intro pins s σ H x y v u Q I rx ry h
 obtain ⟨l,k,xs,rfl,rfl,hH,h1,h2,hz,q⟩:=h
 cases rx
 obtain ⟨t,rfl⟩:=ry
 obtain ⟨z,its,n,r,hl,e⟩:=I.lstM hH
 have hlen:its.toArray.size * k.toNat<=sizeLine:=by rw [size_toArray,<- hl]; exact hz
 have hcap:¬ its.toArray.size * k.toNat > (2 ^ 63 - 1) / 8:=by
  have:(sizeLine:Nat)<=(2 ^ 63 - 1) / 8:=by decide
  omega
 have hfit:¬ (!Builtin.List.listFitsIndex k)=true:=by
  rw [fitsIndex_both h1 h2]
  exact Bool.false_ne_true
 have hlong:¬ Builtin.List.listTooLong (its.toArray.size * k.toNat)=true:=by
  rw [to1 hlen]
  exact Bool.false_ne_true
 have hnew:List.foldl (λ x1 x2=>x1 ++ x2) #[] (List.replicate (if its.toArray.isEmpty=true then 0 else k.toNat) its.toArray)=(List.replicate k.toNat its).flatten.toArray:=by
  have f0:∀ m:Nat,List.foldl (λ x1 x2=>x1 ++ x2) #[] (List.replicate m its.toArray)=(List.replicate m its).flatten.toArray:=λ m=>by
   have:=zu0 its m []
   rw [nil_append] at this
   exact this
  rw [f0]
  cases its with
  | nil=>simp
  | cons a r'=>rw [if_neg (by simp)]
 refine wpAny_binaryOp_repeat_ref (T := "list") (U := "int") (by decide) ⟨_,e,rfl⟩ (λ s'=>typeIs_int s' k t) noFill_list_mul F.fills_int_mul F.slot_int_rmul repeat_list F.slot_int_index.lookup
  (call_meets F.slot_int_rmul (typeIs_int s k t) F.entry_int_rmul (F.args_int_rmul_2 _ _) (int___rmul___int_list k t l its.toArray n)
   ⟨e,rfl,⟨_,e,rfl⟩,call_meets F.slot_list_mul ⟨_,e,rfl⟩ F.entry_list_mul (F.args_list_mul_2 _ _) (AutoListH.list___mul___list_int_3 l its.toArray n k t hfit hcap hlong) ⟨e,?_⟩⟩)
 rw [hnew]
 exact ⟨.ref _,_,I.lnew (t':=s.toks) (r.rep k.toNat) (by rw [yl1,Nat.mul_comm]; exact hz),rfl,q _ I.fresh⟩
end
section
variable {prog:Program} {w:World} {A:Around} {E:Value->Shared->Prop} {s:Shared}
end
section
variable {X:Cx}
end
end L2
namespace Att
open PySem PySem.W PySem.Calls PyProof.Rows
theorem yu0 {P:Params} {h:Heap}:∀ (ns:List Int) (vs:List Value),WellAll P h vs (ns.map WData.int)->IntsAre vs ns:=by
 intro ns
 induction ns with
 | nil =>
  intro vs w
  rw [map_nil] at w
  cases w
  exact .nil
 | cons n ns ih =>
  intro vs w
  rw [map_cons] at w
  cases w with
  | cons a b =>
   cases a
   exact .cons _ _ (ih _ b)
theorem uz1 {l:OpenLaw} {n:Nat} (hn:l.most=some n) {P:Params} {h:Heap} {args:List WData} {vals:List Value}
    (hpre:l.row.toRowW.claim.pre args=true) (hwl:WellAll P h vals args) :
    ∃ a vs ns,vals=[Value.ref a] /\ args=[WData.list (ns.map WData.int)] /\ h.get? a=some { cls:=.type "list",data:=.seq vs.toArray } /\ IntsAre vs ns /\ ns.length<=n:=by
 have hsh:WShape.hasAll [] args [.list .int]=true:=(pre_splitW hpre).1
 have hc:l.pre.holds [] { args:=args }=true:=(pre_splitW hpre).2
 obtain ⟨d,r,rfl,h1,h2⟩:=hasAllW_cons hsh
 obtain rfl:=hasAllW_nil h2
 obtain ⟨xs,rfl,h3⟩:=hasW_list h1
 obtain ⟨ns,rfl⟩:=items_int h3
 have hlen:ns.length<=n:=by
  unfold OpenLaw.pre at hc
  have h4:(WTm.not (.lt (.lit (.int (n:Int))) (.len (.arg 0)))).holds [] { args:=[.list (ns.map .int)] }=true:=by
   have h4:=(holds_andW hc).1
   rw [hn] at h4
   exact h4
  have h5:=condW_of h4 (w_not (w_lt w_lit (w_len_list (w_arg rfl))))
  rw [length_map] at h5
  refine Nat.le_of_not_lt λ q=>?_
  have q':(n:Int) < ((ns.length:Nat):Int):=by omega
  first
   | (rw [decide_eq_true q'] at h5; exact absurd h5 (by decide))
   | (simp at h5; omega)
 cases hwl with
 | cons w1 w2 =>
  cases w2
  cases w1 with
  | list ho hall=>exact ⟨_,_,ns,rfl,rfl,ho,yu0 ns _ hall,hlen⟩
theorem yc2 (l:OpenLaw) (args:List WData):l.row.toRowW.claim.post args (.bool true) args=true :=
 postW_of (r:=l.row.toRowW) (X:=(true == true))
  (show WShape.has [] (.bool true) .bool=true by first | rfl | decide | simp [WShape.has,WShape.arms,WShape.armsAll])
  (show (WTm.eq .res (.lit (.bool true))).value [] { args:=args,res:=some (.bool true),after:=args }=some (.bool (true == true)) from w_eq_bool (w_res rfl) w_lit) rfl
theorem attach_call {l:OpenLaw} {n:Nat} {q:Program} {loose:List Str} {XP:(Str->Option Value)->Heap->Prop} {YP:World->Heap->Prop} {d:DefRec}
    (hn:l.most=some n) (hdf:d.params.defaults=[])
    (call:∀ (w:World) (s₀ s₁:Shared) (mg mb:Str->Option Value) (fa:Addr) (o:Obj) (pm cd doc:Value) (a:Addr) (vs:List Value) (ns:List Int),
     Ground q loose [] XP w s₀ mg mb s₁.heap->YP w s₁.heap ->
     s₁.heap.get? fa=some o->o.data=.func (docDef d.name d.params d.body d.scope pm cd doc)->s₁.heap.CodeRec cd d.name->mg d.name=some (.ref fa) ->
     s₁.heap.get? a=some { cls:=.type "list",data:=.seq vs.toArray }->IntsAre vs ns->ns.length<=n->s₁.gens = #[] ->
     codeAny (model l.prog w) callerA (.call (.ref fa) ⟨[.ref a],[]⟩) (λ r s'=>r=.ok (.ret (.bool true)) /\ OldK s₁.heap s'.heap /\ s'.os=s₁.os /\ AllBare s'.gens) s₁) :
    WalkO q loose XP YP l.row.toRowW d [] (λ f vs=>PySem.call f vs):=by
 intro w s₀ s₁ mg mb G Y fa o pm cd doc dV kV ho hd hcd hD hmg hg args vals as hpre hlay hrd hwl hlo
 obtain rfl:dV=.none:=Dflts.none hD hdf
 obtain rfl:kV=.none:=Dflts.noKw hD
 obtain ⟨a,vs,ns,rfl,rfl,hobj,hints,hlen⟩:=uz1 hn hpre hwl
 refine enter_call (codeAny_mono (call w s₀ s₁ mg mb fa o pm cd doc a vs ns G Y ho (fd_plain hd) hcd hmg hobj hints hlen hg) λ r s' hq=>?_)
 obtain ⟨rfl,h2,h3,h4⟩:=hq
 exact ⟨.inl ⟨.bool true,.bool true,[],rfl,λ _=>rfl,.bool true,yc2 l _,λ _=>⟨List.Pairwise.nil,λ _ hm=>(nomatch hm)⟩⟩,h2,h3,h4⟩
section
variable {prog:Program} {w:World} {A:Around} {E:Value->Shared->Prop} {s:Shared} {K:Frag}
def ledger (h:Heap) (L d:Addr):List (Addr × Obj):=(List.range h.objs.size).filterMap λ a=>if a=L \/ a=d then none else (h.get? a).map λ o=>(a,o)
end
end Att
namespace L2
open PySem PySem.Spec PyProof.Rows
theorem ze1:∀ {vs:List Value} {ns:List Int},IntsAre vs ns->Vals (ns.map V.int) vs
 | _,_,.nil=>.nil
 | _,_,.cons n t h=>.cons ⟨t,rfl⟩ (ze1 h)
def Only (H:Hp):Prop:=∀ b,H b=none \/ ∃ o xs,H b=some (.frz o (.lst xs))
theorem tq2 {P:Program} {w:World} {K:PySem.W.Frag} {mg mb:Str->Option Value} {CX:CXT} {k:Nat} {fa a:Addr} {fd:FuncData} {x:Str} {sp:Sp} {s₁:Shared} {vs:List Value} {ns:List Int}
    (KX:K.In s₁.heap) (hns:s₁.heap.Ns mainGlobals mg) (hb:s₁.heap.Ns builtinsNs mb) (hbb:∀ x:Str,x ≠ "__name__" -> mb x=bootBuiltins x) (hlim:s₁.heap.NoLimit) (hg:s₁.gens = #[])
    (ha:s₁.heap.get? a=some { cls:=.type "list",data:=.seq vs.toArray }) (hi:IntsAre vs ns) (hl:ns.length<=sizeLine) (hr:Room k callerA)
    (F:∀ base:Heap,K.In base->base.Ns mainGlobals mg->FnOk P w K mg base CX k fa fd [x] sp) (hbind:∀ (s:Shared) (u:Value),BindsTo s fd ⟨[u],[]⟩ [(x,u)])
    (hsp:∀ H:Hp,Only H->SqL K H a (ns.map V.int)->sp [.ref a] H (λ v _=>v=.bl true) λ _ _ _=>False)
    (hCX:∀ H e s',CX [] H s₁ (λ _ _ _=>False) e s'->False) :
    codeAny (model P w) callerA (.call (.ref fa) ⟨[.ref a],[]⟩) (λ r s'=>r=.ok (.ret (.bool true)) /\ OldK s₁.heap s'.heap /\ s'.os=s₁.os /\ AllBare s'.gens) s₁:=by
 have rv:=ze1 hi
 have lenV:=hi.length
 have core:∀ H:Hp,Only H->SqL K H a (ns.map V.int)->HOk P w H s₁.heap->(∀ b,H b ≠ none->b=a)->(H a ≠ none->K.lookup a=none) ->
     codeAny (model P w) callerA (.call (.ref fa) ⟨[.ref a],[]⟩) (λ r s'=>r=.ok (.ret (.bool true)) /\ OldK s₁.heap s'.heap /\ s'.os=s₁.os /\ AllBare s'.gens) s₁:=by
  intro H hO hS hok hA hK
  have base_of:∀ {b:Addr} {o:Obj},s₁.heap.get? b=some o->H b=none->(hidT s₁.heap H).get? b=some o:=λ e n=>zs2 e n
  have noA:∀ {b:Addr} {o:Obj} {es:Array DictEntry} {ep:Nat},s₁.heap.get? b=some o->o.data=.dict es ep->H b=none:=λ {b o es ep} e d=>by
   cases q:H b with
   | none=>rfl
   | some u =>
    have e':b=a:=hA b (by rw [q]; simp)
    subst e'
    rw [ha] at e; cases e
    have d':Data.seq vs.toArray _=Data.dict es ep:=d
    cases d'
  have nsK:∀ {b:Addr} {m:Str->Option Value},s₁.heap.Ns b m->(hidT s₁.heap H).Ns b m:=λ {b m} ⟨o,es,ep,e,d,r⟩=>⟨o,es,ep,base_of e (noA e d),d,r⟩
  have hKb:K.In (hidT s₁.heap H):=λ b o e=>base_of (KX b o e) (by
   cases q:H b with
   | none=>rfl
   | some u =>
    have e':b=a:=hA b (by rw [q]; simp)
    subst e'
    rw [hK (by rw [q]; simp)] at e; cases e)
  have hM:Mod K mg (hidT s₁.heap H):=⟨hKb,nsK hns,⟨mb,nsK hb,hbb⟩,let ⟨mc,h1,h2⟩:=hlim; ⟨mc,nsK h1,h2⟩⟩
  have e0:Env0 P w K mg (hidT s₁.heap H) callerA [] s₁ H:=⟨rfl,hM,λ b o e=>xj3 e,Nat.le_of_eq (wf2 _ _),trivial,λ b hb=>absurd (show b ∈ ([]:List Addr) from hb) (by simp),hok,.of_eq hg⟩
  refine codeAny_mono ((F _ hKb (nsK hns)).run callerA [] s₁ H ⟨[.ref a],[]⟩ [.ref a] [.ref a] _ _ hr e0 (hbind s₁ (.ref a)) (.cons rfl .nil) (hsp H hO hS)) λ r s' h=>?_
  cases r with
  | error e=>exact (hCX H e s' h).elim
  | ok fl =>
   cases fl with
   | next=>exact False.elim h
   | brk=>exact False.elim h
   | cont=>exact False.elim h
   | ret u =>
    obtain ⟨v,H',os,bare,un,hok',r',q⟩:=h
    have q':v=.bl true:=q
    subst q'
    obtain rfl:u=Value.bool true:=r'
    refine ⟨rfl,OldK.of_keep λ b o e=>?_,os,bare⟩
    cases q:H b with
    | none=>exact un.keep b o e q (by intro z; exact absurd (show b ∈ ([]:List Addr) from z) (by simp)) (by simp)
    | some u =>
     rcases hO b with z | ⟨ob,xs,z⟩
     ·rw [q] at z; cases z
     ·have z2:=un.frzs b ob _ z
      obtain ⟨e1,_⟩:=hok b _ z
      obtain ⟨e2,_⟩:=hok' b _ z2
      rw [e] at e1; cases e1
      exact e2
 cases hk:K.lookup a with
 | some o =>
  have e:=KX a o hk
  rw [ha] at e
  cases e
  refine core (λ _=>none) (λ _=>.inl rfl) (.inr ⟨_,vs.toArray,_,hk,rfl,rfl,rfl,by rw [size_toArray,lenV]; exact hl,by simpa using rv⟩) (λ b u z=>by have z':(none:Option HO)=some u:=z; cases z') (λ b z=>absurd rfl z) λ z=>absurd rfl z
 | none =>
  refine core (λ b=>if b=a then some (.frz { cls:=.type "list",data:=.seq vs.toArray } (.lst (ns.map V.int))) else none) (λ b=>?_) (.inl (.inr ⟨{ cls:=.type "list",data:=.seq vs.toArray },if_pos rfl⟩)) (λ b u z=>?_) (λ b z=>?_) λ _=>hk
  ·by_cases hb:b=a
   ·exact .inr ⟨_,_,if_pos hb⟩
   ·exact .inl (if_neg hb)
  ·by_cases hb:b=a
   ·have z':=(if_pos hb).symm.trans z
    cases z'
    subst hb
    exact ⟨ha,by rw [length_map]; exact hl,vs,_,rv,ha⟩
   ·have z':=(if_neg hb).symm.trans z
    cases z'
  ·by_cases hb:b=a
   ·exact hb
   ·exact absurd (if_neg hb) z
abbrev KOf {K:PySem.W.Frag} {h:Heap} (_:K.In h):PySem.W.Frag:=K
theorem walk_of {l:PySem.W.OpenLaw} {n k:Nat} {q:Program} {loose:List Str} {XP:(Str->Option Value)->Heap->Prop} {YP:World->Heap->Prop} {d:DefRec} {K:Params->PySem.W.Frag} {CX:World->CXT} {sp:World->Sp} {x:Str}
    (hn:l.most=some n) (hn2:n<=sizeLine) (hdf:d.params.defaults=[]) (hr:Room k callerA)
    (hY:∀ (w:World) (h:Heap),YP w h->(K w.params).In h)
    (F:∀ (w:World) (mg:Str->Option Value) (fa:Addr) (h:Heap),(K w.params).In h->h.Ns mainGlobals mg->mg d.name=some (.ref fa) ->
     ∃ fd:FuncData,(∀ (s:Shared) (u:Value),BindsTo s fd ⟨[u],[]⟩ [(x,u)]) ∧
      ∀ base:Heap,(K w.params).In base->base.Ns mainGlobals mg->FnOk l.prog w (K w.params) mg base (CX w) k fa fd [x] (sp w))
    (hsp:∀ (w:World) (H:Hp) (a:Addr) (ns:List Int),ns.length<=n->Only H->SqL (K w.params) H a (ns.map V.int)->sp w [.ref a] H (λ v _=>v=.bl true) λ _ _ _=>False)
    (hCX:∀ (w:World) (H:Hp) (s:Shared) (e:Value) (s':Shared),CX w [] H s (λ _ _ _=>False) e s'->False) :
    PySem.W.WalkO q loose XP YP l.row.toRowW d [] (λ f vs=>PySem.call f vs):=by
 refine Att.attach_call hn hdf λ w s₀ s₁ mg mb fa o pm cd doc a vs ns G Y ho hd hcd hmg hobj hints hlen hg=>?_
 have KX:=hY w _ Y
 obtain ⟨fd,hb,hF⟩:=F w mg fa _ KX G.T.g hmg
 exact tq2 KX G.T.g G.T.b G.T.builtins G.T.nolimit hg hobj hints (Nat.le_trans hlen hn2) hr hF hb (λ H hO hS=>hsp w H a ns hlen hO hS) λ H e s'=>hCX w H s₁ e s'
abbrev CX0:CXT:=λ _ _ _ _ _ _=>False
abbrev E0:XK:=λ _ _ _=>False
theorem zt4 {X:Cx}:yj1 CX0 X E0:=λ _ _ _ _ _ _ _ h=>h.elim
structure Fun (K:PySem.W.Frag) (x qual:Str) (st:Stmt) (f:Addr) (fd:FuncData):Prop where
 ex:∃ (oc:Value) (od:Option Addr) (kV doc pm:Value) (an:Option Addr) (cdv ct:Value) (osl:Array (Option Value)),
  fd=fnOf x qual (vj0 st) (zb0 st) (wa0 st) .none kV doc pm an cdv ct /\ K.lookup f=some ⟨oc,od,.func fd,osl⟩ /\ codeIn K cdv qual=true
 kp:keepIn K (.ref f)=true
section
variable {P:Program} {w:World} {K:PySem.W.Frag} {mg:Str->Option Value} {base:Heap}
theorem Fun.ok {x qual:Str} {st:Stmt} {f:Addr} {fd:FuncData} {N ps:List Str} {k:Nat} {sp:Sp} (F:Fun K x qual st f fd) (S:FnScope N ps (wa0 st)) (len:∀ vs H Q E,sp vs H Q E->vs.length=ps.length)
    (hbody:∀ (cdv:Value) (A:Around) (outer:List Env) (s:Shared) (H:Hp) (vs:List V) (Q:VK) (E:XK),Room k (A.deeper (envOfC qual (wa0 st) s.heap.objs.size f cdv))->sp vs H Q E ->
     ∃ t,PSs (cxOf CX0 P w K mg base N qual (wa0 st) f cdv A outer s H E).nox (zb0 st) t /\ t { nx:=λ _ H'=>Q .non H',rt:=Q } (start N vs) H):FnOk P w K mg base CX0 (k + 1) f fd ps sp:=by
 obtain ⟨oc,od,kV,doc,pm,an,cdv,ct,osl,rfl,lk,hcd⟩:=F.ex
 refine tj4 lk hcd S len λ A outer s H vs Q E hr hsp=>?_
 obtain ⟨t,h,q⟩:=hbody cdv A outer s H vs Q E hr hsp
 exact ⟨t,h.nox,q⟩
theorem Fun.binds {x qual:Str} {st:Stmt} {f:Addr} {fd:FuncData} {ps:List Str} (F:Fun K x qual st f fd)
    (h:∀ (kV doc pm:Value) (an:Option Addr) (cdv ct:Value) (us:List Value),us.length=ps.length->bindArgs (fnOf x qual (vj0 st) (zb0 st) (wa0 st) .none kV doc pm an cdv ct) ⟨us,[]⟩=pure (ps.zip us)):Binds K fd ps []:=by
 obtain ⟨oc,od,kV,doc,pm,an,cdv,ct,osl,rfl,lk,hcd⟩:=F.ex
 exact .all (h kV doc pm an cdv ct)
theorem vy2 {x qual:Str} {st:Stmt} {f:Addr} {oc:Value} {od an:Option Addr} {osl:Array (Option Value)} {kV doc pm cdv ct:Value} (l:K.lookup f=some ⟨oc,od,.func (fnOf x qual (vj0 st) (zb0 st) (wa0 st) .none kV doc pm an cdv ct),osl⟩)
    (c:codeIn K cdv qual=true) (k:keepIn K (.ref f)=true):Fun K x qual st f (fnOf x qual (vj0 st) (zb0 st) (wa0 st) .none kV doc pm an cdv ct):=⟨⟨oc,od,kV,doc,pm,an,cdv,ct,osl,rfl,l,c⟩,k⟩
end
section
variable {X:Cx}
theorem pv (i:Nat) {x:Str} {pos:Pos} (hN:X.N[i]?=some x:=by rfl) (hv:Vis X.env.scope x:=by first | exact Or.inl rfl | exact Or.inr (Or.inl rfl) | exact Or.inr (Or.inr rfl)) (hd:(x == ("__debug__" : Str))=false:=by decide)
    (hcd:(x == ("__classdict__" : Str))=false:=by decide):PE X (.Name x pos) (tVar i):=vw2 hN hv hd hcd
end
end L2
namespace Pv
open PySem
inductive D where
 | non | bl (b:Bool) | int (i:Int) | str (x:Str) | tup (l:List D) | fls (l:List D) | ref (a:Addr) | ty (n:String) | exc (c:Str)
 | ktp (l:List D)
inductive MO where
 | lst (xs:List D)
 | ins (c:Str) (fs:List (Str × D))
 | dct (kvs:List ((Int × Int × Int) × D))
 | dcl (kvs:List (List Int × D))
 | dck (kvs:List (Sum Int Str × D))
abbrev Mu:=Addr->Option MO
def updM (μ:Mu) (a:Addr) (o:MO):Mu:=λ b=>if b=a then some o else μ b
theorem va0 {μ:Mu} {a:Addr} {o:MO}:updM μ a o a=some o:=by unfold updM; rw [if_pos rfl]
theorem xb0 {μ:Mu} {a b:Addr} {o:MO} (h:b ≠ a):updM μ a o b=μ b:=by unfold updM; rw [if_neg h]
def Ext (μ μ':Mu):Prop:=∀ a o,μ a=some o->μ' a=some o
theorem Ext.refl (μ:Mu):Ext μ μ:=λ _ _ h=>h
theorem Ext.trans {a b c:Mu} (h:Ext a b) (k:Ext b c):Ext a c:=λ x o q=>k x o (h x o q)
theorem Ext.new {μ:Mu} {p:Addr} {o:MO} (h:μ p=none):Ext μ (updM μ p o):=λ a u q=>by
 rw [xb0]; exact q
 intro e; subst e; rw [h] at q; cases q
theorem ud0 {μ:Mu} {p q:Addr} {o:MO} (h:μ p=some o) (k:μ q=none):p ≠ q:=by
 intro e; subst e; rw [h] at k; cases k
abbrev St3:=List (Option D)
def getI:St3->Nat->Option D
 | [],_=>none
 | o :: _,0=>o
 | _ :: r,i + 1=>getI r i
theorem ul1:∀ (ρ:St3) (i:Nat),getI ρ i=(ρ[i]?).getD none
 | [],i=>by simp [getI]
 | o :: _,0=>by simp [getI]
 | _ :: r,i + 1=>by simp [getI,ul1 r i]
abbrev VK3:=D->Mu->Prop
abbrev TE3:=St3->Mu->VK3->Prop
abbrev TT3:=St3->Mu->(Bool->Mu->Prop)->Prop
abbrev TA3:=St3->Mu->(List D->Mu->Prop)->Prop
structure Ends3 where
 nx:St3->Mu->Prop
 rt:VK3
 bk:St3->Mu->Prop:=λ _ _=>False
 ct:St3->Mu->Prop:=λ _ _=>False
abbrev TS3:=Ends3->St3->Mu->Prop
abbrev R3:=D->D->Mu->VK3->Prop
abbrev Sp3:=List D->Mu->VK3->Prop
abbrev C3:=List D->Mu->VK3->Prop
abbrev TG3:=D->St3->Mu->(St3->Mu->Prop)->Prop
abbrev TGs3:=List D->St3->Mu->(St3->Mu->Prop)->Prop
abbrev TI3:=St3->Mu->(List D->(Mu->Prop)->Mu->Prop)->Prop
def v3 (i:Nat):TE3:=λ ρ μ Q=>match getI ρ i with
 | some d=>Q d μ
 | none=>False
def c3 (d:D):TE3:=λ _ μ Q=>Q d μ
def o3 (r:R3) (ta tb:TE3):TE3:=λ ρ μ Q=>ta ρ μ λ x μ1=>tb ρ μ1 λ y μ2=>r x y μ2 Q
def un3 (r:D->Mu->VK3->Prop) (ta:TE3):TE3:=λ ρ μ Q=>ta ρ μ λ x μ1=>r x μ1 Q
def b3 (t:TE3):TT3:=λ ρ μ Q=>t ρ μ λ d μ1=>match d with
 | .bl c=>Q c μ1
 | _=>False
def and3 (t u:TT3):TT3:=λ ρ μ Q=>t ρ μ λ c μ1=>if c=true then u ρ μ1 Q else Q false μ1
def or3 (t u:TT3):TT3:=λ ρ μ Q=>t ρ μ λ c μ1=>if c=true then Q true μ1 else u ρ μ1 Q
def not3 (t:TT3):TT3:=λ ρ μ Q=>t ρ μ λ c μ1=>Q (!c) μ1
def andV3 (t u:TE3):TE3:=λ ρ μ Q=>t ρ μ λ d μ1=>match d with
 | .bl c=>if c=true then u ρ μ1 Q else Q (.bl false) μ1
 | _=>False
def orV3 (t u:TE3):TE3:=λ ρ μ Q=>t ρ μ λ d μ1=>match d with
 | .bl c=>if c=true then Q (.bl true) μ1 else u ρ μ1 Q
 | _=>False
def notV3 (t:TE3):TE3:=λ ρ μ Q=>t ρ μ λ d μ1=>match d with
 | .bl c=>Q (.bl (!c)) μ1
 | _=>False
def if3 (c:TT3) (t u:TE3):TE3:=λ ρ μ Q=>c ρ μ λ b μ1=>if b=true then t ρ μ1 Q else u ρ μ1 Q
def nil3:TA3:=λ _ μ Q=>Q [] μ
def cons3 (t:TE3) (u:TA3):TA3:=λ ρ μ Q=>t ρ μ λ d μ1=>u ρ μ1 λ ds μ2=>Q (d :: ds) μ2
def tup3 (t:TA3):TE3:=λ ρ μ Q=>t ρ μ λ ds μ1=>ds.length<=sizeLine /\ Q (.tup ds) μ1
def lst3 (t:TA3):TE3:=λ ρ μ Q=>t ρ μ λ ds μ1=>ds.length<=sizeLine /\ ∀ p,μ1 p=none->Q (.ref p) (updM μ1 p (.lst ds))
def call3 (sp:Sp3) (t:TA3):TE3:=λ ρ μ Q=>t ρ μ λ ds μ1=>sp ds μ1 Q
def mt3 (r:D->List D->Mu->VK3->Prop) (to:TE3) (t:TA3):TE3:=λ ρ μ Q=>to ρ μ λ x μ1=>match x with
 | .ref p=>match μ1 p with
  | some (.lst _)=>t ρ μ1 λ ds μ2=>r (.ref p) ds μ2 Q
  | _=>False
 | _=>False
abbrev TO3:=St3->Mu->(Option Int->Mu->Prop)->Prop
def np3:TO3:=λ _ μ Q=>Q none μ
def pt3 (t:TE3):TO3:=λ ρ μ Q=>t ρ μ λ d μ1=>match d with
 | .int i=>Q (some i) μ1
 | _=>False
def sl3 (r:D->Option Int->Option Int->Mu->VK3->Prop) (te:TE3) (tl th:TO3):TE3:=λ ρ μ Q=>te ρ μ λ x μ1=>tl ρ μ1 λ l μ2=>th ρ μ2 λ u μ3=>r x l u μ3 Q
def sIx3 (n d:Nat):Option Int->Nat
 | none=>d
 | some v=>if v < 0 then (v + (n:Int)).toNat else min v.toNat n
def cut3 {α:Type} (xs:List α) (lo hi:Option Int):List α:=(xs.drop (sIx3 xs.length 0 lo)).take (sIx3 xs.length xs.length hi - sIx3 xs.length 0 lo)
def slR:D->Option Int->Option Int->Mu->VK3->Prop:=λ x lo hi μ Q=>match x with
 | .tup l=>Q (.tup (cut3 l lo hi)) μ
 | .str z=>z.length<=sizeLine /\ Q (.str ⟨(cut3 z.cps.toList lo hi).toArray⟩) μ
 | .ref p=>match μ p with
  | some (.lst l)=>∀ r,μ r=none->Q (.ref r) (updM μ r (.lst (cut3 l lo hi)))
  | _=>False
 | .fls l=>∀ r,μ r=none->Q (.ref r) (updM μ r (.lst (cut3 l lo hi)))
 | _=>False
def next3:TS3:=λ D ρ μ=>D.nx ρ μ
def never3:TS3:=λ _ _ _=>False
def brk3:TS3:=λ D ρ μ=>D.bk ρ μ
def cnt3:TS3:=λ D ρ μ=>D.ct ρ μ
def seq3 (t u:TS3):TS3:=λ D ρ μ=>t { D with nx:=u D } ρ μ
def drop3 (t:TE3):TS3:=λ D ρ μ=>t ρ μ λ _ μ1=>D.nx ρ μ1
def ret3 (t:TE3):TS3:=λ D ρ μ=>t ρ μ D.rt
def retN3:TS3:=λ D _ μ=>D.rt .non μ
def ifs3 (c:TT3) (t u:TS3):TS3:=λ D ρ μ=>c ρ μ λ b μ1=>if b=true then t D ρ μ1 else u D ρ μ1
def gn3 (i:Nat):TG3:=λ d ρ μ Q=>Q (ρ.set i (some d)) μ
def gnil3:TGs3:=λ ds ρ μ Q=>match ds with
 | []=>Q ρ μ
 | _=>False
def gcons3 (t:TG3) (u:TGs3):TGs3:=λ ds ρ μ Q=>match ds with
 | d :: r=>t d ρ μ λ ρ1 μ1=>u r ρ1 μ1 Q
 | []=>False
def gtup3 (n:Nat) (t:TGs3):TG3:=λ d ρ μ Q=>match d with
 | .tup l=>l.length=n /\ t l ρ μ Q
 | _=>False
def set3 (i:Nat) (t:TE3):TS3:=λ D ρ μ=>t ρ μ λ d μ1=>D.nx (ρ.set i (some d)) μ1
def asg3 (t:TE3) (g:TG3):TS3:=λ D ρ μ=>t ρ μ λ d μ1=>g d ρ μ1 D.nx
def par3 (i j:Nat) (t:TA3):TS3:=λ D ρ μ=>t ρ μ λ ds μ1=>match ds with
 | [v,w]=>D.nx ((ρ.set i (some v)).set j (some w)) μ1
 | _=>False
def ixN (n:Nat) (i:Int):Option Nat:=if 0<=i then (if i < n then some i.toNat else none) else if -(n:Int)<=i then some (i + n).toNat else none
def atI {α:Type} (xs:List α) (i:Int):Option α:=(ixN xs.length i).bind λ j=>xs[j]?
def sub3 (to ti:TE3):TG3:=λ d ρ μ Q=>to ρ μ λ o μ1=>ti ρ μ1 λ i μ2=>match o,i with
 | .ref p,.int k=>match μ2 p with
  | some (.lst xs)=>match ixN xs.length k with
   | some j=>Q ρ (updM μ2 p (.lst (xs.set j d)))
   | none=>False
  | _=>False
 | _,_=>False
def vw1 (S:Mu->Prop) (g:TG3) (tb:TS3) (D':Ends3):List D->St3->Mu->Prop
 | [],ρ,μ=>S μ /\ D'.nx ρ μ
 | x :: r,ρ,μ=>S μ /\ ∃ N:St3->Mu->Prop,(∀ ρ' μ',N ρ' μ'->vw1 S g tb D' r ρ' μ') /\ g x ρ μ λ ρ1 μ1=>tb { D' with nx:=N,ct:=N,bk:=D'.nx } ρ1 μ1
def for3 (ti:TI3) (g:TG3) (tb:TS3):TS3:=λ D' ρ μ=>ti ρ μ λ l S μ1=>vw1 S g tb D' l ρ μ1
theorem wh0 {S:Mu->Prop} {g:TG3} {tb:TS3} {D':Ends3} (W:List D->St3->Mu->Prop) {l:List D} {ρ:St3} {μ:Mu} (h0:W l ρ μ) (hS:∀ l ρ μ,W l ρ μ->S μ) (hn:∀ ρ μ,W [] ρ μ->D'.nx ρ μ)
    (hs:∀ x r ρ μ,W (x :: r) ρ μ->g x ρ μ λ ρ1 μ1=>tb { D' with nx:=W r,ct:=W r,bk:=D'.nx } ρ1 μ1):vw1 S g tb D' l ρ μ:=by
 induction l generalizing ρ μ with
 | nil=>exact ⟨hS _ _ _ h0,hn _ _ h0⟩
 | cons x r ih=>exact ⟨hS _ _ _ h0,W r,λ ρ' μ' q=>ih q,hs x r ρ μ h0⟩
def is3 (t:TE3):TI3:=λ ρ μ R=>t ρ μ λ d μ1=>match d with
 | .tup l=>R l (λ _=>True) μ1
 | .fls l=>R l (λ _=>True) μ1
 | .str z=>R (z.cps.toList.map λ c=>D.str ⟨#[c]⟩) (λ _=>True) μ1
 | .ref p=>match μ1 p with
  | some (.lst l)=>R l (λ μ=>μ p=some (.lst l)) μ1
  | _=>False
 | _=>False
def rngD (lo:Int) (n:Nat):List D:=(List.range n).map λ i=>.int (lo + (i:Nat))
theorem zm0 (lo:Int) (n:Nat):rngD lo (n + 1)=.int lo :: rngD (lo + 1) n:=by
 unfold rngD
 rw [List.range_succ_eq_map,map_cons,map_map]
 have e0:lo + ((0:Nat):Int)=lo:=by simp
 rw [e0]
 congr 1
 apply map_congr_left
 intro a _
 show D.int (lo + ((a + 1:Nat):Int))=D.int (lo + 1 + (a:Int))
 have e1:lo + ((a + 1:Nat):Int)=lo + 1 + (a:Int):=by omega
 rw [e1]
def ir3 (t:TA3):TI3:=λ ρ μ R=>t ρ μ λ ds μ1=>match ds with
 | [.int j]=>(-(2 ^ 62)<=j /\ j < 2 ^ 62) /\ R (rngD 0 j.toNat) (λ _=>True) μ1
 | _=>False
def ir23 (t:TA3):TI3:=λ ρ μ R=>t ρ μ λ ds μ1=>match ds with
 | [.int i,.int j]=>(-(2 ^ 62)<=i /\ i < 2 ^ 62 /\ -(2 ^ 62)<=j /\ j < 2 ^ 62) /\ R (rngD i (j - i).toNat) (λ _=>True) μ1
 | _=>False
def vm3 (S:Mu->Prop) (p:Addr) (g:TG3) (tc:TT3) (te:TE3) (Q:VK3) (l:List D) (ρ0:St3) (μ0:Mu):Prop :=
 ∃ W:List D->List D->St3->Mu->Prop,W l [] ρ0 μ0 /\ (∀ l ys ρ μ,W l ys ρ μ->S μ /\ μ p=some (.lst ys)) /\ (∀ ys ρ μ,W [] ys ρ μ->Q (.ref p) μ) ∧
  ∀ x r ys ρ μ,W (x :: r) ys ρ μ->ys.length < sizeLine /\ g x ρ μ λ ρ1 μ1=>tc ρ1 μ1 λ b μ2 =>
   if b=true then te ρ1 μ2 λ d μ3=>μ3 p=some (.lst ys) /\ W r (ys ++ [d]) ρ1 (updM μ3 p (.lst (ys ++ [d]))) else W r ys ρ1 μ2
def comp3 (js:List (Option Nat)) (ti:TI3) (g:TG3) (tc:TT3) (te:TE3):TE3:=λ ρ μ Q=>ti ρ μ λ l S μ1=>∀ p,μ1 p=none->vm3 S p g tc te Q l (js.map λ j=>j.bind (getI ρ)) (updM μ1 p (.lst []))
def tt3:TT3:=λ _ μ Q=>Q true μ
theorem zh0 {S:Mu->Prop} {p:Addr} {te:TE3} {Q:VK3} {l:List D} {o:Option D} {rest:St3} {μ:Mu} (f:D->D) (hp:μ p=none) (hl:l.length<=sizeLine) (hS:∀ μ',Ext μ μ'->S μ')
    (hx:∀ x ∈ l,∀ μ' R,Ext μ μ'->(∀ μ2,Ext μ' μ2->R (f x) μ2)->te (some x :: rest) μ' R) (hQ:∀ μ',Ext μ μ'->μ' p=some (.lst (l.map f))->Q (.ref p) μ') :
    vm3 S p (gn3 0) tt3 te Q l (o :: rest) (updM μ p (.lst [])):=by
 refine ⟨λ r ys ρ μ'=>Ext μ μ' /\ μ' p=some (.lst ys) /\ (∃ o',ρ=o' :: rest) /\ ∃ a,a ++ r=l /\ ys=a.map f,?_,?_,?_,?_⟩
 ·exact ⟨Ext.new hp,va0,⟨o,rfl⟩,[],rfl,rfl⟩
 ·rintro r ys ρ μ' ⟨h1,h2,_⟩
  exact ⟨hS _ h1,h2⟩
 ·rintro ys ρ μ' ⟨h1,h2,_,a,e,rfl⟩
  rw [append_nil] at e
  subst e
  exact hQ _ h1 h2
 ·rintro x r ys ρ μ' ⟨h1,h2,⟨o',rfl⟩,a,e,rfl⟩
  refine ⟨by rw [length_map]; rw [<- e,length_append,length_cons] at hl; omega,?_⟩
  show te (some x :: rest) μ' _
  refine hx x (by rw [<- e]; simp) μ' _ h1 λ μ2 h3=>⟨h3 _ _ h2,λ b u hb=>?_,va0,⟨_,rfl⟩,a ++ [x],by simp [<- e],by simp⟩
  rw [xb0 (ud0 hb hp)]
  exact h3 _ _ (h1 _ _ hb)
def CPow (i j:Int):Prop:=0<=j /\ j<=1000000 /\ i.natAbs < 2 ^ 64
def Big:Nat:=2 ^ 1000
def CMul (i j:Int):Prop:=((-(2 ^ 64) < i /\ i < 2 ^ 64) \/ (-(2 ^ 64) < j /\ j < 2 ^ 64)) \/ (i.natAbs < Big /\ j.natAbs < Big)
def int2 (C:Int->Int->Prop) (g:Int->Int->D):R3:=λ x y μ Q=>match x,y with
 | .int i,.int j=>C i j /\ Q (g i j) μ
 | _,_=>False
def int20 (g:Int->Int->D):R3:=λ x y μ Q=>match x,y with
 | .int i,.int j=>Q (g i j) μ
 | _,_=>False
def subR:R3:=int20 λ i j=>.int (i - j)
def mulR:R3:=λ x y μ Q=>match x,y with
 | .int i,.int j=>CMul i j /\ Q (.int (i * j)) μ
 | .tup l,.int k=>((-(2 ^ 62)<=k /\ k < 2 ^ 62) /\ l.length * k.toNat<=1000000) /\ Q (.tup (List.replicate k.toNat l).flatten) μ
 | .ref p,.int k=>match μ p with
  | some (.lst l)=>((-(2 ^ 62)<=k /\ k < 2 ^ 62) /\ l.length * k.toNat<=1000000) /\ ∀ r,μ r=none->Q (.ref r) (updM μ r (.lst (List.replicate k.toNat l).flatten))
  | _=>False
 | _,_=>False
def modR:R3:=int2 (λ _ j=>0 < j) λ i j=>.int (i % j)
def fdivR:R3:=int2 (λ _ j=>0 < j /\ j < 2 ^ 120) λ i j=>.int (i / j)
def powR:R3:=int2 CPow λ i j=>.int (i ^ j.toNat)
def ltR:R3:=int20 λ i j=>.bl (decide (i < j))
def leR:R3:=int20 λ i j=>.bl (decide (i<=j))
def gtR:R3:=int20 λ i j=>.bl (decide (j < i))
def geR:R3:=int20 λ i j=>.bl (decide (j<=i))
def negR:D->Mu->VK3->Prop:=λ x μ Q=>match x with
 | .int i=>Q (.int (-i)) μ
 | _=>False
def addR:R3:=λ x y μ Q=>match x,y with
 | .int i,.int j=>Q (.int (i + j)) μ
 | .str i,.str j=>i.length + j.length<=sizeLine /\ Q (.str (i ++ j)) μ
 | .ref p,.ref q=>match μ p,μ q with
  | some (.lst xs),some (.lst ys)=>xs.length + ys.length<=sizeLine /\ ∀ r,μ r=none->Q (.ref r) (updM μ r (.lst (xs ++ ys)))
  | _,_=>False
 | .tup l,.tup m=>l.length + m.length<=sizeLine /\ Q (.tup (l ++ m)) μ
 | _,_=>False
def eqS:D->D->Option Bool
 | .int i,.int j=>some (decide (i=j))
 | .bl i,.bl j=>some (decide (i=j))
 | .str i,.str j=>some (decide (i=j))
 | .non,.non=>some true
 | .non,.int _=>some false
 | .int _,.non=>some false
 | .non,.str _=>some false
 | .str _,.non=>some false
 | .int _,.str _=>some false
 | .str _,.int _=>some false
 | _,_=>none
mutual
def dat:D->Option PyData
 | .non=>some .none
 | .bl b=>some (.bool b)
 | .int i=>some (.int i)
 | .str x=>if PyData.strOk x=true then some (.str x) else none
 | .tup l=>match dats l with
  | some ps=>some (.tuple ps)
  | none=>none
 | .ktp l=>match dats l with
  | some ps=>some (.tuple ps)
  | none=>none
 | _=>none
def dats:List D->Option (List PyData)
 | []=>some []
 | d :: r=>match dat d with
  | some p=>match dats r with
   | some ps=>some (p :: ps)
   | none=>none
  | none=>none
end
def datM (μ:Mu):D->Option PyData
 | .ref p=>match μ p with
  | some (.lst l)=>match dats l with
   | some ps=>some (.list ps)
   | none=>none
  | _=>none
 | d=>dat d
def eqR:R3:=λ x y μ Q=>match eqS x y with
 | some c=>Q (.bl c) μ
 | none=>match datM μ x,datM μ y with
  | some p,some q=>(p.depth<=64 /\ q.depth<=64) /\ Q (.bl (PyData.eqv p q)) μ
  | _,_=>False
def neR:R3:=λ x y μ Q=>match eqS x y with
 | some c=>Q (.bl (!c)) μ
 | none=>match datM μ x,datM μ y with
  | some p,some q=>(p.depth<=64 /\ q.depth<=64) /\ Q (.bl (!PyData.eqv p q)) μ
  | _,_=>False
theorem eqR_ii (i j:Int) (μ:Mu) (Q:VK3):eqR (.int i) (.int j) μ Q=Q (.bl (decide (i=j))) μ:=rfl
theorem eqR_ss (i j:Str) (μ:Mu) (Q:VK3):eqR (.str i) (.str j) μ Q=Q (.bl (decide (i=j))) μ:=rfl
theorem eqR_bb (i j:Bool) (μ:Mu) (Q:VK3):eqR (.bl i) (.bl j) μ Q=Q (.bl (decide (i=j))) μ:=rfl
theorem eqR_is (i:Int) (j:Str) (μ:Mu) (Q:VK3):eqR (.int i) (.str j) μ Q=Q (.bl false) μ:=rfl
theorem neR_ii (i j:Int) (μ:Mu) (Q:VK3):neR (.int i) (.int j) μ Q=Q (.bl (!decide (i=j))) μ:=rfl
theorem neR_ss (i j:Str) (μ:Mu) (Q:VK3):neR (.str i) (.str j) μ Q=Q (.bl (!decide (i=j))) μ:=rfl
theorem neR_bb (i j:Bool) (μ:Mu) (Q:VK3):neR (.bl i) (.bl j) μ Q=Q (.bl (!decide (i=j))) μ:=rfl
theorem yg2 {x y:D} {μ:Mu} {Q:VK3} {p q:PyData} (e:eqS x y=none) (h1:datM μ x=some p) (h2:datM μ y=some q) (d1:p.depth<=64) (d2:q.depth<=64):eqR x y μ Q=Q (.bl (PyData.eqv p q)) μ:=by
 unfold eqR; rw [e]; simp only [h1,h2,d1,d2,true_and,and_self]
theorem tk1 {x y:D} {μ:Mu} {Q:VK3} {p q:PyData} (e:eqS x y=none) (h1:datM μ x=some p) (h2:datM μ y=some q) (d1:p.depth<=64) (d2:q.depth<=64):neR x y μ Q=Q (.bl (!PyData.eqv p q)) μ:=by
 unfold neR; rw [e]; simp only [h1,h2,d1,d2,true_and,and_self]
def strs?:List D->Option (List Str)
 | []=>some []
 | .str x :: r=>match strs? r with
  | some l=>some (x :: l)
  | none=>none
 | _ :: _=>none
def inD (neg:Bool):R3:=λ x y μ Q=>match datM μ x,datM μ y with
 | some d,some (.list xs)=>(d.depth<=64 /\ (PyData.list xs).depth<=64) /\ Q (.bl (if neg then !(xs.any λ e=>PyData.eqv e d) else xs.any λ e=>PyData.eqv e d)) μ
 | some d,some (.tuple xs)=>(d.depth<=64 /\ (PyData.tuple xs).depth<=64) /\ Q (.bl (if neg then !(xs.any λ e=>PyData.eqv e d) else xs.any λ e=>PyData.eqv e d)) μ
 | _,_=>False
def inR (neg:Bool):R3:=λ x y μ Q=>match x,y with
 | .str z,.tup l=>match strs? l with
  | some zs=>Q (.bl (if neg then !zs.contains z else zs.contains z)) μ
  | none=>inD neg (.str z) (.tup l) μ Q
 | .str z,.ktp l=>match strs? l with
  | some zs=>Q (.bl (if neg then !zs.contains z else zs.contains z)) μ
  | none=>inD neg (.str z) (.ktp l) μ Q
 | .str z,.str y=>Q (.bl (if neg then !(!(Builtin.Str.occurrences y z 0 y.length 1).isEmpty) else !(Builtin.Str.occurrences y z 0 y.length 1).isEmpty)) μ
 | x,y=>inD neg x y μ Q
def ixR:R3:=λ x y μ Q=>match x,y with
 | .tup l,.int i=>match atI l i with
  | some d=>Q d μ
  | none=>False
 | .ktp l,.int i=>match atI l i with
  | some d=>Q d μ
  | none=>False
 | .fls l,.int i=>match atI l i with
  | some d=>Q d μ
  | none=>False
 | .ref p,.int i=>match μ p with
  | some (.lst l)=>match atI l i with
   | some d=>Q d μ
   | none=>False
  | _=>False
 | _,_=>False
def lenR:C3:=λ ds μ Q=>match ds with
 | [.tup l]=>Q (.int l.length) μ
 | [.fls l]=>Q (.int l.length) μ
 | [.str z]=>z.length<=sizeLine /\ Q (.int z.length) μ
 | [.ref p]=>match μ p with
  | some (.lst l)=>Q (.int l.length) μ
  | _=>False
 | _=>False
def absR:C3:=λ ds μ Q=>match ds with
 | [.int i]=>Q (.int (if i < 0 then -i else i)) μ
 | _=>False
def intR:C3:=λ ds μ Q=>match ds with
 | [.int i]=>Q (.int i) μ
 | [.bl b]=>Q (.int (if b then 1 else 0)) μ
 | [.str z]=>match PySem.intText? z with
  | some n=>z.length<=640 /\ Q (.int n) μ
  | none=>False
 | _=>False
def strR:C3:=λ ds μ Q=>match ds with
 | [.int i]=>i.natAbs.log2 < 1920 /\ Q (.str (toString i)) μ
 | _=>False
def smt3 (r:Str->List D->Mu->VK3->Prop) (to:TE3) (t:TA3):TE3:=λ ρ μ Q=>to ρ μ λ x μ1=>match x with
 | .str z=>t ρ μ1 λ ds μ2=>r z ds μ2 Q
 | _=>False
def joinR:Str->List D->Mu->VK3->Prop:=λ z ds μ Q=>match ds with
 | [.ref p]=>match μ p with
  | some (.lst l)=>match strs? l with
   | some ys=>(z.length<=16 /\ (ys.map (·.length)).sum + ys.length<=1048576) /\ Q (.str (Str.join z ys)) μ
   | none=>False
  | _=>False
 | _=>False
def splitR:Str->List D->Mu->VK3->Prop:=λ z ds μ Q=>match ds with
 | [.str y]=>((y.length == 0)=false /\ z.length<=1000000) /\ ∀ r,μ r=none->Q (.ref r) (updM μ r (.lst ((Txt.split z y).map D.str)))
 | _=>False
def startsR:Str->List D->Mu->VK3->Prop:=λ z ds μ Q=>match ds with
 | [.str y]=>Q (.bl (Txt.startswith z y)) μ
 | _=>False
def pop3 (to:TE3):TE3:=λ ρ μ Q=>to ρ μ λ x μ1=>match x with
 | .ref p=>match μ1 p with
  | some (.lst l)=>match l.reverse with
   | d :: r=>Q d (updM μ1 p (.lst r.reverse))
   | []=>False
  | _=>False
 | _=>False
def lrev3 (to:TE3):TE3:=λ ρ μ Q=>cons3 to nil3 ρ μ λ ds μ1=>match ds with
 | [.ref p]=>match μ1 p with
  | some (.lst l)=>∀ r,μ1 r=none->Q (.ref r) (updM μ1 r (.lst l.reverse))
  | _=>False
 | _=>False
def tupR:C3:=λ ds μ Q=>match ds with
 | [.tup l]=>Q (.tup l) μ
 | [.ref p]=>match μ p with
  | some (.lst l)=>Q (.tup l) μ
  | _=>False
 | _=>False
def ints?:List D->Option (List Int)
 | []=>some []
 | .int x :: r=>match ints? r with
  | some l=>some (x :: l)
  | none=>none
 | _ :: _=>none
def sumR:C3:=λ ds μ Q=>match ds with
 | [.ref p]=>match μ p with
  | some (.lst l)=>match ints? l with
   | some ns=>Q (.int ns.sum) μ
   | none=>False
  | _=>False
 | _=>False
def bls?:List D->Option (List Bool)
 | []=>some []
 | .bl x :: r=>match bls? r with
  | some l=>some (x :: l)
  | none=>none
 | _ :: _=>none
def ltP (a b c d:Int):Bool:=if a=c then decide (b < d) else decide (a < c)
def minR:C3:=λ ds μ Q=>match ds with
 | [.tup [.int a,.int b],.tup [.int c,.int d]]=>Q (if ltP c d a b then .tup [.int c,.int d] else .tup [.int a,.int b]) μ
 | _=>False
def allR:C3:=λ ds μ Q=>match ds with
 | [.ref p]=>match μ p with
  | some (.lst l)=>match bls? l with
   | some bs=>Q (.bl (bs.all id)) μ
   | none=>False
  | _=>False
 | _=>False
def tyN (μ:Mu):D->Option String
 | .int _=>some "int"
 | .bl _=>some "bool"
 | .str _=>some "str"
 | .tup _=>some "tuple"
 | .non=>some "NoneType"
 | .ref p=>match μ p with
  | some (.lst _)=>some "list"
  | _=>none
 | _=>none
def isIn (t T:String):Option Bool :=
 if t=T then some true
 else if t = "bool" /\ T = "int" then some true
 else if (t = "int" \/ t = "str" \/ t = "tuple" \/ t = "bool" \/ t = "NoneType" \/ t = "list") /\ (T = "int" \/ T = "str" \/ T = "tuple" \/ T = "bool" \/ T = "list") then some false
 else none
def isiR:C3:=λ ds μ Q=>match ds with
 | [d,.ty T]=>match tyN μ d with
  | some t=>match isIn t T with
   | some b=>Q (.bl b) μ
   | none=>False
  | none=>False
 | _=>False
def appR:D->List D->Mu->VK3->Prop:=λ x ds μ Q=>match x,ds with
 | .ref p,[d]=>match μ p with
  | some (.lst l)=>l.length < sizeLine /\ Q .non (updM μ p (.lst (l ++ [d])))
  | _=>False
 | _,_=>False
def extR:D->List D->Mu->VK3->Prop:=λ x ds μ Q=>match x,ds with
 | .ref p,[.ref q]=>match μ p,μ q with
  | some (.lst l),some (.lst m)=>l.length + m.length<=sizeLine /\ Q .non (updM μ p (.lst (l ++ m)))
  | _,_=>False
 | _,_=>False
theorem atI0 {α:Type} {a:α} {r:List α}:atI (a :: r) 0=some a:=by
 unfold atI ixN; rw [if_pos (by decide),if_pos (by simp only [length_cons]; omega)]; rfl
theorem atI1 {α:Type} {a b:α} {r:List α}:atI (a :: b :: r) 1=some b:=by
 unfold atI ixN; rw [if_pos (by decide),if_pos (by simp only [length_cons]; omega)]; rfl
theorem atI2 {α:Type} {a b c:α} {r:List α}:atI (a :: b :: c :: r) 2=some c:=by
 unfold atI ixN; rw [if_pos (by decide),if_pos (by simp only [length_cons]; omega)]; rfl
theorem ixN0 {n:Nat}:ixN (n + 1) 0=some 0:=by
 unfold ixN; rw [if_pos (by decide),if_pos (by omega)]; rfl
theorem ixN1 {n:Nat}:ixN (n + 1 + 1) 1=some 1:=by
 unfold ixN; rw [if_pos (by decide),if_pos (by omega)]; rfl
theorem ixN2 {n:Nat}:ixN (n + 1 + 1 + 1) 2=some 2:=by
 unfold ixN; rw [if_pos (by decide),if_pos (by omega)]; rfl
theorem ta3 {α:Type} {l:List α} {i:Int} (h0:0<=i) (h1:i < l.length):∃ d,d ∈ l /\ atI l i=some d:=by
 have hn:i.toNat < l.length:=by omega
 refine ⟨l[i.toNat],getElem_mem hn,?_⟩
 unfold atI ixN
 rw [if_pos h0,if_pos h1]
 exact getElem?_eq_getElem hn
def start3 (N:List Str) (ds:List D):St3:=ds.map some ++ List.replicate (N.length - ds.length) none
end Pv
namespace Pv
open PySem L2
abbrev Fg:=PySem.W.Frag
structure Kp (H H':Hp):Prop where
 tup:∀ b xs,H b=some (.tup xs)->H' b=some (.tup xs)
 frz:∀ b o u,H b=some (.frz o u)->H' b=some (.frz o u)
theorem Kp.refl (H:Hp):Kp H H:=⟨λ _ _ h=>h,λ _ _ _ h=>h⟩
theorem Kp.trans {a b c:Hp} (h:Kp a b) (k:Kp b c):Kp a c:=⟨λ x xs q=>k.tup x xs (h.tup x xs q),λ x o u q=>k.frz x o u (h.frz x o u q)⟩
theorem Kp.new {H:Hp} {p:Addr} {o:HO} (h:H p=none):Kp H (upd H p o) :=
 ⟨λ b xs q=>by rw [vb0 (uf0 q h)]; exact q,λ b o u q=>by rw [vb0 (uf0 q h)]; exact q⟩
theorem Kp.wr {H:Hp} {p:Addr} {o:HO} {xs:List V} (h:H p=some (.lst xs)):Kp H (upd H p o) :=
 ⟨λ b ys q=>by rw [vb0 (xe2 q h (by intro z; cases z))]; exact q,λ b o u q=>by rw [vb0 (xe2 q h (by intro z; cases z))]; exact q⟩
def SqF (K:Fg) (H:Hp) (a:Addr) (xs:List V):Prop :=
 (∃ o,H a=some (.frz o (.lst xs))) \/ ∃ (o:Obj) (its:Array Value) (n:Nat),K.lookup a=some o /\ o.cls=.type "list" /\ o.dict=none /\ o.data=.seq its n /\ its.size<=sizeLine /\ Vals xs its.toList
theorem SqF.l {K:Fg} {H:Hp} {a:Addr} {xs:List V} (h:SqF K H a xs):SqL K H a xs:=by
 rcases h with ⟨o,h⟩ | h
 ·exact .inl (.inr ⟨o,h⟩)
 ·exact .inr h
theorem SqF.mono {K:Fg} {H H':Hp} {a:Addr} {xs:List V} (k:Kp H H') (h:SqF K H a xs):SqF K H' a xs:=by
 rcases h with ⟨o,h⟩ | h
 ·exact .inl ⟨o,k.frz _ _ _ h⟩
 ·exact .inr h
theorem SqT.mono {K:Fg} {H H':Hp} {a:Addr} {xs:List V} (k:Kp H H') (h:SqT K H a xs):SqT K H' a xs:=by
 rcases h with h | h
 ·rcases h with h | ⟨o,h⟩
  ·exact .inl (.inl (k.tup _ _ h))
  ·exact .inl (.inr ⟨o,k.frz _ _ _ h⟩)
 ·exact .inr h
mutual
inductive RelD (K:Fg) (H:Hp):D->V->Prop where
 | non:RelD K H .non .non
 | bl (b:Bool):RelD K H (.bl b) (.bl b)
 | int (i:Int):RelD K H (.int i) (.int i)
 | str (x:Str):RelD K H (.str x) (.str x)
 | ref (a:Addr):RelD K H (.ref a) (.ref a)
 | ty (n:String):RelD K H (.ty n) (.ty n)
 | tup {a:Addr} {l:List D} {vs:List V}:H a=some (.tup vs)->RelDs K H l vs->RelD K H (.tup l) (.ref a)
 | ktp {a:Addr} {l:List D} {vs:List V}:SqT K H a vs->RelDs K H l vs->RelD K H (.ktp l) (.ref a)
 | fls {a:Addr} {l:List D} {vs:List V}:SqF K H a vs->RelDs K H l vs->RelD K H (.fls l) (.ref a)
 | exc {a C:Addr} {c:Str} {ob:Obj} {u:HO}:H a=some (.frz ob u)->ob.cls=.ref C->nsIn K mainGlobals c=some (some (.ref C))->RelD K H (.exc c) (.ref a)
inductive RelDs (K:Fg) (H:Hp):List D->List V->Prop where
 | nil:RelDs K H [] []
 | cons {d:D} {v:V} {l:List D} {vs:List V}:RelD K H d v->RelDs K H l vs->RelDs K H (d :: l) (v :: vs)
end
mutual
theorem RelD.mono {K:Fg} {H H':Hp} (k:Kp H H'):∀ {d:D} {v:V},RelD K H d v->RelD K H' d v
 | _,_,.non=>.non
 | _,_,.bl b=>.bl b
 | _,_,.int b=>.int b
 | _,_,.str b=>.str b
 | _,_,.ref b=>.ref b
 | _,_,.ty b=>.ty b
 | _,_,.tup h r=>.tup (k.tup _ _ h) (RelDs.mono k r)
 | _,_,.ktp h r=>.ktp (SqT.mono k h) (RelDs.mono k r)
 | _,_,.fls h r=>.fls (SqF.mono k h) (RelDs.mono k r)
 | _,_,.exc h r1 r2=>.exc (k.frz _ _ _ h) r1 r2
theorem RelDs.mono {K:Fg} {H H':Hp} (k:Kp H H'):∀ {d:List D} {v:List V},RelDs K H d v->RelDs K H' d v
 | _,_,.nil=>.nil
 | _,_,.cons h r=>.cons (RelD.mono k h) (RelDs.mono k r)
end
theorem RelDs.length {K:Fg} {H:Hp}:∀ {l:List D} {vs:List V},RelDs K H l vs->l.length=vs.length
 | _,_,.nil=>rfl
 | _,_,.cons _ r=>congrArg (· + 1) r.length
theorem RelDs.get {K:Fg} {H:Hp}:∀ {l:List D} {vs:List V} {i:Nat} {d:D},RelDs K H l vs->l[i]?=some d->∃ v,vs[i]?=some v /\ RelD K H d v
 | _,_,_,_,.nil,e=>by simp at e
 | _,_,0,_,.cons h _,e=>by simp at e; subst e; exact ⟨_,rfl,h⟩
 | _,_,i + 1,d,.cons _ r,e=>by
  obtain ⟨v,h1,h2⟩:=RelDs.get (i:=i) (d:=d) r (by simpa using e)
  exact ⟨v,by simpa using h1,h2⟩
theorem RelDs.append {K:Fg} {H:Hp}:∀ {l m:List D} {vs us:List V},RelDs K H l vs->RelDs K H m us->RelDs K H (l ++ m) (vs ++ us)
 | _,_,_,_,.nil,q=>q
 | _,_,_,_,.cons h r,q=>.cons h (RelDs.append r q)
theorem RelDs.set {K:Fg} {H:Hp} {d:D} {v:V} (hd:RelD K H d v):∀ {l:List D} {vs:List V} (i:Nat),RelDs K H l vs->RelDs K H (l.set i d) (vs.set i v)
 | _,_,_,.nil=>.nil
 | _,_,0,.cons _ r=>.cons hd r
 | _,_,i + 1,.cons h r=>.cons h (RelDs.set hd i r)
theorem RelDs.take {K:Fg} {H:Hp}:∀ {l:List D} {vs:List V} (n:Nat),RelDs K H l vs->RelDs K H (l.take n) (vs.take n)
 | _,_,0,r=>by simp only [List.take_zero]; exact .nil
 | _,_,n + 1,.nil=>by simp only [List.take_nil]; exact .nil
 | _,_,n + 1,.cons h r=>by simp only [List.take_succ_cons]; exact .cons h (RelDs.take n r)
theorem RelDs.drop {K:Fg} {H:Hp}:∀ {l:List D} {vs:List V} (n:Nat),RelDs K H l vs->RelDs K H (l.drop n) (vs.drop n)
 | _,_,0,r=>by simp only [List.drop_zero]; exact r
 | _,_,n + 1,.nil=>by simp only [List.drop_nil]; exact .nil
 | _,_,n + 1,.cons h r=>by simp only [List.drop_succ_cons]; exact RelDs.drop n r
theorem RelDs.rep {K:Fg} {H:Hp} {l:List D} {vs:List V} (r:RelDs K H l vs):∀ k:Nat,RelDs K H (List.replicate k l).flatten (List.replicate k vs).flatten
 | 0=>.nil
 | k + 1=>by rw [replicate_succ,replicate_succ,flatten_cons,flatten_cons]; exact r.append (RelDs.rep r k)
inductive RelFs (K:Fg) (H:Hp):List (Str × D)->List (Str × V)->Prop where
 | nil:RelFs K H [] []
 | cons {f:Str} {d:D} {v:V} {l:List (Str × D)} {vs:List (Str × V)}:RelD K H d v->RelFs K H l vs->RelFs K H ((f,d) :: l) ((f,v) :: vs)
theorem RelFs.mono {K:Fg} {H H':Hp} (k:Kp H H') {l:List (Str × D)} {vs:List (Str × V)} (r:RelFs K H l vs):RelFs K H' l vs:=by
 induction r with
 | nil=>exact .nil
 | cons h _ ih=>exact .cons (h.mono k) ih
def kT (t:Int × Int × Int):List Key:=[.inl t.1,.inl t.2.1,.inl t.2.2]
inductive RelKs (K:Fg) (H:Hp):List ((Int × Int × Int) × D)->List (List Key × V)->Prop where
 | nil:RelKs K H [] []
 | cons {t:Int × Int × Int} {d:D} {v:V} {l:List ((Int × Int × Int) × D)} {vs:List (List Key × V)}:RelD K H d v->RelKs K H l vs->RelKs K H ((t,d) :: l) ((kT t,v) :: vs)
theorem RelKs.mono {K:Fg} {H H':Hp} (k:Kp H H') {l:List ((Int × Int × Int) × D)} {vs:List (List Key × V)} (r:RelKs K H l vs):RelKs K H' l vs:=by
 induction r with
 | nil=>exact .nil
 | cons h _ ih=>exact .cons (h.mono k) ih
def kL (k:List Int):List Key:=k.map Sum.inl
inductive RelKl (K:Fg) (H:Hp):List (List Int × D)->List (List Key × V)->Prop where
 | nil:RelKl K H [] []
 | cons {t:List Int} {d:D} {v:V} {l:List (List Int × D)} {vs:List (List Key × V)}:RelD K H d v->RelKl K H l vs->RelKl K H ((t,d) :: l) ((kL t,v) :: vs)
theorem RelKl.mono {K:Fg} {H H':Hp} (k:Kp H H') {l:List (List Int × D)} {vs:List (List Key × V)} (r:RelKl K H l vs):RelKl K H' l vs:=by
 induction r with
 | nil=>exact .nil
 | cons h _ ih=>exact .cons (h.mono k) ih
inductive RelKk (K:Fg) (H:Hp):List (Key × D)->List (Key × V)->Prop where
 | nil:RelKk K H [] []
 | cons {t:Key} {d:D} {v:V} {l:List (Key × D)} {vs:List (Key × V)}:RelD K H d v->RelKk K H l vs->RelKk K H ((t,d) :: l) ((t,v) :: vs)
theorem RelKk.mono {K:Fg} {H H':Hp} (k:Kp H H') {l:List (Key × D)} {vs:List (Key × V)} (r:RelKk K H l vs):RelKk K H' l vs:=by
 induction r with
 | nil=>exact .nil
 | cons h _ ih=>exact .cons (h.mono k) ih
structure RelM (K:Fg) (μ:Mu) (H:Hp):Prop where
 lst:∀ p xs,μ p=some (.lst xs)->∃ vs,H p=some (.lst vs) /\ RelDs K H xs vs
 ins:∀ p c fs,μ p=some (.ins c fs)->∃ C dx vs,nsIn K mainGlobals c=some (some (.ref C)) /\ H p=some (.ins C dx vs) /\ H dx=some (.own p) /\ RelFs K H fs vs
 dct:∀ p kvs,μ p=some (.dct kvs)->∃ vs,H p=some (.dT vs) /\ RelKs K H kvs vs
 dcl:∀ p kvs,μ p=some (.dcl kvs)->∃ vs,H p=some (.dT vs) /\ RelKl K H kvs vs
 dck:∀ p kvs,μ p=some (.dck kvs)->∃ vs,H p=some (.dK vs) /\ RelKk K H kvs vs
instance {K:Fg} {μ:Mu} {H:Hp}:CoeFun (RelM K μ H) (λ _=>∀ p xs,μ p=some (.lst xs)->∃ vs,H p=some (.lst vs) /\ RelDs K H xs vs):=⟨RelM.lst⟩
theorem RelM.free {K:Fg} {μ:Mu} {H:Hp} (m:RelM K μ H) {p:Addr} (h:H p=none):μ p=none:=by
 cases e:μ p with
 | none=>rfl
 | some o =>
  cases o with
  | lst xs =>
   obtain ⟨vs,q,_⟩:=m.lst p xs e
   rw [h] at q; cases q
  | ins c fs =>
   obtain ⟨C,dx,vs,_,q,_⟩:=m.ins p c fs e
   rw [h] at q; cases q
  | dct kvs =>
   obtain ⟨vs,q,_⟩:=m.dct p kvs e
   rw [h] at q; cases q
  | dcl kvs =>
   obtain ⟨vs,q,_⟩:=m.dcl p kvs e
   rw [h] at q; cases q
  | dck kvs =>
   obtain ⟨vs,q,_⟩:=m.dck p kvs e
   rw [h] at q; cases q
theorem RelM.newT {K:Fg} {μ:Mu} {H:Hp} {p:Addr} {o:HO} (h:H p=none) (m:RelM K μ H):RelM K μ (upd H p o):=by
 have ne:∀ {q:Addr} {u:HO},H q=some u->q ≠ p:=λ {q u} e z=>by subst z; rw [h] at e; cases e
 refine ⟨λ q xs e=>?_,λ q c fs e=>?_,λ q kvs e=>?_,λ q kvs e=>?_,λ q kvs e=>?_⟩
 ·obtain ⟨vs,q1,r⟩:=m.lst q xs e
  exact ⟨vs,by rw [vb0 (ne q1)]; exact q1,r.mono (Kp.new h)⟩
 ·obtain ⟨C,dx,vs,n,q1,q2,r⟩:=m.ins q c fs e
  exact ⟨C,dx,vs,n,by rw [vb0 (ne q1)]; exact q1,by rw [vb0 (ne q2)]; exact q2,r.mono (Kp.new h)⟩
 ·obtain ⟨vs,q1,r⟩:=m.dct q kvs e
  exact ⟨vs,by rw [vb0 (ne q1)]; exact q1,r.mono (Kp.new h)⟩
 ·obtain ⟨vs,q1,r⟩:=m.dcl q kvs e
  exact ⟨vs,by rw [vb0 (ne q1)]; exact q1,r.mono (Kp.new h)⟩
 ·obtain ⟨vs,q1,r⟩:=m.dck q kvs e
  exact ⟨vs,by rw [vb0 (ne q1)]; exact q1,r.mono (Kp.new h)⟩
theorem RelM.newL {K:Fg} {μ:Mu} {H:Hp} {p:Addr} {xs:List D} {vs:List V} (h:H p=none) (r:RelDs K H xs vs) (m:RelM K μ H):RelM K (updM μ p (.lst xs)) (upd H p (.lst vs)):=by
 have m':=m.newT (o:=.lst vs) h
 refine ⟨λ q ys e=>?_,λ q c fs e=>?_,λ q kvs e=>?_,λ q kvs e=>?_,λ q kvs e=>?_⟩
 ·by_cases z:q=p
  ·subst z
   rw [va0] at e; cases e
   exact ⟨vs,wd0,r.mono (Kp.new h)⟩
  ·rw [xb0 z] at e
   exact m'.lst q ys e
 ·by_cases z:q=p
  ·subst z
   rw [va0] at e; cases e
  ·rw [xb0 z] at e
   exact m'.ins q c fs e
 ·by_cases z:q=p
  ·subst z
   rw [va0] at e; cases e
  ·rw [xb0 z] at e
   exact m'.dct q kvs e
 ·by_cases z:q=p
  ·subst z
   rw [va0] at e; cases e
  ·rw [xb0 z] at e
   exact m'.dcl q kvs e
 ·by_cases z:q=p
  ·subst z
   rw [va0] at e; cases e
  ·rw [xb0 z] at e
   exact m'.dck q kvs e
theorem RelM.wr {K:Fg} {μ:Mu} {H:Hp} {p:Addr} {xs:List D} {vs ws:List V} (h:H p=some (.lst ws)) (r:RelDs K H xs vs) (m:RelM K μ H):RelM K (updM μ p (.lst xs)) (upd H p (.lst vs)):=by
 refine ⟨λ q ys e=>?_,λ q c fs e=>?_,λ q kvs e=>?_,λ q kvs e=>?_,λ q kvs e=>?_⟩
 ·by_cases z:q=p
  ·subst z
   rw [va0] at e; cases e
   exact ⟨vs,wd0,r.mono (Kp.wr h)⟩
  ·rw [xb0 z] at e
   rw [vb0 z]
   obtain ⟨us,q1,r1⟩:=m.lst q ys e
   exact ⟨us,q1,r1.mono (Kp.wr h)⟩
 ·by_cases z:q=p
  ·subst z
   rw [va0] at e; cases e
  ·rw [xb0 z] at e
   obtain ⟨C,dx,us,n,q1,q2,r1⟩:=m.ins q c fs e
   refine ⟨C,dx,us,n,by rw [vb0 z]; exact q1,?_,r1.mono (Kp.wr h)⟩
   rw [vb0]
   ·exact q2
   ·intro y; subst y; rw [h] at q2; cases q2
 ·by_cases z:q=p
  ·subst z
   rw [va0] at e; cases e
  ·rw [xb0 z] at e
   rw [vb0 z]
   obtain ⟨us,q1,r1⟩:=m.dct q kvs e
   exact ⟨us,q1,r1.mono (Kp.wr h)⟩
 ·by_cases z:q=p
  ·subst z
   rw [va0] at e; cases e
  ·rw [xb0 z] at e
   rw [vb0 z]
   obtain ⟨us,q1,r1⟩:=m.dcl q kvs e
   exact ⟨us,q1,r1.mono (Kp.wr h)⟩
 ·by_cases z:q=p
  ·subst z
   rw [va0] at e; cases e
  ·rw [xb0 z] at e
   rw [vb0 z]
   obtain ⟨us,q1,r1⟩:=m.dck q kvs e
   exact ⟨us,q1,r1.mono (Kp.wr h)⟩
structure RSt (K:Fg) (H:Hp) (ρ:St3) (σ:St):Prop where
 len:ρ.length=σ.length
 at':∀ i d,getI ρ i=some d->∃ v,σ[i]?=some (some v) /\ RelD K H d v
theorem RSt.mono {K:Fg} {H H':Hp} {ρ:St3} {σ:St} (k:Kp H H') (s:RSt K H ρ σ):RSt K H' ρ σ:=⟨s.len,λ i d e=>let ⟨v,h,r⟩:=s.at' i d e; ⟨v,h,r.mono k⟩⟩
theorem vc1:∀ (ρ:St3) (i j:Nat) (d:Option D),getI (ρ.set i d) j=if i=j /\ i < ρ.length then d else getI ρ j
 | [],i,j,d=>by simp [getI]
 | o :: r,0,0,d=>by simp [getI]
 | o :: r,0,j + 1,d=>by simp [getI]
 | o :: r,i + 1,0,d=>by simp [getI]
 | o :: r,i + 1,j + 1,d=>by simp only [set_cons_succ,getI,vc1 r i j d,length_cons]; simp
theorem RSt.set {K:Fg} {H:Hp} {ρ:St3} {σ:St} {d:D} {v:V} (i:Nat) (r:RelD K H d v) (s:RSt K H ρ σ):RSt K H (ρ.set i (some d)) (σ.set i (some v)):=by
 refine ⟨by simp [s.len],λ j e h=>?_⟩
 rw [vc1] at h
 split at h
 ·next c =>
  obtain ⟨rfl,c2⟩:=c
  cases h
  exact ⟨v,by rw [List.getElem?_set_self (by rw [<- s.len]; exact c2)],r⟩
 ·next c =>
  obtain ⟨u,q,r'⟩:=s.at' j e h
  have hj:j < σ.length:=(List.getElem?_eq_some_iff.mp q).1
  by_cases z:i=j
  ·subst z; exact absurd ⟨rfl,by rw [s.len]; exact hj⟩ c
  ·exact ⟨u,by rw [getElem?_set_ne z]; exact q,r'⟩
theorem RSt.start {K:Fg} {H:Hp} {ds:List D} {vs:List V} (N:List Str) (r:RelDs K H ds vs):RSt K H (start3 N ds) (L2.start N vs):=by
 have hl:=r.length
 refine ⟨by simp [start3,L2.start,hl],λ i d e=>?_⟩
 rw [ul1] at e
 unfold start3 at e
 unfold L2.start
 by_cases c:i < ds.length
 ·rw [List.getElem?_append_left (by simpa using c),getElem?_map] at e
  cases q:ds[i]? with
  | none=>rw [q] at e; cases e
  | some d' =>
   rw [q] at e
   have e':d'=d:=by simpa using e
   subst e'
   obtain ⟨v,h1,h2⟩:=r.get q
   exact ⟨v,by rw [List.getElem?_append_left (by rw [length_map]; omega),getElem?_map,h1]; rfl,h2⟩
 ·rw [List.getElem?_append_right (by simpa using c),List.getElem?_replicate] at e
  split at e <;> simp at e
abbrev Ks (K:Fg) (H:Hp) (Q3:VK3) (Q:VK):Prop:=∀ d μ' v H',Q3 d μ'->Kp H H'->RelD K H' d v->RelM K μ' H'->Q v H'
theorem Ks.after {K:Fg} {H H1:Hp} {Q3:VK3} {Q:VK} (k:Ks K H Q3 Q) (e:Kp H H1):Ks K H1 Q3 Q:=λ d μ v H' q e'=>k d μ v H' q (e.trans e')
def RdE (K:Fg) (tv:TE) (t:TE3):Prop:=∀ σ H Q ρ μ Q3,RSt K H ρ σ->RelM K μ H->t ρ μ Q3->Ks K H Q3 Q->tv σ H Q
def RE (X:Cx) (e:Expr) (t:TE3):Prop:=∃ tv,PE X e tv /\ RdE X.K tv t
def RdT (K:Fg) (tv:TT) (t:TT3):Prop:=∀ σ H Q ρ μ Q3,RSt K H ρ σ->RelM K μ H->t ρ μ Q3->(∀ b μ' H',Q3 b μ'->Kp H H'->RelM K μ' H'->Q b H')->tv σ H Q
def RT (X:Cx) (e:Expr) (t:TT3):Prop:=∃ tv,PT X e tv /\ RdT X.K tv t
def RW (X:Cx) (e:Expr) (t:TT3):Prop:=∃ tv,PW X e tv /\ RdT X.K tv t
def RdA (K:Fg) (tv:TA) (t:TA3):Prop:=∀ σ H Q ρ μ Q3,RSt K H ρ σ->RelM K μ H->t ρ μ Q3->(∀ ds μ' vs H',Q3 ds μ'->Kp H H'->RelDs K H' ds vs->RelM K μ' H'->Q vs H')->tv σ H Q
def RA (X:Cx) (es:List Expr) (t:TA3):Prop:=∃ tv,PA X es tv /\ RdA X.K tv t
structure KsD (K:Fg) (H:Hp) (D3:Ends3) (D:Ends):Prop where
 nx:∀ ρ μ σ H',D3.nx ρ μ->Kp H H'->RSt K H' ρ σ->RelM K μ H'->D.nx σ H'
 bk:∀ ρ μ σ H',D3.bk ρ μ->Kp H H'->RSt K H' ρ σ->RelM K μ H'->D.bk σ H'
 ct:∀ ρ μ σ H',D3.ct ρ μ->Kp H H'->RSt K H' ρ σ->RelM K μ H'->D.ct σ H'
 rt:Ks K H D3.rt D.rt
theorem KsD.after {K:Fg} {H H1:Hp} {D3:Ends3} {D:Ends} (k:KsD K H D3 D) (e:Kp H H1):KsD K H1 D3 D :=
 ⟨λ ρ μ σ H' q e'=>k.nx ρ μ σ H' q (e.trans e'),λ ρ μ σ H' q e'=>k.bk ρ μ σ H' q (e.trans e'),λ ρ μ σ H' q e'=>k.ct ρ μ σ H' q (e.trans e'),k.rt.after e⟩
def RdS (K:Fg) (tv:TS) (t:TS3):Prop:=∀ σ H D ρ μ D3,RSt K H ρ σ->RelM K μ H->t D3 ρ μ->KsD K H D3 D->tv D σ H
def RS (X:Cx) (st:Stmt) (t:TS3):Prop:=∃ tv,PS X st tv /\ RdS X.K tv t
def RSs (X:Cx) (st:List Stmt) (t:TS3):Prop:=∃ tv,PSs X st tv /\ RdS X.K tv t
def RdG (K:Fg) (tv:TG) (t:TG3):Prop:=∀ v d σ H Q ρ μ Q3,RSt K H ρ σ->RelM K μ H->RelD K H d v->t d ρ μ Q3->(∀ ρ' μ' σ' H',Q3 ρ' μ'->Kp H H'->RSt K H' ρ' σ'->RelM K μ' H'->Q σ' H')->tv v σ H Q
def RG (X:Cx) (e:Expr) (t:TG3):Prop:=∃ tv,PG X e tv /\ RdG X.K tv t
def RdGs (K:Fg) (tv:TGs) (t:TGs3):Prop:=∀ vs ds σ H Q ρ μ Q3,RSt K H ρ σ->RelM K μ H->RelDs K H ds vs->t ds ρ μ Q3->(∀ ρ' μ' σ' H',Q3 ρ' μ'->Kp H H'->RSt K H' ρ' σ'->RelM K μ' H'->Q σ' H')->tv vs σ H Q
def RGs (X:Cx) (es:List Expr) (t:TGs3):Prop:=∃ tv,PGs X es tv /\ RdGs X.K tv t
def RdO (K:Fg) (r:R2) (r3:R3):Prop:=∀ x y v u H Q μ Q3,RelM K μ H->RelD K H x v->RelD K H y u->r3 x y μ Q3->Ks K H Q3 Q->r v u H Q
def RO (X:Cx) (f:Value->Value->Sem Value) (r3:R3):Prop:=∃ r,OpR X f r /\ RdO X.K r r3
def RdU (K:Fg) (r:V->Hp->VK->Prop) (r3:D->Mu->VK3->Prop):Prop:=∀ x v H Q μ Q3,RelM K μ H->RelD K H x v->r3 x μ Q3->Ks K H Q3 Q->r v H Q
def RU (X:Cx) (f:Value->Sem Value) (r3:D->Mu->VK3->Prop):Prop:=∃ r,UnR X f r /\ RdU X.K r r3
def RdC (K:Fg) (r:List V->Hp->VK->Prop) (r3:C3):Prop:=∀ xs vs H Q μ Q3,RelM K μ H->RelDs K H xs vs->r3 xs μ Q3->Ks K H Q3 Q->r vs H Q
def RC (X:Cx) (f:Value) (r3:C3):Prop:=∃ r,CallR X f r /\ RdC X.K r r3
def RX (X:Cx) (r3:R3):Prop:=∃ r,IxR X r /\ RdO X.K r r3
section
variable {X:Cx} {a b c e:Expr} {ta tb tc te:TE3} {pos:Pos}
theorem ya0 (i:Nat) {x:Str} (hN:X.N[i]?=some x:=by rfl) (hv:Vis X.env.scope x:=by first | exact Or.inl rfl | exact Or.inr (Or.inl rfl) | exact Or.inr (Or.inr rfl)) (hd:(x == ("__debug__" : Str))=false:=by decide)
    (hcd:(x == ("__classdict__" : Str))=false:=by decide):RE X (.Name x pos) (v3 i):=by
 refine ⟨_,vw2 hN hv hd hcd,λ σ H Q ρ μ Q3 s m h k=>?_⟩
 unfold v3 at h
 cases q:getI ρ i with
 | none=>rw [q] at h; exact h.elim
 | some d =>
  rw [q] at h
  obtain ⟨v,e,r⟩:=s.at' i d q
  exact ⟨v,e,k d μ v H h (Kp.refl H) r m⟩
theorem RdE.cst {K:Fg} {d:D} {v:V} (r:∀ H,RelD K H d v):RdE K (tC v) (c3 d):=λ σ H Q ρ μ Q3 s m h k=>k d μ v H h (Kp.refl H) (r H) m
theorem za0 {i:Int} {j}:RE X (.Constant (.int i) j pos) (c3 (.int i)):=⟨_,yf4,RdE.cst λ _=>.int i⟩
theorem tf1 {i:Bool} {j}:RE X (.Constant (.bool i) j pos) (c3 (.bl i)):=⟨_,yt4,RdE.cst λ _=>.bl i⟩
theorem ta2 {j}:RE X (.Constant .none j pos) (c3 .non):=⟨_,se4,RdE.cst λ _=>.non⟩
theorem se0 {x:Str} {j}:RE X (.Constant (.str x) j pos) (c3 (.str x)):=⟨_,ve4,RdE.cst λ _=>.str x⟩
def Gd (K:Fg) (mg:Str->Option Value) (x:Str) (d:D):Prop:=∃ u v,mg x=some u /\ RelV v u /\ ∀ H,RelD K H d v
theorem re_g {x:Str} {d:D} (g:Gd X.K X.mg x d) (hg:Gl X x:=by rfl) (hd:(x == ("__debug__" : Str))=false:=by decide):RE X (.Name x pos) (c3 d):=by
 obtain ⟨u,v,hm,r,rd⟩:=g
 exact ⟨_,xi3 hg hm r hd,RdE.cst rd⟩
theorem va2 {x:Str} {T:String} (hm:X.mg x=none) (hv:bootBuiltins x=some (.type T)) (hg:Gl X x:=by rfl) (hn:x ≠ "__name__" := by decide) (hd:(x == ("__debug__" : Str))=false:=by decide):RE X (.Name x pos) (c3 (.ty T)) :=
 ⟨_,xd2 hg hm hv (show RelV (.ty T) (.type T) from rfl) hn hd,RdE.cst λ _=>.ty T⟩
theorem yb0 {op:Operator} {r3:R3} (ho:RO X (binaryOp op) r3) (ha:RE X a ta) (hb:RE X b tb):RE X (.BinOp a op b pos) (o3 r3 ta tb):=by
 obtain ⟨r,po,ro⟩:=ho
 obtain ⟨va,pa,ra⟩:=ha
 obtain ⟨vb,pb,rb⟩:=hb
 exact ⟨_,ss4 po pa pb,λ σ H Q ρ μ Q3 s m h k=>ra σ H _ ρ μ _ s m h λ x μ1 v H1 h1 k1 r1 m1=>rb σ H1 _ ρ μ1 _ (s.mono k1) m1 h1 λ y μ2 u H2 h2 k2 r2 m2 =>
  ro x y v u H2 Q μ2 Q3 m2 (r1.mono k2) r2 h2 (k.after (k1.trans k2))⟩
theorem wa2 {op:UnaryOp} {r3:D->Mu->VK3->Prop} (ho:RU X (unaryOp op) r3) (ha:RE X a ta):RE X (.UnaryOp op a pos) (un3 r3 ta):=by
 obtain ⟨r,po,ro⟩:=ho
 obtain ⟨va,pa,ra⟩:=ha
 exact ⟨_,ts4 po pa,λ σ H Q ρ μ Q3 s m h k=>ra σ H _ ρ μ _ s m h λ x μ1 v H1 h1 k1 r1 m1=>ro x v H1 Q μ1 Q3 m1 r1 h1 (k.after k1)⟩
theorem RdE.op {K:Fg} {r:R2} {r3:R3} {va vb:TE} (ra:RdE K va ta) (rb:RdE K vb tb) (ro:RdO K r r3):RdE K (tOp r va vb) (o3 r3 ta tb):=λ σ H Q ρ μ Q3 s m h k =>
 ra σ H _ ρ μ _ s m h λ x μ1 v H1 h1 k1 r1 m1=>rb σ H1 _ ρ μ1 _ (s.mono k1) m1 h1 λ y μ2 u H2 h2 k2 r2 m2=>ro x y v u H2 Q μ2 Q3 m2 (r1.mono k2) r2 h2 (k.after (k1.trans k2))
theorem RdT.test {K:Fg} {va:TE} (ra:RdE K va ta):RdT K (ws3 va) (b3 ta):=λ σ H Q ρ μ Q3 s m h k=>by
 refine ra σ H _ ρ μ _ s m h λ d μ1 v H1 h1 k1 r1 m1=>?_
 cases r1 with
 | bl c=>exact ⟨c,rfl,k c μ1 H1 h1 k1 m1⟩
 | _=>exact False.elim h1
theorem xb2 {op:CmpOp} {r3:R3} (ho:RO X (compareOp op) r3) (ha:RE X a ta) (hb:RE X b tb) (hm:behindInMarks op b=false:=by first | exact sw2 _ | with_unfolding_all rfl):RE X (.Compare a [op] [b] pos) (o3 r3 ta tb):=by
 obtain ⟨r,po,ro⟩:=ho
 obtain ⟨va,pa,ra⟩:=ha
 obtain ⟨vb,pb,rb⟩:=hb
 exact ⟨_,zi3 po pa pb hm,ra.op rb ro⟩
theorem tc0 {op:CmpOp} {r3:R3} (ho:RO X (compareOp op) r3) (ha:RE X a ta) (hb:RE X b tb) (hm:behindInMarks op b=false:=by first | exact sw2 _ | with_unfolding_all rfl):RT X (.Compare a [op] [b] pos) (b3 (o3 r3 ta tb)):=by
 obtain ⟨r,po,ro⟩:=ho
 obtain ⟨va,pa,ra⟩:=ha
 obtain ⟨vb,pb,rb⟩:=hb
 exact ⟨_,zg3 po pa pb hm,RdT.test (ra.op rb ro)⟩
theorem zx0 (ha:RE X a ta) (he:∀ whole,isTrue a X.env whole=(do let v <- whole; standAt a.pos; holding [v] (truthy v)):=by intro _; rfl):RT X a (b3 ta):=by
 obtain ⟨va,pa,ra⟩:=ha
 exact ⟨_,zd4 pa he,RdT.test ra⟩
variable {tA tB':TT3} {rest:List Expr}
theorem RW.pt (h:RW X a tA):RT X a tA:=let ⟨t,p,r⟩:=h; ⟨t,p.pt,r⟩
theorem yf1 (h:RW X a tA):RT X a tA:=h.pt
theorem ua1 (h:RT X a tA):RW X (.BoolOp .And [a] pos) tA:=let ⟨t,p,r⟩:=h; ⟨t,xg3 p,r⟩
theorem vn1 (h:RT X a tA):RW X (.BoolOp .Or [a] pos) tA:=let ⟨t,p,r⟩:=h; ⟨t,xd4 p,r⟩
theorem zs0 (ha:RT X a tA) (hb:RW X (.BoolOp .And (b :: rest) pos) tB'):RW X (.BoolOp .And (a :: b :: rest) pos) (and3 tA tB'):=by
 obtain ⟨va,pa,ra⟩:=ha
 obtain ⟨vb,pb,rb⟩:=hb
 refine ⟨_,yd4 pa pb,λ σ H Q ρ μ Q3 s m h k=>ra σ H _ ρ μ _ s m h λ c μ1 H1 h1 k1 m1=>?_⟩
 cases c with
 | true=>exact rb σ H1 Q ρ μ1 Q3 (s.mono k1) m1 h1 λ b μ' H' q e=>k b μ' H' q (k1.trans e)
 | false=>exact k _ _ _ h1 k1 m1
theorem xv1 (ha:RT X a tA) (hb:RW X (.BoolOp .Or (b :: rest) pos) tB'):RW X (.BoolOp .Or (a :: b :: rest) pos) (or3 tA tB'):=by
 obtain ⟨va,pa,ra⟩:=ha
 obtain ⟨vb,pb,rb⟩:=hb
 refine ⟨_,vs4 pa pb,λ σ H Q ρ μ Q3 s m h k=>ra σ H _ ρ μ _ s m h λ c μ1 H1 h1 k1 m1=>?_⟩
 cases c with
 | true=>exact k _ _ _ h1 k1 m1
 | false=>exact rb σ H1 Q ρ μ1 Q3 (s.mono k1) m1 h1 λ b μ' H' q e=>k b μ' H' q (k1.trans e)
theorem zf1 (ha:RT X a tA):RT X (.UnaryOp .Not a pos) (not3 tA):=by
 obtain ⟨va,pa,ra⟩:=ha
 exact ⟨_,wd4 pa,λ σ H Q ρ μ Q3 s m h k=>ra σ H _ ρ μ _ s m h λ c μ1 H1 h1 k1 m1=>k _ _ _ h1 k1 m1⟩
theorem vy3 {op} (h:RE X a ta):RE X (.BoolOp op [a] pos) ta:=let ⟨t,p,r⟩:=h; ⟨t,ue4 p,r⟩
theorem sy3 (ha:RE X a ta) (hb:RE X (.BoolOp .And (b :: rest) pos) tb):RE X (.BoolOp .And (a :: b :: rest) pos) (andV3 ta tb):=by
 obtain ⟨va,pa,ra⟩:=ha
 obtain ⟨vb,pb,rb⟩:=hb
 refine ⟨_,zf4 pa pb,λ σ H Q ρ μ Q3 s m h k=>ra σ H _ ρ μ _ s m h λ d μ1 v H1 h1 k1 r1 m1=>?_⟩
 cases r1 with
 | bl c =>
  refine ⟨c,rfl,?_⟩
  cases c with
  | true=>exact rb σ H1 Q ρ μ1 Q3 (s.mono k1) m1 h1 (k.after k1)
  | false=>exact k _ _ _ _ h1 k1 (.bl _) m1
 | _=>exact False.elim h1
theorem uy3 (ha:RE X a ta):RE X (.UnaryOp .Not a pos) (notV3 ta):=by
 obtain ⟨va,pa,ra⟩:=ha
 refine ⟨_,te4 pa,λ σ H Q ρ μ Q3 s m h k=>ra σ H _ ρ μ _ s m h λ d μ1 v H1 h1 k1 r1 m1=>?_⟩
 cases r1 with
 | bl c=>exact ⟨c,rfl,k _ _ _ _ h1 k1 (.bl _) m1⟩
 | _=>exact False.elim h1
variable {es:List Expr} {t:TA3}
theorem ua0:RA X [] nil3:=⟨_,tw2,λ σ H Q ρ μ Q3 s m h k=>k [] μ [] H h (Kp.refl H) .nil m⟩
theorem xa0 (ha:RE X e te) (hr:RA X es t) (hs:starEach (e :: es) X.env=(false,eval e X.env) :: starEach es X.env:=by rfl):RA X (e :: es) (cons3 te t):=by
 obtain ⟨va,pa,ra⟩:=ha
 obtain ⟨vb,pb,rb⟩:=hr
 exact ⟨_,uk1 pa pb hs,λ σ H Q ρ μ Q3 s m h k=>ra σ H _ ρ μ _ s m h λ d μ1 v H1 h1 k1 r1 m1=>rb σ H1 _ ρ μ1 _ (s.mono k1) m1 h1 λ ds μ2 vs H2 h2 k2 r2 m2 =>
  k _ _ _ _ h2 (k1.trans k2) (.cons (r1.mono k2) r2) m2⟩
theorem wc0 {x1} (h:RA X es t):RE X (.Tuple es x1 pos) (tup3 t):=by
 obtain ⟨va,pa,ra⟩:=h
 refine ⟨_,uw2 pa,λ σ H Q ρ μ Q3 s m h k=>ra σ H _ ρ μ _ s m h λ ds μ1 vs H1 h1 k1 r1 m1=>⟨by rw [<- r1.length]; exact h1.1,λ p hp=>?_⟩⟩
 exact k _ _ _ _ h1.2 (k1.trans (Kp.new hp)) (.tup wd0 (r1.mono (Kp.new hp))) (m1.newT hp)
theorem zf0 (h:RA X es t):RE X (.List es pos) (lst3 t):=by
 obtain ⟨va,pa,ra⟩:=h
 refine ⟨_,xf4 pa,λ σ H Q ρ μ Q3 s m h k=>ra σ H _ ρ μ _ s m h λ ds μ1 vs H1 h1 k1 r1 m1=>⟨by rw [<- r1.length]; exact h1.1,λ p hp=>?_⟩⟩
 exact k _ _ _ _ (h1.2 p (m1.free hp)) (k1.trans (Kp.new hp)) (.ref p) (m1.newL hp r1)
variable {st:Stmt} {sts:List Stmt} {t3 u3:TS3}
theorem vc0:RSs X [] next3:=⟨_,vg3,λ σ H D ρ μ D3 s m h k=>k.nx ρ μ σ H h (Kp.refl H) s m⟩
theorem sa0 (h:RS X st t3):RSs X [st] t3:=let ⟨t,p,r⟩:=h; ⟨t,wg3 p,r⟩
theorem ta0 (h1:RS X st t3) (h2:RSs X sts u3):RSs X (st :: sts) (seq3 t3 u3):=by
 obtain ⟨va,pa,ra⟩:=h1
 obtain ⟨vb,pb,rb⟩:=h2
 refine ⟨_,uo2 pa pb,λ σ H D ρ μ D3 s m h k=>ra σ H _ ρ μ _ s m h ⟨λ ρ1 μ1 σ1 H1 h1 k1 s1 m1=>rb σ1 H1 D ρ1 μ1 D3 s1 m1 h1 (k.after k1),k.bk,k.ct,k.rt⟩⟩
theorem vn0 (he:RE X e te) (hs:swapsWith e none pos.line X.env=pure false:=by rfl):RS X (.Expr e pos) (drop3 te):=by
 obtain ⟨va,pa,ra⟩:=he
 exact ⟨_,xh3 pa hs,λ σ H D ρ μ D3 s m h k=>ra σ H _ ρ μ _ s m h λ d μ1 v H1 h1 k1 r1 m1=>k.nx ρ μ1 σ H1 h1 k1 (s.mono k1) m1⟩
theorem zc0 (he:RE X e te):RS X (.Return (some e) pos) (ret3 te):=by
 obtain ⟨va,pa,ra⟩:=he
 exact ⟨_,ud4 pa,λ σ H D ρ μ D3 s m h k=>ra σ H _ ρ μ _ s m h k.rt⟩
theorem wg0 {as bs:List Stmt} (hc:RT X c tA) (ha:RSs X as t3) (hb:RSs X bs u3):RS X (.If c as bs pos) (ifs3 tA t3 u3):=by
 obtain ⟨vc,pc,rc⟩:=hc
 obtain ⟨va,pa,ra⟩:=ha
 obtain ⟨vb,pb,rb⟩:=hb
 refine ⟨_,us4 pc pa pb,λ σ H D ρ μ D3 s m h k=>rc σ H _ ρ μ _ s m h λ c μ1 H1 h1 k1 m1=>?_⟩
 cases c with
 | true=>exact ra σ H1 D ρ μ1 D3 (s.mono k1) m1 h1 (k.after k1)
 | false=>exact rb σ H1 D ρ μ1 D3 (s.mono k1) m1 h1 (k.after k1)
theorem sb0 {i:Nat} {x:Str} (hN:X.N.Nodup) (hi:X.N[i]?=some x:=by rfl) (hx:Loc X.env.scope x:=by first | exact Or.inl rfl | exact Or.inr rfl) (hf:X.fn x=true \/ X.env.scope.names.lookup x=some .local:=by first | exact .inl rfl | exact .inr rfl) :
    RG X (.Name x pos) (gn3 i):=⟨_,th3 hN hi hx hf,λ v d σ H Q ρ μ Q3 s m r h k=>k _ _ _ _ h (Kp.refl H) (s.set i r) m⟩
theorem us0:RGs X [] gnil3:=⟨_,uh3,λ vs ds σ H Q ρ μ Q3 s m r h k=>by
 cases r with
 | nil=>exact ⟨rfl,k _ _ _ _ h (Kp.refl H) s m⟩
 | cons _ _=>exact False.elim h⟩
theorem yf0 {g:TG3} {gs:TGs3} (h1:RG X e g) (h2:RGs X es gs) (hs:(assignEach (e :: es) X.env).map (·.2)=assign e X.env :: (assignEach es X.env).map (·.2):=by rfl):RGs X (e :: es) (gcons3 g gs):=by
 obtain ⟨va,pa,ra⟩:=h1
 obtain ⟨vb,pb,rb⟩:=h2
 refine ⟨_,xp2 pa pb hs,λ vs ds σ H Q ρ μ Q3 s m r h k=>?_⟩
 cases r with
 | nil=>exact False.elim h
 | cons r1 r2=>exact ⟨_,_,rfl,ra _ _ σ H _ ρ μ _ s m r1 h λ ρ1 μ1 σ1 H1 h1 k1 s1 m1=>rb _ _ σ1 H1 Q ρ1 μ1 Q3 s1 m1 (r2.mono k1) h1 λ ρ' μ' σ' H' q e=>k ρ' μ' σ' H' q (k1.trans e)⟩
theorem wf1 {kk:Nat} {gs:TGs3} {n:Nat} (hc:X.calm=true) (h:RGs X es gs) (hn:(assignEach es X.env).length=n:=by rfl) (hst:(assignEach es X.env).findIdx? (·.1)=none:=by rfl):RG X (.Tuple es kk pos) (gtup3 n gs):=by
 obtain ⟨va,pa,ra⟩:=h
 refine ⟨_,ze4 hc pa hn hst,λ v d σ H Q ρ μ Q3 s m r h k=>?_⟩
 cases r with
 | tup hq rs =>
  obtain ⟨hl,h⟩:=h
  exact ⟨_,_,rfl,(SqT.of hq),by rw [<- rs.length]; exact hl,ra _ _ σ H Q ρ μ Q3 s m rs h k⟩
 | _=>exact False.elim h
theorem yc0 {i:Nat} {x:Str} {pos':Pos} (hN:X.N.Nodup) (he:RE X e te) (hi:X.N[i]?=some x:=by rfl) (hx:Loc X.env.scope x:=by first | exact Or.inl rfl | exact Or.inr rfl) (hs:swapsWith e (some (.Name x pos')) pos.line X.env=pure false:=by rfl)
    (hf:X.fn x=true \/ X.env.scope.names.lookup x=some .local:=by first | exact .inl rfl | exact .inr rfl):RS X (.Assign [.Name x pos'] e pos) (set3 i te):=by
 obtain ⟨va,pa,ra⟩:=he
 exact ⟨_,sb2 hN hi hx pa hs hf,λ σ H D ρ μ D3 s m h k=>ra σ H _ ρ μ _ s m h λ d μ1 v H1 h1 k1 r1 m1=>k.nx _ _ _ _ h1 k1 ((s.mono k1).set i r1) m1⟩
theorem wx0 {tg:Expr} {g:TG3} (he:RE X e te) (hg:RG X tg g) (hs:swapsWithSole [tg] e pos.line X.env=pure false:=by rfl) (hw:swappedStores [tg] e X.env=pure none:=by rfl)
    (h1:(assignEach [tg] X.env).map (·.2)=[assign tg X.env]:=by rfl):RS X (.Assign [tg] e pos) (asg3 te g):=by
 obtain ⟨va,pa,ra⟩:=he
 obtain ⟨vg,pg,rg⟩:=hg
 exact ⟨_,xe4 pa pg hs hw h1,λ σ H D ρ μ D3 s m h k=>ra σ H _ ρ μ _ s m h λ d μ1 v H1 h1 k1 r1 m1=>rg v d σ H1 _ ρ μ1 _ (s.mono k1) m1 r1 h1 λ ρ' μ' σ' H' q e=>k.nx ρ' μ' σ' H' q (k1.trans e)⟩
theorem si4 (n:Nat) (i:Int):L2.ixN n i=ixN n i:=rfl
theorem sv2 {o i:Expr} {to ti:TE3} (ho:RE X o to) (hi:RE X i ti)
    (ha:∀ v,assign (.Subscript o i pos) X.env v=(do
     let ov <- holding [v] (eval o X.env)
     let iv <- holding [v,ov] (eval i X.env)
     standAt pos
     holding [v,ov,iv] (setItem ov iv v)
     release [v,ov,iv] []):=by intro _; rfl):RG X (.Subscript o i pos) (sub3 to ti):=by
 obtain ⟨va,pa,ra⟩:=ho
 obtain ⟨vb,pb,rb⟩:=hi
 refine ⟨_,we4 pa pb wa1 ha,λ v d σ H Q ρ μ Q3 s m r h k=>ra σ H _ ρ μ _ s m h λ o' μ1 ov H1 h1 k1 r1 m1=>rb σ H1 _ ρ μ1 _ (s.mono k1) m1 h1 λ i' μ2 iv H2 h2 k2 r2 m2=>?_⟩
 cases r1 with
 | ref p =>
  cases r2 with
  | int kk =>
   dsimp only at h2
   cases e:μ2 p with
   | none=>rw [e] at h2; exact h2.elim
   | some oo =>
    cases oo with
    | ins _ _=>rw [e] at h2; exact h2.elim
    | dct _=>rw [e] at h2; exact h2.elim
    | dcl _=>rw [e] at h2; exact h2.elim
    | dck _=>rw [e] at h2; exact h2.elim
    | lst xs =>
     rw [e] at h2
     dsimp only at h2
     cases e2:ixN xs.length kk with
     | none=>rw [e2] at h2; exact h2.elim
     | some j =>
      rw [e2] at h2
      obtain ⟨vs,hv,rv⟩:=m2 p xs e
      have kk':=k1.trans k2
      refine ⟨p,vs,kk,j,rfl,rfl,hv,by rw [<- rv.length]; exact e2,k _ _ _ _ h2 (kk'.trans (Kp.wr hv)) (s.mono (kk'.trans (Kp.wr hv))) (m2.wr hv (rv.set (r.mono kk') j))⟩
  | _=>exact False.elim h2
 | _=>cases r2 <;> exact False.elim h2
end
end Pv
namespace Pv
open PySem PySem.Spec PyProof.Rows L2
def ItOk (K:Fg) (J:It) (l:List D) (S:Mu->Prop) (H0:Hp):Prop:=∀ i H μ,Kp H0 H->RelM K μ H->S μ ->
 (∀ d,l[i]?=some d->J.go i H /\ ∀ x H2,J.yld i H x H2->Kp H H2 /\ RelM K μ H2 /\ RelD K H2 d x) /\ (l.length<=i->J.stop i H)
def RdI (K:Fg) (wi:TI) (ti:TI3):Prop:=∀ σ H R ρ μ R3,RSt K H ρ σ->RelM K μ H->ti ρ μ R3->(∀ l S μ' J H',R3 l S μ'->Kp H H'->RelM K μ' H'->ItOk K J l S H'->R J H')->wi σ H R
def RI (X:Cx) (tg iter:Expr) (ti:TI3):Prop:=∃ wi,PI X tg iter wi /\ RdI X.K wi ti
section
variable {X:Cx} {tg iter a b c e:Expr} {ta tb te:TE3} {pos:Pos}
def Its (z:Str):It:=⟨λ i _=>i < z.cps.size,λ i H x H'=>H'=H /\ ∃ c,z.cps[i]?=some c /\ x=.str ⟨#[c]⟩,λ i _=>z.cps.size<=i⟩
theorem um1 {P:Program} {w:World} {K:Fg} {tg:Expr} (T:String) (x:Str) (t:Tok) (it:Addr)
    (hT:["enumerate", "zip", "dict_itemiterator", "dict_reverseitemiterator", "odict_iterator", "itertools.zip_longest", "itertools.pairwise"].contains T=false)
    (W:∀ A:Around,A.handled=none->Walks P w A it [it] [it] x.cps.size (SignAt x) (λ i h=>h.IsStrIter it T x t i))
    (sf:∀ (A:Around) (i:Nat) (s:Shared) (Q:Value->Shared->Prop) (E:Value->Shared->Prop),s.heap.IsStrIter it T x t i->Q (.ref it) s->wpAny (model P w) A (pyIter (.ref it)) Q E s) :
    Turn P w K tg (Its x) [it] it (λ i h=>h.IsStrIter it T x t i /\ i<=x.cps.size) where
 mem:=by simp
 obj:=λ i h st b hb=>by
  have e:b=it:=by simpa using hb
  subst e
  obtain ⟨⟨o,e,c,d⟩,_⟩:=st
  exact ⟨o,e,λ v z=>by rw [d] at z; cases z⟩
 keep:=λ i h h' st k=>by
  obtain ⟨⟨o,e,c,d⟩,l⟩:=st
  exact ⟨⟨o,k it (by simp) o e,c,d⟩,l⟩
 item:=by
  intro X hP hw hK hc i pins s σ H E I hf st hg
  subst hP hw hK
  obtain ⟨f0,f1,f2,f3,f4,f5⟩:=hf it (by simp)
  refine (W X.A (I.ok.hd hc)).item i s _ E hg st.1 λ v h' tk hP hst' hk=>?_
  obtain ⟨c,u,ec,rfl⟩:=hP
  have I1:Inv X pins σ H { s with heap:=h',toks:=tk }:=I.turned (t':=tk) (λ b o hb e=>hk b o (by simpa using hb) e) f0 f1 f3 f4 f5
  obtain ⟨o,e,c1,d⟩:=id hst'
  exact ⟨_,rfl,vf2 (s:={ s with heap:=h',toks:=tk }) e c1 d hT ⟨.str ⟨#[c]⟩,H,I1,⟨u,rfl⟩,⟨rfl,c,ec,rfl⟩,⟨hst',hg⟩,λ b hb=>(hf b hb).1⟩⟩
 done:=by
  intro X hP hw hK hc i pins s σ H E I hf st hg
  subst hP hw hK
  have hg':x.cps.size<=i:=hg
  obtain ⟨f0,f1,f2,f3,f4,f5⟩:=hf it (by simp)
  have e1:i=x.cps.size:=Nat.le_antisymm st.2 hg'
  subst e1
  exact (W X.A (I.ok.hd hc)).done s _ E st.1 λ h' tk hk=>⟨rfl,I.turned (t':=tk) (λ b o hb e=>hk b o (by simpa using hb) e) f0 f1 f3 f4 f5⟩
 self:=λ A i s Q E st h=>sf A i s Q E st.1 h
def iSeq (K:Fg) (tl:TE):TI:=λ σ H R=>tl σ H λ x H1=>(∃ z,x=.str z /\ R (Its z) H1) \/ ∃ a,x=.ref a /\ (((∃ xs,SqL K H1 a xs) /\ R (Itl K a) H1) \/ ((∃ xs,SqT K H1 a xs) /\ R (Itt K a) H1))
theorem ye4 {l:Expr} {tl:TE} (hl:PE X l tl):PI X tg l (iSeq X.K tl):=by
 intro pins s σ H R I h
 refine thn (hl pins s σ H _ I h) λ v s1 ⟨x,H1,I1,r1,q1⟩=>?_
 have fp:∀ b ∈ [s1.heap.objs.size],FpOk X pins H1 b:=λ b hb=>by
  have e:b=s1.heap.objs.size:=by simpa using hb
  subst e
  exact I1.fpOk (Nat.le_refl _) (I1.hok.fresh (Nat.le_refl _))
 rcases q1 with ⟨z,e,q⟩ | ⟨a,e,q⟩
 ·subst e
  obtain ⟨t,rfl⟩:=r1
  cases ha:z.cps.all (· < 128)
  ·refine wpAny_pyIter_wide ha ?_
   exact ⟨s1.heap.objs.size,[s1.heap.objs.size],_,_,H1,rfl,I1.kept (t':=s1.toks) λ b o e=>Heap.get?_push_of_some _ e,um1 "str_iterator" z t _ (by decide) (λ A hA=>Walks.strWide hA _ z t) (λ _ _ _ _ _ st h=>wpAny_pyIter_striter_wide st h),⟨⟨_,Heap.get?_push_size _ rfl,rfl,rfl⟩,Nat.zero_le _⟩,fp,q⟩
  ·refine wpAny_pyIter_ascii ha ?_
   exact ⟨s1.heap.objs.size,[s1.heap.objs.size],_,_,H1,rfl,I1.kept (t':=s1.toks) λ b o e=>Heap.get?_push_of_some _ e,um1 "str_ascii_iterator" z t _ (by decide) (λ A hA=>Walks.strAscii hA _ z t) (λ _ _ _ _ _ st h=>wpAny_pyIter_striter_ascii st h),⟨⟨_,Heap.get?_push_size _ rfl,rfl,rfl⟩,Nat.zero_le _⟩,fp,q⟩
 subst e
 cases r1
 rcases q with ⟨⟨xs,hq⟩,q⟩ | ⟨⟨xs,hq⟩,q⟩
 ·obtain ⟨its,rv,p,hz⟩:=I1.list hq
  refine wpAny_pyIter_list p.isList ?_
  exact ⟨s1.heap.objs.size,[s1.heap.objs.size],_,_,H1,rfl,I1.kept (t':=s1.toks) λ b o e=>Heap.get?_push_of_some _ e,vx1 a _,⟨_,Heap.get?_push_size _ rfl,rfl,rfl⟩,fp,q⟩
 ·obtain ⟨its,rv,p,hz⟩:=I1.tuple hq
  refine wpAny_pyIter_tuple (show s1.heap.IsTuple a its.toArray from p) ?_
  exact ⟨s1.heap.objs.size,[s1.heap.objs.size],_,_,H1,rfl,I1.kept (t':=s1.toks) λ b o e=>Heap.get?_push_of_some _ e,tr1 a _,⟨_,Heap.get?_push_size _ rfl,rfl,rfl⟩,fp,q⟩
theorem yr2 {K:Fg} {H0:Hp} {a:Addr} {l:List D} {vs:List V} (h:SqT K H0 a vs) (r:RelDs K H0 l vs):ItOk K (Itt K a) l (λ _=>True) H0:=λ i H μ k m _=>by
 refine ⟨λ d e=>?_,λ hl=>⟨vs,SqT.mono k h,by rw [<- r.length]; exact hl⟩⟩
 obtain ⟨v,e1,r1⟩:=r.get e
 refine ⟨⟨vs,v,SqT.mono k h,e1⟩,λ x H2 y=>?_⟩
 obtain ⟨rfl,y⟩:=y
 have e2:=y vs (SqT.mono k h)
 rw [e1] at e2; cases e2
 exact ⟨Kp.refl _,m,r1.mono k⟩
theorem vr2 {K:Fg} {H0:Hp} {a:Addr} {l:List D} {vs:List V} (h:SqF K H0 a vs) (r:RelDs K H0 l vs):ItOk K (Itl K a) l (λ _=>True) H0:=λ i H μ k m _=>by
 refine ⟨λ d e=>?_,λ hl=>⟨vs,(SqF.mono k h).l,by rw [<- r.length]; exact hl⟩⟩
 obtain ⟨v,e1,r1⟩:=r.get e
 refine ⟨⟨vs,v,(SqF.mono k h).l,e1⟩,λ x H2 y=>?_⟩
 obtain ⟨rfl,y⟩:=y
 have e2:=y vs (SqF.mono k h).l
 rw [e1] at e2; cases e2
 exact ⟨Kp.refl _,m,r1.mono k⟩
theorem wr2 {K:Fg} {H0:Hp} {a:Addr} {l:List D}:ItOk K (Itl K a) l (λ μ=>μ a=some (.lst l)) H0:=λ i H μ k m s=>by
 obtain ⟨vs,h,r⟩:=m a l s
 refine ⟨λ d e=>?_,λ hl=>⟨vs,SqL.of h,by rw [<- r.length]; exact hl⟩⟩
 obtain ⟨v,e1,r1⟩:=r.get e
 refine ⟨⟨vs,v,SqL.of h,e1⟩,λ x H2 y=>?_⟩
 obtain ⟨rfl,y⟩:=y
 have e2:=y vs (SqL.of h)
 rw [e1] at e2; cases e2
 exact ⟨Kp.refl _,m,r1⟩
theorem zr2 {K:Fg} {H0:Hp} (z:Str):ItOk K (Its z) (z.cps.toList.map λ c=>D.str ⟨#[c]⟩) (λ _=>True) H0:=λ i H μ k m _=>by
 refine ⟨λ d e=>?_,λ hl=>by show z.cps.size<=i; simpa using hl⟩
 rw [getElem?_map,getElem?_toList] at e
 cases ec:z.cps[i]? with
 | none=>rw [ec] at e; cases e
 | some c =>
  rw [ec] at e
  cases e
  refine ⟨?_,λ x H2 y=>?_⟩
  ·show i < z.cps.size
   rcases Nat.lt_or_ge i z.cps.size with h | h
   ·exact h
   ·rw [getElem?_eq_none h] at ec; cases ec
  ·obtain ⟨rfl,c',ec',rfl⟩:=y
   rw [ec] at ec'; cases ec'
   exact ⟨Kp.refl _,m,.str _⟩
theorem xh0 (ha:RE X a ta):RI X tg a (is3 ta):=by
 obtain ⟨va,pa,ra⟩:=ha
 refine ⟨_,ye4 pa,λ σ H R ρ μ R3 s m h k=>ra σ H _ ρ μ _ s m h λ d μ1 v H1 h1 k1 r1 m1=>?_⟩
 cases r1 with
 | str z=>exact .inl ⟨z,rfl,k _ _ _ _ _ h1 k1 m1 (zr2 z)⟩
 | tup hq rs=>exact .inr ⟨_,rfl,.inr ⟨⟨_,(SqT.of hq)⟩,k _ _ _ _ _ h1 k1 m1 (yr2 (SqT.of hq) rs)⟩⟩
 | fls hq rs=>exact .inr ⟨_,rfl,.inl ⟨⟨_,hq.l⟩,k _ _ _ _ _ h1 k1 m1 (vr2 hq rs)⟩⟩
 | ref p =>
  dsimp only at h1
  cases e:μ1 p with
  | none=>rw [e] at h1; exact h1.elim
  | some oo =>
   cases oo with
   | ins _ _=>rw [e] at h1; exact h1.elim
   | dct _=>rw [e] at h1; exact h1.elim
   | dcl _=>rw [e] at h1; exact h1.elim
   | dck _=>rw [e] at h1; exact h1.elim
   | lst xs =>
    rw [e] at h1
    obtain ⟨vs,hv,rv⟩:=m1 p xs e
    exact .inr ⟨_,rfl,.inl ⟨⟨_,SqL.of hv⟩,k _ _ _ _ _ h1 k1 m1 wr2⟩⟩
 | _=>exact False.elim h1
theorem wn2 (lo:Int) (n i:Nat):(rngD lo n)[i]?=if i < n then some (.int (lo + i)) else none:=by
 unfold rngD
 rw [getElem?_map]
 by_cases h:i < n
 ·rw [List.getElem?_range h,if_pos h]; rfl
 ·rw [List.getElem?_eq_none (by simpa using h),if_neg h]; rfl
theorem zn2 (lo:Int) (n:Nat):(rngD lo n).length=n:=by simp [rngD]
theorem zp1 {K:Fg} {H0:Hp} (lo:Int) (n:Nat):ItOk K (Itr lo n) (rngD lo n) (λ _=>True) H0:=λ i H μ k m _=>by
 refine ⟨λ d e=>?_,λ hl=>by rw [zn2] at hl; exact hl⟩
 rw [wn2] at e
 split at e
 ·next h =>
  cases e
  refine ⟨h,λ x H2 y=>?_⟩
  obtain ⟨rfl,rfl⟩:=y
  exact ⟨Kp.refl _,m,.int _⟩
 ·cases e
theorem xf0 {p:Pos} (hm:X.mg "range" = none) (ha:RE X a ta) (hg:Gl X "range" := by rfl) (hs:starEach [a] X.env=[(false,eval a X.env)]:=by rfl):RI X tg (.Call (.Name "range" p) [a] [] pos) (ir3 (cons3 ta nil3)):=by
 obtain ⟨va,pa,ra⟩:=xa0 ha ua0 hs
 refine ⟨_,tc2 hg hm pa hs,λ σ H R ρ μ R3 s m h k=>ra σ H _ ρ μ _ s m h λ ds μ1 vs H1 h1 k1 r1 m1=>?_⟩
 cases r1 with
 | nil=>exact False.elim h1
 | cons r1 r2 =>
  cases r2 with
  | cons _ _=>cases r1 <;> exact False.elim h1
  | nil =>
   cases r1 with
   | int j=>exact ⟨j,rfl,h1.1.1,h1.1.2,k _ _ _ _ _ h1.2 k1 m1 (zp1 _ _)⟩
   | _=>exact False.elim h1
theorem xa2 {p:Pos} (hm:X.mg "range" = none) (ha:RE X a ta) (hb:RE X b tb) (hg:Gl X "range" := by rfl) (hs:starEach [a,b] X.env=[(false,eval a X.env),(false,eval b X.env)]:=by rfl) (hs2:starEach [b] X.env=[(false,eval b X.env)]:=by rfl) :
    RI X tg (.Call (.Name "range" p) [a,b] [] pos) (ir23 (cons3 ta (cons3 tb nil3))):=by
 obtain ⟨va,pa,ra⟩:=xa0 ha (xa0 hb ua0 hs2) (by rw [hs,hs2])
 refine ⟨_,uc2 hg hm pa hs hs2,λ σ H R ρ μ R3 s m h k=>ra σ H _ ρ μ _ s m h λ ds μ1 vs H1 h1 k1 r1 m1=>?_⟩
 split at h1
 ·next i j =>
  cases r1 with
  | cons r1 r2 =>
   cases r2 with
   | cons r2 r3 =>
    cases r3
    cases r1
    cases r2
    exact ⟨i,j,rfl,h1.1,k _ _ _ _ _ h1.2 k1 m1 (zp1 _ _)⟩
 ·exact h1.elim
theorem yh0 {body:List Stmt} {ti:TI3} {g:TG3} {tb:TS3} (hp:PassesOwn (model X.prog X.w) X.A X.env X.xe) (hc:X.calm=true) (hi:RI X tg iter ti) (hg:RG X tg g) (hb:RSs X body tb)
    (hs:∀ x,foldedSetIterable iter X.env x=pure x:=by intro _; rfl):RS X (.For tg iter body [] pos) (for3 ti g tb):=by
 obtain ⟨wi,pi,ri⟩:=hi
 obtain ⟨vg,pg,rg⟩:=hg
 obtain ⟨vb,pb,rb⟩:=hb
 refine ⟨_,sd4 hp hc pi pg pb hs,λ σ H D ρ μ D3 s m h k=>ri σ H _ ρ μ _ s m h λ l S μ1 J H1 h1 k1 m1 ok=>?_⟩
 refine ⟨λ i n σ2 H2=>n=l.length - i /\ i<=l.length /\ ∃ ρ2 μ2,RSt X.K H2 ρ2 σ2 /\ RelM X.K μ2 H2 /\ Kp H1 H2 /\ vw1 S g tb D3 (l.drop i) ρ2 μ2,⟨l.length,rfl,Nat.zero_le _,ρ,μ1,s.mono k1,m1,Kp.refl _,h1⟩,?_⟩
 rintro i n σ2 H2 ⟨rfl,hi,ρ2,μ2,s2,m2,k2,h2⟩
 by_cases hlt:i < l.length
 ·rw [List.drop_eq_getElem_cons hlt] at h2
  obtain ⟨hS,N,hN,h2⟩:=h2
  obtain ⟨ok1,_⟩:=ok i H2 μ2 k2 m2 hS
  obtain ⟨go,yl⟩:=ok1 l[i] (getElem?_eq_getElem hlt)
  refine .inr ⟨go,λ σ3 H3=>∃ ρ3 μ3,N ρ3 μ3 /\ RSt X.K H3 ρ3 σ3 /\ RelM X.K μ3 H3 /\ Kp H1 H3,λ σ3 H3 ⟨ρ3,μ3,hn,s3,m3,k3⟩=>⟨l.length - (i + 1),by omega,rfl,hlt,ρ3,μ3,s3,m3,k3,hN _ _ hn⟩,λ x H3 y=>?_⟩
  obtain ⟨k3,m3,r3⟩:=yl x H3 y
  refine rg x l[i] σ2 H3 _ ρ2 μ2 _ (s2.mono k3) m3 r3 h2 λ ρ4 μ4 σ4 H4 h4 k4 s4 m4=>?_
  have k14:Kp H1 H4:=k2.trans (k3.trans k4)
  exact rb σ4 H4 _ ρ4 μ4 _ s4 m4 h4 ⟨λ ρ5 μ5 σ5 H5 h5 k5 s5 m5=>⟨ρ5,μ5,h5,s5,m5,k14.trans k5⟩,λ ρ5 μ5 σ5 H5 h5 k5 s5 m5=>k.nx _ _ _ _ h5 (k1.trans (k14.trans k5)) s5 m5,
   λ ρ5 μ5 σ5 H5 h5 k5 s5 m5=>⟨ρ5,μ5,h5,s5,m5,k14.trans k5⟩,λ d μ5 v H5 h5 k5 r5 m5=>k.rt _ _ _ _ h5 (k1.trans (k14.trans k5)) r5 m5⟩
 ·have e:i=l.length:=by omega
  subst e
  rw [List.drop_length] at h2
  obtain ⟨hS,h2⟩:=h2
  exact .inl ⟨(ok _ H2 μ2 k2 m2 hS).2 (Nat.le_refl _),k.nx _ _ _ _ h2 (k1.trans k2) s2 m2⟩
def lift (K:Fg) (sp:Sp3):Sp:=λ vs H Q _=>∃ ds μ Q3,RelDs K H ds vs /\ RelM K μ H /\ sp ds μ Q3 /\ Ks K H Q3 Q
def Cal (P:Program) (w:World) (K:Fg) (mg:Str->Option Value) (base:Heap) (k:Nat) (x:Str) (ps:List Str) (sp:Sp3):Prop :=
 ∃ f fd,FnOk P w K mg base CX0 k f fd ps (lift K sp) /\ mg x=some (.ref f) /\ keepIn K (.ref f)=true /\ Binds K fd ps []
theorem Cal.mono {P:Program} {w:World} {K:Fg} {mg:Str->Option Value} {base:Heap} {j k:Nat} {x:Str} {ps:List Str} {sp:Sp3} (c:Cal P w K mg base j x ps sp) (h:j<=k):Cal P w K mg base k x ps sp:=by
 obtain ⟨f,fd,F,r⟩:=c
 exact ⟨f,fd,F.mono h,r⟩
variable {es:List Expr} {t:TA3} {x:Str} {p:Pos}
theorem ub0 {k:Nat} {ps:List Str} {sp:Sp3} (c:Cal X.prog X.w X.K X.mg X.base k x ps sp) (hr:Room k X.A) (ha:RA X (e :: es) t) (hg:Gl X x:=by rfl) (hdb:(x == ("__debug__" : Str))=false:=by decide)
    (he:starEach (e :: es) X.env=(false,eval e X.env) :: starEach es X.env:=by rfl) (hpl:(backTo pos (starEach es X.env)).any (·.1)=false:=by rfl):RE X (.Call (.Name x p) (e :: es) [] pos) (call3 sp t):=by
 obtain ⟨f,fd,F,hm,hk,hb⟩:=c
 obtain ⟨va,pa,ra⟩:=ha
 refine ⟨_,vk1 F hr hg hm hk hb .nil zt4 pa hdb he hpl,λ σ H Q ρ μ Q3 s m h k=>ra σ H _ ρ μ _ s m h λ ds μ1 vs H1 h1 k1 r1 m1=>?_⟩
 rw [append_nil]
 exact ⟨ds,μ1,Q3,r1,m1,h1,k.after k1⟩
theorem xc0 {r:C3} {id:String} (hc:RC X (.builtin id) r) (hm:X.mg x=none) (hv:bootBuiltins x=some (.builtin id)) (ha:RA X (e :: es) t) (hg:Gl X x:=by rfl) (hn:x ≠ "__name__" := by decide) (hdb:(x == ("__debug__" : Str))=false:=by decide)
    (he:starEach (e :: es) X.env=(false,eval e X.env) :: starEach es X.env:=by rfl) (hpl:(backTo pos (starEach es X.env)).any (·.1)=false:=by rfl):RE X (.Call (.Name x p) (e :: es) [] pos) (call3 r t):=by
 obtain ⟨r',pc,rc⟩:=hc
 obtain ⟨va,pa,ra⟩:=ha
 exact ⟨_,zo1 pc hg hm hv pa hn hdb he hpl,λ σ H Q ρ μ Q3 s m h k=>ra σ H _ ρ μ _ s m h λ ds μ1 vs H1 h1 k1 r1 m1=>rc ds vs H1 Q μ1 Q3 m1 r1 h1 (k.after k1)⟩
theorem wf0 {r:C3} {T:String} (hc:RC X (.type T) r) (hm:X.mg x=none) (hv:bootBuiltins x=some (.type T)) (ha:RA X (e :: es) t) (hg:Gl X x:=by rfl) (hn:x ≠ "__name__" := by decide) (hdb:(x == ("__debug__" : Str))=false:=by decide)
    (he:starEach (e :: es) X.env=(false,eval e X.env) :: starEach es X.env:=by rfl) (hpl:(backTo pos (starEach es X.env)).any (·.1)=false:=by rfl):RE X (.Call (.Name x p) (e :: es) [] pos) (call3 r t):=by
 obtain ⟨r',pc,rc⟩:=hc
 obtain ⟨va,pa,ra⟩:=ha
 exact ⟨_,sc2 pc hg hm hv pa hn hdb he hpl,λ σ H Q ρ μ Q3 s m h k=>ra σ H _ ρ μ _ s m h λ ds μ1 vs H1 h1 k1 r1 m1=>rc ds vs H1 Q μ1 Q3 m1 r1 h1 (k.after k1)⟩
theorem wb0 {r3:R3} (hx:RX X r3) (ha:RE X a ta) (hb:RE X b tb) (hs:zk2 b:=by intro _ _; rfl):RE X (.Subscript a b pos) (o3 r3 ta tb):=by
 obtain ⟨r,po,ro⟩:=hx
 obtain ⟨va,pa,ra⟩:=ha
 obtain ⟨vb,pb,rb⟩:=hb
 exact ⟨_,xt4 po pa pb hs,ra.op rb ro⟩
end
section
variable {P:Program} {w:World} {K:Fg} {mg:Str->Option Value} {base:Heap}
theorem tf2 {x:Str} {st:Stmt} {f:Addr} {fd:FuncData} {N ps:List Str} {k:Nat} {sp:Sp3} {t:TS3} (F:Fun K x x st f fd) (S:FnScope N ps (wa0 st))
    (len:∀ ds μ Q,sp ds μ Q->ds.length=ps.length)
    (body:∀ (cdv:Value) (A:Around) (outer:List Env) (s:Shared) (H:Hp) (E:XK),Room k (A.deeper (envOfC x (wa0 st) s.heap.objs.size f cdv))->RSs (cxOf CX0 P w K mg base N x (wa0 st) f cdv A outer s H E).nox (zb0 st) t)
    (rd:∀ ds μ Q,sp ds μ Q->t { nx:=λ _ μ'=>Q .non μ',rt:=Q } (start3 N ds) μ):FnOk P w K mg base CX0 (k + 1) f fd ps (lift K sp):=by
 refine F.ok S (λ vs H Q E h=>?_) (λ cdv A outer s H vs Q E hr h=>?_)
 ·obtain ⟨ds,μ,Q3,r,m,q,ks⟩:=h
  rw [<- r.length]; exact len _ _ _ q
 ·obtain ⟨ds,μ,Q3,r,m,q,ks⟩:=h
  obtain ⟨tv,p,rt⟩:=body cdv A outer s H E hr
  exact ⟨tv,p,rt _ H _ _ μ _ (RSt.start N r) m (rd ds μ Q3 q) ⟨λ ρ μ' σ H' h' k' s' m'=>ks _ _ _ _ h' k' .non m',λ ρ μ' σ H' h'=>False.elim h',λ ρ μ' σ H' h'=>False.elim h',ks⟩⟩
theorem ye0 {x:Str} {st:Stmt} {f:Addr} {fd:FuncData} {N ps:List Str} {k:Nat} {sp:Sp3} {t:TS3} (F:Fun K x x st f fd) (hm:mg x=some (.ref f)) (hb:Binds K fd ps []) (S:FnScope N ps (wa0 st))
    (len:∀ ds μ Q,sp ds μ Q->ds.length=ps.length)
    (body:∀ (cdv:Value) (A:Around) (outer:List Env) (s:Shared) (H:Hp) (E:XK),Room k (A.deeper (envOfC x (wa0 st) s.heap.objs.size f cdv))->RSs (cxOf CX0 P w K mg base N x (wa0 st) f cdv A outer s H E).nox (zb0 st) t)
    (rd:∀ ds μ Q,sp ds μ Q->t { nx:=λ _ μ'=>Q .non μ',rt:=Q } (start3 N ds) μ):Cal P w K mg base (k + 1) x ps sp :=
 ⟨f,fd,tf2 F S len body rd,hm,F.kp,hb⟩
end
section
variable {X:Cx}
theorem RdO.i0 {K:Fg} {g3:Int->Int->D} {g:Int->Int->V} (hg:∀ i j H,RelD K H (g3 i j) (g i j)):RdO K (rI0 g) (int20 g3):=λ x y v u H Q μ Q3 m rx ry h k=>by
 cases rx with
 | int i =>
  cases ry with
  | int j=>exact ⟨i,j,rfl,rfl,k _ _ _ _ h (Kp.refl _) (hg i j H) m⟩
  | _=>exact False.elim h
 | _=>cases ry <;> exact False.elim h
theorem RdO.i2 {K:Fg} {C:Int->Int->Prop} {g3:Int->Int->D} {g:Int->Int->V} (hg:∀ i j H,RelD K H (g3 i j) (g i j)):RdO K (rI C g) (int2 C g3):=λ x y v u H Q μ Q3 m rx ry h k=>by
 cases rx with
 | int i =>
  cases ry with
  | int j=>exact ⟨i,j,rfl,rfl,h.1,k _ _ _ _ h.2 (Kp.refl _) (hg i j H) m⟩
  | _=>exact False.elim h
 | _=>cases ry <;> exact False.elim h
theorem ug0:RO X (binaryOp .Sub) subR:=⟨_,vf4,RdO.i0 λ _ _ _=>.int _⟩
theorem tn0:RO X (binaryOp .Mod) modR:=⟨_,xg4,RdO.i2 λ _ _ _=>.int _⟩
theorem wo2:RO X (binaryOp .Pow) powR:=⟨_,tf4,RdO.i2 λ _ _ _=>.int _⟩
theorem log2_lt {n k:Nat} (hk:0 < k) (h:n < 2 ^ k):n.log2 < k:=by
 rcases Nat.eq_zero_or_pos n with h0 | hp
 ·rw [h0]; simpa using hk
 ·exact (Nat.log2_lt (Nat.ne_of_gt hp)).mpr h
theorem vp2:OpR X (binaryOp .FloorDiv) (rI (λ _ j=>0 < j /\ j < 2 ^ 120) λ i j=>.int (i / j)):=opI λ i j _ _ _ _ _ hc q=>by
 have h1:(0:Int) < j:=hc.1
 have h2:j < 2 ^ 120:=hc.2
 refine floordiv_int (by omega) (by rw [Int.fdiv_eq_ediv_of_nonneg i (by omega)]; exact q) (.inl (PyProof.noPylong_of_log2 ?_))
 have h3:j.natAbs < 2 ^ 120:=by omega
 exact Nat.lt_trans (log2_lt (by decide) h3) (by decide)
theorem wm0:RO X (binaryOp .FloorDiv) fdivR:=⟨_,vp2,RdO.i2 λ _ _ _=>.int _⟩
theorem CMul.mulok {i j:Int} (h:CMul i j):IntMulOk i j:=by
 rcases h with h | ⟨h1,h2⟩
 ·exact L2.CMul.ok h
 ·unfold IntMulOk
  intro e
  rw [Bool.and_eq_true] at e
  have e2:=e.2
  unfold Builtin.Int.intTooBig at e2
  have hb:∀ x:Int,x.natAbs < Big->Builtin.Int.intBits x<=1000:=λ x hx=>by
   unfold Builtin.Int.intBits
   split
   ·exact Nat.zero_le _
   ·exact log2_lt (by decide) hx
  have b1:=hb i h1
  have b2:=hb j h2
  have e3:=of_decide_eq_true e2
  have e4:(2000:Nat) < bitsLine:=by decide
  omega
theorem op_mulB:OpR X (binaryOp .Mult) (rI CMul λ i j=>.int (i * j)):=opI λ _ _ _ _ _ _ _ hc q=>mul_int q hc.mulok
theorem vb2:RU X (unaryOp .USub) negR:=⟨_,tp3,λ x v H Q μ Q3 m r h k=>by
 cases r with
 | int i=>exact ⟨i,rfl,k _ _ _ _ h (Kp.refl _) (.int _) m⟩
 | _=>exact False.elim h⟩
theorem q_lt:RO X (compareOp .Lt) ltR:=⟨_,wt4,RdO.i0 λ _ _ _=>.bl _⟩
theorem q_gt:RO X (compareOp .Gt) gtR:=⟨_,vt4,RdO.i0 λ _ _ _=>.bl _⟩
def ur4 (K:Fg):R2:=λ x y H Q=>∃ a b xs ys,x=.ref a /\ y=.ref b /\ SqT K H a xs /\ SqT K H b ys /\ xs.length + ys.length<=sizeLine ∧
 (xs=[]->Q (.ref b) H) /\ (ys=[]->Q (.ref a) H) /\ (∀ p,H p=none->Q (.ref p) (upd H p (.tup (xs ++ ys))))
theorem si3:OpR X (binaryOp .Add) (ur4 X.K):=by
 intro pins s σ H x y v u Q I rx ry h
 obtain ⟨a,b,xs,ys,rfl,rfl,ha,hb,hz,q1,q2,q3⟩:=h
 by_cases hx:xs=[]
 ·cases rx
  cases ry
  obtain ⟨its,r,ht,_⟩:=I.tuple ha
  obtain ⟨its2,r2,ht2,_⟩:=I.tuple hb
  have hi:its=[]:=by subst hx; cases r; rfl
  obtain ⟨⟨cls,dd,data,sl⟩,ho,hc,n,hd⟩:=id ht
  obtain ⟨⟨cls2,dd2,data2,sl2⟩,ho2,hc2,n2,hd2⟩:=id ht2
  simp only at hc hd hc2 hd2
  subst hc hd hc2 hd2
  exact concat_meets ⟨_,ho,rfl⟩ ⟨_,ho2,rfl⟩ noFill_tuple_add seq_tuple_add slot_tuple_add entry_tuple_add (args_tuple_add_2 _ _)
   (tuple_addW0 a b its.toArray its2.toArray n n2 dd dd2 sl sl2 (by simp [hi])) ⟨ho,ho2,⟨.ref b,H,I,rfl,q1 hx⟩⟩
 ·exact ti3 pins s σ H _ _ v u Q I rx ry ⟨a,b,xs,ys,rfl,rfl,ha,hb,hx,hz,q2,λ _=>q3⟩
theorem ze0:RO X (binaryOp .Add) addR:=by
 refine ⟨_,(op_add.or vv1).or (op_cat.or si3),λ x y v u H Q μ Q3 m rx ry h k=>?_⟩
 cases rx with
 | int i =>
  cases ry with
  | int j=>exact .inl (.inl ⟨i,j,rfl,rfl,k _ _ _ _ h (Kp.refl _) (.int _) m⟩)
  | _=>exact False.elim h
 | str i =>
  cases ry with
  | str j=>exact .inl (.inr ⟨i,j,rfl,rfl,h.1,k _ _ _ _ h.2 (Kp.refl _) (.str _) m⟩)
  | _=>exact False.elim h
 | ref p =>
  cases ry with
  | ref q =>
   dsimp only [addR] at h
   cases e:μ p with
   | none=>rw [e] at h; exact h.elim
   | some oo =>
    cases oo with
    | ins _ _=>rw [e] at h; exact h.elim
    | dct _=>rw [e] at h; exact h.elim
    | dcl _=>rw [e] at h; exact h.elim
    | dck _=>rw [e] at h; exact h.elim
    | lst xs =>
     cases e2:μ q with
     | none=>rw [e,e2] at h; exact h.elim
     | some o2 =>
      cases o2 with
      | ins _ _=>rw [e,e2] at h; exact h.elim
      | dct _=>rw [e,e2] at h; exact h.elim
      | dcl _=>rw [e,e2] at h; exact h.elim
      | dck _=>rw [e,e2] at h; exact h.elim
      | lst ys =>
       rw [e,e2] at h
       obtain ⟨vs,hv,rv⟩:=m p xs e
       obtain ⟨us,hu,ru⟩:=m q ys e2
       refine .inr (.inl ⟨p,q,vs,us,rfl,rfl,hv,hu,by rw [<- rv.length,<- ru.length]; exact h.1,λ t ht=>?_⟩)
       exact k _ _ _ _ (h.2 t (m.free ht)) (Kp.new ht) (.ref t) (m.newL ht (rv.append ru))
  | _=>exact False.elim h
 | tup hq rs =>
  cases ry with
  | tup hq2 rs2 =>
   rename_i a l vs b l2 us
   refine .inr (.inr ⟨a,b,vs,us,rfl,rfl,(SqT.of hq),(SqT.of hq2),by rw [<- rs.length,<- rs2.length]; exact h.1,λ e=>?_,λ e=>?_,λ t ht=>?_⟩)
   ·subst e; cases rs
    exact k _ _ _ _ h.2 (Kp.refl _) (.tup hq2 rs2) m
   ·subst e; cases rs2
    have h2:=h.2
    rw [append_nil] at h2
    exact k _ _ _ _ h2 (Kp.refl _) (.tup hq rs) m
   ·exact k _ _ _ _ h.2 (Kp.new ht) (.tup wd0 ((rs.append rs2).mono (Kp.new ht))) (m.newT ht)
  | _=>exact False.elim h
 | _=>cases ry <;> exact False.elim h
theorem RelDs.atI {K:Fg} {H:Hp} {l:List D} {vs:List V} {i:Int} {d:D} (r:RelDs K H l vs) (e:Pv.atI l i=some d):∃ v,L2.atI vs i=some v /\ RelD K H d v:=by
 unfold Pv.atI at e
 unfold L2.atI
 rw [si4,<- r.length]
 cases q:ixN l.length i with
 | none=>rw [q] at e; cases e
 | some j =>
  rw [q] at e
  exact r.get e
theorem q_ix:RX X ixR:=by
 refine ⟨_,ix_list.or ui4,λ x y v u H Q μ Q3 m rx ry h k=>?_⟩
 cases ry with
 | int i =>
  cases rx with
  | tup hq rs =>
   rename_i a l vs
   dsimp only [ixR] at h
   cases e:Pv.atI l i with
   | none=>rw [e] at h; exact h.elim
   | some d =>
    rw [e] at h
    obtain ⟨w,e1,r1⟩:=rs.atI e
    exact .inr ⟨a,vs,i,w,rfl,rfl,(SqT.of hq),e1,k _ _ _ _ h (Kp.refl _) r1 m⟩
  | ktp hq rs =>
   rename_i a l vs
   dsimp only [ixR] at h
   cases e:Pv.atI l i with
   | none=>rw [e] at h; exact h.elim
   | some d =>
    rw [e] at h
    obtain ⟨w,e1,r1⟩:=rs.atI e
    exact .inr ⟨a,vs,i,w,rfl,rfl,hq,e1,k _ _ _ _ h (Kp.refl _) r1 m⟩
  | fls hq rs =>
   rename_i a l vs
   dsimp only [ixR] at h
   cases e:Pv.atI l i with
   | none=>rw [e] at h; exact h.elim
   | some d =>
    rw [e] at h
    obtain ⟨w,e1,r1⟩:=rs.atI e
    exact .inl ⟨a,vs,i,w,rfl,rfl,hq.l,e1,k _ _ _ _ h (Kp.refl _) r1 m⟩
  | ref p =>
   dsimp only [ixR] at h
   cases e0:μ p with
   | none=>rw [e0] at h; exact h.elim
   | some oo =>
    cases oo with
    | ins _ _=>rw [e0] at h; exact h.elim
    | dct _=>rw [e0] at h; exact h.elim
    | dcl _=>rw [e0] at h; exact h.elim
    | dck _=>rw [e0] at h; exact h.elim
    | lst l =>
     rw [e0] at h
     dsimp only at h
     obtain ⟨vs,hv,rs⟩:=m p l e0
     cases e:Pv.atI l i with
     | none=>rw [e] at h; exact h.elim
     | some d =>
      rw [e] at h
      obtain ⟨w,e1,r1⟩:=rs.atI e
      exact .inl ⟨p,vs,i,w,rfl,rfl,SqL.of hv,e1,k _ _ _ _ h (Kp.refl _) r1 m⟩
  | _=>exact False.elim h
 | _=>cases rx <;> exact False.elim h
theorem wp0 {K:Fg} {H:Hp}:∀ {l:List D} {vs:List V} {zs:List Str},RelDs K H l vs->strs? l=some zs->vs=zs.map V.str
 | _,_,zs,.nil,e=>by simp [strs?] at e; subst e; rfl
 | _,_,zs,.cons h r,e=>by
  cases h with
  | str x =>
   simp only [strs?] at e
   split at e
   ·next ys e1 =>
    simp only [Option.some.injEq] at e
    subst e
    rw [wp0 r e1]; rfl
   ·cases e
  | _=>simp [strs?] at e
theorem yq1 (z:Str) (zs:List Str):inV (.str z) (zs.map V.str)=zs.contains z:=by
 unfold inV
 rw [List.any_map]
 induction zs with
 | nil=>rfl
 | cons y r ih =>
  rw [any_cons,ih,List.contains_cons]
  congr 1
  show (y == z)=(z == y)
  rw [Bool.eq_iff_iff,beq_iff_eq,beq_iff_eq]
  exact eq_comm
theorem wh1 (zs:List Str):(zs.map V.str).all sc1=true:=by
 rw [List.all_map,List.all_eq_true]; intro _ _; rfl
theorem vb1:RC X (.builtin "len") lenR:=by
 refine ⟨_,call_len_seq.or yi1,λ xs vs H Q μ Q3 m r h k=>?_⟩
 cases r with
 | nil=>exact False.elim h
 | cons r1 r2 =>
  cases r2 with
  | cons _ _=>cases r1 <;> exact False.elim h
  | nil =>
   cases r1 with
   | tup hq rs =>
    rename_i a l vs
    refine .inl ⟨a,vs,rfl,.inr (SqT.of hq),?_⟩
    rw [<- rs.length]
    exact k _ _ _ _ h (Kp.refl _) (.int _) m
   | fls hq rs =>
    rename_i a l vs
    refine .inl ⟨a,vs,rfl,.inl hq.l,?_⟩
    rw [<- rs.length]
    exact k _ _ _ _ h (Kp.refl _) (.int _) m
   | str z=>exact .inr ⟨z,rfl,h.1,k _ _ _ _ h.2 (Kp.refl _) (.int _) m⟩
   | ref p =>
    dsimp only [lenR] at h
    cases e:μ p with
    | none=>rw [e] at h; exact h.elim
    | some oo =>
     cases oo with
     | ins _ _=>rw [e] at h; exact h.elim
     | dct _=>rw [e] at h; exact h.elim
     | dcl _=>rw [e] at h; exact h.elim
     | dck _=>rw [e] at h; exact h.elim
     | lst l =>
      rw [e] at h
      obtain ⟨vs,hv,rs⟩:=m p l e
      refine .inl ⟨p,vs,rfl,.inl (SqL.of hv),?_⟩
      rw [<- rs.length]
      exact k _ _ _ _ h (Kp.refl _) (.int _) m
   | _=>exact False.elim h
theorem wb1:RC X (.type "tuple") tupR:=by
 refine ⟨_,td1,λ xs vs H Q μ Q3 m r h k=>?_⟩
 cases r with
 | nil=>exact False.elim h
 | cons r1 r2 =>
  cases r2 with
  | cons _ _=>cases r1 <;> exact False.elim h
  | nil =>
   cases r1 with
   | tup hq rs=>exact ⟨_,_,rfl,.inr ⟨(SqT.of hq),k _ _ _ _ h (Kp.refl _) (.tup hq rs) m⟩⟩
   | ref p =>
    dsimp only [tupR] at h
    cases e:μ p with
    | none=>rw [e] at h; exact h.elim
    | some oo =>
     cases oo with
     | ins _ _=>rw [e] at h; exact h.elim
     | dct _=>rw [e] at h; exact h.elim
     | dcl _=>rw [e] at h; exact h.elim
     | dck _=>rw [e] at h; exact h.elim
     | lst l =>
      rw [e] at h
      obtain ⟨vs,hv,rs⟩:=m p l e
      exact ⟨p,vs,rfl,.inl ⟨SqL.of hv,λ t ht=>k _ _ _ _ h (Kp.new ht) (.tup wd0 (rs.mono (Kp.new ht))) (m.newT ht)⟩⟩
   | _=>exact False.elim h
theorem xq0 {K:Fg} {H:Hp}:∀ {l:List D} {vs:List V} {zs:List Int},RelDs K H l vs->ints? l=some zs->vs=zs.map V.int
 | _,_,zs,.nil,e=>by simp [ints?] at e; subst e; rfl
 | _,_,zs,.cons h r,e=>by
  cases h with
  | int x =>
   simp only [ints?] at e
   split at e
   ·next ys e1 =>
    simp only [Option.some.injEq] at e
    subst e
    rw [xq0 r e1]; rfl
   ·cases e
  | _=>simp [ints?] at e
end
section
variable {X:Cx} {pins:List (Addr × Obj)} {σ:L2.St} {H:Hp} {s:Shared}
mutual
theorem vg0 (I:Inv X pins σ H s):∀ {d:D} {v:V} {p:PyData} {u:Value},RelD X.K H d v->dat d=some p->RelV v u->∃ as,Reads s.heap u p as
 | _,_,p,u,.non,e,r=>by simp only [dat,Option.some.injEq] at e; subst e; cases r; exact ⟨_,Reads.none⟩
 | _,_,p,u,.bl b,e,r=>by simp only [dat,Option.some.injEq] at e; subst e; cases r; exact ⟨_,Reads.bool b⟩
 | _,_,p,u,.int i,e,r=>by simp only [dat,Option.some.injEq] at e; subst e; obtain ⟨t,rfl⟩:=r; exact ⟨_,Reads.int i t⟩
 | _,_,p,u,.str x,e,r=>by
  simp only [dat] at e
  split at e
  ·simp only [Option.some.injEq] at e; subst e; obtain ⟨t,rfl⟩:=r; exact ⟨_,Reads.str x t⟩
  ·cases e
 | _,_,p,u,.ref a,e,r=>by simp [dat] at e
 | _,_,p,u,.ty n,e,r=>by simp [dat] at e
 | _,_,p,u,.fls _ _,e,r=>by simp [dat] at e
 | _,_,p,u,.exc _ _ _,e,r=>by simp [dat] at e
 | _,_,p,u,.tup hq rs,e,r=>by
  simp only [dat] at e
  split at e
  ·next ps e1 =>
   simp only [Option.some.injEq] at e; subst e
   cases r
   obtain ⟨its,rv,⟨o,ho,hc,n,hd⟩,hz⟩:=I.tuple (SqT.of hq)
   obtain ⟨as,q⟩:=sh0 I rs e1 rv
   exact ⟨_,Reads.tuple ho hc hd (by simpa using q)⟩
  ·cases e
 | _,_,p,u,.ktp hq rs,e,r=>by
  simp only [dat] at e
  split at e
  ·next ps e1 =>
   simp only [Option.some.injEq] at e; subst e
   cases r
   obtain ⟨its,rv,⟨o,ho,hc,n,hd⟩,hz⟩:=I.tuple hq
   obtain ⟨as,q⟩:=sh0 I rs e1 rv
   exact ⟨_,Reads.tuple ho hc hd (by simpa using q)⟩
  ·cases e
theorem sh0 (I:Inv X pins σ H s):∀ {l:List D} {vs:List V} {ps:List PyData} {us:List Value},RelDs X.K H l vs->dats l=some ps->Vals vs us->∃ as,ReadsAll s.heap us ps as
 | _,_,ps,us,.nil,e,r=>by simp only [dats,Option.some.injEq] at e; subst e; cases r; exact ⟨_,ReadsAll.nil⟩
 | _,_,ps,us,.cons h rs,e,r=>by
  simp only [dats] at e
  split at e
  ·next p e1 =>
   split at e
   ·next qs e2 =>
    simp only [Option.some.injEq] at e; subst e
    cases r with
    | cons r1 r2 =>
     obtain ⟨as,q1⟩:=vg0 I h e1 r1
     obtain ⟨bs,q2⟩:=sh0 I rs e2 r2
     exact ⟨_,ReadsAll.cons q1 q2⟩
   ·cases e
  ·cases e
end
theorem tf0 (I:Inv X pins σ H s) {μ:Mu} (m:RelM X.K μ H) {d:D} {v:V} {p:PyData} {u:Value} (h:RelD X.K H d v) (e:datM μ d=some p) (r:RelV v u):∃ as,Reads s.heap u p as:=by
 cases h with
 | ref a =>
  simp only [datM] at e
  split at e
  ·next l e0 =>
   split at e
   ·next ps e1 =>
    simp only [Option.some.injEq] at e; subst e
    cases r
    obtain ⟨vs,hv,rs⟩:=m a l e0
    obtain ⟨its,rv,pl,hz⟩:=I.list (SqL.of hv)
    obtain ⟨o,ho,hc,n,hd⟩:=pl.isList
    obtain ⟨as,q⟩:=sh0 I rs e1 rv
    exact ⟨_,Reads.list ho hc hd (by simpa using q)⟩
   ·cases e
  ·cases e
 | non=>exact vg0 I .non e r
 | bl b=>exact vg0 I (.bl b) e r
 | int i=>exact vg0 I (.int i) e r
 | str x=>exact vg0 I (.str x) e r
 | ty n=>exact vg0 I (.ty n) e r
 | tup hq rs=>exact vg0 I (.tup hq rs) e r
 | ktp hq rs=>exact vg0 I (.ktp hq rs) e r
 | fls hq rs=>exact vg0 I (.fls hq rs) e r
 | exc a1 a2 a3=>simp [datM,dat] at e
mutual
theorem we0:∀ (d:D) (p:PyData),dat d=some p->p.canLay0=true
 | .non,p,e=>by simp only [dat,Option.some.injEq] at e; subst e; rfl
 | .bl b,p,e=>by simp only [dat,Option.some.injEq] at e; subst e; rfl
 | .int b,p,e=>by simp only [dat,Option.some.injEq] at e; subst e; rfl
 | .str x,p,e=>by
  simp only [dat] at e
  split at e
  ·next h=>simp only [Option.some.injEq] at e; subst e; exact h
  ·cases e
 | .tup l,p,e=>by
  simp only [dat] at e
  split at e
  ·next ps e1=>simp only [Option.some.injEq] at e; subst e; simp only [PyData.canLay0]; exact zi0 l ps e1
  ·cases e
 | .ktp l,p,e=>by
  simp only [dat] at e
  split at e
  ·next ps e1=>simp only [Option.some.injEq] at e; subst e; simp only [PyData.canLay0]; exact zi0 l ps e1
  ·cases e
 | .fls _,p,e=>by simp [dat] at e
 | .ref _,p,e=>by simp [dat] at e
 | .ty _,p,e=>by simp [dat] at e
theorem zi0:∀ (l:List D) (ps:List PyData),dats l=some ps->PyData.canLayAll0 ps=true
 | [],ps,e=>by simp only [dats,Option.some.injEq] at e; subst e; rfl
 | d :: r,ps,e=>by
  simp only [dats] at e
  split at e
  ·next p e1 =>
   split at e
   ·next qs e2 =>
    simp only [Option.some.injEq] at e; subst e
    simp only [PyData.canLayAll0,Bool.and_eq_true]
    exact ⟨we0 d p e1,zi0 r qs e2⟩
   ·cases e
  ·cases e
end
theorem xm1 {μ:Mu} {d:D} {p:PyData} (e:datM μ d=some p):p.canLay0=true:=by
 cases d with
 | ref a =>
  simp only [datM] at e
  split at e
  ·next l e0 =>
   split at e
   ·next ps e1=>simp only [Option.some.injEq] at e; subst e; simp only [PyData.canLay0]; exact zi0 l ps e1
   ·cases e
  ·cases e
 | non=>exact we0 _ p e
 | bl b=>exact we0 _ p e
 | int i=>exact we0 _ p e
 | str x=>exact we0 _ p e
 | ty n=>exact we0 _ p e
 | tup l=>exact we0 _ p e
 | ktp l=>exact we0 _ p e
 | fls l=>exact we0 _ p e
 | exc c=>simp [datM,dat] at e
theorem uc0 {μ:Mu} {d:D} {p:PyData} (e:datM μ d=some p) (h:p.depth<=64):PySem.SeqAt.shaped p=true:=by
 unfold PySem.SeqAt.shaped
 rw [xm1 e,decide_eq_true h]; rfl
def rEqD (K:Fg) (neg:Bool):R2:=λ x y H Q=>∃ d e μ p q,RelM K μ H /\ RelD K H d x /\ RelD K H e y /\ datM μ d=some p /\ datM μ e=some q /\ p.depth<=64 /\ q.depth<=64 /\ Q (.bl (if neg then !PyData.eqv p q else PyData.eqv p q)) H
theorem vg4 (hu:X.A.units + 64 < cLine):OpR X (compareOp .Eq) (rEqD X.K false):=by
 intro pins s σ H x y v u Q I rx ry h
 obtain ⟨d,e,μ,p,q,m,rd,re,e1,e2,h1,h2,k⟩:=h
 obtain ⟨as,q1⟩:=tf0 I m rd e1 rx
 obtain ⟨bs,q2⟩:=tf0 I m re e2 ry
 exact eq_dataH q1 q2 (uc0 e1 h1) (uc0 e2 h2) hu ⟨.bl _,H,I,rfl,k⟩
theorem sf4 (hu:X.A.units + 64 < cLine):OpR X (compareOp .NotEq) (rEqD X.K true):=by
 intro pins s σ H x y v u Q I rx ry h
 obtain ⟨d,e,μ,p,q,m,rd,re,e1,e2,h1,h2,k⟩:=h
 obtain ⟨as,q1⟩:=tf0 I m rd e1 rx
 obtain ⟨bs,q2⟩:=tf0 I m re e2 ry
 exact ne_dataH q1 q2 (uc0 e1 h1) (uc0 e2 h2) hu ⟨.bl _,H,I,rfl,k⟩
theorem yk4 {K:Fg} {H:Hp} {x y:D} {v u:V} {c:Bool} (rx:RelD K H x v) (ry:RelD K H y u) (e:eqS x y=some c):scal v u=true /\ decide (v=u)=c:=by
 unfold eqS at e
 split at e <;> first | (cases e; done) | (cases rx; cases ry; cases e; exact ⟨rfl,rfl⟩) | (cases rx; cases ry; cases e; refine ⟨rfl,?_⟩; simp)
theorem hu64 {A:Around} {k:Nat} (hr:Room k A):A.units + 64 < cLine:=by have:=hr.un; omega
def rInD (K:Fg) (neg:Bool):R2:=λ x y H Q=>∃ d e μ p xs,∃ b:Bool,RelM K μ H /\ RelD K H d x /\ RelD K H e y /\ datM μ d=some p /\ datM μ e=some (if b then .list xs else .tuple xs) /\ p.depth<=64 /\ (if b then PyData.list xs else PyData.tuple xs).depth<=64 ∧
 Q (.bl (if neg then !(xs.any λ e=>PyData.eqv e p) else xs.any λ e=>PyData.eqv e p)) H
theorem zg4 (hu:X.A.units + 65 < cLine):OpR X (compareOp .In) (rInD X.K false):=by
 intro pins s σ H x y v u Q I rx ry h
 obtain ⟨d,e,μ,p,xs,b,m,rd,re,e1,e2,h1,h2,k⟩:=h
 obtain ⟨as,q1⟩:=tf0 I m rd e1 rx
 obtain ⟨bs,q2⟩:=tf0 I m re e2 ry
 cases b
 ·exact PySem.SeqAt.in_tuple_reads q2 q1 (PySem.SeqAt.canLay_of_shaped (uc0 e2 h2)) (PySem.SeqAt.canLay_of_shaped (uc0 e1 h1)) (room_in_shaped (uc0 e1 h1) hu) ⟨.bl _,H,I,rfl,k⟩
 ·exact PySem.SeqAt.in_list_reads q2 q1 (PySem.SeqAt.canLay_of_shaped (uc0 e2 h2)) (PySem.SeqAt.canLay_of_shaped (uc0 e1 h1)) (room_in_shaped (uc0 e1 h1) hu) ⟨.bl _,H,I,rfl,k⟩
theorem vd2 (hu:X.A.units + 65 < cLine):OpR X (compareOp .NotIn) (rInD X.K true):=by
 intro pins s σ H x y v u Q I rx ry h
 obtain ⟨d,e,μ,p,xs,b,m,rd,re,e1,e2,h1,h2,k⟩:=h
 obtain ⟨as,q1⟩:=tf0 I m rd e1 rx
 obtain ⟨bs,q2⟩:=tf0 I m re e2 ry
 cases b
 ·exact PySem.SeqAt.notIn_tuple_reads q2 q1 (PySem.SeqAt.canLay_of_shaped (uc0 e2 h2)) (PySem.SeqAt.canLay_of_shaped (uc0 e1 h1)) (room_in_shaped (uc0 e1 h1) hu) ⟨.bl _,H,I,rfl,k⟩
 ·exact PySem.SeqAt.notIn_list_reads q2 q1 (PySem.SeqAt.canLay_of_shaped (uc0 e2 h2)) (PySem.SeqAt.canLay_of_shaped (uc0 e1 h1)) (room_in_shaped (uc0 e1 h1) hu) ⟨.bl _,H,I,rfl,k⟩
theorem hu65 {A:Around} {k:Nat} (hr:Room k A):A.units + 65 < cLine:=by have:=hr.un; omega
theorem wk3 {K:Fg} {neg:Bool} {x y:D} {v u:V} {H:Hp} {Q:VK} {μ:Mu} {Q3:VK3} (m:RelM K μ H) (rx:RelD K H x v) (ry:RelD K H y u) (h:inD neg x y μ Q3) (k:Ks K H Q3 Q):rInD K neg v u H Q:=by
 unfold inD at h
 split at h
 ·next d xs e1 e2=>exact ⟨x,y,μ,d,xs,true,m,rx,ry,e1,e2,h.1.1,h.1.2,k _ _ _ _ h.2 (Kp.refl _) (.bl _) m⟩
 ·next d xs e1 e2=>exact ⟨x,y,μ,d,xs,false,m,rx,ry,e1,e2,h.1.1,h.1.2,k _ _ _ _ h.2 (Kp.refl _) (.bl _) m⟩
 ·exact h.elim
theorem RdO.inn {K:Fg} {neg:Bool}:RdO K (λ x y H Q=>(rIn K neg x y H Q \/ ∃ i j,x=.str i /\ y=.str j /\ Q (.bl (if neg then !(!(Builtin.Str.occurrences j i 0 j.length 1).isEmpty) else !(Builtin.Str.occurrences j i 0 j.length 1).isEmpty)) H) \/ rInD K neg x y H Q) (inR neg):=λ x y v u H Q μ Q3 m rx ry h k=>by
 unfold inR at h
 split at h
 ·next z l =>
  cases e:strs? l with
  | none=>rw [e] at h; exact .inr (wk3 m rx ry h k)
  | some zs =>
   rw [e] at h
   cases rx
   cases ry with
   | tup hq rs =>
    rename_i a vs
    have ev:=wp0 rs e
    refine .inl <| .inl ⟨a,vs,rfl,.inr (SqT.of hq),rfl,by rw [ev]; exact wh1 zs,?_⟩
    rw [ev,yq1]
    exact k _ _ _ _ h (Kp.refl _) (.bl _) m
 ·next z l =>
  cases e:strs? l with
  | none=>rw [e] at h; exact .inr (wk3 m rx ry h k)
  | some zs =>
   rw [e] at h
   cases rx
   cases ry with
   | ktp hq rs =>
    rename_i a vs
    have ev:=wp0 rs e
    refine .inl <| .inl ⟨a,vs,rfl,.inr hq,rfl,by rw [ev]; exact wh1 zs,?_⟩
    rw [ev,yq1]
    exact k _ _ _ _ h (Kp.refl _) (.bl _) m
 ·next z y =>
  cases rx
  cases ry
  exact .inl <| .inr ⟨z,y,rfl,rfl,k _ _ _ _ h (Kp.refl _) (.bl _) m⟩
 ·exact .inr (wk3 m rx ry h k)
theorem q_in (hu:X.A.units + 65 < cLine):RO X (compareOp .In) (inR false):=⟨_,(op_in_seq.or ud2).or (zg4 hu),RdO.inn⟩
theorem tf3 (hu:X.A.units + 65 < cLine):RO X (compareOp .NotIn) (inR true):=⟨_,(op_notIn_seq.or yg1).or (vd2 hu),RdO.inn⟩
theorem q_eq (hu:X.A.units + 64 < cLine):RO X (compareOp .Eq) eqR:=by
 refine ⟨_,op_eq.or (vg4 hu),λ x y v u H Q μ Q3 m rx ry h k=>?_⟩
 unfold eqR at h
 cases e:eqS x y with
 | some c =>
  rw [e] at h
  obtain ⟨h1,h2⟩:=yk4 rx ry e
  refine .inl ⟨h1,?_⟩
  rw [h2]
  exact k _ _ _ _ h (Kp.refl _) (.bl _) m
 | none =>
  rw [e] at h
  dsimp only at h
  cases e1:datM μ x with
  | none=>rw [e1] at h; exact h.elim
  | some p =>
   cases e2:datM μ y with
   | none=>rw [e1,e2] at h; exact h.elim
   | some q =>
    rw [e1,e2] at h
    exact .inr ⟨x,y,μ,p,q,m,rx,ry,e1,e2,h.1.1,h.1.2,k _ _ _ _ h.2 (Kp.refl _) (.bl _) m⟩
theorem q_ne (hu:X.A.units + 64 < cLine):RO X (compareOp .NotEq) neR:=by
 refine ⟨_,op_ne.or (sf4 hu),λ x y v u H Q μ Q3 m rx ry h k=>?_⟩
 unfold neR at h
 cases e:eqS x y with
 | some c =>
  rw [e] at h
  obtain ⟨h1,h2⟩:=yk4 rx ry e
  refine .inl ⟨h1,?_⟩
  rw [h2]
  exact k _ _ _ _ h (Kp.refl _) (.bl _) m
 | none =>
  rw [e] at h
  dsimp only at h
  cases e1:datM μ x with
  | none=>rw [e1] at h; exact h.elim
  | some p =>
   cases e2:datM μ y with
   | none=>rw [e1,e2] at h; exact h.elim
   | some q =>
    rw [e1,e2] at h
    exact .inr ⟨x,y,μ,p,q,m,rx,ry,e1,e2,h.1.1,h.1.2,k _ _ _ _ h.2 (Kp.refl _) (.bl _) m⟩
theorem zk3 (K:Fg):∀ t ∈ ["int", "str", "tuple", "bool", "NoneType", "list"],∀ T ∈ ["int", "str", "tuple", "bool", "list"],kitOne K (.type t) (.type T)=some (t == T || (t == "bool" && T == "int")):=by
 intro t ht T hT
 simp only [mem_cons,not_mem_nil,or_false] at ht hT
 rcases ht with rfl | rfl | rfl | rfl | rfl | rfl <;> rcases hT with rfl | rfl | rfl | rfl | rfl <;> with_unfolding_all rfl
theorem xj4 {K:Fg} {t T:String} {b:Bool} (e:isIn t T=some b) (ht:t ∈ ["int", "str", "tuple", "bool", "NoneType", "list"]) (hT:T ∈ ["int", "str", "tuple", "bool", "list"]):kitOne K (.type t) (.type T)=some b:=by
 rw [zk3 K t ht T hT]
 simp only [mem_cons,not_mem_nil,or_false] at ht hT
 rcases ht with rfl | rfl | rfl | rfl | rfl | rfl <;> rcases hT with rfl | rfl | rfl | rfl | rfl <;> simp [isIn] at e <;> subst e <;> rfl
theorem yj4 {t T:String} {b:Bool} (e:isIn t T=some b) (ht:t ∈ ["int", "str", "tuple", "bool", "NoneType", "list"]):T ∈ ["int", "str", "tuple", "bool", "list"] \/ (t=T /\ b=true):=by
 unfold isIn at e
 simp only [mem_cons,not_mem_nil,or_false] at ht ⊢
 split at e
 ·next h=>simp only [Option.some.injEq] at e; exact .inr ⟨h,e.symm⟩
 ·split at e
  ·next h=>rw [h.2]; simp
  ·split at e
   ·next h=>rcases h.2 with rfl | rfl | rfl | rfl | rfl <;> simp
   ·cases e
theorem xr2 (K:Fg) (t:String):kitOne K (.type t) (.type t)=some true:=by
 unfold kitOne
 rw [if_pos (by simp)]
def rIsi (K:Fg):List V->Hp->VK->Prop:=λ xs H Q=>∃ d v μ t T b,xs=[v,.ty T] /\ RelM K μ H /\ RelD K H d v /\ tyN μ d=some t /\ isIn t T=some b /\ Q (.bl b) H
theorem vt2:CallR X (.builtin "isinstance") (rIsi X.K):=by
 intro pins s σ H xs us Q I r h
 obtain ⟨d,v,μ,t,T,b,rfl,m,rd,e1,e2,q⟩:=h
 obtain ⟨u,w',rfl,rx,ry⟩:=sv0 r
 cases ry
 have fin:∀ tk,EP X pins σ Q (.bool b) { s with toks:=tk }:=λ tk=>⟨.bl b,H,I.tok tk,rfl,q⟩
 have hk:∀ t',t' ∈ ["int", "str", "tuple", "bool", "NoneType", "list"]->isIn t' T=some b->kitOne X.K (.type t') (.type T)=some b:=λ t' h1 h2=>by
  rcases yj4 h2 h1 with z | ⟨rfl,rfl⟩
  ·exact xj4 h2 h1 z
  ·exact xr2 _ _
 cases rd with
 | non=>simp only [tyN,Option.some.injEq] at e1; subst e1; cases rx; exact kia_one PySem.W.kitx_none I.kIn True.intro (hk _ (by simp) e2) (λ z=>nomatch z) fin
 | bl y=>simp only [tyN,Option.some.injEq] at e1; subst e1; cases rx; exact kia_one PySem.W.kitx_bool I.kIn True.intro (hk _ (by simp) e2) (λ z=>nomatch z) fin
 | int i=>simp only [tyN,Option.some.injEq] at e1; subst e1; obtain ⟨tk,rfl⟩:=rx; exact kia_one PySem.W.kitx_int I.kIn True.intro (hk _ (by simp) e2) (λ z=>nomatch z) fin
 | str y=>simp only [tyN,Option.some.injEq] at e1; subst e1; obtain ⟨tk,rfl⟩:=rx; exact kia_one PySem.W.kitx_str I.kIn True.intro (hk _ (by simp) e2) (λ z=>nomatch z) fin
 | tup hq rs =>
  simp only [tyN,Option.some.injEq] at e1; subst e1; cases rx
  obtain ⟨its,rv,⟨o,ho,hc,_⟩,hz⟩:=I.tuple (SqT.of hq)
  exact kia_one PySem.W.kitx_tuple I.kIn ⟨o,ho,hc⟩ (hk _ (by simp) e2) (λ z=>nomatch z) fin
 | ref p =>
  simp only [tyN] at e1
  split at e1
  ·next l e0 =>
   simp only [Option.some.injEq] at e1; subst e1; cases rx
   obtain ⟨vs,hv,rs⟩:=m p l e0
   obtain ⟨its,rv,pl,hz⟩:=I.list (SqL.of hv)
   obtain ⟨o,ho,hc,_⟩:=pl.isList
   exact kia_one PySem.W.kitx_list I.kIn ⟨o,ho,hc⟩ (hk _ (by simp) e2) (λ z=>nomatch z) fin
  ·cases e1
 | ty n=>simp [tyN] at e1
 | fls _ _=>simp [tyN] at e1
 | ktp _ _=>simp [tyN] at e1
 | exc _ _ _=>simp [tyN] at e1
theorem ub2:RC X (.builtin "isinstance") isiR:=by
 refine ⟨_,vt2,λ xs vs H Q μ Q3 m r h k=>?_⟩
 cases r with
 | nil=>exact False.elim h
 | cons r1 r2 =>
  cases r2 with
  | nil=>exact False.elim h
  | cons r2 r3 =>
   cases r3 with
   | cons _ _=>cases r2 <;> exact False.elim h
   | nil =>
    cases r2 with
    | ty T =>
     rename_i d v
     dsimp only [isiR] at h
     cases e:tyN μ d with
     | none=>rw [e] at h; exact h.elim
     | some t =>
      rw [e] at h
      dsimp only at h
      cases e2:isIn t T with
      | none=>rw [e2] at h; exact h.elim
      | some b =>
       rw [e2] at h
       exact ⟨d,v,μ,t,T,b,rfl,m,r1,e,e2,k _ _ _ _ h (Kp.refl _) (.bl _) m⟩
    | _=>exact False.elim h
variable {o e:Expr} {es:List Expr} {to:TE3} {t:TA3} {apos cpos:Pos}
theorem ty3 {name:Str} {id:String} {r:V->List V->Hp->VK->Prop} {r3:D->List D->Mu->VK3->Prop} (slot:Slot "list" name id) (hty:typeOf (.builtin id)=pure (.type "method_descriptor")) (hm:MtR X id r)
    (hrd:∀ p xs v vs H Q μ Q3,RelM X.K μ H->RelD X.K H (.ref p) v->RelDs X.K H xs vs->r3 (.ref p) xs μ Q3->Ks X.K H Q3 Q->r v vs H Q) (ho:RE X o to) (ha:RA X (e :: es) t)
    (hbase:attributeBase o name X.env (eval o X.env)=eval o X.env)
    (hfew:((backTo cpos (starEach (e :: es) X.env)).all (λ x=>!x.1) && (backToKw cpos (keywordEach [] X.env)).all (λ x=>x.1.isSome)
     && decide ((e :: es).length + ([]:List Keyword).length + (if ([]:List Keyword).isEmpty then 0 else 1) < 30))=true)
    (hline:(apos.endLine == cpos.line)=true) (hs:starEach (e :: es) X.env=(false,eval e X.env) :: starEach es X.env) (hplain:(backTo cpos (starEach es X.env)).any (·.1)=false) :
    RE X (.Call (.Attribute o name apos) (e :: es) [] cpos) (mt3 r3 to t):=by
 obtain ⟨va,pa,ra⟩:=ho
 obtain ⟨vb,pb,rb⟩:=ha
 refine ⟨_,wi3 PySem.F.plainAttrs_list slot hty hm pa pb hbase hfew hline hs hplain,λ σ H Q ρ μ Q3 s m h k=>ra σ H _ ρ μ _ s m h λ d μ1 v H1 h1 k1 r1 m1=>?_⟩
 cases r1 with
 | ref p =>
  dsimp only at h1
  cases e0:μ1 p with
  | none=>rw [e0] at h1; exact h1.elim
  | some oo =>
   cases oo with
   | ins _ _=>rw [e0] at h1; exact h1.elim
   | dct _=>rw [e0] at h1; exact h1.elim
   | dcl _=>rw [e0] at h1; exact h1.elim
   | dck _=>rw [e0] at h1; exact h1.elim
   | lst l =>
    rw [e0] at h1
    obtain ⟨vs,hv,rs⟩:=m1 p l e0
    refine ⟨.inl ⟨rfl,vs,SqL.of hv⟩,rb σ H1 _ ρ μ1 _ (s.mono k1) m1 h1 λ xs μ2 ys H2 h2 k2 r2 m2=>?_⟩
    exact hrd p xs _ ys H2 Q μ2 Q3 m2 (.ref p) r2 h2 (k.after (k1.trans k2))
 | _=>exact False.elim h1
theorem xt0 (ho:RE X o to) (ha:RA X (e :: es) t) (hbase:attributeBase o "append" X.env (eval o X.env)=eval o X.env:=by rfl)
    (hfew:((backTo cpos (starEach (e :: es) X.env)).all (λ x=>!x.1) && (backToKw cpos (keywordEach [] X.env)).all (λ x=>x.1.isSome)
     && decide ((e :: es).length + ([]:List Keyword).length + (if ([]:List Keyword).isEmpty then 0 else 1) < 30))=true:=by rfl)
    (hline:(apos.endLine == cpos.line)=true:=by rfl) (hs:starEach (e :: es) X.env=(false,eval e X.env) :: starEach es X.env:=by rfl) (hplain:(backTo cpos (starEach es X.env)).any (·.1)=false:=by rfl) :
    RE X (.Call (.Attribute o "append" apos) (e :: es) [] cpos) (mt3 appR to t):=by
 refine ty3 PySem.F.slot_list_append PySem.F.type_list_append vt0 (λ p xs v vs H Q μ Q3 m rp rx h k=>?_) ho ha hbase hfew hline hs hplain
 cases rp
 cases rx with
 | nil=>exact False.elim h
 | cons r1 r2 =>
  cases r2 with
  | cons _ _=>exact False.elim h
  | nil =>
   dsimp only [appR] at h
   cases e0:μ p with
   | none=>rw [e0] at h; exact h.elim
   | some oo =>
    cases oo with
    | ins _ _=>rw [e0] at h; exact h.elim
    | dct _=>rw [e0] at h; exact h.elim
    | dcl _=>rw [e0] at h; exact h.elim
    | dck _=>rw [e0] at h; exact h.elim
    | lst l =>
     rw [e0] at h
     obtain ⟨vs,hv,rs⟩:=m p l e0
     exact ⟨p,vs,_,rfl,rfl,hv,by rw [<- rs.length]; exact h.1,k _ _ _ _ h.2 (Kp.wr hv) .non (m.wr hv (rs.append (.cons r1 .nil)))⟩
theorem sa2 (ho:RE X o to) (ha:RA X (e :: es) t) (hbase:attributeBase o "extend" X.env (eval o X.env)=eval o X.env:=by rfl)
    (hfew:((backTo cpos (starEach (e :: es) X.env)).all (λ x=>!x.1) && (backToKw cpos (keywordEach [] X.env)).all (λ x=>x.1.isSome)
     && decide ((e :: es).length + ([]:List Keyword).length + (if ([]:List Keyword).isEmpty then 0 else 1) < 30))=true:=by rfl)
    (hline:(apos.endLine == cpos.line)=true:=by rfl) (hs:starEach (e :: es) X.env=(false,eval e X.env) :: starEach es X.env:=by rfl) (hplain:(backTo cpos (starEach es X.env)).any (·.1)=false:=by rfl) :
    RE X (.Call (.Attribute o "extend" apos) (e :: es) [] cpos) (mt3 extR to t):=by
 refine ty3 PySem.F.slot_list_extend PySem.F.type_list_extend ye2 (λ p xs v vs H Q μ Q3 m rp rx h k=>?_) ho ha hbase hfew hline hs hplain
 cases rp
 cases rx with
 | nil=>exact False.elim h
 | cons r1 r2 =>
  cases r2 with
  | cons _ _=>cases r1 <;> exact False.elim h
  | nil =>
   cases r1 with
   | ref q =>
    dsimp only [extR] at h
    cases e0:μ p with
    | none=>rw [e0] at h; exact h.elim
    | some oo =>
     cases oo with
     | ins _ _=>rw [e0] at h; exact h.elim
     | dct _=>rw [e0] at h; exact h.elim
     | dcl _=>rw [e0] at h; exact h.elim
     | dck _=>rw [e0] at h; exact h.elim
     | lst l =>
      cases e2:μ q with
      | none=>rw [e0,e2] at h; exact h.elim
      | some o2 =>
       cases o2 with
       | ins _ _=>rw [e0,e2] at h; exact h.elim
       | dct _=>rw [e0,e2] at h; exact h.elim
       | dcl _=>rw [e0,e2] at h; exact h.elim
       | dck _=>rw [e0,e2] at h; exact h.elim
       | lst l2 =>
        rw [e0,e2] at h
        obtain ⟨vs,hv,rs⟩:=m p l e0
        obtain ⟨us,hu,ru⟩:=m q l2 e2
        exact ⟨p,q,vs,us,rfl,rfl,hv,hu,by rw [<- rs.length,<- ru.length]; exact h.1,k _ _ _ _ h.2 (Kp.wr hv) .non (m.wr hv (rs.append ru))⟩
   | _=>exact False.elim h
end
abbrev xd0 (X:Cx) (NN:List Str) (scope:Scope) (cl:List (Str × Addr)) (C:Addr) (fp:List Addr) (s₀:Shared) (H₀:Hp) (pn:List (Addr × Obj)):Cx :=
 { X with N:=NN,s₀:=s₀,H₀:=H₀,env:=compEnvC scope cl C X.env,outer:=X.stack,ex:=fp,fn:=λ _=>false,pn:=pn,xe:=λ _ _=>False }
structure CompSc (X:Cx) (NN:List Str) (scope:Scope) (cl:List (Str × Addr)) (js:List (Option Nat)):Prop where
 clos:closureFor scope X.env=pure cl
 cell:∀ y ∈ scope.names,y.2 ≠ .cell
 kind:scope.kind=.function
 names:∀ y ∈ scope.names,y.2=.local->scope.names.lookup y.1=some .local
 sub:∀ x c,cl.lookup x=some c->X.env.cells.lookup x=some c
 has:∀ x,((relabel scope X.env).names.lookup x=some .cell \/ (relabel scope X.env).names.lookup x=some .free)->∃ c,cl.lookup x=some c
 len:js.length=NN.length
 out:∀ (i j:Nat),js[i]?=some (some j)->∃ x,NN[i]?=some x /\ X.N[j]?=some x /\ Vis X.env.scope x /\ X.env.scope.names.lookup x ≠ some .local /\ ((relabel scope X.env).names.lookup x=some .cell \/ (relabel scope X.env).names.lookup x=some .free)
theorem uh0 {α:Type} {x:Str} {k:α}:∀ {l:List (Str × α)},l.lookup x=some k->(x,k) ∈ l
 | [],h=>by simp at h
 | (n,k') :: r,h=>by
  rw [lookup_cons] at h
  split at h
  ·next e=>simp only [Option.some.injEq] at h; subst h; rw [eq_of_beq e]; exact mem_cons_self
  ·exact mem_cons_of_mem _ (uh0 h)
theorem CompSc.closed {X:Cx} {NN:List Str} {scope:Scope} (hf:∀ y ∈ scope.names,y.2 ≠ .free) (hc:∀ y ∈ scope.names,y.2 ≠ .cell) (hk:scope.kind=.function) (hn:∀ y ∈ scope.names,y.2=.local->scope.names.lookup y.1=some .local) :
    CompSc X NN scope [] (NN.map λ _=>none) where
 clos:=closureFor_none hf
 cell:=hc
 kind:=hk
 names:=hn
 sub:=λ x c h=>by simp at h
 has:=λ x h=>by
  exfalso
  have e:(relabel scope X.env).names=scope.names:=map_eq_self (l:=scope.names) (λ y hy=>by
   obtain ⟨n,k⟩:=y
   have:(k == NameKind.free)=false:=by simpa using hf _ hy
   simp [this])
  rw [e] at h
  rcases h with h | h
  ·exact hc _ (uh0 h) rfl
  ·exact hf _ (uh0 h) rfl
 len:=by simp
 out:=λ i j h=>by
  rw [getElem?_map] at h
  cases q:NN[i]? with
  | none=>rw [q] at h; cases h
  | some y=>rw [q] at h; simp at h
def xo0 (js:List (Option Nat)) (σ:L2.St):L2.St:=js.map λ j=>j.bind λ j=>(σ[j]?).bind id
def PTs (X:Cx) (ifs:List Expr) (t:TT):Prop:=∀ (pins:List (Addr × Obj)) (s:Shared) (σ:L2.St) (H:Hp) (Q:Bool->Hp->Prop),Inv X pins σ H s->t σ H Q ->
 wpAny (model X.prog X.w) X.A (forIn ifs true λ c r=>if r=true then do let ok <- isTrue c X.env (eval c X.env); pure (ForInStep.yield ok) else pure (ForInStep.yield r)) (TP X pins σ Q) X.xe s
theorem yg3 {X:Cx}:PTs X [] (λ _ H Q=>Q true H):=λ _ _ _ H _ I h=>wpAny_tests_nil ⟨H,I,h⟩
def yy1 (js:List (Option Nat)) (wi:TI) (g:TG) (tc:TT) (te:TE):TE:=λ σ H Q=>wi σ H λ J H1=>∀ p,H1 p=none ->
 ∃ W:Nat->Nat->L2.St->Hp->Prop,(∃ m,W 0 m (xo0 js σ) (upd H1 p (.lst []))) /\ ∀ i m σ' H',W i m σ' H' ->
  ((J.stop i H' /\ Q (.ref p) H') \/ (J.go i H' /\ ∀ x H2,J.yld i H' x H2->g x σ' H2 λ σ3 H3=>tc σ3 H3 λ b H4 =>
   if b=true then te σ3 H4 λ y H5=>∃ ys,H5 p=some (.lst ys) /\ ys.length < sizeLine /\ ∃ m',m' < m /\ W (i + 1) m' σ3 (upd H5 p (.lst (ys ++ [y]))) else ∃ m',m' < m /\ W (i + 1) m' σ3 H4))
section
variable {X:Cx} {NN:List Str} {scope:Scope} {cl:List (Str × Addr)} {js:List (Option Nat)}
theorem zm3 {pins:List (Addr × Obj)} {σ:L2.St} {H:Hp} {s:Shared} {fp:List Addr} {pn:List (Addr × Obj)} (hc:X.calm=true) (S:CompSc X NN scope cl js) (I:Inv X pins σ H s) (f:∀ b ∈ fp,FpOk X pins H b /\ b < s.heap.objs.size) :
    (xd0 X NN scope cl s.heap.objs.size fp s H pn).Ok where
 mod:=I.ok.mod
 kind:=S.kind
 glob:=I.ok.glob
 blt:=I.ok.blt
 above:=Nat.le_refl _
 inj:=λ x y c h1 h2=>I.ok.inj x y c (S.sub x c h1) (S.sub y c h2)
 has:=λ x h=>S.has x h
 cab:=λ x c h=>by cases h
 hd:=λ _=>I.ok.hd hc
 frames:=I.ok.frames
 stk:=.inl rfl
 exf:=λ b hb=>⟨Nat.ne_of_lt (f b hb).2,λ x c e=>(f b hb).1.2.2.2.2.1 x c (S.sub x c e)⟩
 bs:=I.bs
 bsz:=Nat.le_trans I.ok.bsz I.sz
 noex:=λ b o e hb=>by
  rcases (f b hb).1.2.2.2.1 with z | z
  ·exact I.ok.noex b o e z
  ·exact absurd (Nat.lt_of_lt_of_le (Heap.lt_size e) (Nat.le_trans I.ok.bsz z)) (Nat.lt_irrefl _)
 exfs:=λ b hb hfs=>by
  rcases List.mem_cons.mp (I.stkSub b hfs) with z | z
  ·exact (f b hb).1.2.1 z
  ·exact (f b hb).1.2.2.1 z
 funs:=I.stack
 frf:=I.stkFree
theorem zf2 {js:List (Option Nat)} {σ:L2.St} {i:Nat} {v:V} (h:(xo0 js σ)[i]?=some (some v)):∃ j,js[i]?=some (some j) /\ σ[j]?=some (some v):=by
 unfold xo0 at h
 rw [getElem?_map] at h
 cases q:js[i]? with
 | none=>rw [q] at h; cases h
 | some o =>
  rw [q] at h
  cases o with
  | none=>simp at h
  | some j =>
   refine ⟨j,rfl,?_⟩
   simp only [Option.map_some,Option.bind_some,Option.some.injEq] at h
   cases e:σ[j]? with
   | none=>rw [e] at h; simp at h
   | some w=>rw [e] at h; simp only [Option.bind_some,id] at h; rw [h]
theorem th1 {pins:List (Addr × Obj)} {σ:L2.St} {H:Hp} {s:Shared} {fp:List Addr} {h₁:Heap} {m:Str->Option Value} {tk:Nat} (hc:X.calm=true) (S:CompSc X NN scope cl js) (I:Inv X pins σ H s) (f:∀ b ∈ fp,FpOk X pins H b /\ b < s.heap.objs.size)
    (hn:h₁.Ns s.heap.objs.size m) (k:∀ b u,s.heap.get? b=some u->h₁.get? b=some u):Inv (xd0 X NN scope cl s.heap.objs.size fp s H (X.pn ++ pins)) [] (xo0 js σ) H { s with heap:=h₁,toks:=tk } where
 ok:=zm3 hc S I f
 os:=rfl
 bare:=I.bare
 base:=Un.kept k
 loc:=by
  refine ⟨m,hn,λ i x v h1 h2 h3=>?_⟩
  obtain ⟨j,e1,e2⟩:=zf2 h2
  obtain ⟨y,q1,q2,q3,q4,q5⟩:=S.out i j e1
  have q1':NN[i]?=some x:=h1
  rw [q1] at q1'; cases q1'
  obtain ⟨mX,_,hl⟩:=I.loc
  obtain ⟨u,r,l⟩:=hl j x v q2 e2 q3
  refine ⟨u,r,.inr ⟨q5,?_⟩⟩
  rcases l with ⟨z,_⟩ | ⟨_,c,hc',hcell⟩
  ·exact absurd z q4
  ·obtain ⟨c',hc2⟩:=S.has x q5
   have e:=S.sub x c' hc2
   rw [hc'] at e; cases e
   obtain ⟨o,ho,hd⟩:=hcell
   exact ⟨c,hc2,o,k _ _ ho,hd⟩
 cell:=λ x c e=>by
  obtain ⟨v,o,ho,hd⟩:=I.cell x c (S.sub x c e)
  exact ⟨v,o,k _ _ ho,hd⟩
 free:=I.hok.fresh (Nat.le_refl _)
 freeC:=λ x c e=>I.freeC x c (S.sub x c e)
 pin:=λ p hp=>by
  have hp':p ∈ X.pn ++ pins:=by simpa using hp
  obtain ⟨h1,h2,h3,h4,h5⟩:=I.pin p hp'
  refine ⟨k _ _ h1,h2,Nat.ne_of_lt (Heap.lt_size h1),λ z=>?_,h5⟩
  rcases List.mem_cons.mp (I.stkSub _ z) with z | z
  ·exact h3 z
  ·exact h4 z
 hok:=I.hok.kept k
 len:=by show (xo0 js σ).length=NN.length; unfold xo0; rw [length_map]; exact S.len
theorem yi3 {elt target iter:Expr} {ifs:List Expr} {pos:Pos} {wi:TI} {g:TG} {tc:TT} {te:TE} (hc:X.calm=true) (S:CompSc X NN scope cl js) (hi:PI X target iter wi)
    (hg:∀ C fp s₀ H₀ pn,PG (xd0 X NN scope cl C fp s₀ H₀ pn) target g) (ht:∀ C fp s₀ H₀ pn,PTs (xd0 X NN scope cl C fp s₀ H₀ pn) ifs tc) (he:∀ C fp s₀ H₀ pn,PE (xd0 X NN scope cl C fp s₀ H₀ pn) elt te)
    (hs:∀ x,foldedSetIterable iter X.env x=pure x):PE X (.ListComp elt [⟨target,iter,ifs,0⟩] scope pos) (yy1 js wi g tc te):=by
 intro pins s σ H Q I h
 rw [eval_ListComp]
 refine wpAny_comprehension_free (use:=none) rfl hs S.clos S.kind S.names (thn (hi pins s σ H _ I h) λ xv s1 h1=>thn h1 λ itv s2 h2=>?_)
 obtain ⟨it,fp,tn,J,H2,rfl,I2,T,st2,f2,hW⟩:=h2
 refine wpAny_newObj_type (wpAny_newFunctionEnv S.cell (by intro y hy; simp at hy) (λ h₁ hns₁ hsb₁=>?_) S.kind)
 dsimp only at hns₁ hsb₁ ⊢
 have hD:H2 s2.heap.objs.size=none:=I2.hok.fresh (Nat.le_refl _)
 have I3:Inv X pins σ (upd H2 s2.heap.objs.size (.lst [])) { s2 with heap:=s2.heap.push { cls:=.type "list",dict:=none,data:=.seq ([]:List Value).toArray } } :=
  I2.lnew (t':=s2.toks) (its:=[]) .nil (by rw [sizeLine_eq]; decide)
 generalize hsD:({ s2 with heap:=s2.heap.push { cls:=.type "list",dict:=none,data:=.seq ([]:List Value).toArray } }:Shared)=sD at I3
 have eh:sD.heap=s2.heap.push { cls:=.type "list",dict:=none,data:=.seq ([]:List Value).toArray }:=by rw [<- hsD]
 have es:∀ (h:Heap) (tk:Nat),({ s2 with heap:=h,toks:=tk }:Shared)={ sD with heap:=h,toks:=tk }:=λ h tk=>by rw [<- hsD]
 have hsz:s2.heap.objs.size < sD.heap.objs.size:=by rw [eh,Heap.size_push]; exact Nat.lt_succ_self _
 rw [<- eh] at hns₁ hsb₁ ⊢
 generalize hp0:s2.heap.objs.size=p0 at *
 have up:∀ b u,s2.heap.get? b=some u->sD.heap.get? b=some u:=λ b u e=>by rw [eh]; exact Heap.get?_push_of_some _ e
 have k:∀ b u,sD.heap.get? b=some u->h₁.get? b=some u:=λ b u e=>hsb₁.extBut b u (Nat.ne_of_lt (Heap.lt_size e)) (Heap.get?_push_of_some _ e)
 have f3:∀ b ∈ fp,FpOk X pins (upd H2 p0 (.lst [])) b /\ b < sD.heap.objs.size:=λ b hb=>by
  obtain ⟨o,ho,_⟩:=T.obj 0 _ st2 b hb
  have hlt:b < p0:=by rw [<- hp0]; exact Heap.lt_size ho
  refine ⟨⟨?_,(f2 b hb).2⟩,Nat.lt_trans hlt hsz⟩
  rw [vb0 (Nat.ne_of_lt hlt)]; exact (f2 b hb).1
 obtain ⟨W,⟨m0,w0⟩,turn⟩:=hW p0 hD
 have I4:=th1 (tk:=s2.toks + ([]:List (Str × Value)).length) hc S I3 f3 hns₁ k
 have st4:tn 0 h₁:=T.keep 0 _ _ st2 λ b _ o e=>k b o (up b o e)
 rw [es]
 generalize hX':xd0 X NN scope cl sD.heap.objs.size fp sD (upd H2 p0 (.lst [])) (X.pn ++ pins)=X' at I4
 have a1:X'.env=compEnvC scope cl sD.heap.objs.size X.env:=by rw [<- hX']
 have a2:X'.prog=X.prog:=by rw [<- hX']
 have a3:X'.w=X.w:=by rw [<- hX']
 have a4:X'.A=X.A:=by rw [<- hX']
 have a5:X'.K=X.K:=by rw [<- hX']
 have a6:X'.calm=true:=by rw [<- hX']; exact hc
 have a7:X'.xe=λ _ _=>False:=by rw [<- hX']
 have a8:X'.ex=fp:=by rw [<- hX']
 have T':Turn X'.prog X'.w X'.K target J fp it tn:=by rw [a2,a3,a5]; exact T
 have hg':PG X' target g:=by rw [<- hX']; exact hg _ _ _ _ _
 have ht':PTs X' ifs tc:=by rw [<- hX']; exact ht _ _ _ _ _
 have he':PE X' elt te:=by rw [<- hX']; exact he _ _ _ _ _
 have fin:∀ {σ':L2.St} {H':Hp} {s':Shared},Inv X' [] σ' H' s'->Q (.ref p0) H'->compPost (model X.prog X.w) X.A X.xe none (EP X pins σ Q) (.ref p0) sD.heap.objs.size (.ok .next) s':=λ {σ' H' s'} I' q=>by
  obtain ⟨m',hn',_⟩:=I'.loc
  rw [a1] at hn'
  refine ⟨m',hn',λ h' sb=>?_⟩
  have u:Un (frs X.stack) fp (upd H2 p0 (.lst [])) H' sD.heap s'.heap:=by
   have:=I'.base
   rw [<- hX'] at this
   exact this
  have hch:∀ b ∈ fp,(b ∈ X.ex \/ X.s₀.heap.objs.size<=b) /\ b ≠ X.env.locals /\ (∀ x c,X.env.cells.lookup x=some c->c ≠ b) /\ ∀ p ∈ X.pn ++ pins,p.1 ≠ b:=λ b hb=>by
   obtain ⟨_,z1,_,z3,z4,z5⟩:=(f3 b hb).1
   exact ⟨z3,z1,z4,z5⟩
  have os':s'.os=sD.os:=by
   have:=I'.os
   rw [<- hX'] at this
   exact this
  have hok':HOk X.prog X.w H' s'.heap:=by
   have:=I'.hok
   rw [<- hX'] at this
   exact this
  have I5:Inv X pins σ H' s':=I3.call' os' u hok' I'.bare hch
  have hC:H' sD.heap.objs.size=none:=by
   have:=I'.free
   rw [a1] at this
   exact this
  refine ⟨.ref p0,H',I5.turned (t':=s'.toks) (it:=sD.heap.objs.size) (λ b o hb e=>sb.extBut b o hb e) hC (Nat.ne_of_gt I3.lt) (.inr I3.sz) (λ x c e=>?_) (λ p hp=>?_),rfl,q⟩
  ·obtain ⟨v,o,ho,_⟩:=I3.cell x c e
   exact Nat.ne_of_lt (Heap.lt_size ho)
  ·exact Nat.ne_of_lt (Heap.lt_size (I3.pin p hp).1)
 have fp4:∀ {H':Hp},(∀ b ∈ fp,H' b=none)->∀ b ∈ fp,FpOk X' [] H' b:=λ hn b hb=>by
  obtain ⟨_,z1,z2,z3,z4,z5⟩:=(f3 b hb).1
  rw [<- hX']
  refine ⟨hn b hb,Nat.ne_of_lt (f3 b hb).2,λ z=>?_,.inl hb,λ x c e=>z4 x c (S.sub x c e),λ p hp=>z5 p (by simpa using hp)⟩
  rcases List.mem_cons.mp (I3.stkSub _ z) with z | z
  ·exact z1 z
  ·exact z2 z
 have loop:∀ s₃:Shared,Inv X' [] (xo0 js σ) (upd H2 p0 (.lst [])) s₃->tn 0 s₃.heap ->
     codeAny (model X.prog X.w) X.A (.compLoop (.ListComp elt [⟨target,iter,ifs,0⟩] scope pos) 0 (.ref it) (.ref p0) (compEnvC scope cl sD.heap.objs.size X.env)) (compPost (model X.prog X.w) X.A X.xe none (EP X pins σ Q) (.ref p0) sD.heap.objs.size) s₃:=by
  intro s₃ I₃ st₃
  refine codeAny_loop rfl (λ n s'=>∃ i σ' H',Inv X' [] σ' H' s' /\ tn i s'.heap /\ (∀ b ∈ fp,H' b=none) /\ W i n σ' H') (λ n s' hI=>?_) m0 ⟨0,xo0 js σ,_,I₃,st₃,λ b hb=>(f3 b hb).1.1,w0⟩
  obtain ⟨i,σ3,H3,J3,st3,fr3,w3⟩:=hI
  have tr:=turn i n σ3 H3 w3
  show wpAny _ X.A ((compTurn (.ListComp elt [⟨target,iter,ifs,0⟩] scope pos) 0 (.ref it) (.ref p0) (compEnvC scope cl sD.heap.objs.size X.env)).onRaise (λ x=>do noteFrame x (compEnvC scope cl sD.heap.objs.size X.env); theTreesLotGoes x)) _ _ s'
  refine wpAny_noted ?_
  rw [compTurn_list,<- a1,<- a2,<- a3,<- a4]
  have nof:∀ {α:Type} {t:Sem α} {Q':α->Shared->Prop} {s'':Shared} {E:Value->Shared->Prop},wpAny (model X'.prog X'.w) X'.A t Q' X'.xe s''->wpAny (model X'.prog X'.w) X'.A t Q' E s'':=λ h=>wpAny_mono h (λ _ _ q=>q) λ _ _ z=>by rw [a7] at z; exact z.elim
  rcases tr with ⟨stop,qn⟩ | ⟨go,step⟩
  ·refine wpAny_bind (wpAny_standAt (wpAny_bind (nof (thn (T'.done X' rfl rfl rfl a6 i [] s' σ3 H3 X'.xe J3 (fp4 fr3) st3 stop) λ r s4 ⟨hr,J4⟩=>?_))))
   subst hr
   exact wpAny_pure (fin J4 qn)
  ·refine wpAny_bind (wpAny_standAt (wpAny_bind (nof (thn (T'.item X' rfl rfl rfl a6 i [] s' σ3 H3 X'.xe J3 (fp4 fr3) st3 go) λ r s4 ⟨u,hr,h4⟩=>?_))))
   subst hr
   refine wpAny_bind (nof (thn h4 λ _ s5 ⟨x,H5,I5,r5,y5,st5,fr5⟩=>?_))
   have I5':=I5.pinned (fp4 fr5) (T.obj _ _ st5)
   refine wpAny_bind (nof (thn (hg' _ s5 σ3 H5 x u _ I5' r5 (step x H5 y5)) λ _ s6 ⟨σ6,H6,I6,q6⟩=>?_))
   refine wpAny_bind (nof (thn (ht' _ s6 σ6 H6 _ I6 q6) λ ok s7 ⟨H7,I7,q7⟩=>?_))
   have again:∀ {s8:Shared} {σ8:L2.St} {H8:Hp},Inv X' ([] ++ tx0 fp s5.heap) σ8 H8 s8->(∃ m',m' < n /\ W (i + 1) m' σ8 H8)->∃ m,m < n /\ ∃ i σ' H',Inv X' [] σ' H' s8 /\ tn i s8.heap /\ (∀ b ∈ fp,H' b=none) /\ W i m σ' H':=λ {s8 σ8 H8} I8 ⟨m',hm,w8⟩=>by
    refine ⟨m',hm,i + 1,σ8,H8,I8.unpinned,T.keep _ _ _ st5 λ b hb o e=>(I8.pin (b,o) (mem_append_right _ (mem_append_right _ (tg0 hb e)))).1,λ b hb=>?_,w8⟩
    obtain ⟨o,e,d⟩:=T.obj _ _ st5 b hb
    exact (I8.pin (b,o) (mem_append_right _ (mem_append_right _ (tg0 hb e)))).2.1
   cases ok with
   | false=>exact wpAny_pure ⟨rfl,again I7 q7⟩
   | true =>
    refine wpAny_bind (wpAny_bind (nof (thn (he' _ s7 σ6 H7 _ I7 q7) λ xv s8 ⟨y,H8,I8,r8,ys,q8,hlen,q9⟩=>wpAny_bind (nof ?_))))
    refine thn (vt0 (X:=X') _ s8 σ6 H8 (.ref p0) [y] (.ref p0) [xv] (λ v H9=>v=.non /\ H9=upd H8 p0 (.lst (ys ++ [y]))) I8 rfl (.cons r8 .nil) ⟨p0,ys,y,rfl,rfl,q8,hlen,rfl,rfl⟩) λ rv s9 ⟨v9,H9,I9,_,_,e9⟩=>?_
    subst e9
    exact wpAny_pure (wpAny_pure ⟨rfl,again I9 q9⟩)
 exact codeAny_compStart_list (loop _ I4 st4) (T.self X.A 0 _ _ _ st4 (loop _ I4 st4))
end
theorem sm0:bootBuiltins "len" = some (.builtin "len"):=by decide +kernel
theorem ve0:bootBuiltins "isinstance" = some (.builtin "isinstance"):=by decide +kernel
theorem wk0:bootBuiltins "tuple" = some (.type "tuple"):=by decide +kernel
theorem xa3:bootBuiltins "int" = some (.type "int"):=by decide +kernel
theorem zi1:bootBuiltins "str" = some (.type "str"):=by decide +kernel
theorem tm3:bootBuiltins "bool" = some (.type "bool"):=by decide +kernel
theorem wl4:bootBuiltins "set" = some (.type "set"):=by decide +kernel
theorem vl4:bootBuiltins "all" = some (.builtin "all"):=by decide +kernel
theorem wi1:bootBuiltins "min" = some (.builtin "min"):=by decide +kernel
theorem wv0:bootBuiltins "max" = some (.builtin "max"):=by decide +kernel
theorem sj0:bootBuiltins "sorted" = some (.builtin "sorted"):=by decide +kernel
def RTs (X:Cx) (ifs:List Expr) (t:TT3):Prop:=∃ tv,PTs X ifs tv /\ RdT X.K tv t
theorem te0 {X:Cx}:RTs X [] tt3:=⟨_,yg3,λ σ H Q ρ μ Q3 s m h k=>k _ _ _ h (Kp.refl _) m⟩
theorem tr2 {K:Fg} {H:Hp} {ρ:St3} {σ:L2.St} (s:RSt K H ρ σ) (js:List (Option Nat)):RSt K H (js.map λ j=>j.bind (getI ρ)) (xo0 js σ):=by
 refine ⟨by simp [xo0],λ i d e=>?_⟩
 rw [ul1,getElem?_map] at e
 unfold xo0
 rw [getElem?_map]
 cases q:js[i]? with
 | none=>rw [q] at e; cases e
 | some o =>
  rw [q] at e
  cases o with
  | none=>simp at e
  | some j =>
   have e':getI ρ j=some d:=by simpa using e
   obtain ⟨v,h1,h2⟩:=s.at' j d e'
   exact ⟨v,by simp [h1],h2⟩
theorem RdE.comp {K:Fg} {js:List (Option Nat)} {wi:TI} {g:TG} {tc:TT} {te:TE} {ti:TI3} {g3:TG3} {tc3:TT3} {te3:TE3} (ri:RdI K wi ti) (rg:RdG K g g3) (rt:RdT K tc tc3) (re:RdE K te te3):RdE K (yy1 js wi g tc te) (comp3 js ti g3 tc3 te3):=by
 intro σ H Q ρ μ Q3 s m h k
 refine ri σ H _ ρ μ _ s m h λ l S μ1 J H1 h1 k1 m1 ok p hp=>?_
 obtain ⟨W,w0,hS,hn,hs⟩:=h1 p (m1.free hp)
 have kn:Kp H1 (upd H1 p (.lst [])):=Kp.new hp
 refine ⟨λ i n σ2 H2=>n=l.length - i /\ i<=l.length /\ ∃ ρ2 μ2 ys,RSt K H2 ρ2 σ2 /\ RelM K μ2 H2 /\ Kp H1 H2 /\ W (l.drop i) ys ρ2 μ2,⟨l.length,rfl,Nat.zero_le _,_,_,[],(tr2 (s.mono k1) js).mono kn,m1.newL hp .nil,kn,w0⟩,?_⟩
 rintro i n σ2 H2 ⟨rfl,hi,ρ2,μ2,ys,s2,m2,k2,w2⟩
 obtain ⟨hS2,hp2⟩:=hS _ _ _ _ w2
 by_cases hlt:i < l.length
 ·rw [List.drop_eq_getElem_cons hlt] at w2
  obtain ⟨hz,h2⟩:=hs _ _ _ _ _ w2
  obtain ⟨ok1,_⟩:=ok i H2 μ2 k2 m2 hS2
  obtain ⟨go,yl⟩:=ok1 l[i] (getElem?_eq_getElem hlt)
  refine .inr ⟨go,λ x H3 y=>?_⟩
  obtain ⟨k3,m3,r3⟩:=yl x H3 y
  refine rg x l[i] σ2 H3 _ ρ2 μ2 _ (s2.mono k3) m3 r3 h2 λ ρ4 μ4 σ4 H4 h4 k4 s4 m4=>?_
  refine rt σ4 H4 _ ρ4 μ4 _ s4 m4 h4 λ b μ5 H5 h5 k5 m5=>?_
  have k15:Kp H1 H5:=k2.trans (k3.trans (k4.trans k5))
  cases b with
  | false=>exact ⟨l.length - (i + 1),by omega,rfl,hlt,ρ4,μ5,ys,s4.mono k5,m5,k15,h5⟩
  | true =>
   refine re σ4 H5 _ ρ4 μ5 _ (s4.mono k5) m5 h5 λ d μ6 v H6 h6 k6 r6 m6=>?_
   obtain ⟨vs,hv,rv⟩:=m6 p ys h6.1
   refine ⟨vs,hv,by rw [<- rv.length]; exact hz,l.length - (i + 1),by omega,rfl,hlt,ρ4,_,_,((s4.mono k5).mono k6).mono (Kp.wr hv),m6.wr hv (rv.append (.cons r6 .nil)),(k15.trans k6).trans (Kp.wr hv),h6.2⟩
 ·have e:i=l.length:=by omega
  subst e
  rw [List.drop_length] at w2
  exact .inl ⟨(ok _ H2 μ2 k2 m2 hS2).2 (Nat.le_refl _),k _ _ _ _ (hn _ _ _ w2) (k1.trans k2) (.ref p) m2⟩
section
variable {X:Cx} {elt target iter:Expr} {ifs:List Expr} {pos:Pos} {ti:TI3} {g:TG3} {tc:TT3} {te:TE3} {NN:List Str} {scope:Scope} {cl:List (Str × Addr)} {js:List (Option Nat)}
theorem sp0 (hc:X.calm=true) (S:CompSc X NN scope cl js) (hi:RI X target iter ti) (hg:∀ C fp s₀ H₀ pn,RG (xd0 X NN scope cl C fp s₀ H₀ pn) target g)
    (ht:∀ C fp s₀ H₀ pn,RTs (xd0 X NN scope cl C fp s₀ H₀ pn) ifs tc) (he:∀ C fp s₀ H₀ pn,RE (xd0 X NN scope cl C fp s₀ H₀ pn) elt te)
    (hs:∀ x,foldedSetIterable iter X.env x=pure x):RE X (.ListComp elt [⟨target,iter,ifs,0⟩] scope pos) (comp3 js ti g tc te):=by
 obtain ⟨wi,pi,ri⟩:=hi
 let gU:TG:=λ v σ H Q=>∀ (r:TG3),r=g->∃ d ρ μ Q3,RSt X.K H ρ σ /\ RelM X.K μ H /\ RelD X.K H d v /\ g d ρ μ Q3 /\ (∀ ρ' μ' σ' H',Q3 ρ' μ'->Kp H H'->RSt X.K H' ρ' σ'->RelM X.K μ' H'->Q σ' H')
 let tU:TT:=λ σ H Q=>∃ ρ μ Q3,RSt X.K H ρ σ /\ RelM X.K μ H /\ tc ρ μ Q3 /\ (∀ b μ' H',Q3 b μ'->Kp H H'->RelM X.K μ' H'->Q b H')
 let eU:TE:=λ σ H Q=>∃ ρ μ Q3,RSt X.K H ρ σ /\ RelM X.K μ H /\ te ρ μ Q3 /\ Ks X.K H Q3 Q
 have hg':∀ C fp s₀ H₀ pn,PG (xd0 X NN scope cl C fp s₀ H₀ pn) target gU:=λ C fp s₀ H₀ pn=>by
  obtain ⟨tv,p,r⟩:=hg C fp s₀ H₀ pn
  intro pins s σ H v u Q I rv h
  obtain ⟨d,ρ,μ,Q3,a1,a2,a3,a4,a5⟩:=h g rfl
  exact p pins s σ H v u Q I rv (r v d σ H Q ρ μ Q3 a1 a2 a3 a4 a5)
 have ht':∀ C fp s₀ H₀ pn,PTs (xd0 X NN scope cl C fp s₀ H₀ pn) ifs tU:=λ C fp s₀ H₀ pn=>by
  obtain ⟨tv,p,r⟩:=ht C fp s₀ H₀ pn
  intro pins s σ H Q I h
  obtain ⟨ρ,μ,Q3,a1,a2,a3,a4⟩:=h
  exact p pins s σ H Q I (r σ H Q ρ μ Q3 a1 a2 a3 a4)
 have he':∀ C fp s₀ H₀ pn,PE (xd0 X NN scope cl C fp s₀ H₀ pn) elt eU:=λ C fp s₀ H₀ pn=>by
  obtain ⟨tv,p,r⟩:=he C fp s₀ H₀ pn
  intro pins s σ H Q I h
  obtain ⟨ρ,μ,Q3,a1,a2,a3,a4⟩:=h
  exact p pins s σ H Q I (r σ H Q ρ μ Q3 a1 a2 a3 a4)
 exact ⟨_,yi3 hc S pi hg' ht' he' hs,RdE.comp ri (λ v d σ H Q ρ μ Q3 a1 a2 a3 a4 a5 _ _=>⟨d,ρ,μ,Q3,a1,a2,a3,a4,a5⟩) (λ σ H Q ρ μ Q3 a1 a2 a3 a4=>⟨ρ,μ,Q3,a1,a2,a3,a4⟩) (λ σ H Q ρ μ Q3 a1 a2 a3 a4=>⟨ρ,μ,Q3,a1,a2,a3,a4⟩)⟩
theorem zl0 (hf:∀ y ∈ scope.names,y.2 ≠ .free) (hcl:∀ y ∈ scope.names,y.2 ≠ .cell) (hn:∀ y ∈ scope.names,y.2=.local->scope.names.lookup y.1=some .local) (hi:RI X target iter ti) (hg:∀ C fp s₀ H₀ pn,RG (xd0 X NN scope [] C fp s₀ H₀ pn) target g)
    (ht:∀ C fp s₀ H₀ pn,RTs (xd0 X NN scope [] C fp s₀ H₀ pn) ifs tc) (he:∀ C fp s₀ H₀ pn,RE (xd0 X NN scope [] C fp s₀ H₀ pn) elt te) (hc:X.calm=true:=by rfl) (hk:scope.kind=.function:=by rfl)
    (hs:∀ x,foldedSetIterable iter X.env x=pure x:=by intro _; rfl):RE X (.ListComp elt [⟨target,iter,ifs,0⟩] scope pos) (comp3 (NN.map λ _=>none) ti g tc te) :=
 sp0 hc (CompSc.closed hf hcl hk hn) hi hg ht he hs
end
mutual
inductive TupK (K:Fg):List D->Addr->Prop where
 | mk {a:Addr} {l:List D} {its:Array Value} {n:Nat} {od:Option Addr} {sl:Array (Option Value)}:K.lookup a=some ⟨.type "tuple",od,.seq its n,sl⟩->its.size<=sizeLine->ItK K l its.toList->TupK K l a
inductive ItK (K:Fg):List D->List Value->Prop where
 | nil:ItK K [] []
 | int {i:Int} {t:Tok} {l:List D} {us:List Value}:ItK K l us->ItK K (.int i :: l) (.int i t :: us)
 | str {x:Str} {t:Tok} {l:List D} {us:List Value}:ItK K l us->ItK K (.str x :: l) (.str x t :: us)
 | bl {b:Bool} {l:List D} {us:List Value}:ItK K l us->ItK K (.bl b :: l) (.bool b :: us)
 | tup {a:Addr} {l' l:List D} {us:List Value}:TupK K l' a->ItK K l us->ItK K (.ktp l' :: l) (.ref a :: us)
end
mutual
theorem TupK.rel {K:Fg}:∀ {l:List D} {a:Addr},TupK K l a->∀ H,RelD K H (.ktp l) (.ref a)
 | _,_,.mk h1 h2 h3,H=>by
  obtain ⟨vs,r,rd⟩:=h3.rel
  exact .ktp (.inr ⟨_,_,_,h1,rfl,rfl,h2,r⟩) (rd H)
theorem ItK.rel {K:Fg}:∀ {l:List D} {us:List Value},ItK K l us->∃ vs,Vals vs us /\ ∀ H,RelDs K H l vs
 | _,_,.nil=>⟨[],.nil,λ _=>.nil⟩
 | _,_,.int h=>let ⟨vs,r,rd⟩:=h.rel; ⟨_,.cons (show RelV (.int _) _ from ⟨_,rfl⟩) r,λ H=>.cons (.int _) (rd H)⟩
 | _,_,.str h=>let ⟨vs,r,rd⟩:=h.rel; ⟨_,.cons (show RelV (.str _) _ from ⟨_,rfl⟩) r,λ H=>.cons (.str _) (rd H)⟩
 | _,_,.bl h=>let ⟨vs,r,rd⟩:=h.rel; ⟨_,.cons (show RelV (.bl _) _ from rfl) r,λ H=>.cons (.bl _) (rd H)⟩
 | _,_,.tup h0 h=>let ⟨vs,r,rd⟩:=h.rel; ⟨_,.cons (show RelV (.ref _) _ from rfl) r,λ H=>.cons (h0.rel H) (rd H)⟩
end
section
variable {K:Fg} {h:Heap} {mg:Str->Option Value} {x:Str}
theorem vj4 {i:Int} {t:Tok} (X:K.In h) (G:h.Ns mainGlobals mg) (e:nsIn K mainGlobals x=some (some (.int i t))):Gd K mg x (.int i):=⟨_,.int i,mg_of X G e,⟨_,rfl⟩,λ _=>.int i⟩
theorem wj4 {i:Str} {t:Tok} (X:K.In h) (G:h.Ns mainGlobals mg) (e:nsIn K mainGlobals x=some (some (.str i t))):Gd K mg x (.str i):=⟨_,.str i,mg_of X G e,⟨_,rfl⟩,λ _=>.str i⟩
theorem wy2 {a:Addr} {l:List D} (X:K.In h) (G:h.Ns mainGlobals mg) (e:nsIn K mainGlobals x=some (some (.ref a))) (r:TupK K l a):Gd K mg x (.ktp l):=⟨_,.ref a,mg_of X G e,rfl,λ H=>r.rel H⟩
end
theorem yh1 {K:Fg} {H:Hp}:∀ ns:List Int,RelDs K H (ns.map D.int) (ns.map V.int)
 | []=>.nil
 | n :: r=>.cons (.int n) (yh1 r)
theorem uq2 {K:Fg} {H:Hp} {a:Addr} {ns:List Int} {sp:Sp3} (hO:Only H) (hS:SqL K H a (ns.map V.int)) (h:sp [.fls (ns.map D.int)] (λ _=>none) (λ d _=>d=.bl true)) :
    lift K sp [.ref a] H (λ v _=>v=.bl true) λ _ _ _=>False:=by
 have hF:SqF K H a (ns.map V.int):=by
  rcases hS with (h1 | ⟨o,h1⟩) | h1
  ·rcases hO a with z | ⟨o,xs,z⟩
   ·rw [h1] at z; cases z
   ·rw [h1] at z; cases z
  ·exact .inl ⟨o,h1⟩
  ·exact .inr h1
 refine ⟨_,_,_,.cons (.fls hF (yh1 ns)) .nil,(⟨λ p xs e=>(by cases e),λ p c fs e=>(by cases e),λ p kvs e=>(by cases e),λ p kvs e=>(by cases e),λ p kvs e=>(by cases e)⟩),h,λ d μ' v H' q _ r _=>?_⟩
 subst q
 cases r
 rfl
open PySem.AutoSeq1 (wpAny_loadPart')
theorem uj1 (l:Addr) (items:Array Value) (n:Nat) (dd:Option Addr) (sl:Array (Option Value)) (x:Int) (u:Tok) (hc0:(decide (x < -(2 ^ 63)) || decide (x ≥ 2 ^ 63))=false) (hc1:(items.isEmpty || x == 1)=true) :
    Meets (Builtin.«tuple.__mul__» ⟨[.ref l,.int x u],[]⟩) (λ _ R s=>s.heap.get? l=some { cls:=.type "tuple",dict:=dd,data:=.seq items n,slots:=sl } /\ R (.ok (.ret (.ref l))) s) :=
 .of_wp λ prog w A R s h=>by
  obtain ⟨hp,g,d,tk,os⟩:=s; obtain ⟨hl,h⟩:=h
  have f1:=AutoSeq1.idx_int
  have f2:=AutoSeq1.sub_tuple_tuple
  wp_walk using wpAny_loadPart' hl
  refine wpAny_ite_false (decide_eq_false (by rw [hc0]; exact Bool.false_ne_true)) ?_
  wp_walk using wpAny_loadPart' hl
  exact ⟨_,rfl,h⟩
theorem vj1 (l:Addr) (items:Array Value) (n:Nat) (dd:Option Addr) (sl:Array (Option Value)) (x:Int) (u:Tok) (hc0:(decide (x < -(2 ^ 63)) || decide (x ≥ 2 ^ 63))=false) (hc1:(items.isEmpty || x == 1)=false) (hc2:(decide (x<=0) || items.isEmpty)=true) :
    Meets (Builtin.«tuple.__mul__» ⟨[.ref l,.int x u],[]⟩) (λ _ R s=>s.heap.get? l=some { cls:=.type "tuple",dict:=dd,data:=.seq items n,slots:=sl } /\ R (.ok (.ret (.ref s.heap.objs.size))) { s with heap:=s.heap.push { cls:=.type "tuple",data:=.seq #[] } }) :=
 .of_wp λ prog w A R s h=>by
  obtain ⟨hp,g,d,tk,os⟩:=s; obtain ⟨hl,h⟩:=h
  have f1:=AutoSeq1.idx_int
  have f2:=AutoSeq1.sub_tuple_tuple
  wp_walk using wpAny_loadPart' hl
  refine wpAny_ite_false (decide_eq_false (by rw [hc0]; exact Bool.false_ne_true)) ?_
  wp_walk using wpAny_loadPart' hl
  exact ⟨_,rfl,h⟩
theorem wj1 (l:Addr) (items:Array Value) (n:Nat) (dd:Option Addr) (sl:Array (Option Value)) (x:Int) (u:Tok) (hc0:(decide (x < -(2 ^ 63)) || decide (x ≥ 2 ^ 63))=false) (hc1:(items.isEmpty || x == 1)=false) (hc2:(decide (x<=0) || items.isEmpty)=false)
    (hc3:¬ ((items.size:Int) * x > (2 ^ 63 - 1) / 8)) (hc4:Builtin.Tuple.tupleTooMany ((items.size:Int) * x)=false) (hz:((List.replicate x.toNat items).foldl (· ++ ·) #[]).size<=sizeLine) :
    Meets (Builtin.«tuple.__mul__» ⟨[.ref l,.int x u],[]⟩) (λ _ R s=>s.heap.get? l=some { cls:=.type "tuple",dict:=dd,data:=.seq items n,slots:=sl } /\ R (.ok (.ret (.ref s.heap.objs.size))) { s with heap:=s.heap.push { cls:=.type "tuple",data:=.seq ((List.replicate x.toNat items).foldl (· ++ ·) #[]) } }) :=
 .of_wp λ prog w A R s h=>by
  obtain ⟨hp,g,d,tk,os⟩:=s; obtain ⟨hl,h⟩:=h
  have f1:=AutoSeq1.idx_int
  have f2:=AutoSeq1.sub_tuple_tuple
  wp_walk using wpAny_loadPart' hl
  refine wpAny_ite_false (decide_eq_false (by rw [hc0]; exact Bool.false_ne_true)) ?_
  wp_walk using wpAny_loadPart' hl
  refine wpAny_ite_false (decide_eq_false hc3) ?_
  wp_walk using wpAny_loadPart' hl
  all_goals try (refine wpAny_ite_false (decide_eq_false (by rw [hc4]; exact Bool.false_ne_true)) ?_)
  have hsz:((List.replicate x.toNat items).foldl (· ++ ·) #[]).size<=sizeLine:=hz
  wp_walk using wpAny_loadPart' hl
  exact ⟨_,rfl,h⟩
theorem wt0:fillsNumberSlot (.type "tuple") "mul" = pure false :=
 PySem.fillsNumberSlot_seq (id := "tuple.__mul__") (r:=some (.builtin "tuple.__rmul__")) F.slot_tuple_mul.lookup (by decide +kernel) F.slot_tuple_rmul.lookup (by decide +kernel)
theorem ts0:seqRepeat? (.type "tuple")=pure (some (.builtin "tuple.__mul__")):=by
 unfold seqRepeat?
 rw [PySem.seqSlot_of F.slot_tuple_mul.lookup (T := "tuple") (name := "__mul__") (id := "tuple.__mul__") (by decide +kernel),PySem.seqSlot_of F.slot_tuple_rmul.lookup (T := "tuple") (name := "__rmul__") (id := "tuple.__rmul__") (by decide +kernel)]
 rfl
theorem vw0 (a:Int) (t:Tok) (l:Addr) (its:Array Value) (n:Nat) (dd:Option Addr) (sl:Array (Option Value)) :
    Meets (Builtin.«int.__rmul__» ⟨[.int a t,.ref l],[]⟩) (λ _ R s=>s.heap.get? l=some ⟨.type "tuple",dd,.seq its n,sl⟩ /\ R (.ok (.ret .notImplemented)) s) :=
 .of_wp λ prog w A R s h=>by
  obtain ⟨hp,g,d,tk,os⟩:=s
  obtain ⟨hl,h⟩:=h
  wp_walk using wpAny_loadPart' hl
  exact ⟨_,rfl,h⟩
section
variable {X:Cx}
def wr4 (K:Fg):R2:=λ x y H Q=>∃ a k xs,x=.ref a /\ y=.int k /\ SqT K H a xs /\ -(2 ^ 62)<=k /\ k < 2 ^ 62 /\ xs.length * k.toNat<=1000000 /\ (xs=[] \/ k=1->Q (.ref a) H) /\ ∀ p,H p=none->Q (.ref p) (upd H p (.tup (List.replicate k.toNat xs).flatten))
theorem op_repT:OpR X (binaryOp .Mult) (wr4 X.K):=by
 intro pins s σ H x y v u Q I rx ry h
 obtain ⟨a,k,xs,rfl,rfl,hq,h1,h2,hz,q1,q2⟩:=h
 cases rx
 obtain ⟨t,rfl⟩:=ry
 obtain ⟨its,r,⟨⟨cls,dd,data,sl⟩,ho,hc,n,hd⟩,hl⟩:=I.tuple hq
 simp only at hc hd
 subst hc hd
 have hlen:its.length=xs.length:=r.length.symm
 have c0:(decide (k < -(2 ^ 63)) || decide (k ≥ 2 ^ 63))=false:=by
  rw [decide_eq_false (by omega),decide_eq_false (by omega)]; rfl
 refine wpAny_binaryOp_repeat_ref (T := "tuple") (U := "int") (by decide) ⟨_,ho,rfl⟩ (λ s'=>typeIs_int s' k t) wt0 F.fills_int_mul F.slot_int_rmul ts0 F.slot_int_index.lookup
  (call_meets F.slot_int_rmul (typeIs_int s k t) F.entry_int_rmul (F.args_int_rmul_2 _ _) (vw0 k t a its.toArray n dd sl) ⟨ho,rfl,⟨_,ho,rfl⟩,?_⟩)
 by_cases e1:xs=[] \/ k=1
 ·refine call_meets F.slot_tuple_mul ⟨_,ho,rfl⟩ F.entry_tuple_mul (F.args_tuple_mul_2 _ _) (uj1 a its.toArray n dd sl k t c0 ?_) ⟨ho,⟨.ref a,H,I,rfl,q1 e1⟩⟩
  rcases e1 with e1 | e1
  ·subst e1; cases r; rfl
  ·subst e1; simp
 ·have hne:its ≠ []:=λ z=>e1 (.inl (by subst z; cases r; rfl))
  have hk1:k ≠ 1:=λ z=>e1 (.inr z)
  have c1:(its.toArray.isEmpty || k == 1)=false:=by simp [hne,hk1]
  have hf:H s.heap.objs.size=none:=I.hok.fresh (Nat.le_refl _)
  by_cases e2:k<=0
  ·have hk0:k.toNat=0:=by omega
   refine call_meets F.slot_tuple_mul ⟨_,ho,rfl⟩ F.entry_tuple_mul (F.args_tuple_mul_2 _ _) (vj1 a its.toArray n dd sl k t c0 c1 (by simp [e2])) ⟨ho,?_⟩
   refine ⟨.ref _,upd H s.heap.objs.size (.tup []),I.laid (t':=s.toks) (λ b ob q=>Heap.get?_push_of_some _ q) (Nat.le_refl _) ⟨by rw [sizeLine_eq]; decide,[],.nil,IsTup.new _ _⟩,rfl,?_⟩
   have:=q2 _ hf
   rw [hk0] at this
   exact this
  ·have fr:List.foldl (· ++ ·) #[] (List.replicate k.toNat its.toArray)=(List.replicate k.toNat its).flatten.toArray:=by
     have:=zu0 its k.toNat []
     rw [nil_append] at this
     exact this
   have hb:(1000000:Nat)<=sizeLine:=by rw [sizeLine_eq]; decide
   have hm:(its.toArray.size:Int) * k<=1000000:=by
    rw [size_toArray,hlen]
    have:((xs.length * k.toNat:Nat):Int)<=1000000:=by omega
    rw [Int.natCast_mul,Int.toNat_of_nonneg (by omega)] at this
    exact this
   have hsz:(List.replicate k.toNat its).flatten.length<=sizeLine:=by rw [yl1,Nat.mul_comm,hlen]; omega
   refine call_meets F.slot_tuple_mul ⟨_,ho,rfl⟩ F.entry_tuple_mul (F.args_tuple_mul_2 _ _) (wj1 a its.toArray n dd sl k t c0 c1 (by simp [hne]; omega) (by omega) ?_ (by rw [fr,size_toArray]; exact hsz)) ⟨ho,?_⟩
   ·unfold Builtin.Tuple.tupleTooMany
    rw [decide_eq_false (by omega)]
   ·rw [fr]
    refine ⟨.ref _,upd H s.heap.objs.size (.tup (List.replicate k.toNat xs).flatten),I.laid (t':=s.toks) (λ b ob q=>Heap.get?_push_of_some _ q) (Nat.le_refl _) ⟨?_,_,r.rep k.toNat,IsTup.new _ _⟩,rfl,q2 _ hf⟩
    rw [yl1,Nat.mul_comm]; omega
theorem yt0:RO X (binaryOp .Mult) mulR:=by
 refine ⟨_,op_mulB.or (op_repT.or uf4),λ x y v u H Q μ Q3 m rx ry h k=>?_⟩
 cases ry with
 | int j =>
  cases rx with
  | int i=>exact .inl ⟨i,j,rfl,rfl,h.1,k _ _ _ _ h.2 (Kp.refl _) (.int _) m⟩
  | tup hq rs =>
   rename_i a l vs
   refine .inr (.inl ⟨a,j,vs,rfl,rfl,(SqT.of hq),h.1.1.1,h.1.1.2,by rw [<- rs.length]; exact h.1.2,λ e=>?_,λ p hp=>?_⟩)
   ·rcases e with e | e
    ·subst e; cases rs
     have h2:=h.2
     have e:(List.replicate j.toNat ([]:List D)).flatten=[]:=by simp
     rw [e] at h2
     exact k _ _ _ _ h2 (Kp.refl _) (.tup hq .nil) m
    ·subst e
     have h2:=h.2
     have e:(List.replicate (1:Int).toNat l).flatten=l:=by simp
     rw [e] at h2
     exact k _ _ _ _ h2 (Kp.refl _) (.tup hq rs) m
   ·exact k _ _ _ _ h.2 (Kp.new hp) (.tup wd0 ((rs.rep _).mono (Kp.new hp))) (m.newT hp)
  | ref p =>
   dsimp only [mulR] at h
   cases e:μ p with
   | none=>rw [e] at h; exact h.elim
   | some oo =>
    cases oo with
    | ins _ _=>rw [e] at h; exact h.elim
    | dct _=>rw [e] at h; exact h.elim
    | dcl _=>rw [e] at h; exact h.elim
    | dck _=>rw [e] at h; exact h.elim
    | lst l =>
     rw [e] at h
     obtain ⟨vs,hv,rv⟩:=m p l e
     have hb:(1000000:Nat)<=sizeLine:=by rw [sizeLine_eq]; decide
     refine .inr (.inr ⟨p,j,vs,rfl,rfl,hv,by have:=h.1.1.1; omega,by have:=h.1.1.2; omega,by rw [<- rv.length]; exact Nat.le_trans h.1.2 hb,λ t ht=>?_⟩)
     exact k _ _ _ _ (h.2 t (m.free ht)) (Kp.new ht) (.ref t) (m.newL ht (rv.rep _))
  | _=>exact False.elim h
 | _=>cases rx <;> exact False.elim h
theorem xj2:CallR X (.type "int") (λ xs H Q=>∃ z n,xs=[.str z] /\ PySem.intText? z=some n /\ z.length<=640 /\ Q (.int n) H):=by
 intro pins s σ H xs us Q I r h
 obtain ⟨z,n,rfl,e,hl,q⟩:=h
 obtain ⟨u,rfl,t,rfl⟩:=xw0 r
 exact PySem.W.KIN.call_text e hl ⟨.int n,H,I.tok _,⟨_,rfl⟩,q⟩
theorem ys4:RC X (.type "int") intR:=by
 refine ⟨_,call_int1.or xj2,λ xs vs H Q μ Q3 m r h k=>?_⟩
 cases r with
 | nil=>exact False.elim h
 | cons r1 r2 =>
  cases r2 with
  | cons _ _=>cases r1 <;> exact False.elim h
  | nil =>
   cases r1 with
   | int i=>exact .inl (.inl ⟨i,rfl,k _ _ _ _ h (Kp.refl _) (.int _) m⟩)
   | bl b=>exact .inl (.inr ⟨b,rfl,k _ _ _ _ h (Kp.refl _) (.int _) m⟩)
   | str z =>
    dsimp only [intR] at h
    cases e:PySem.intText? z with
    | none=>rw [e] at h; exact h.elim
    | some n =>
     rw [e] at h
     exact .inr ⟨z,n,rfl,e,h.1,k _ _ _ _ h.2 (Kp.refl _) (.int _) m⟩
   | _=>exact False.elim h
theorem tx1 {prog:Program} {w:World} {A:Around} {E:Value->Shared->Prop} {s:Shared} {t sl:Addr} {items:Array Value} {vl vu:Value} {lo hi:Option Int} {Q:Value->Shared->Prop} (ht:IsTup s.heap t items) (hs:s.heap.IsSliceOf sl vl vu .none) (pl:IsPart vl lo) (pu:IsPart vu hi)
    (hw:HT.sIx items.size 0 lo=0 /\ HT.sIx items.size items.size hi=items.size) (h:Q (.ref t) s):wpAny (model prog w) A (getItem (.ref t) (.ref sl)) Q E s:=by
 obtain ⟨os,hos,hcs,hds⟩:=id hs
 have hTs:s.TypeIs (.ref sl) "slice" := ⟨os,hos,hcs⟩
 unfold getItem
 try with_reducible refine wpAny_holding ?_
 first | refine wpAny_bind (wpAny_pure ?_) | skip
 refine wpAny_bind (wpAny_sequenceKey ht.typeIs (by decide) ?_)
 refine wpAny_bind (wpAny_callSpecial?_slot ht.typeIs (name:=Str.ofString "__getitem__") PyProof.Rows.slot_tuple_getitem (wpAny_call_entry PyProof.Rows.slot_tuple_getitem ht.typeIs entry_tuple_getitem ?_ (args_tuple_getitem _ _)))
 show wpAny _ _ (Builtin.Tuple.tupleItemsOf (.ref t) >>= _) _ _ s
 refine wpAny_bind (tupleItemsOf_ ht ?_)
 refine wpAny_bind (wpAny_typeOf hTs ?_)
 rw [if_pos (by decide)]
 refine wpAny_bind (HT.sliceApplied_gen hs pl pu ?_)
 rw [hw.1,hw.2]
 show wpAny _ _ (if ((((0:Nat):Int) == 0 && (1:Int) == 1 && (items.size - 0) == items.size)=true) then _ else _) _ _ s
 rw [if_pos (by simp)]
 refine wpAny_bind (m:=Builtin.Tuple.tupleIsExact _) (wpAny_bind (wpAny_typeOf ht.typeIs (wpAny_pure ?_)))
 rw [if_pos (by decide)]
 refine wpAny_bind (wpAny_rule ?_)
 first
  | exact wpAny_pure ⟨_,rfl,wpAny_pure h⟩
  | exact wpAny_bind (wpAny_pure (wpAny_pure ⟨_,rfl,wpAny_pure h⟩))
  | exact wpAny_bind (wpAny_bind (wpAny_pure (wpAny_pure (wpAny_pure ⟨_,rfl,wpAny_pure h⟩))))
def rSlA (K:Fg):V->Option Int->Option Int->Hp->VK->Prop:=λ x lo hi H Q=>∃ a xs,x=.ref a /\ SqT K H a xs /\ (cutV xs lo hi=xs->Q (.ref a) H) /\ ∀ p,H p=none->Q (.ref p) (upd H p (.tup (cutV xs lo hi)))
theorem sl_tupA:SlR X (rSlA X.K):=by
 intro pins s σ H x v vl vu lo hi sl Q I rx hs pl pu h
 obtain ⟨a,xs,rfl,hx,q1,q2⟩:=h
 by_cases hw:HT.sIx xs.length 0 lo=0 /\ HT.sIx xs.length xs.length hi=xs.length
 ·cases rx
  obtain ⟨its,r,ht,hz⟩:=I.tuple hx
  have hlen:its.toArray.size=xs.length:=by rw [size_toArray]; exact r.length.symm
  have e:cutV xs lo hi=xs:=by unfold cutV; rw [hw.1,hw.2]; simp
  exact ⟨"tuple",_,PyProof.Rows.slot_tuple_getitem.lookup,ht.typeIs,tx1 ht hs pl pu (by rw [hlen]; exact hw) ⟨.ref a,H,I,rfl,q1 e⟩⟩
 ·exact xt3 pins s σ H _ v vl vu lo hi sl Q I rx hs pl pu ⟨a,xs,rfl,hx,hw,q2⟩
theorem ze3:∀ (n d:Nat) (o:Option Int),HT.sIx n d o=sIx3 n d o
 | _,_,none=>rfl
 | _,_,some _=>rfl
theorem RelDs.cut {K:Fg} {H:Hp} {l:List D} {vs:List V} (r:RelDs K H l vs) (lo hi:Option Int):RelDs K H (cut3 l lo hi) (cutV vs lo hi):=by
 unfold cut3 cutV
 rw [<- r.length]
 simp only [ze3]
 exact (r.drop _).take _
def RdP (K:Fg) (tv:TO) (t:TO3):Prop:=∀ σ H Q ρ μ Q3,RSt K H ρ σ->RelM K μ H->t ρ μ Q3->(∀ o μ' H',Q3 o μ'->Kp H H'->RelM K μ' H'->Q o H')->tv σ H Q
def RP (X:Cx) (e:Option Expr) (t:TO3):Prop:=∃ tv,PO X e tv /\ RdP X.K tv t
theorem xf3:RP X none np3:=⟨_,zh3,λ σ H Q ρ μ Q3 s m h k=>k _ _ _ h (Kp.refl _) m⟩
theorem se3 {e:Expr} {te:TE3} (h:RE X e te):RP X (some e) (pt3 te):=by
 obtain ⟨tv,p,r⟩:=h
 refine ⟨_,yh3 p,λ σ H Q ρ μ Q3 s m h k=>r σ H _ ρ μ _ s m h λ d μ1 v H1 h1 k1 r1 m1=>?_⟩
 cases r1 with
 | int i=>exact ⟨i,rfl,k _ _ _ h1 k1 m1⟩
 | _=>exact False.elim h1
def RL (X:Cx) (r3:D->Option Int->Option Int->Mu->VK3->Prop):Prop:=∃ r,SlR X r /\ ∀ x v lo hi H Q μ Q3,RelM X.K μ H->RelD X.K H x v->r3 x lo hi μ Q3->Ks X.K H Q3 Q->r v lo hi H Q
def rSlS:V->Option Int->Option Int->Hp->VK->Prop:=λ x lo hi H Q=>∃ z:Str,x=.str z /\ z.length<=sizeLine /\ Q (.str ⟨(cut3 z.cps.toList lo hi).toArray⟩) H
theorem ss3 (lo hi:Option Int) (n:Nat):Builtin.Str.strSliceIndices lo hi 1 n=sliceRange ((sIx3 n 0 lo:Nat):Int) ((sIx3 n n hi:Nat):Int) 1:=by
 unfold Builtin.Str.strSliceIndices
 have a1:∀ (d:Nat) (v:Option Int),(match v with | none=>((d:Nat):Int) | some i=>(if (1:Int) > 0 then max 0 (min (if i < 0 then i + (n:Int) else i) (n:Int)) else max (-1) (min (if i < 0 then i + (n:Int) else i) ((n:Int) - 1))))=((sIx3 n d v:Nat):Int):=λ d v=>by
  cases v with
  | none=>rfl
  | some i =>
   simp only [sIx3,show (1:Int) > 0 by decide,if_true]
   by_cases h:i < 0
   ·simp only [h,if_true]; omega
   ·simp only [h,if_false]; omega
 have e1:=a1 0 lo
 have e2:=a1 n hi
 simp only [show (1:Int) > 0 by decide,if_true] at e1 e2 ⊢
 rw [<- e1,<- e2]
 cases lo <;> cases hi <;> rfl
theorem zt3 (n:Nat) (o:Option Int):sIx3 n n o<=n:=by
 cases o with
 | none=>exact Nat.le_refl _
 | some v =>
  show (if v < 0 then (v + (n:Int)).toNat else min v.toNat n)<=n
  split <;> omega
theorem yt3:SlR X rSlS:=by
 intro pins s σ H x v vl vu lo hi sl Q I rx hs pl pu h
 obtain ⟨z,rfl,hz,q⟩:=h
 obtain ⟨t,rfl⟩:=rx
 refine ⟨"str",_,F.slot_str_getitem.lookup,typeIs_str _ _ _,?_⟩
 have hl:∃ l:Option (Int × Tok),partValue l=vl /\ l.map (·.1)=lo:=by
  cases pl with
  | none=>exact ⟨none,rfl,rfl⟩
  | int i t=>exact ⟨some (i,t),rfl,rfl⟩
 have hu:∃ u:Option (Int × Tok),partValue u=vu /\ u.map (·.1)=hi:=by
  cases pu with
  | none=>exact ⟨none,rfl,rfl⟩
  | int i t=>exact ⟨some (i,t),rfl,rfl⟩
 obtain ⟨l,rfl,rfl⟩:=hl
 obtain ⟨u,rfl,rfl⟩:=hu
 refine wpAny_getItem_str_slice (l:=l) (u:=u) (st:=none) hs rfl ?_
 have e:(slicePicked z l u none).filterMap (z.cps[·]?)=cut3 z.cps.toList (l.map (·.1)) (u.map (·.1)):=by
  unfold slicePicked
  show (Builtin.Str.strSliceIndices _ _ 1 z.length).filterMap (z.cps[·]?)=_
  rw [ss3,sliceRange_one,pick_run]
  unfold cut3
  rw [length_toList]
  rfl
 unfold sliceMade
 split
 ·next hw =>
  have hlen:(slicePicked z l u none).length=z.length:=by
   rw [Bool.and_eq_true] at hw
   simpa using hw.2
  have ez:cut3 z.cps.toList (l.map (·.1)) (u.map (·.1))=z.cps.toList:=by
   have h1:(Builtin.Str.strSliceIndices (l.map (·.1)) (u.map (·.1)) 1 z.length).length=z.length:=hlen
   rw [ss3,sliceRange_one,length_map,length_range] at h1
   have h2:=zt3 z.length (u.map (·.1))
   have hs:z.length=z.cps.size:=rfl
   unfold cut3
   rw [length_toList,<- hs]
   rcases Nat.eq_zero_or_pos z.length with h0 | h0
   ·have:z.cps.toList=[]:=List.eq_nil_of_length_eq_zero (by rw [length_toList,<- hs]; exact h0)
    rw [this]; simp
   ·have ha:sIx3 z.length 0 (l.map (·.1))=0:=by omega
    rw [ha,List.drop_zero]
    exact List.take_of_length_le (by rw [length_toList,<- hs]; omega)
  rw [ez] at q
  exact ⟨.str z,H,I,⟨t,rfl⟩,q⟩
 ·rw [e]
  refine ⟨?_,.str _,H,I.tok _,⟨_,rfl⟩,q⟩
  refine Nat.le_trans ?_ hz
  show (cut3 z.cps.toList (l.map (·.1)) (u.map (·.1))).toArray.size<=z.cps.size
  rw [size_toArray]
  unfold cut3
  rw [length_take,length_drop,length_toList]
  omega
theorem q_sl:RL X slR:=by
 refine ⟨_,(sl_tupA.or vc3).or yt3,λ x v lo hi H Q μ Q3 m rx h k=>?_⟩
 cases rx with
 | str z=>exact .inr ⟨z,rfl,h.1,k _ _ _ _ h.2 (Kp.refl _) (.str _) m⟩
 | tup hq rs =>
  refine .inl <| .inl ⟨_,_,rfl,(SqT.of hq),λ e=>?_,λ p hp=>k _ _ _ _ h (Kp.new hp) (.tup wd0 ((rs.cut lo hi).mono (Kp.new hp))) (m.newT hp)⟩
  refine k _ _ _ _ h (Kp.refl _) (.tup hq ?_) m
  have:=rs.cut lo hi
  rw [e] at this
  exact this
 | fls hq rs=>exact .inl <| .inr ⟨_,_,rfl,hq.l,λ p hp=>k _ _ _ _ (h p (m.free hp)) (Kp.new hp) (.ref p) (m.newL hp (rs.cut lo hi))⟩
 | ref p =>
  dsimp only [slR] at h
  cases e:μ p with
  | none=>rw [e] at h; exact h.elim
  | some oo =>
   cases oo with
   | ins _ _=>rw [e] at h; exact h.elim
   | dct _=>rw [e] at h; exact h.elim
   | dcl _=>rw [e] at h; exact h.elim
   | dck _=>rw [e] at h; exact h.elim
   | lst l =>
    rw [e] at h
    obtain ⟨vs,hv,rs⟩:=m p l e
    exact .inl <| .inr ⟨p,vs,rfl,SqL.of hv,λ t ht=>k _ _ _ _ (h t (m.free ht)) (Kp.new ht) (.ref t) (m.newL ht (rs.cut lo hi))⟩
 | _=>exact False.elim h
theorem sn2 {e:Expr} {te:TE3} {lo hi:Option Expr} {tl th:TO3} {pos p2:Pos} {r3:D->Option Int->Option Int->Mu->VK3->Prop} (hr:RL X r3) (he:RE X e te) (hl:RP X lo tl) (hu:RP X hi th):RE X (.Subscript e (.Slice lo hi none p2) pos) (sl3 r3 te tl th):=by
 obtain ⟨r,pr,rr⟩:=hr
 obtain ⟨va,pa,ra⟩:=he
 obtain ⟨vb,pb,rb⟩:=hl
 obtain ⟨vc,pc,rc⟩:=hu
 exact ⟨_,zp2 pr pa pb pc,λ σ H Q ρ μ Q3 s m h k=>ra σ H _ ρ μ _ s m h λ x μ1 v H1 h1 k1 r1 m1=>rb σ H1 _ ρ μ1 _ (s.mono k1) m1 h1 λ l μ2 H2 h2 k2 m2=>rc σ H2 _ ρ μ2 _ ((s.mono k1).mono k2) m2 h2 λ u μ3 H3 h3 k3 m3 =>
  rr x v l u H3 Q μ3 Q3 m3 (r1.mono (k2.trans k3)) h3 (k.after (k1.trans (k2.trans k3)))⟩
theorem zj2 {K:Fg} {H:Hp}:∀ {l:List D} {vs:List V} {bs:List Bool},RelDs K H l vs->bls? l=some bs->vs=bs.map V.bl
 | _,_,bs,.nil,e=>by simp [bls?] at e; subst e; rfl
 | _,_,bs,.cons h r,e=>by
  cases h with
  | bl x =>
   simp only [bls?] at e
   split at e
   ·next ys e1 =>
    simp only [Option.some.injEq] at e
    subst e
    rw [zj2 r e1]; rfl
   ·cases e
  | _=>simp [bls?] at e
theorem zm1:∀ {bs:List Bool} {us:List Value},Vals (bs.map V.bl) us->us=bs.map Value.bool
 | [],_,r=>by cases r; rfl
 | b :: bs,_,r=>by
  cases r with
  | cons r1 r2=>cases r1; rw [zm1 r2]; rfl
theorem sx1 (prog:Program) (w:World) (A:Around) (bs:List Bool):TruthOf prog w A (λ i v=>(bs.map Value.bool).toArray[i]?=some v) (λ i=>bs.getD i false):=by
 intro i v s Q E hP hQ
 have hP':(bs.map Value.bool)[i]?=some v:=by simpa using hP
 rw [getElem?_map] at hP'
 cases e:bs[i]? with
 | none=>rw [e] at hP'; cases hP'
 | some b =>
  rw [e] at hP'
  simp only [Option.map_some,Option.some.injEq] at hP'
  subst hP'
  refine wpAny_truthy_bool ?_
  have:bs.getD i false=b:=by rw [getD_eq_getElem?_getD,e]; rfl
  dsimp only at hQ
  rw [this] at hQ
  exact hQ
theorem yb2 (bs:List Bool):(List.range bs.length).all (λ i=>bs.getD i false)=bs.all id:=by
 rw [Bool.eq_iff_iff,List.all_eq_true,List.all_eq_true]
 constructor
 ·intro h x hx
  obtain ⟨i,hi,rfl⟩:=List.mem_iff_getElem.mp hx
  have:=h i (List.mem_range.mpr hi)
  rw [getD_eq_getElem?_getD,getElem?_eq_getElem hi] at this
  exact this
 ·intro h i hi
  have hi':=List.mem_range.mp hi
  rw [getD_eq_getElem?_getD,getElem?_eq_getElem hi']
  exact h _ (getElem_mem hi')
theorem yj2 (hc:X.calm=true):CallR X (.builtin "all") (λ xs H Q=>∃ (p:Addr) (bs:List Bool),xs=[.ref p] /\ SqL X.K H p (bs.map V.bl) /\ Q (.bl (bs.all id)) H):=by
 intro pins s σ H xs us Q I r h
 obtain ⟨p,bs,rfl,hq,q⟩:=h
 obtain ⟨u,rfl,rx⟩:=xw0 r
 cases rx
 obtain ⟨its,r',pl,hz⟩:=I.list hq
 have eu:=zm1 r'
 subst eu
 refine call_all_walk (wpAny_pyIter_list pl.isList ?_)
 have hlt:p < s.heap.objs.size:=by obtain ⟨o,ho,_⟩:=pl.isList; exact Heap.lt_size ho
 refine ⟨_,_,_,_,_,_,_,rfl,Walks.list (A:=X.A.in1) (I.ok.hd hc) _ p (Nat.ne_of_lt hlt) _,⟨⟨_,Heap.get?_push_size _ rfl,rfl,rfl⟩,pl.isList.at λ o e=>Heap.get?_push_of_some _ e⟩,sx1 _ _ _ bs,λ h' tk hk=>?_⟩
 have e:(bs.map Value.bool).toArray.size=bs.length:=by simp
 rw [e,yb2]
 refine ⟨.bl _,H,I.kept (t':=tk) λ b o eb=>hk b o ?_ (Heap.get?_push_of_some _ eb),rfl,q⟩
 intro z
 rw [mem_singleton] at z
 rw [z] at eb
 exact absurd (Heap.lt_size eb) (Nat.lt_irrefl _)
theorem RdC.bools {K:Fg} {f:List Bool->Bool} {r3:C3} (hr:∀ ds μ Q3,r3 ds μ Q3->∃ p l bs,ds=[.ref p] /\ μ p=some (.lst l) /\ bls? l=some bs /\ Q3 (.bl (f bs)) μ) :
    RdC K (λ xs H Q=>∃ (p:Addr) (bs:List Bool),xs=[.ref p] /\ SqL K H p (bs.map V.bl) /\ Q (.bl (f bs)) H) r3:=λ xs vs H Q μ Q3 m r h k=>by
 obtain ⟨p,l,bs,rfl,e,e1,q⟩:=hr _ _ _ h
 cases r with
 | cons r1 r2 =>
  cases r2
  cases r1
  obtain ⟨us,hv,rs⟩:=m p l e
  have ev:=zj2 rs e1
  subst ev
  exact ⟨p,bs,rfl,SqL.of hv,k _ _ _ _ q (Kp.refl _) (.bl _) m⟩
theorem ws4 (hc:X.calm=true:=by rfl):RC X (.builtin "all") allR:=by
 refine ⟨_,yj2 hc,RdC.bools λ ds μ Q3 h=>?_⟩
 unfold allR at h
 split at h
 ·split at h
  ·next p _ l e =>
   split at h
   ·next bs e1=>exact ⟨p,l,bs,rfl,e,e1,h⟩
   ·exact h.elim
  ·exact h.elim
 ·exact h.elim
end
end Pv
namespace Ms
open PySem.W PyProof.Rows
def run (lt:Nat->Nat->Bool) {α:Type}:KasT α->α
 | .ret a=>a
 | .ask i j k=>run lt (k (lt i j))
theorem yk0 (lt:Nat->Nat->Bool) {α β:Type} (f:α->KasT β):∀ t:KasT α,run lt (t.bind f)=run lt (f (run lt t))
 | .ret _=>rfl
 | .ask i j k=>yk0 lt f (k (lt i j))
structure Ord (lt:Nat->Nat->Bool):Prop where
 ir:∀ a,lt a a=false
 tr:∀ a b c,lt a b=true->lt b c=true->lt a c=true
 ng:∀ a b c,lt a c=true->lt a b=true \/ lt b c=true
section
variable {lt:Nat->Nat->Bool} (O:Ord lt)
abbrev at' (p:Array Nat) (i:Nat):Nat:=p.getD i 0
def le (lt:Nat->Nat->Bool) (a b:Nat):Prop:=lt b a=false
include O
theorem le_rf (a:Nat):le lt a a:=O.ir a
theorem ww0 {a b c:Nat} (h:le lt a b) (k:le lt b c):le lt a c:=by
 unfold le at *
 cases e:lt c a with
 | false=>rfl
 | true =>
  rcases O.ng c b a e with h1 | h1
  ·rw [k] at h1; cases h1
  ·rw [h] at h1; cases h1
theorem ve2 {a b:Nat} (h:lt a b=true):le lt a b:=by
 unfold le
 cases e:lt b a with
 | false=>rfl
 | true=>have:=O.tr a b a h e; rw [O.ir] at this; cases this
omit O
def Up (lt:Nat->Nat->Bool) (p:Array Nat) (n:Nat):Prop:=∀ a b,a<=b->b < n->le lt (at' p a) (at' p b)
def Dn (lt:Nat->Nat->Bool) (p:Array Nat) (n:Nat):Prop:=∀ a b,a<=b->b < n->le lt (at' p b) (at' p a)
theorem uj2 {p q:Array Nat} {i j:Nat} (h:p[i]?=q[j]?):at' p i=at' q j:=by
 show p.getD i 0=q.getD j 0
 rw [Array.getD_eq_getD_getElem?,Array.getD_eq_getD_getElem?,h]
theorem uv0 {p:Array Nat} {i j:Nat} (hj:j<=p.size) (k:Nat):at' (kas_rev p i j) k=if i<=k /\ k < j then at' p (i + j - 1 - k) else at' p k:=by
 have h:=getElem?_mirror_all (xs:=p) (i:=i) hj k
 split
 ·next c=>rw [if_pos c] at h; exact uj2 h
 ·next c=>rw [if_neg c] at h; exact uj2 h
theorem ua3 {p:Array Nat} {k l:Nat} (hk:k < p.size) (hl:l<=k) (i:Nat):at' (bubble p k (k - l)) i=if i=l then at' p k else if l < i /\ i<=k then at' p (i - 1) else at' p i:=by
 have h:=getElem?_bubble (xs:=p) hk (k - l) (by omega) i
 rw [show k - (k - l)=l by omega] at h
 by_cases c:i=l
 ·rw [if_pos c] at h ⊢; exact uj2 h
 ·rw [if_neg c] at h ⊢
  by_cases c2:l < i /\ i<=k
  ·rw [if_pos c2] at h ⊢; exact uj2 h
  ·rw [if_neg c2] at h ⊢; exact uj2 h
include O
theorem up3 (p:Array Nat):Up lt p 1:=λ a b h1 h2=>by
 have e1:a=0:=by omega
 have e2:b=0:=by omega
 subst e1 e2
 exact le_rf O _
theorem yb3 {p:Array Nat} {n:Nat} (h:Up lt p n) (h1:1<=n) (k:le lt (at' p (n - 1)) (at' p n)):Up lt p (n + 1):=λ a b hab hb=>by
 by_cases e:b=n
 ·subst e
  by_cases e2:a=b
  ·subst e2; exact le_rf O _
  ·exact ww0 O (h a (b - 1) (by omega) (by omega)) k
 ·exact h a b hab (by omega)
theorem vu0 {p:Array Nat} {n:Nat} (h:Dn lt p n) (h1:1<=n) (k:le lt (at' p n) (at' p (n - 1))):Dn lt p (n + 1):=λ a b hab hb=>by
 by_cases e:b=n
 ·subst e
  by_cases e2:a=b
  ·subst e2; exact le_rf O _
  ·exact ww0 O k (h a (b - 1) (by omega) (by omega))
 ·exact h a b hab (by omega)
theorem sj2 (p:Array Nat):∀ (f n:Nat),1<=n->Up lt p n->n<=run lt (kas_asc p f n) /\ run lt (kas_asc p f n)<=n + f /\ Up lt p (run lt (kas_asc p f n)) /\ (run lt (kas_asc p f n) < n + f->lt (at' p (run lt (kas_asc p f n))) (at' p (run lt (kas_asc p f n) - 1))=true)
 | 0,n,h1,h=>⟨Nat.le_refl _,Nat.le_refl _,h,λ z=>absurd z (Nat.lt_irrefl _)⟩
 | f + 1,n,h1,h=>by
  cases e:lt (at' p n) (at' p (n - 1)) with
  | true =>
   have r:run lt (kas_asc p (f + 1) n)=n:=by
    show run lt (if lt (at' p n) (at' p (n - 1))=true then .ret n else kas_asc p f (n + 1))=n
    rw [e]; rfl
   rw [r]
   exact ⟨Nat.le_refl _,by omega,h,λ _=>e⟩
  | false =>
   have r:run lt (kas_asc p (f + 1) n)=run lt (kas_asc p f (n + 1)):=by
    show run lt (if lt (at' p n) (at' p (n - 1))=true then .ret n else kas_asc p f (n + 1))=_
    rw [e]; rfl
   rw [r]
   obtain ⟨a1,a2,a3,a4⟩:=sj2 p f (n + 1) (by omega) (yb3 O h h1 e)
   exact ⟨by omega,by omega,a3,λ z=>a4 (by omega)⟩
omit O
def Eqs (lt:Nat->Nat->Bool) (p:Array Nat) (n q:Nat):Prop:=∀ a b,n - (q + 1)<=a->a < n->n - (q + 1)<=b->b < n->le lt (at' p a) (at' p b)
include O
theorem ya2 {p:Array Nat} {n q m:Nat} (hn:n<=p.size) (hq:q + 1<=n) (h:Eqs lt p n q) (k:Nat):le lt (at' (kas_rev p (n - (q + 1)) n) k) (at' p k) /\ le lt (at' p k) (at' (kas_rev p (n - (q + 1)) n) k):=by
 rw [uv0 hn]
 split
 ·next c=>exact ⟨h _ _ (by omega) (by omega) c.1 c.2,h _ _ c.1 c.2 (by omega) (by omega)⟩
 ·exact ⟨le_rf O _,le_rf O _⟩
theorem ug2 {p p':Array Nat} {n:Nat} (h:Dn lt p n) (e:∀ k,le lt (at' p' k) (at' p k) /\ le lt (at' p k) (at' p' k)):Dn lt p' n:=λ a b hab hb =>
 ww0 O (e b).1 (ww0 O (h a b hab hb) (e a).2)
omit O
structure DOk (lt:Nat->Nat->Bool) (p0:Array Nat) (N:Nat) (r:Array Nat × Nat × Nat) (n:Nat):Prop where
 perm:r.1.Perm p0
 lo:n<=r.2.1
 hi:r.2.1<=N
 dn:Dn lt r.1 r.2.1
 q:r.2.2 + 1<=r.2.1
 eqs:Eqs lt r.1 r.2.1 r.2.2
include O
theorem yd1 (p0:Array Nat):∀ (f:Nat) (p:Array Nat) (n q:Nat),p.Perm p0->n + f<=p0.size->Dn lt p n->q + 1<=n->Eqs lt p n q->DOk lt p0 (n + f) (run lt (kas_desc f p n q)) n
 | 0,p,n,q,hp,hs,h,hq,he=>⟨hp,Nat.le_refl _,Nat.le_refl _,h,hq,he⟩
 | f + 1,p,n,q,hp,hs,h,hq,he=>by
  have hsz:p.size=p0.size:=hp.size_eq
  cases e:lt (at' p n) (at' p (n - 1)) with
  | true =>
   have one:∀ p':Array Nat,Eqs lt p' (n + 1) 0:=λ p' a b a1 a2 b1 b2=>by
    have e1:a=n:=by omega
    have e2:b=n:=by omega
    subst e1 e2; exact le_rf O _
   by_cases c:q > 0
   ·have r:run lt (kas_desc (f + 1) p n q)=run lt (kas_desc f (kas_rev p (n - (q + 1)) n) (n + 1) 0):=by
      show run lt (if lt (at' p n) (at' p (n - 1))=true then (if q > 0 then kas_desc f (kas_rev p (n - (q + 1)) n) (n + 1) 0 else kas_desc f p (n + 1) 0) else _)=_
      rw [e,if_pos rfl,if_pos c]
    rw [r]
    have lk:=ya2 O (m:=0) (by omega) hq he
    have d:=yd1 p0 f (kas_rev p (n - (q + 1)) n) (n + 1) 0 ((mirror_perm _ _ _ _).trans hp) (by omega) (ug2 O (vu0 O h (by omega) (ve2 O e)) lk) (by omega) (one _)
    exact ⟨d.perm,by have:=d.lo; omega,by have:=d.hi; omega,d.dn,d.q,d.eqs⟩
   ·have r:run lt (kas_desc (f + 1) p n q)=run lt (kas_desc f p (n + 1) 0):=by
      show run lt (if lt (at' p n) (at' p (n - 1))=true then (if q > 0 then kas_desc f (kas_rev p (n - (q + 1)) n) (n + 1) 0 else kas_desc f p (n + 1) 0) else _)=_
      rw [e,if_pos rfl,if_neg c]
    rw [r]
    have d:=yd1 p0 f p (n + 1) 0 hp (by omega) (vu0 O h (by omega) (ve2 O e)) (by omega) (one _)
    exact ⟨d.perm,by have:=d.lo; omega,by have:=d.hi; omega,d.dn,d.q,d.eqs⟩
  | false =>
   cases e2:lt (at' p (n - 1)) (at' p n) with
   | true =>
    have r:run lt (kas_desc (f + 1) p n q)=(p,n,q):=by
     show run lt (if lt (at' p n) (at' p (n - 1))=true then _ else (KasT.ask (at' p (n - 1)) (at' p n) λ d=>if d=true then .ret (p,n,q) else kas_desc f p (n + 1) (q + 1)))=_
     rw [e,if_neg (by decide)]
     show run lt (if lt (at' p (n - 1)) (at' p n)=true then .ret (p,n,q) else kas_desc f p (n + 1) (q + 1))=_
     rw [e2]; rfl
    rw [r]
    exact ⟨hp,Nat.le_refl _,by show n<=n + (f + 1); omega,h,hq,he⟩
   | false =>
    have r:run lt (kas_desc (f + 1) p n q)=run lt (kas_desc f p (n + 1) (q + 1)):=by
     show run lt (if lt (at' p n) (at' p (n - 1))=true then _ else (KasT.ask (at' p (n - 1)) (at' p n) λ d=>if d=true then .ret (p,n,q) else kas_desc f p (n + 1) (q + 1)))=_
     rw [e,if_neg (by decide)]
     show run lt (if lt (at' p (n - 1)) (at' p n)=true then .ret (p,n,q) else kas_desc f p (n + 1) (q + 1))=_
     rw [e2,if_neg (by decide)]
    rw [r]
    have he':Eqs lt p (n + 1) (q + 1):=λ a b a1 a2 b1 b2=>by
     by_cases ca:a=n
     ·subst ca
      by_cases cb:b=a
      ·subst cb; exact le_rf O _
      ·exact ww0 O e2 (he (a - 1) b (by omega) (by omega) (by omega) (by omega))
     ·by_cases cb:b=n
      ·subst cb; exact ww0 O (he a (b - 1) (by omega) (by omega) (by omega) (by omega)) e
      ·exact he a b (by omega) (by omega) (by omega) (by omega)
    have d:=yd1 p0 f p (n + 1) (q + 1) hp (by omega) (vu0 O h (by omega) e2) (by omega) he'
    exact ⟨d.perm,by have:=d.lo; omega,by have:=d.hi; omega,d.dn,d.q,d.eqs⟩
omit O
structure ROk (lt:Nat->Nat->Bool) (p0:Array Nat) (N:Nat) (r:Nat × Array Nat):Prop where
 perm:r.2.Perm p0
 lo:1<=r.1
 hi:r.1<=N
 up:Up lt r.2 r.1
theorem vk4 {p:Array Nat} {n:Nat} (hn:n<=p.size) (h:Dn lt p n):Up lt (kas_rev p 0 n) n:=λ a b hab hb=>by
 rw [uv0 hn,uv0 hn,if_pos ⟨by omega,by omega⟩,if_pos ⟨by omega,by omega⟩]
 exact h _ _ (by omega) (by omega)
include O
theorem sm1 {p0 p:Array Nat} {n N:Nat} (hp:p.Perm p0) (hN:N<=p0.size) (h1:1<=n) (hn:n<=N) (h:Dn lt p n):ROk lt p0 N (run lt (kas_tail3 n N p)):=by
 have hsz:p.size=p0.size:=hp.size_eq
 have u:=vk4 (by omega) h
 unfold kas_tail3
 rw [yk0]
 obtain ⟨a1,a2,a3,_⟩:=sj2 O (kas_rev p 0 n) (N - n) n h1 u
 exact ⟨(mirror_perm _ _ _ _).trans hp,by show 1<=run lt _; omega,by show run lt _<=N; omega,a3⟩
theorem uu0 {p0 p:Array Nat} {n N:Nat} (hp:p.Perm p0) (hN:N<=p0.size) (hn:n + 1<=N) (h:Dn lt p (n + 1)):ROk lt p0 N (run lt (kas_descPart n N p)):=by
 have hsz:p.size=p0.size:=hp.size_eq
 unfold kas_descPart
 rw [yk0]
 have one:Eqs lt p (n + 1) 0:=λ a b a1 a2 b1 b2=>by
  have e1:a=n:=by omega
  have e2:b=n:=by omega
  subst e1 e2; exact le_rf O _
 have d:=yd1 O p0 (N - (n + 1)) p (n + 1) 0 hp (by omega) h (by omega) one
 generalize run lt (kas_desc (N - (n + 1)) p (n + 1) 0)=r at d
 obtain ⟨p',n',q'⟩:=r
 have d1:=d.lo
 have d2:=d.hi
 have d3:=d.q
 dsimp only at d1 d2 d3
 have hs':p'.size=p0.size:=d.perm.size_eq
 show ROk lt p0 N (run lt (if q' > 0 then kas_tail3 n' N (kas_rev p' (n' - (q' + 1)) n') else kas_tail3 n' N p'))
 split
 ·have lk:=ya2 O (p:=p') (n:=n') (q:=q') (m:=0) (by omega) d3 d.eqs
  exact sm1 O ((mirror_perm _ _ _ _).trans d.perm) hN (by omega) (by omega) (ug2 O d.dn lk)
 ·exact sm1 O d.perm hN (by omega) (by omega) d.dn
theorem ss2 {p:Array Nat} {N:Nat} (hN:N<=p.size) (h1:1<=N):ROk lt p N (run lt (kas_count N p)):=by
 unfold kas_count
 rw [yk0]
 obtain ⟨a1,a2,a3,a4⟩:=sj2 O p (N - 1) 1 (Nat.le_refl _) (up3 O p)
 generalize run lt (kas_asc p (N - 1) 1)=n at a1 a2 a3 a4
 by_cases c:n=N
 ·rw [if_pos (by rw [c]; exact beq_self_eq_true _)]
  exact ⟨Array.Perm.refl _,by show 1<=n; omega,by show n<=N; omega,a3⟩
 ·rw [if_neg (by simpa using c)]
  have lt1:=a4 (by omega)
  by_cases c2:n > 1
  ·rw [if_pos c2]
   show ROk lt p N (run lt (if lt (at' p 0) (at' p (n - 1))=true then .ret (n,p) else kas_descPart n N (kas_rev p 0 n)))
   cases e:lt (at' p 0) (at' p (n - 1)) with
   | true =>
    rw [if_pos rfl]
    exact ⟨Array.Perm.refl _,by show 1<=n; omega,by show n<=N; omega,a3⟩
   | false =>
    rw [if_neg (by decide)]
    have eq:∀ a b,a < n->b < n->le lt (at' p a) (at' p b):=λ a b ha hb=>ww0 O (a3 a (n - 1) (by omega) (by omega)) (ww0 O e (a3 0 b (by omega) hb))
    refine uu0 O (mirror_perm _ _ _ _) hN (by omega) ?_
    have d0:Dn lt (kas_rev p 0 n) n:=λ a b hab hb=>by
     rw [uv0 (by omega),uv0 (by omega),if_pos ⟨by omega,by omega⟩,if_pos ⟨by omega,by omega⟩]
     exact eq _ _ (by omega) (by omega)
    refine vu0 O d0 (by omega) ?_
    rw [uv0 (by omega),uv0 (by omega),if_neg (by omega),if_pos ⟨by omega,by omega⟩]
    exact ww0 O (ve2 O lt1) (eq _ _ (by omega) (by omega))
  ·rw [if_neg c2]
   have e1:n=1:=by omega
   subst e1
   refine uu0 O (Array.Perm.refl _) hN (by omega) ?_
   have d0:Dn lt p 1:=λ a b h1 h2=>by
    have e1:a=0:=by omega
    have e2:b=0:=by omega
    subst e1 e2; exact le_rf O _
   exact vu0 O d0 (Nat.le_refl _) (ve2 O lt1)
theorem sb1 {p:Array Nat} {k:Nat} (h:Up lt p k):∀ (f l r:Nat),l<=r->r<=k->r - l<=f->(∀ a,a < l->le lt (at' p a) (at' p k))->(∀ b,r<=b->b < k->lt (at' p k) (at' p b)=true) ->
    run lt (kas_place p k f l r)<=k /\ (∀ a,a < run lt (kas_place p k f l r)->le lt (at' p a) (at' p k)) /\ ∀ b,run lt (kas_place p k f l r)<=b->b < k->lt (at' p k) (at' p b)=true
 | 0,l,r,hlr,hrk,hf,h1,h2=>⟨by show l<=k; omega,h1,λ b hb1 hb2=>h2 b (by have:l<=b:=hb1; omega) hb2⟩
 | f + 1,l,r,hlr,hrk,hf,h1,h2=>by
  by_cases c:l ≥ r
  ·have e:run lt (kas_place p k (f + 1) l r)=l:=by
     show run lt (if l ≥ r then .ret l else _)=l
     rw [if_pos c]; rfl
   rw [e]
   exact ⟨by omega,h1,λ b hb1 hb2=>h2 b (by omega) hb2⟩
  ·cases e:lt (at' p k) (at' p ((l + r) / 2)) with
   | true =>
    have e2:run lt (kas_place p k (f + 1) l r)=run lt (kas_place p k f l ((l + r) / 2)):=by
     show run lt (if l ≥ r then .ret l else .ask (at' p k) (at' p ((l + r) / 2)) λ c=>if c=true then kas_place p k f l ((l + r) / 2) else kas_place p k f ((l + r) / 2 + 1) r)=_
     rw [if_neg c]
     show run lt (if lt (at' p k) (at' p ((l + r) / 2))=true then _ else _)=_
     rw [e,if_pos rfl]
    rw [e2]
    refine sb1 h f l ((l + r) / 2) (by omega) (by omega) (by omega) h1 λ b hb1 hb2=>?_
    have z:=h ((l + r) / 2) b hb1 hb2
    rcases O.ng (at' p k) (at' p b) (at' p ((l + r) / 2)) e with y | y
    ·exact y
    ·unfold le at z; rw [z] at y; cases y
   | false =>
    have e2:run lt (kas_place p k (f + 1) l r)=run lt (kas_place p k f ((l + r) / 2 + 1) r):=by
     show run lt (if l ≥ r then .ret l else .ask (at' p k) (at' p ((l + r) / 2)) λ c=>if c=true then kas_place p k f l ((l + r) / 2) else kas_place p k f ((l + r) / 2 + 1) r)=_
     rw [if_neg c]
     show run lt (if lt (at' p k) (at' p ((l + r) / 2))=true then _ else _)=_
     rw [e,if_neg (by decide)]
    rw [e2]
    exact sb1 h f ((l + r) / 2 + 1) r (by omega) hrk (by omega) (λ a ha=>ww0 O (h a ((l + r) / 2) (by omega) (by omega)) e) h2
theorem ya3 {p0:Array Nat}:∀ (f:Nat) (p:Array Nat) (k:Nat),p.Perm p0->1<=k->k + f<=p0.size->Up lt p k->(run lt (kas_bin f p k)).Perm p0 /\ Up lt (run lt (kas_bin f p k)) (k + f)
 | 0,p,k,hp,h1,hs,h=>⟨hp,h⟩
 | f + 1,p,k,hp,h1,hs,h=>by
  have hsz:p.size=p0.size:=hp.size_eq
  have e:run lt (kas_bin (f + 1) p k)=run lt (kas_bin f (bubble p k (k - run lt (kas_place p k k 0 k))) (k + 1)):=by
   show run lt ((kas_place p k k 0 k).bind λ l=>kas_bin f (bubble p k (k - l)) (k + 1))=_
   rw [yk0]
  rw [e]
  obtain ⟨b1,b2,b3⟩:=sb1 O h k 0 k (by omega) (Nat.le_refl _) (by omega) (λ a ha=>absurd ha (Nat.not_lt_zero _)) (λ b hb1 hb2=>by omega)
  generalize run lt (kas_place p k k 0 k)=l at b1 b2 b3
  have u:Up lt (bubble p k (k - l)) (k + 1):=λ a b hab hb=>by
   rw [ua3 (by omega) b1,ua3 (by omega) b1]
   by_cases ca:a=l
   ·rw [if_pos ca]
    by_cases cb:b=l
    ·rw [if_pos cb]; exact le_rf O _
    ·rw [if_neg cb,if_pos ⟨by omega,by omega⟩]; exact ve2 O (b3 _ (by omega) (by omega))
   ·rw [if_neg ca]
    by_cases cb:b=l
    ·rw [if_pos cb,if_neg (by omega)]; exact b2 _ (by omega)
    ·rw [if_neg cb]
     by_cases ca2:l < a /\ a<=k
     ·rw [if_pos ca2,if_pos ⟨by omega,by omega⟩]; exact h _ _ (by omega) (by omega)
     ·rw [if_neg ca2]
      by_cases cb2:l < b /\ b<=k
      ·rw [if_pos cb2]; exact h _ _ (by omega) (by omega)
      ·rw [if_neg cb2]; exact h _ _ (by omega) (by omega)
  have z:=ya3 f (bubble p k (k - l)) (k + 1) ((bubble_perm _ _ _).trans hp) (by omega) (by omega) u
  rw [show k + 1 + f=k + (f + 1) by omega] at z
  exact z
theorem sort_ok {n:Nat} (hn:1<=n):(run lt (kas_sort n)).Perm (List.toArray (List.range n)) /\ Up lt (run lt (kas_sort n)) n:=by
 have hs:(List.toArray (List.range n)).size=n:=by simp
 unfold kas_sort
 rw [yk0]
 have c:=ss2 O (p:=List.toArray (List.range n)) (N:=n) (by omega) hn
 generalize run lt (kas_count n (List.toArray (List.range n)))=r at c
 obtain ⟨m,p⟩:=r
 have c1:=c.lo
 have c2:=c.hi
 dsimp only at c1 c2
 show (run lt (if m < n then kas_bin (n - max m 1) p (max m 1) else .ret p)).Perm _ /\ Up lt (run lt (if m < n then kas_bin (n - max m 1) p (max m 1) else .ret p)) n
 rw [show max m 1=m by omega]
 by_cases e:m < n
 ·rw [if_pos e]
  have z:=ya3 O (n - m) p m c.perm c1 (by omega) c.up
  rw [show m + (n - m)=n by omega] at z
  exact z
 ·rw [if_neg e]
  have e2:m=n:=by omega
  subst e2
  exact ⟨c.perm,c.up⟩
end
def Bd (N:Nat) {α:Type} (P:α->Prop):KasT α->Prop
 | .ret a=>P a
 | .ask i j k=>i < N /\ j < N /\ ∀ b,Bd N P (k b)
theorem Bd.bind {N:Nat} {α β:Type} {P:α->Prop} {R:β->Prop} {f:α->KasT β} (hf:∀ a,P a->Bd N R (f a)):∀ t:KasT α,Bd N P t->Bd N R (t.bind f)
 | .ret a,h=>hf a h
 | .ask i j k,h=>⟨h.1,h.2.1,λ b=>Bd.bind hf (k b) (h.2.2 b)⟩
theorem Bd.wp {N:Nat} {lt:Nat->Nat->Bool} {cmp:Nat->Nat->(Bool->PySem.Shared->Prop)->PySem.Shared->Prop} {s:PySem.Shared} (hc:∀ i j C,i < N->j < N->C (lt i j) s->cmp i j C s) {α:Type} {P:α->Prop} {Q:α->PySem.Shared->Prop} :
    ∀ t:KasT α,Bd N P t->Q (run lt t) s->t.kasWp cmp Q s
 | .ret _,_,q=>q
 | .ask i j k,h,q=>hc i j _ h.1 h.2.1 (Bd.wp hc (k (lt i j)) (h.2.2 _) q)
section
variable {N:Nat}
theorem tk0 {p:Array Nat} (hN:1<=N) (hp:p.Perm (List.toArray (List.range N))) (k:Nat):at' p k < N:=by
 show p.getD k 0 < N
 rw [Array.getD_eq_getD_getElem?]
 cases e:p[k]? with
 | none=>exact hN
 | some x =>
  have h1:x ∈ p:=Array.mem_of_getElem? e
  have h2:x ∈ List.toArray (List.range N):=hp.mem_iff.mp h1
  simpa using h2
theorem vj2 (hN:1<=N) {p:Array Nat} (hp:p.Perm (List.toArray (List.range N))):∀ f n,Bd N (λ _=>True) (kas_asc p f n)
 | 0,_=>trivial
 | f + 1,n=>⟨tk0 hN hp _,tk0 hN hp _,λ b=>by
  show Bd N _ (if b=true then .ret n else kas_asc p f (n + 1))
  split
  ·trivial
  ·exact vj2 hN hp f (n + 1)⟩
theorem ye1 (hN:1<=N):∀ f (p:Array Nat) n q,p.Perm (List.toArray (List.range N))->Bd N (λ r=>r.1.Perm (List.toArray (List.range N))) (kas_desc f p n q)
 | 0,_,_,_,hp=>hp
 | f + 1,p,n,q,hp=>⟨tk0 hN hp _,tk0 hN hp _,λ b=>by
  show Bd N _ (if b=true then (if q > 0 then kas_desc f (kas_rev p (n - (q + 1)) n) (n + 1) 0 else kas_desc f p (n + 1) 0) else _)
  split
  ·split
   ·exact ye1 hN f _ _ _ ((mirror_perm _ _ _ _).trans hp)
   ·exact ye1 hN f _ _ _ hp
  ·refine ⟨tk0 hN hp _,tk0 hN hp _,λ d=>?_⟩
   show Bd N _ (if d=true then .ret (p,n,q) else kas_desc f p (n + 1) (q + 1))
   split
   ·exact hp
   ·exact ye1 hN f _ _ _ hp⟩
theorem zr1 (hN:1<=N) {p:Array Nat} {n m:Nat} (hp:p.Perm (List.toArray (List.range N))):Bd N (λ r=>r.2.Perm (List.toArray (List.range N))) (kas_tail3 n m p):=by
 have hr:(kas_rev p 0 n).Perm (List.toArray (List.range N)):=(mirror_perm _ _ _ _).trans hp
 unfold kas_tail3
 refine Bd.bind (P:=λ _=>True) (f:=λ m=>.ret (m,kas_rev p 0 n)) (λ a _=>?_) _ (vj2 hN hr _ _)
 exact hr
theorem vv0 (hN:1<=N) {p:Array Nat} {n m:Nat} (hp:p.Perm (List.toArray (List.range N))):Bd N (λ r=>r.2.Perm (List.toArray (List.range N))) (kas_descPart n m p):=by
 refine Bd.bind (λ r hr=>?_) _ (ye1 hN _ _ _ _ hp)
 show Bd N _ (if r.2.2 > 0 then kas_tail3 r.2.1 m (kas_rev r.1 (r.2.1 - (r.2.2 + 1)) r.2.1) else kas_tail3 r.2.1 m r.1)
 split
 ·exact zr1 hN ((mirror_perm _ _ _ _).trans hr)
 ·exact zr1 hN hr
theorem tt2 (hN:1<=N) {p:Array Nat} {m:Nat} (hp:p.Perm (List.toArray (List.range N))):Bd N (λ r=>r.2.Perm (List.toArray (List.range N))) (kas_count m p):=by
 refine Bd.bind (λ n _=>?_) _ (vj2 hN hp _ _)
 split
 ·exact hp
 ·split
  ·refine ⟨tk0 hN hp _,tk0 hN hp _,λ b=>?_⟩
   show Bd N _ (if b=true then .ret (n,p) else kas_descPart n m (kas_rev p 0 n))
   split
   ·exact hp
   ·exact vv0 hN ((mirror_perm _ _ _ _).trans hp)
  ·exact vv0 hN hp
theorem xe1 (hN:1<=N) {p:Array Nat} {k:Nat} (hp:p.Perm (List.toArray (List.range N))):∀ f l r,Bd N (λ _=>True) (kas_place p k f l r)
 | 0,_,_=>trivial
 | f + 1,l,r=>by
  show Bd N _ (if l ≥ r then .ret l else .ask (at' p k) (at' p ((l + r) / 2)) λ c=>if c=true then kas_place p k f l ((l + r) / 2) else kas_place p k f ((l + r) / 2 + 1) r)
  split
  ·trivial
  ·refine ⟨tk0 hN hp _,tk0 hN hp _,λ b=>?_⟩
   show Bd N _ (if b=true then kas_place p k f l ((l + r) / 2) else kas_place p k f ((l + r) / 2 + 1) r)
   split
   ·exact xe1 hN hp f _ _
   ·exact xe1 hN hp f _ _
theorem za3 (hN:1<=N):∀ f (p:Array Nat) k,p.Perm (List.toArray (List.range N))->Bd N (λ _=>True) (kas_bin f p k)
 | 0,_,_,_=>trivial
 | f + 1,p,k,hp=>Bd.bind (λ l _=>za3 hN f _ _ ((bubble_perm _ _ _).trans hp)) _ (xe1 hN hp _ _ _)
theorem bd_sort (hN:1<=N):Bd N (λ _=>True) (kas_sort N):=by
 refine Bd.bind (λ r hr=>?_) _ (tt2 hN (Array.Perm.refl _))
 split
 ·exact za3 hN _ _ _ hr
 ·trivial
end
end Ms
namespace Pv
open PySem PySem.Spec PySem.W PyProof.Rows L2
abbrev T3:=Int × Int × Int
def lt3 (a b:T3):Bool:=decide (a.1 < b.1) || (a.1 == b.1 && (decide (a.2.1 < b.2.1) || (a.2.1 == b.2.1 && decide (a.2.2 < b.2.2))))
def IsT3 (h:Heap) (v:Value) (t:T3):Prop:=∃ a o t1 t2 t3 n,v=.ref a /\ h.get? a=some o /\ o.cls=.type "tuple" /\ o.data=.seq #[.int t.1 t1,.int t.2.1 t2,.int t.2.2 t3] n
theorem ze2 (ts:List T3):Ms.Ord λ i j=>lt3 (ts.getD i (0,0,0)) (ts.getD j (0,0,0)) where
 ir:=λ a=>by simp [lt3]
 tr:=λ a b c h k=>by
  simp only [lt3,Bool.or_eq_true,Bool.and_eq_true,decide_eq_true_eq,beq_iff_eq] at h k ⊢
  omega
 ng:=λ a b c h=>by
  simp only [lt3,Bool.or_eq_true,Bool.and_eq_true,decide_eq_true_eq,beq_iff_eq] at h ⊢
  omega
section
variable {prog:Program} {w:World} {A:Around} {E:Value->Shared->Prop} {s:Shared}
theorem tn4 {x y:Value} {a b:T3} {Q:Bool->Shared->Prop} (hx:IsT3 s.heap x a) (hy:IsT3 s.heap y b) (h:Q (lt3 a b) s):wpAny (model prog w) A (keyLt' (tuples' true) x y) Q E s:=by
 obtain ⟨x,ox,t1,t2,t3,n,rfl,ex,_,dx⟩:=hx
 obtain ⟨y,oy,u1,u2,u3,m,rfl,ey,_,dy⟩:=hy
 obtain ⟨a1,a2,a3⟩:=a
 obtain ⟨b1,b2,b3⟩:=b
 refine kat_lt ex dx ey dy ?_
 refine kat_cons (wpAny_eqBool_int ?_)
 by_cases c1:a1=b1
 ·rw [show (a1 == b1)=true from beq_iff_eq.mpr c1]
  refine kat_yes (kat_cons (wpAny_eqBool_int ?_))
  by_cases c2:a2=b2
  ·rw [show (a2 == b2)=true from beq_iff_eq.mpr c2]
   refine kat_yes (kat_cons (wpAny_eqBool_int ?_))
   by_cases c3:a3=b3
   ·rw [show (a3 == b3)=true from beq_iff_eq.mpr c3]
    refine kat_yes (kat_nil ?_)
    have e:lt3 (a1,a2,a3) (b1,b2,b3)=false:=by subst c1 c2 c3; simp [lt3]
    rw [e] at h
    exact h
   ·rw [show (a3 == b3)=false from by simpa using c3]
    have e:lt3 (a1,a2,a3) (b1,b2,b3)=decide (a3 < b3):=by subst c1 c2; simp [lt3]
    rw [e] at h
    exact kat_no (kat_one _ _ (lt_int h))
  ·rw [show (a2 == b2)=false from by simpa using c2]
   have e:lt3 (a1,a2,a3) (b1,b2,b3)=decide (a2 < b2):=by subst c1; simp [lt3,c2]
   rw [e] at h
   exact kat_no (kat_one _ _ (lt_int h))
 ·rw [show (a1 == b1)=false from by simpa using c1]
  have e:lt3 (a1,a2,a3) (b1,b2,b3)=decide (a1 < b1):=by simp [lt3,c1]
  rw [e] at h
  exact kat_no (oneLt_int h)
def T3s (h:Heap):List Value->List T3->Prop
 | [],[]=>True
 | v :: vs,t :: ts=>IsT3 h v t /\ T3s h vs ts
 | _,_=>False
theorem T3s.kept {h h':Heap} (k:∀ b o,h.get? b=some o->o.cls=.type "tuple" -> h'.get? b=some o):∀ {vs:List Value} {ts:List T3},T3s h vs ts->T3s h' vs ts
 | [],[],_=>trivial
 | [],_ :: _,i=>i.elim
 | _ :: _,[],i=>i.elim
 | v :: vs,t :: ts,i=>by
  obtain ⟨⟨a,o,t1,t2,t3,n,e1,e2,e3,e4⟩,r⟩:=i
  exact ⟨⟨a,o,t1,t2,t3,n,e1,k _ _ e2 e3,e3,e4⟩,T3s.kept k r⟩
theorem T3s.get {h:Heap}:∀ {vs:List Value} {ts:List T3},T3s h vs ts->∀ i,i < vs.length->IsT3 h (vs.getD i .none) (ts.getD i (0,0,0))
 | [],[],_,i,hi=>absurd hi (Nat.not_lt_zero _)
 | [],_ :: _,z,_,_=>z.elim
 | _ :: _,[],z,_,_=>z.elim
 | v :: vs,t :: ts,z,0,_=>z.1
 | v :: vs,t :: ts,z,i + 1,hi=>T3s.get z.2 i (Nat.lt_of_succ_lt_succ hi)
theorem T3s.firsts {h:Heap}:∀ {vs:List Value} {ts:List T3},T3s h vs ts->∃ fs,KatTups h vs fs /\ fs.length=vs.length /\ ∀ v ∈ fs,∃ i t,v=Value.int i t
 | [],[],_=>⟨[],trivial,rfl,λ _ hv=>nomatch hv⟩
 | [],_ :: _,z=>z.elim
 | _ :: _,[],z=>z.elim
 | v :: vs,t :: ts,z=>by
  obtain ⟨fs,f1,f2,f3⟩:=T3s.firsts z.2
  obtain ⟨a,o,t1,t2,t3,n,rfl,e2,e3,e4⟩:=z.1
  refine ⟨.int t.1 t1 :: fs,KatTups.cons e2 e3 e4 rfl f1,by rw [length_cons,length_cons,f2],λ x hx=>?_⟩
  rcases List.mem_cons.mp hx with rfl | hx
  ·exact ⟨_,_,rfl⟩
  ·exact f3 x hx
abbrev ltI (ts:List T3):Nat->Nat->Bool:=λ i j=>lt3 (ts.getD i (0,0,0)) (ts.getD j (0,0,0))
abbrev outV (vs:List Value) (p:Array Nat):List Value:=p.toList.map λ i=>vs.getD i Value.none
theorem wv1 (vs:List Value):outV vs (List.toArray (List.range vs.length))=vs:=by
 apply List.ext_getElem
 ·simp
 ·intro i h1 h2
  simp [getD_eq_getElem?_getD,getElem?_eq_getElem h2]
theorem ut4 {vs:Array Value} {n:Nat} {C:Prop} (h:(seqObj "list" vs n).cls=Value.type "tuple"):C:=by
 have h':Value.type "list" = Value.type "tuple" := h
 injection h' with e
 exact absurd e (by decide)
theorem wc1 {a:Addr} {vs:List Value} {ts:List T3} {n:Nat} {P:PySem.Fin->Shared->Prop} (ho:s.heap.get? a=some (seqObj "list" vs.toArray n)) (ht:T3s s.heap vs ts) (h64:vs.length < 64)
    (h:∀ (p:Array Nat) (h':Heap) (c:Nat),p.Perm (List.toArray (List.range vs.length))->Ms.Up (ltI ts) p vs.length->(∀ b o,b ≠ a->s.heap.get? b=some o->h'.get? b=some o) ->
     h'.get? a=some (seqObj "list" (outV vs p).toArray c)->P (.done (.ret .none)) { s with heap:=h' }) :
    wpAny (model prog w) A (Builtin.«list.sort» ⟨[.ref a],[]⟩) P E s:=by
 have hz:vs.length<=sizeLine:=by rw [sizeLine_eq]; omega
 have ha:a < s.heap.objs.size:=Heap.lt_size ho
 obtain ⟨e1,ho1⟩:∃ e1,(s.heap.update a (Obj.mapSeq λ _=>(#[]:Array Value))).get? a=some (seqObj "list" #[] e1):=⟨_,get?_update_seq ho λ _=>#[]⟩
 have kp:∀ b o,b ≠ a->s.heap.get? b=some o->(((s.heap.update a (Obj.mapSeq λ _=>(#[]:Array Value))).push (seqObj "tuple" vs.toArray 0)).push (seqObj "list" #[] 0)).get? b=some o:=λ b o hb e =>
  Heap.get?_push_of_some _ (Heap.get?_push_of_some _ (by rw [Heap.get?_update_ne _ _ _ _ hb]; exact e))
 have ht3:=T3s.kept (h':=((s.heap.update a (Obj.mapSeq λ _=>(#[]:Array Value))).push (seqObj "tuple" vs.toArray 0)).push (seqObj "list" #[] 0)) (λ b o e ec=>kp b o (by intro z; subst z; rw [ho] at e; cases e; exact ut4 ec) e) ht
 have hoN:=Heap.get?_push_of_some (seqObj "list" #[] 0) (Heap.get?_push_of_some (seqObj "tuple" vs.toArray 0) ho1)
 generalize hN:((s.heap.update a (Obj.mapSeq λ _=>(#[]:Array Value))).push (seqObj "tuple" vs.toArray 0)).push (seqObj "list" #[] 0)=hp3 at kp ht3 hoN
 have fin:∀ (p:Array Nat),p.Perm (List.toArray (List.range vs.length))->Ms.Up (ltI ts) p vs.length->P (.done (.ret .none)) { s with heap:=hp3.update a (Obj.mapSeq λ _=>(outV vs p).toArray) }:=λ p hp hu=>by
  refine h p _ _ hp hu (λ b o hb e=>by rw [Heap.get?_update_ne _ _ _ _ hb]; exact kp b o hb e) (get?_update_seq hoN λ _=>(outV vs p).toArray)
 have szO:∀ p:Array Nat,p.Perm (List.toArray (List.range vs.length))->(outV vs p).toArray.size<=sizeLine + 1:=λ p hp=>by
  have:=hp.size_eq
  simp at this
  simp
  omega
 rw [list_sort_plain]
 refine wpAny_bind (listItems_at ho rfl (wpAny_bind (listUpdate_at ho rfl ?_ (by simpa using hz) (Nat.zero_le _))))
 refine wpAny_bind (seqEpoch_at ho1 rfl (wpAny_bind (wpAny_newTuple ?_ (by simpa using hz))))
 refine wpAny_bind (wpAny_newList (wpAny_holding ?_) (Nat.zero_le _))
 show wpAny (model prog w) A _ P E { s with heap:=((s.heap.update a (Obj.mapSeq λ _=>(#[]:Array Value))).push (seqObj "tuple" vs.toArray 0)).push (seqObj "list" #[] 0) }
 rw [hN]
 dsimp only
 by_cases c:vs.toArray.size < 2
 ·rw [if_pos c,if_pos c]
  refine wpAny_bind (wpAny_pure ?_)
  rw [StateT.run_pure]
  refine wpAny_bind (wpAny_pure ?_)
  have id1:(arrOf (SortSt.mk' general' (vs.toArray.zip vs.toArray) #[] 7 none)).map (·.2)=(outV vs (List.toArray (List.range vs.length))).toArray:=by
   rw [wv1]
   show (vs.toArray.zip vs.toArray).map (·.2)=vs.toArray
   apply Array.toList_inj.mp
   simp [List.map_snd_zip]
  dsimp only
  rw [id1]
  have pr:=Array.Perm.refl (List.toArray (List.range vs.length))
  refine wpAny_bind (seqEpoch_at hoN rfl (wpAny_bind (listUpdate_at hoN rfl ?_ (Nat.zero_le _) (szO _ pr))))
  simp only [bne_self_eq_false,Bool.false_eq_true,if_false]
  refine wpAny_pure (fin _ pr ?_)
  intro x y hxy hy
  have:x=y:=by simp at c; omega
  subst this
  exact Ms.le_rf (ze2 ts) _
 ·rw [if_neg c,if_neg c]
  have c2:2<=vs.length:=by simp at c; omega
  obtain ⟨fs,f1,f2,f3⟩:=ht3.firsts
  refine wpAny_bind (kat_kind f1 (by omega) (T:=.type "int") (λ v hv=>?_) (by decide) ?_)
  ·obtain ⟨i,t,rfl⟩:=f3 v hv
   exact Looks.of_pure rfl
  show wpAny _ _ _ _ _ _
  rw [show (Value.type "int" != Value.type "tuple")=true by decide]
  have srt:=Ms.sort_ok (ze2 ts) (n:=vs.length) (by omega)
  refine wpAny_bind (wpAny_mono (kat_run (ks:=vs) (Q:=λ st' s'=>s'={ s with heap:=hp3 } /\ ∃ p:Array Nat,arrOf st'=p.map (kas_item (vs.toArray.zip vs.toArray)) /\ failedOf st'=none /\ p=Ms.run (ltI ts) (kas_sort vs.length)) (G:=λ p s'=>s'={ s with heap:=hp3 } /\ p=Ms.run (ltI ts) (kas_sort vs.length)) rfl c2 h64
   (λ p st' s' _ b2 b3 b4=>⟨b4.1,p,b2,b3,b4.2⟩) ?_) ?_ λ _ _ z=>z)
  ·refine Ms.Bd.wp (N:=vs.length) (lt:=ltI ts) (λ i j C hi hj hc=>?_) _ (Ms.bd_sort (by omega)) ⟨rfl,rfl⟩
   exact tn4 (ht3.get i hi) (ht3.get j hj) hc
  ·rintro ⟨⟨⟩,st'⟩ s' ⟨rfl,p,hp1,hp2,rfl⟩
   dsimp only
   rw [kat_snds rfl hp1]
   refine wpAny_bind (seqEpoch_at hoN rfl (wpAny_bind (listUpdate_at hoN rfl ?_ (Nat.zero_le _) (szO _ srt.1))))
   rw [hp2]
   simp only [bne_self_eq_false,Bool.false_eq_true,if_false]
   exact wpAny_pure (fin _ srt.1 srt.2)
end
section
variable {prog:Program} {w:World} {A:Around} {E:Value->Shared->Prop} {s:Shared}
theorem ty1 {l:Addr} {vs:List Value} {ts:List T3} {Q:Value->Shared->Prop} (hl:s.heap.IsList l vs.toArray) (ht:T3s s.heap vs ts) (h64:vs.length < 64)
    (h:∀ (p:Array Nat) (h':Heap) (c:Nat),p.Perm (List.toArray (List.range vs.length))->Ms.Up (ltI ts) p vs.length->(∀ b o,s.heap.get? b=some o->h'.get? b=some o) ->
     h'.get? (s.heap.objs.size + 1)=some (seqObj "list" (outV vs p).toArray c)->Q (.ref (s.heap.objs.size + 1)) { s with heap:=h' }) :
    wpAny (model prog w) A (call (.builtin "sorted") [.ref l]) Q E s:=by
 have hz:vs.length<=sizeLine:=by rw [sizeLine_eq]; omega
 refine Calls.call_function_entry kind_sorted plain_sorted entry_sorted (args_sorted1 _) ?_
 unfold Builtin.«sorted»
 refine wpAny_bind (m:=checkCount "sorted" 1 1 _) (wpAny_pure (wpAny_bind (collect_list hl ?_ hz)))
 refine wpAny_bind (wpAny_newList ?_ hz)
 have z1:((s.heap.push (seqObj "list" #[] 0)).update s.heap.objs.size (Obj.mapSeq (· ++ vs.toArray))).objs.size=s.heap.objs.size + 1:=by
  rw [Heap.size_update,size_push']
 have kp:∀ b o,s.heap.get? b=some o->(((s.heap.push (seqObj "list" #[] 0)).update s.heap.objs.size (Obj.mapSeq (· ++ vs.toArray))).push (seqObj "list" vs.toArray 0)).get? b=some o:=λ b o q=>by
  have hb:b < s.heap.objs.size:=Heap.lt_size q
  exact Heap.get?_push_of_some _ (by rw [Heap.get?_update_ne _ _ _ _ (Nat.ne_of_lt hb)]; exact Heap.get?_push_of_some _ q)
 have zo:(((s.heap.push (seqObj "list" #[] 0)).update s.heap.objs.size (Obj.mapSeq (· ++ vs.toArray))).push (seqObj "list" vs.toArray 0)).get? (s.heap.objs.size + 1)=some (seqObj "list" vs.toArray 0):=by
  have q:=Heap.get?_push_size ((s.heap.push (seqObj "list" #[] 0)).update s.heap.objs.size (Obj.mapSeq (· ++ vs.toArray))) (o:=seqObj "list" vs.toArray 0) rfl
  rw [z1] at q
  exact q
 show wpAny _ _ _ _ _ { s with heap:=((s.heap.push (seqObj "list" #[] 0)).update s.heap.objs.size (Obj.mapSeq (· ++ vs.toArray))).push (seqObj "list" vs.toArray 0) }
 rw [z1]
 have tt:=T3s.kept (λ b o e _=>kp b o e) ht
 generalize ((s.heap.push (seqObj "list" #[] 0)).update s.heap.objs.size (Obj.mapSeq (· ++ vs.toArray))).push (seqObj "list" vs.toArray 0)=hp at kp zo tt
 refine wpAny_bind (wpAny_holding (wpAny_call_entry slot_list_sort ⟨_,zo,rfl⟩ entry_list_sort (wc1 (s:={ s with heap:=hp }) zo tt h64 λ p h' c a1 a2 a3 a4=>⟨_,rfl,?_⟩) (args_list_sort _)))
 refine wpAny_pure ⟨_,rfl,h p h' c a1 a2 (λ b o q=>a3 b o (Nat.ne_of_lt (Nat.lt_succ_of_lt (Heap.lt_size q))) (kp b o q)) a4⟩
end
def V3s (K:Fg) (H:Hp):List V->List T3->Prop
 | [],[]=>True
 | v :: vs,t :: ts=>(∃ a,v=.ref a /\ H a=some (.tup [.int t.1,.int t.2.1,.int t.2.2])) /\ V3s K H vs ts
 | _,_=>False
section
variable {X:Cx}
theorem zp0 {pins:List (Addr × Obj)} {σ:L2.St} {H:Hp} {s:Shared} (I:Inv X pins σ H s):∀ {vs:List V} {ts:List T3} {us:List Value},V3s X.K H vs ts->Vals vs us->T3s s.heap us ts
 | [],[],_,_,.nil=>trivial
 | [],_ :: _,_,z,_=>z.elim
 | _ :: _,[],_,z,_=>z.elim
 | v :: vs,t :: ts,_,z,.cons r rs=>by
  obtain ⟨⟨a,rfl,hq⟩,z⟩:=z
  refine ⟨?_,zp0 I z rs⟩
  cases r
  obtain ⟨its,rv,⟨o,p1,p2,n,p3⟩,_⟩:=I.tuple (SqT.of hq)
  cases rv with
  | cons r1 rv =>
   cases rv with
   | cons r2 rv =>
    cases rv with
    | cons r3 rv =>
     cases rv
     obtain ⟨t1,rfl⟩:=r1
     obtain ⟨t2,rfl⟩:=r2
     obtain ⟨t3,rfl⟩:=r3
     exact ⟨a,o,t1,t2,t3,n,rfl,p1,p2,p3⟩
theorem tl0 {vs:List V} {us:List Value} (r:Vals vs us):∀ (l:List Nat),(∀ i ∈ l,i < vs.length)->Vals (l.map λ i=>vs.getD i .non) (l.map λ i=>us.getD i Value.none)
 | [],_=>.nil
 | i :: l,h=>by
  refine .cons ?_ (tl0 r l λ j hj=>h j (mem_cons_of_mem _ hj))
  have hi:=h i (mem_cons_self ..)
  obtain ⟨u,e,z⟩:=Vals.get r (i:=i) (x:=vs.getD i .non) (by rw [getD_eq_getElem?_getD,getElem?_eq_getElem hi]; rfl)
  dsimp only
  rw [show us.getD i Value.none=u by rw [getD_eq_getElem?_getD,e]; rfl]
  exact z
def yr4 (K:Fg):List V->Hp->VK->Prop:=λ xs H Q=>∃ p vs ts,xs=[.ref p] /\ SqL K H p vs /\ V3s K H vs ts /\ vs.length < 64 ∧
 ∀ q:Array Nat,q.Perm (List.toArray (List.range vs.length))->Ms.Up (ltI ts) q vs.length->∀ r,H r=none->Q (.ref r) (upd H r (.lst (q.toList.map λ i=>vs.getD i .non)))
theorem yi2:CallR X (.builtin "sorted") (yr4 X.K):=by
 intro pins s σ H xs us Q I r h
 obtain ⟨p,vs,ts,rfl,hq,h3,h64,k⟩:=h
 cases r with
 | cons r rr =>
  cases rr
  cases r
  obtain ⟨its,rv,pl,hz⟩:=I.list hq
  have hl:=rv.length
  refine ty1 pl.isList (zp0 I h3 rv) (by omega) λ q h' c a1 a2 a3 a4=>?_
  have a1':q.Perm (List.toArray (List.range vs.length)):=by rw [hl]; exact a1
  have lt':∀ i ∈ q.toList,i < vs.length:=λ i hi=>by
   have e:i ∈ List.toArray (List.range vs.length):=a1'.mem_iff.mp (by simpa using hi)
   simpa using e
  have sz:q.toList.length=vs.length:=by have:=a1'.size_eq; simpa using this
  have nw:s.heap.objs.size<=s.heap.objs.size + 1:=Nat.le_succ _
  refine ⟨.ref _,_,I.laid (t':=s.toks) a3 nw (show ObjOk X.prog X.w _ h' _ (.lst (q.toList.map λ i=>vs.getD i .non)) from ⟨by rw [length_map,sz]; exact hz,_,c,tl0 rv _ lt',a4⟩),rfl,k q a1' (by rw [hl]; exact a2) _ (I.hok.fresh nw)⟩
end
def encT (t:T3):D:=.tup [.int t.1,.int t.2.1,.int t.2.2]
def t3?:D->Option T3
 | .tup [.int a,.int b,.int c]=>some (a,b,c)
 | _=>none
def t3s?:List D->Option (List T3)
 | []=>some []
 | d :: r=>match t3? d with
  | some t=>match t3s? r with
   | some ts=>some (t :: ts)
   | none=>none
  | none=>none
theorem zy1:∀ ts:List T3,t3s? (ts.map encT)=some ts
 | []=>rfl
 | t :: ts=>by simp only [map_cons,t3s?,encT,t3?,zy1 ts]
theorem un4 {d:D} {t:T3} (h:t3? d=some t):d=encT t:=by
 unfold t3? at h
 split at h
 ·cases h; rfl
 ·cases h
theorem xv2:∀ {l:List D} {ts:List T3},t3s? l=some ts->l=ts.map encT
 | [],ts,h=>by cases h; rfl
 | d :: r,ts,h=>by
  unfold t3s? at h
  split at h
  ·next t e =>
   split at h
   ·next us e2=>cases h; rw [un4 e,xv2 e2]; rfl
   ·cases h
  ·cases h
theorem wm1 {K:Fg} {H:Hp}:∀ {ts:List T3} {vs:List V},RelDs K H (ts.map encT) vs->V3s K H vs ts
 | [],_,.nil=>trivial
 | t :: ts,_,.cons r rs=>by
  refine ⟨?_,wm1 rs⟩
  cases r with
  | tup hq r2 =>
   cases r2 with
   | cons x r2 =>
    cases r2 with
    | cons y r2 =>
     cases r2 with
     | cons z r2 =>
      cases r2
      cases x
      cases y
      cases z
      exact ⟨_,rfl,hq⟩
theorem zk0 {K:Fg} {H:Hp} {ts:List T3} {vs:List V} (r:RelDs K H (ts.map encT) vs):∀ (l:List Nat),(∀ i ∈ l,i < vs.length)->RelDs K H ((l.map λ i=>ts.getD i (0,0,0)).map encT) (l.map λ i=>vs.getD i .non)
 | [],_=>.nil
 | i :: l,h=>by
  refine .cons ?_ (zk0 r l λ j hj=>h j (mem_cons_of_mem _ hj))
  have hi:=h i (mem_cons_self ..)
  have hl:=r.length
  rw [length_map] at hl
  obtain ⟨v,e,z⟩:=r.get (i:=i) (d:=encT (ts.getD i (0,0,0))) (by rw [getElem?_map,getD_eq_getElem?_getD,getElem?_eq_getElem (by omega)]; rfl)
  dsimp only
  rw [show vs.getD i .non=v by rw [getD_eq_getElem?_getD,e]; rfl]
  exact z
def le3 (a b:T3):Prop:=lt3 b a=false
theorem ys0 {ts:List T3} {q:Array Nat} (h:q.Perm (List.toArray (List.range ts.length))):(q.toList.map λ i=>ts.getD i (0,0,0)).Perm ts:=by
 have h1:q.toList.Perm (List.range ts.length):=h.toList
 refine (h1.map _).trans (List.Perm.of_eq ?_)
 apply List.ext_getElem
 ·simp
 ·intro i h1 h2
  simp [getD_eq_getElem?_getD,getElem?_eq_getElem h2]
theorem yk1 {ts:List T3} {q:Array Nat} (h:q.Perm (List.toArray (List.range ts.length))) (u:Ms.Up (ltI ts) q ts.length):(q.toList.map λ i=>ts.getD i (0,0,0)).Pairwise le3:=by
 have sz:q.size=ts.length:=by have:=h.size_eq; simpa using this
 rw [List.pairwise_iff_getElem]
 intro i j hi hj hij
 simp only [length_map,length_toList] at hi hj
 have z:=u i j (Nat.le_of_lt hij) (by omega)
 simp only [List.getElem_map,Array.getElem_toList]
 have e1:Ms.at' q i=q[i]:=by show q.getD i 0=_; simp [Array.getD,hi]
 have e2:Ms.at' q j=q[j]:=by show q.getD j 0=_; simp [Array.getD,hj]
 rw [e1,e2] at z
 exact z
def srtR:C3:=λ ds μ Q=>match ds with
 | [.ref p]=>match μ p with
  | some (.lst l)=>match t3s? l with
   | some ts=>ts.length < 64 /\ ∀ us:List T3,us.Perm ts->us.Pairwise le3->∀ r,μ r=none->Q (.ref r) (updM μ r (.lst (us.map encT)))
   | none=>False
  | _=>False
 | _=>False
section
variable {X:Cx}
theorem zo2:RC X (.builtin "sorted") srtR:=by
 refine ⟨_,yi2,λ xs vs H Q μ Q3 m r h k=>?_⟩
 unfold srtR at h
 split at h
 ·next p =>
  split at h
  ·next l e =>
   split at h
   ·next ts e2 =>
    cases r with
    | cons r1 r2 =>
     cases r2
     cases r1
     have el:=xv2 e2
     subst el
     obtain ⟨us,hv,rv⟩:=m p _ e
     have hl:=rv.length
     rw [length_map] at hl
     refine ⟨p,us,ts,rfl,SqL.of hv,wm1 rv,by omega,λ q a1 a2 r hr=>?_⟩
     rw [<- hl] at a1 a2
     have lt':∀ i ∈ q.toList,i < us.length:=λ i hi=>by
      have e:i ∈ List.toArray (List.range ts.length):=a1.mem_iff.mp (by simpa using hi)
      have e':i < ts.length:=by simpa using e
      omega
     exact k _ _ _ _ (h.2 _ (ys0 a1) (yk1 a1 a2) r (m.free hr)) (Kp.new hr) (.ref r) (m.newL hr (zk0 rv _ lt'))
   ·exact h.elim
  ·exact h.elim
 ·exact h.elim
end
theorem sp1:∀ {ns:List Int} {us:List Value},Vals (ns.map V.int) us->IntsAre us ns
 | [],_,.nil=>.nil
 | n :: ns,_,.cons r t=>by
  obtain ⟨u,rfl⟩:=r
  exact .cons n u (sp1 t)
theorem vr1:∀ {ns:List Int} {us:List Value},IntsAre us ns->Vals (ns.map V.int) us
 | _,_,.nil=>.nil
 | _,_,.cons n t h=>.cons ⟨t,rfl⟩ (vr1 h)
section
variable {X:Cx}
def xc4 (K:Fg):List V->Hp->VK->Prop:=λ xs H Q=>∃ p ns,xs=[.ref p] /\ SqL K H p (ns.map V.int) /\ ns.length < 64 /\ ∀ ms:List Int,ms.Perm ns->ms.Pairwise (· <= ·)->∀ r,H r=none->Q (.ref r) (upd H r (.lst (ms.map V.int)))
theorem sw1:CallR X (.builtin "sorted") (xc4 X.K):=by
 intro pins s σ H xs us Q I r h
 obtain ⟨p,ns,rfl,hq,h64,k⟩:=h
 cases r with
 | cons r rr =>
  cases rr
  cases r
  obtain ⟨its,rv,pl,hz⟩:=I.list hq
  have hl:=rv.length
  rw [length_map] at hl hz
  refine sorted_ints pl.isList (sp1 rv) (by omega) λ out ms a1 a2 a3=>?_
  obtain ⟨c,hc⟩:=sortedAll_at s.heap its out
  have nw:s.heap.objs.size<=s.heap.objs.size + 1:=Nat.le_succ _
  refine ⟨.ref _,_,I.laid (t':=s.toks) (λ b o e=>sortedAll_old e) nw (show ObjOk X.prog X.w _ (sortedAll s.heap its out) _ (.lst (ms.map V.int)) from ⟨by rw [length_map,a2.length_eq]; exact hz,out.toList,c,vr1 a1,by simpa using hc⟩),rfl,k ms a2 a3 _ (I.hok.fresh nw)⟩
end
def xs1:C3:=λ ds μ Q=>match ds with
 | [.ref p]=>match μ p with
  | some (.lst l)=>match ints? l with
   | some ns=>ns.length < 64 /\ ∀ ms:List Int,ms.Perm ns->ms.Pairwise (· <= ·)->∀ r,μ r=none->Q (.ref r) (updM μ r (.lst (ms.map D.int)))
   | none=>False
  | _=>False
 | _=>False
theorem vf1 {K:Fg} {H:Hp}:∀ ms:List Int,RelDs K H (ms.map D.int) (ms.map V.int)
 | []=>.nil
 | n :: r=>.cons (.int n) (vf1 r)
section
variable {X:Cx}
theorem wb2:RC X (.builtin "sorted") xs1:=by
 refine ⟨_,sw1,λ xs vs H Q μ Q3 m r h k=>?_⟩
 unfold xs1 at h
 split at h
 ·next p =>
  split at h
  ·next l e =>
   split at h
   ·next ns e2 =>
    cases r with
    | cons r1 rr =>
     cases rr
     cases r1
     obtain ⟨us,hv,rv⟩:=m p _ e
     have el:=xq0 rv e2
     subst el
     refine ⟨p,ns,rfl,SqL.of hv,h.1,λ ms a1 a2 r hr=>?_⟩
     exact k _ _ _ _ (h.2 ms a1 a2 r (m.free hr)) (Kp.new hr) (.ref r) (m.newL hr (vf1 ms))
   ·exact h.elim
  ·exact h.elim
 ·exact h.elim
end
end Pv
namespace L2
open PySem PySem.Spec PyProof.Rows
section
variable {X:Cx}
end
end L2
namespace Pv
open PySem L2
def sixR:R3:=λ x y μ Q=>match x,y with
 | .str z,.int i=>z.length<=sizeLine /\ ∃ c,L2.atI z.cps.toList i=some c /\ Q (.str ⟨#[c]⟩) μ
 | _,_=>False
section
variable {X:Cx}
theorem tr4:RX X sixR:=by
 refine ⟨_,ti4,λ x y v u H Q μ Q3 m rx ry h k=>?_⟩
 unfold sixR at h
 split at h
 ·cases rx
  cases ry
  obtain ⟨h1,c,h2,h3⟩:=h
  exact ⟨_,_,c,rfl,rfl,h1,h2,k _ _ _ _ h3 (Kp.refl _) (.str _) m⟩
 ·exact h.elim
end
end Pv
namespace Pv
open PySem
def isN:D->Bool
 | .non=>true
 | _=>false
def isNR (neg:Bool):R3:=λ x y μ Q=>match y with
 | .non=>Q (.bl (if neg then !isN x else isN x)) μ
 | _=>False
def maxR:C3:=λ ds μ Q=>match ds with
 | [.int i,.int j]=>Q (.int (if j > i then j else i)) μ
 | _=>False
def yu4:C3:=λ ds μ Q=>match ds with
 | [.int i,.int j]=>Q (.int (if j < i then j else i)) μ
 | _=>False
end Pv
namespace Pv
open PySem PySem.Spec PyProof.Rows L2
section
variable {X:Cx}
theorem wu4 {K:Fg} {H:Hp} {x:D} {v:V} (r:RelD K H x v):decide (v=.non)=isN x:=by
 cases r <;> simp [isN]
theorem xs4:RO X (compareOp .Is) (isNR false):=by
 refine ⟨_,yg4,λ x y v u H Q μ Q3 m rx ry h k=>?_⟩
 cases ry with
 | non =>
  refine ⟨rfl,?_⟩
  rw [wu4 rx]
  exact k _ _ _ _ h (Kp.refl _) (.bl _) m
 | _=>exact False.elim h
theorem sr4 (hc:X.calm=true):RC X (.builtin "max") maxR:=by
 refine ⟨_,si2 hc,λ xs vs H Q μ Q3 m r h k=>?_⟩
 cases r with
 | nil=>exact False.elim h
 | cons r1 r2 =>
  cases r1 with
  | int i =>
   cases r2 with
   | nil=>exact False.elim h
   | cons r2 r3 =>
    cases r2 with
    | int j =>
     cases r3 with
     | nil=>exact ⟨i,j,rfl,k _ _ _ _ h (Kp.refl _) (.int _) m⟩
     | cons _ _=>exact False.elim h
    | _=>exact False.elim h
  | _=>exact False.elim h
theorem wc4 (hc:X.calm=true):RC X (.builtin "min") yu4:=by
 refine ⟨_,vi2 hc,λ xs vs H Q μ Q3 m r h k=>?_⟩
 cases r with
 | nil=>exact False.elim h
 | cons r1 r2 =>
  cases r1 with
  | int i =>
   cases r2 with
   | nil=>exact False.elim h
   | cons r2 r3 =>
    cases r2 with
    | int j =>
     cases r3 with
     | nil=>exact ⟨i,j,rfl,k _ _ _ _ h (Kp.refl _) (.int _) m⟩
     | cons _ _=>exact False.elim h
    | _=>exact False.elim h
  | _=>exact False.elim h
end
end Pv
namespace L2
open PySem PySem.Spec PyProof.Rows
section
variable {κ:Type} [DecidableEq κ]
def valV (kvs:List (κ × V)) (k:κ):Option V:=(kvs.find? λ kv=>decide (kv.1=k)).map (·.2)
def putK (kvs:List (κ × V)) (k:κ) (v:V):List (κ × V) :=
 if (kvs.any λ kv=>decide (kv.1=k))=true then kvs.map (λ kv=>if kv.1=k then (kv.1,v) else kv) else kvs ++ [(k,v)]
theorem xp0 {p:κ × V} {r:List (κ × V)} {k:κ} (e:p.1=k):valV (p :: r) k=some p.2:=by simp [valV,find?_cons,e]
theorem yp0 {p:κ × V} {r:List (κ × V)} {k:κ} (e:¬ p.1=k):valV (p :: r) k=valV r k:=by simp [valV,find?_cons,e]
theorem yz0 (k:κ):∀ kvs:List (κ × V),(kvs.any λ kv=>decide (kv.1=k))=(valV kvs k).isSome
 | []=>rfl
 | p :: r=>by
  rw [any_cons]
  by_cases e:p.1=k
  ·simp only [xp0 e,decide_eq_true e,Bool.true_or,Option.isSome_some]
  ·rw [yp0 e,decide_eq_false e,Bool.false_or]; exact yz0 k r
theorem ut0 (kvs:List (κ × V)) (k:κ) (v:V):(putK kvs k v).length<=kvs.length + 1:=by
 unfold putK
 split
 ·rw [length_map]; omega
 ·rw [length_append,length_cons,length_nil]; omega
theorem RelO.isSome_eq {o:Option V} {u:Option Value} (r:RelO o u):o.isSome=u.isSome:=by
 cases o with
 | none=>cases u with
  | none=>rfl
  | some _=>exact (show False from r).elim
 | some _=>cases u with
  | none=>exact (show False from r).elim
  | some _=>rfl
theorem RelO.getD {o:Option V} {u:Option Value} {d:V} {d':Value} (r:RelO o u) (rd:RelV d d'):RelV (o.getD d) (u.getD d'):=by
 cases o with
 | none=>cases u with
  | none=>exact rd
  | some _=>exact (show False from r).elim
 | some _=>cases u with
  | none=>exact (show False from r).elim
  | some _=>exact r
theorem KV.val {kvs:List (κ × V)} {vs:List (κ × Value)} (r:KV kvs vs) (k:κ):RelO (valV kvs k) (valueAt vs k):=by
 unfold KV at r
 induction r with
 | nil=>exact True.intro
 | @cons p q ps qs h t ih =>
  obtain ⟨h1,h2⟩:=h
  by_cases e:p.1=k
  ·have e':q.1=k:=h1.symm.trans e
   have b:valueAt (q :: qs) k=some q.2:=by simp [valueAt,find?_cons,e']
   rw [xp0 e,b]; exact h2
  ·have e':¬ q.1=k:=λ z=>e (h1.trans z)
   have b:valueAt (q :: qs) k=valueAt qs k:=by simp [valueAt,find?_cons,e']
   rw [yp0 e,b]; exact ih
theorem KV.any {kvs:List (κ × V)} {vs:List (κ × Value)} (r:KV kvs vs) (k:κ):(kvs.any λ kv=>decide (kv.1=k))=vs.any λ kv=>decide (kv.1=k):=by
 unfold KV at r
 induction r with
 | nil=>rfl
 | cons h t ih=>rw [any_cons,any_cons,ih,h.1]
theorem KV.repl {kvs:List (κ × V)} {vs:List (κ × Value)} (r:KV kvs vs) (k:κ) {y:V} {u:Value} (ry:RelV y u) :
    KV (kvs.map λ kv=>if kv.1=k then (kv.1,y) else kv) (vs.map λ kv=>if kv.1=k then (kv.1,u) else kv):=by
 unfold KV at r ⊢
 induction r with
 | nil=>exact .nil
 | @cons p q ps qs h t ih =>
  rw [map_cons,map_cons]
  refine .cons ?_ ih
  obtain ⟨h1,h2⟩:=h
  by_cases e:p.1=k
  ·rw [if_pos e,if_pos (h1.symm.trans e)]; exact ⟨h1,ry⟩
  ·rw [if_neg e,if_neg (λ z=>e (h1.trans z))]; exact ⟨h1,h2⟩
theorem KV.put {kvs:List (κ × V)} {vs:List (κ × Value)} (r:KV kvs vs) (k:κ) {y:V} {u:Value} (ry:RelV y u):KV (putK kvs k y) (stored vs k u):=by
 unfold putK stored
 rw [r.any k]
 by_cases e:(vs.any λ kv=>decide (kv.1=k))=true
 ·rw [if_pos e,if_pos e]; exact r.repl k ry
 ·rw [if_neg e,if_neg e]; exact Paired.snoc r ⟨rfl,ry⟩
theorem KV.length {kvs:List (κ × V)} {vs:List (κ × Value)} (r:KV kvs vs):kvs.length=vs.length:=Paired.length r
end
theorem se2 {P:Program} {w:World} {k:Key} {u:Value} (r:RelV (kV k) u):(ue0 P w).is k u=true:=by
 cases k with
 | inl i=>obtain ⟨t,e⟩:=(show ∃ t,u=Value.int i t from r); subst e; exact xl1 P w i t
 | inr x=>obtain ⟨t,e⟩:=(show ∃ t,u=Value.str x t from r); subst e; exact sk1 P w x t
theorem tg1 {P:Program} {w:World}:∀ {ks:List Key} {us:List Value},Vals (ks.map kV) us->ItemsAre (ue0 P w) ks us
 | [],_,r=>by rw [map_nil] at r; cases r; exact .nil
 | k :: ks,_,r=>by
  rw [map_cons] at r
  cases r with
  | cons h t=>exact .cons (se2 h) (tg1 t)
abbrev KT (H:Hp):List (List Key × V)->List (List Key × Addr × Value)->Prop:=Paired λ p q=>p.1=q.1 /\ H q.2.1=some (.tup (p.1.map kV)) /\ RelV p.2 q.2.2
theorem KT.val {H:Hp} {kvs:List (List Key × V)} {xs:List (List Key × Addr × Value)} (r:KT H kvs xs) (k:List Key):RelO (valV kvs k) ((atKey xs k).map (·.2)):=by
 induction r with
 | nil=>exact True.intro
 | @cons p q ps qs h t ih =>
  obtain ⟨h1,_,h2⟩:=h
  by_cases e:p.1=k
  ·have e':q.1=k:=h1.symm.trans e
   have b:atKey (q :: qs) k=some q.2:=by simp [atKey,find?_cons,e']
   rw [xp0 e,b]; exact h2
  ·have e':¬ q.1=k:=λ z=>e (h1.trans z)
   have b:atKey (q :: qs) k=atKey qs k:=by simp [atKey,find?_cons,e']
   rw [yp0 e,b]; exact ih
theorem KT.repl {H:Hp} {kvs:List (List Key × V)} {xs:List (List Key × Addr × Value)} (r:KT H kvs xs) (k:List Key) {y:V} {u:Value} (ry:RelV y u) :
    KT H (kvs.map λ kv=>if kv.1=k then (kv.1,y) else kv) (xs.map (putAt k u)):=by
 induction r with
 | nil=>exact .nil
 | @cons p q ps qs h t ih =>
  rw [map_cons,map_cons]
  refine .cons ?_ ih
  obtain ⟨h1,h2,h3⟩:=h
  unfold putAt
  by_cases e:p.1=k
  ·rw [if_pos e,if_pos (h1.symm.trans e)]; exact ⟨h1,h2,ry⟩
  ·rw [if_neg e,if_neg (λ z=>e (h1.trans z))]; exact ⟨h1,h2,h3⟩
theorem KT.put {H:Hp} {kvs:List (List Key × V)} {xs:List (List Key × Addr × Value)} (r:KT H kvs xs) (k:List Key) {b:Addr} {y:V} {u:Value} (hb:H b=some (.tup (k.map kV))) (ry:RelV y u) :
    KT H (putK kvs k y) (storedH xs k b u):=by
 have e:(kvs.any λ kv=>decide (kv.1=k))=(atKey xs k).isSome:=by
  rw [yz0,(r.val k).isSome_eq,Option.isSome_map]
 unfold putK storedH
 rw [e]
 by_cases q:(atKey xs k).isSome=true
 ·rw [if_pos q,if_pos q]; exact r.repl k ry
 ·rw [if_neg q,if_neg q]; exact Paired.snoc r ⟨rfl,hb,ry⟩
theorem KT.keeps {H H':Hp} {kvs:List (List Key × V)} {xs:List (List Key × Addr × Value)} (r:KT H kvs xs) (ht:∀ b ys,H b=some (.tup ys)->H' b=some (.tup ys)):KT H' kvs xs :=
 Paired.mapP r λ _ _ z=>⟨z.1,ht _ _ z.2.1,z.2.2⟩
section
variable {prog:Program} {w:World} {K:Type} [DecidableEq K] {knd:HeapKind prog w K} {A:Around} {E:Value->Shared->Prop} {s:Shared}
def DHe (knd:HeapKind prog w K) (h:Heap) (d:Addr) (xs:List (K × Addr × Value)) (ep:Nat):Prop :=
 ∃ o es,h.get? d=some o /\ o.ExactDict /\ o.data=.dict es ep /\ es.toList=xs.map (entryOfKey knd) /\ (∀ x ∈ xs,knd.is h x.1 x.2.1) /\ (xs.map (·.1)).Nodup
theorem DHe.of {h:Heap} {d:Addr} {xs:List (K × Addr × Value)} {ep:Nat} (x:DHe knd h d xs ep):h.DictOfH knd d xs:=by
 obtain ⟨o,es,a⟩:=x; exact ⟨o,es,ep,a⟩
theorem DHe.new {d a:Addr} {xs:List (K × Addr × Value)} {k:K} {v:Value} {o:Obj} {es:Array DictEntry} {ep:Nat} {hs:Int} (ho:s.heap.get? d=some o) (hc:o.ExactDict) (hd:o.data=.dict es ep) (he:es.toList=xs.map (entryOfKey knd))
    (his:∀ x ∈ xs,knd.is s.heap x.1 x.2.1) (hn:(xs.map (·.1)).Nodup) (hkey:knd.is s.heap k a) (hno:∀ (j:Nat) (p:Addr × Value),xs[j]? ≠ some (k,p)) (eh:entryOfKey knd (k,a,v)=⟨hs,.ref a,v⟩) :
    DHe knd (s.heap.update d (Obj.mapDictKeys (·.push ⟨hs,.ref a,v⟩))) d (storedH xs k a v) (ep + 1):=by
 have hnot:k ∉ xs.map (·.1):=not_mem_keys_of_get hno
 rw [storedH_new (atKey_none_of_get hno)]
 refine ⟨_,_,Heap.get?_update_self _ ho (Obj.isFreed_of_dict (Obj.data_mapDictKeys hd _)),hc.mapDictKeys _,Obj.data_mapDictKeys hd _,by simp [he,eh],λ c mc=>?_,?_⟩
 ·rcases List.mem_append.mp mc with mc | mc; · exact knd.keeps (his c mc) ho hd (Heap.SameBut.update ..)
  rw [mem_singleton] at mc; subst mc; exact knd.keeps hkey ho hd (Heap.SameBut.update ..)
 ·rw [map_append,List.nodup_append]; refine ⟨hn,by simp,λ c mc c' mc'=>?_⟩
  have e':c'=k:=by simpa using mc'
  subst e'; exact λ e=>hnot (e ▸ mc)
theorem ut3 {d a:Addr} {xs:List (K × Addr × Value)} {k:K} {v:Value} {ep:Nat} {Q:Unit->Shared->Prop} (hu:knd.room A.in1) (hkey:knd.is s.heap k a) (hm:DHe knd s.heap d xs ep) (hsz:xs.length<=sizeLine)
    (hQ:∀ h' ep',ep'=(if (atKey xs k).isSome then ep else ep + 1)->DHe knd h' d (storedH xs k a v) ep'->Heap.SameBut d s.heap h'->Q () { s with heap:=h',toks:=s.toks + knd.draws k }) :
    wpAny (model prog w) A (setItem (.ref d) (.ref a) v) Q E s:=by
 have ty:=hm.of.typeIs
 obtain ⟨o,es,ho,hc,hd,he,his,hn⟩:=hm
 unfold setItem; try with_reducible refine wpAny_holding ?_
 refine wpAny_bind (wpAny_sequenceKey ty (by decide) (wpAny_bind (wpAny_callSpecial?_slot (name:=Str.ofString "__setitem__") ty slot_dict_setitem (wpAny_call_entry slot_dict_setitem ty entry_dict_setitem ?_ (args_dict_setitem _ _ _)))))
 refine (show wpAny _ _ (Builtin.Dict.notOrdered "__setitem__" ⟨[.ref d,.ref a,v],[]⟩ >>= _) _ _ s from wpAny_bind (wpAny_notOrdered_dict ty ?_))
 refine (show wpAny _ _ (dictSet d (.ref a) v >>= _) _ _ s from wpAny_bind ?_)
 unfold dictSet; try with_reducible refine wpAny_holding ?_
 refine wpAny_bind (knd.pyHash hu hkey ?_); unfold dictSetHashed; try with_reducible refine wpAny_holding ?_
 refine wpAny_bind (wpAny_dictFind_heap (s:={ s with toks:=s.toks + knd.draws k }) hu hkey ho hd he his hn (λ hno=>?_) λ j p hj=>?_)
 ·refine wpAny_bind (wpAny_rule (wpAny_updateDictKeys (hz:=by have e:=size_of_entries he; omega) (s:={ s with toks:=s.toks + knd.draws k }) ho hd (wpAny_pure ⟨.none,rfl,wpAny_pure (hQ _ (ep + 1) (by rw [atKey_none_of_get hno]; rfl) (DHe.new ho hc hd he his hn hkey hno rfl) (Heap.SameBut.update ..))⟩)))
 ·have ak:=atKey_of_get hn hj
  refine wpAny_bind (wpAny_rule (wpAny_bind (wpAny_updateDict (s:={ s with toks:=s.toks + knd.draws k }) ho hd (wpAny_point (wpAny_pure ⟨.none,rfl,wpAny_pure (hQ _ ep (by rw [ak]; rfl) ⟨_,_,Heap.get?_update_self _ ho (Obj.isFreed_of_dict (Obj.data_mapDict hd _)),hc.mapDict _,Obj.data_mapDict hd _,?_,?_,?_⟩ (Heap.SameBut.update ..))⟩)))))
  ·rw [storedH_old ak]; have z:=modify_map_putAt (entryOfKey knd) (λ e:DictEntry=>{ e with val:=v }) k v (λ _ _=>rfl) hn hj
   rw [<- he] at z; obtain ⟨l⟩:=es; simpa using z
  ·rw [storedH_old ak]; intro c mc; obtain ⟨y,my,rfl⟩:=List.mem_map.mp mc; unfold putAt; split <;> exact knd.keeps (his y my) ho hd (Heap.SameBut.update ..)
  ·rw [storedH_old ak,keys_map_putAt]; exact hn
end
theorem uj3 {κ:Type} [DecidableEq κ] (kvs:List (κ × V)) (k:κ) (v:V):(putK kvs k v).length=if (valV kvs k).isSome then kvs.length else kvs.length + 1:=by
 unfold putK; rw [yz0]; split <;> simp
section
variable {P:Program} {w:World} {H:Hp} {h:Heap} {a:Addr}
theorem tb4 {u:HO} (ok:HOk P w H h) (e:Rd H a u):ObjOk P w H h a u:=e.ok ok
theorem us2 {kvs:List (Key × V)} (ok:HOk P w H h) (e:Rd H a (.dK kvs)):kvs.length<=sizeLine /\ (a == sysModules)=false /\ ∃ vs,KV kvs vs /\ h.DictOf (ue0 P w) a vs :=
 show ObjOk P w H h a (.dK kvs) from tb4 ok e
theorem zv4 {kvs:List (Key × V)} (ok:HOk P w H h) (e:H a=some (.dK kvs)):kvs.length<=sizeLine /\ (a == sysModules)=false /\ ∃ vs,KV kvs vs /\ h.DictOf (ue0 P w) a vs:=us2 ok (.inl e)
theorem vg1 {ks:List Key} (ok:HOk P w H h) (e:H a=some (.tup (ks.map kV))):(tupleKind (ue0 P w)).is h ks a:=by
 obtain ⟨_,its,r,o,h1,h2,n,h3⟩:=(show ObjOk P w H h a (.tup (ks.map kV)) from ok a _ e)
 exact ⟨o,its.toArray,n,h1,h2,h3,by simpa using tg1 r⟩
theorem vg2 {kvs:List (List Key × V)} (ok:HOk P w H h) (e:Rd H a (.dT kvs)):kvs.length<=sizeLine /\ (a == sysModules)=false ∧
    ∃ xs,KT H kvs xs /\ DHe (tupleKind (ue0 P w)) h a xs kvs.length:=by
 obtain ⟨z,y,xs,r,o,es,ep,h1,h2,h3,h4,h5,h6⟩:=(show ObjOk P w H h a (.dT kvs) from tb4 ok e)
 subst h6
 refine ⟨z,y,xs,r,o,es,h1,h2,h3,h4,λ x hx=>?_,h5⟩
 have all:∀ {l:List (List Key × V)} {m:List (List Key × Addr × Value)},KT H l m->∀ x ∈ m,(tupleKind (ue0 P w)).is h x.1 x.2.1:=by
  intro l m q
  induction q with
  | nil=>intro x hx; exact nomatch hx
  | @cons p q ps qs hq t ih =>
   intro x hx
   rcases List.mem_cons.mp hx with e | hx
   ·subst e
    exact vg1 ok (by rw [<- hq.1]; exact hq.2.1)
   ·exact ih x hx
 exact all r x hx
theorem ul3 {kvs:List (List Key × V)} (ok:HOk P w H h) (e:Rd H a (.dT kvs)):kvs.length<=sizeLine /\ (a == sysModules)=false /\ ∃ xs,KT H kvs xs /\ h.DictOfH (tupleKind (ue0 P w)) a xs:=by
 obtain ⟨z,y,xs,r,d⟩:=vg2 ok e; exact ⟨z,y,xs,r,d.of⟩
end
def DGet (H:Hp) (a:Addr) (y:V) (r:Option V):Prop :=
 (∃ kvs k,Rd H a (.dK kvs) /\ y=kV k /\ r=valV kvs k) \/ ∃ kvs k b,Rd H a (.dT kvs) /\ y=.ref b /\ H b=some (.tup (k.map kV)) /\ r=valV kvs k
def DPut (H:Hp) (a:Addr) (y v:V) (H':Hp):Prop :=
 (∃ kvs k,H a=some (.dK kvs) /\ y=kV k /\ kvs.length < sizeLine /\ H'=upd H a (.dK (putK kvs k v))) ∨
 ∃ kvs k b,H a=some (.dT kvs) /\ y=.ref b /\ H b=some (.tup (k.map kV)) /\ kvs.length < sizeLine /\ H'=upd H a (.dT (putK kvs k v))
theorem DGet.t {H:Hp} {a b:Addr} {kvs:List (List Key × V)} {k:List Key} (e:H a=some (.dT kvs)) (eb:H b=some (.tup (k.map kV))):DGet H a (.ref b) (valV kvs k):=.inr ⟨kvs,k,b,.inl e,rfl,eb,rfl⟩
theorem DPut.t {H:Hp} {a b:Addr} {kvs:List (List Key × V)} {k:List Key} {v:V} (e:H a=some (.dT kvs)) (eb:H b=some (.tup (k.map kV))) (hl:kvs.length < sizeLine) :
    DPut H a (.ref b) v (upd H a (.dT (putK kvs k v))):=.inr ⟨kvs,k,b,e,rfl,eb,hl,rfl⟩
section
variable {X:Cx} {pins:List (Addr × Obj)} {σ:St} {H:Hp} {s:Shared} {a:Addr} {y v:V} {u r:Value} {o:Option V} {A:Around} {E:Value->Shared->Prop}
theorem Inv.big (I:Inv X pins σ H s):sysModules < s.heap.objs.size:=by
 have h:mainGlobals < s.heap.objs.size:=(I.mod.glob.keeps I.bk).lt
 exact Nat.lt_trans (by decide) h
theorem d_in {Q:Value->Shared->Prop} (hu:A.units + 1 < cLine) (I:Inv X pins σ H s) (g:DGet H a y o) (ry:RelV y u) (h:∀ s',Inv X pins σ H s'->Q (.bool o.isSome) s') :
    wpAny (model X.prog X.w) A (compareOp .In u (.ref a)) Q E s:=by
 rcases g with ⟨kvs,k,e,ey,l⟩ | ⟨kvs,k,b,e,ey,eb,l⟩
 ·subst ey
  obtain ⟨z,hd,vs,rel,dd⟩:=us2 I.hok e
  refine wpAny_in_of (se2 ry) hd dd.mapOf ?_
  rw [<- (rel.val k).isSome_eq,<- l]
  exact h _ (I.tok _)
 ·subst ey
  cases (show u=Value.ref b from ry)
  obtain ⟨z,hd,xs,rel,dd⟩:=ul3 I.hok e
  refine wpAny_in_heap (tupleKind_room_in1 hu) (vg1 I.hok eb) hd dd ?_
  have q:=(rel.val k).isSome_eq
  rw [Option.isSome_map] at q
  rw [<- q,<- l]
  exact h _ (I.tok _)
theorem xm3 {Q:Value->Shared->Prop} (hu:A.units + 1 < cLine) (I:Inv X pins σ H s) (g:DGet H a y o) (ry:RelV y u) (h:∀ s',Inv X pins σ H s'->Q (.bool (!o.isSome)) s') :
    wpAny (model X.prog X.w) A (compareOp .NotIn u (.ref a)) Q E s:=by
 rcases g with ⟨kvs,k,e,ey,l⟩ | ⟨kvs,k,b,e,ey,eb,l⟩
 ·subst ey
  obtain ⟨z,hd,vs,rel,dd⟩:=us2 I.hok e
  refine wpAny_notIn_of (se2 ry) hd dd.mapOf ?_
  rw [<- (rel.val k).isSome_eq,<- l]
  exact h _ (I.tok _)
 ·subst ey
  cases (show u=Value.ref b from ry)
  obtain ⟨z,hd,xs,rel,dd⟩:=ul3 I.hok e
  refine wpAny_notIn_heap (tupleKind_room_in1 hu) (vg1 I.hok eb) hd dd ?_
  have q:=(rel.val k).isSome_eq
  rw [Option.isSome_map] at q
  rw [<- q,<- l]
  exact h _ (I.tok _)
theorem uh2 {h':Heap} {t':Nat} {ob:HO} (I:Inv X pins σ H s) (mu:Mut (H a)) (hs:Heap.SameBut a s.heap h') (he:∃ q,h'.get? a=some q) (new:ObjOk X.prog X.w (upd H a ob) h' a ob) :
    Inv X pins σ (upd H a ob) { s with heap:=h',toks:=t' } :=
 I.write (x:=a) (e:=a) mu (.inl rfl) (λ b q hb z=>(hs.2 b hb).trans z) he new
theorem uk4 {P:Program} {w:World} {H':Hp} {h':Heap} {kvs:List (Key × V)} {vs:List (Key × Value)} (z:kvs.length<=sizeLine) (hd:(a == sysModules)=false) (rel:KV kvs vs) (dd:h'.DictOf (ue0 P w) a vs) :
    ObjOk P w H' h' a (.dK kvs):=⟨z,hd,vs,rel,dd⟩
theorem th2 {H':Hp} {Q:Unit->Shared->Prop} (hu:A.units + 1 < cLine) (I:Inv X pins σ H s) (g:DPut H a y v H') (ry:RelV y u) (rv:RelV v r) (h:∀ s',Inv X pins σ H' s'->Q () s') :
    wpAny (model X.prog X.w) A (setItem (.ref a) u r) Q E s:=by
 rcases g with ⟨kvs,k,e,ey,l,eH⟩ | ⟨kvs,k,b,e,ey,eb,l,eH⟩
 ·subst ey eH
  obtain ⟨z,hd,vs,rel,dd⟩:=zv4 I.hok e
  have hz:vs.length<=sizeLine:=by rw [<- rel.length]; exact z
  have hl:(putK kvs k v).length<=sizeLine:=by have:=ut0 kvs k v; omega
  refine wpAny_setItem_pairs (hsz:=hz) (se2 ry) dd λ h' dd' hs=>h _ ?_
  have he:∃ q,h'.get? a=some q:=let ⟨q,_,_,hq,_⟩:=dd'; ⟨q,hq⟩
  exact uh2 I (by rw [e]; exact True.intro) hs he (uk4 hl hd (rel.put k rv) dd')
 ·subst ey eH
  cases (show u=Value.ref b from ry)
  obtain ⟨z,hd,xs,rel,dd⟩:=vg2 I.hok (.inl e)
  have hz:xs.length<=sizeLine:=by rw [<- Paired.length rel]; exact z
  have hl:(putK kvs k v).length<=sizeLine:=by have:=ut0 kvs k v; omega
  refine ut3 (tupleKind_room_in1 hu) (vg1 I.hok eb) dd hz λ h' ep' e1 dd' hs=>h _ ?_
  obtain ⟨q,es,hq,h2,h3,h4,_,h5⟩:=dd'
  have e2:ep'=(putK kvs k v).length:=by rw [e1,uj3,(rel.val k).isSome_eq,Option.isSome_map]
  refine uh2 I (by rw [e]; exact True.intro) hs ⟨q,hq⟩ ⟨hl,hd,_,(rel.put k eb rv).keeps λ c ys ec=>?_,q,es,ep',hq,h2,h3,h4,h5,e2⟩
  rw [vb0 (xe2 ec e (λ z=>nomatch z))]
  exact ec
end
section
variable {X:Cx} {pins:List (Addr × Obj)} {σ:St} {H:Hp} {s:Shared} {a:Addr} {kvs:List (Key × V)} {k:Key} {u:Value} {A:Around} {E:Value->Shared->Prop}
end
def vo4 (td ty tv:TE):TS:=λ D σ H=>tv σ H λ v H1=>td σ H1 λ x H2=>ty σ H2 λ y H3=>∃ a H4,x=.ref a /\ DPut H3 a y v H4 /\ D.nx σ H4
section
variable {X:Cx} {o i e value:Expr} {pos pos' tpos:Pos} {td ty tv:TE}
theorem xc2 (hu:X.A.units + 1 < cLine) (ho:PE X o td) (hi:PE X i ty) (hv:PE X value tv) (hs:swapsWith value (some (.Subscript o i pos')) pos.line X.env=pure false) :
    PS X (.Assign [.Subscript o i pos'] value pos) (vo4 td ty tv):=by
 intro pins s σ H D I h
 refine wpAny_Assign_Subscript (thn (hv pins s σ H _ I h) λ r s1 ⟨v,H1,I1,rv,q1⟩=>thn (ho pins s1 σ H1 _ I1 q1) λ u s2 ⟨x,H2,I2,rx,q2⟩=>thn (hi pins s2 σ H2 _ I2 q2) λ iv s3 ⟨y,H3,I3,ry,a,H4,ex,g,q3⟩=>?_) hs
 subst ex
 obtain rfl:u=Value.ref a:=rx
 exact th2 hu I3 g ry rv λ s4 I4=>⟨σ,H4,I4,q3⟩
end
theorem vs2 {P:Program} {w:World} {H:Hp} (h:Heap) (hb:sysModules < h.objs.size):ObjOk P w H (h.push { cls:=.type "dict",data:=.dict #[] }) h.objs.size (.dT []) :=
 ⟨Nat.zero_le _,beq_eq_false_iff_ne.mpr (Ne.symm (Nat.ne_of_lt hb)),[],.nil,_,#[],0,Heap.get?_push_size _ rfl,⟨rfl,rfl,rfl⟩,rfl,rfl,nodup_nil,rfl⟩
def us3:TE:=λ _ H Q=>∀ p,H p=none->Q (.ref p) (upd H p (.dT []))
section
variable {X:Cx} {pos:Pos}
theorem yo1:PE X (.Dict [] [] pos) us3:=λ pins s σ H Q I h =>
 wpAny_Dict_empty ⟨.ref s.heap.objs.size,_,I.laid (a:=s.heap.objs.size) (o:=.dT []) (t':=s.toks) (λ _ _ q=>Heap.get?_push_of_some _ q) (Nat.le_refl _) (vs2 s.heap I.big),rfl,h _ (I.hok.fresh (Nat.le_refl _))⟩
end
section
variable {X:Cx} {pins:List (Addr × Obj)} {σ:St} {H:Hp} {s:Shared} {a:Addr} {y d:V} {u r:Value} {o:Option V} {A:Around} {E:Value->Shared->Prop}
theorem xl4 {Q:Value->Shared->Prop} (hu:A.units + 1 < cLine) (I:Inv X pins σ H s) (g:DGet H a y o) (ry:RelV y u) (rd:RelV d r) (h:∀ w' s',Inv X pins σ H s'->RelV (o.getD d) w'->Q w' s') :
    wpAny (model X.prog X.w) A (call (.builtin "dict.get") [.ref a,u,r]) Q E s:=by
 rcases g with ⟨kvs,k,e,ey,l⟩ | ⟨kvs,k,b,e,ey,eb,l⟩
 ·subst ey
  obtain ⟨z,hd,vs,rel,dd⟩:=us2 I.hok e
  refine call_meetsIn slot_dict_get dd.typeIs entry_dict_get (PySem.F.args_dict_get_3 _ _ _) (meets_dict_get_default (ue0 X.prog X.w) a (se2 ry) hd r) ⟨_,dd.mapOf,h _ _ (I.tok _) ?_⟩
  rw [l]
  exact (rel.val k).getD rd
 ·subst ey
  cases (show u=Value.ref b from ry)
  obtain ⟨z,hd,xs,rel,dd⟩:=ul3 I.hok e
  refine call_meetsIn slot_dict_get dd.typeIs entry_dict_get (PySem.F.args_dict_get_3 _ _ _) (meetsH_dict_get_default (tupleKind (ue0 X.prog X.w)) a b hd r) ⟨tupleKind_room_in1 hu,k,xs,vg1 I.hok eb,dd,h _ _ (I.tok _) ?_⟩
  rw [l]
  exact (rel.val k).getD rd
end
section
variable {X:Cx} {o e f:Expr} {apos cpos:Pos} {td ty tx:TE}
end
section
variable {X:Cx} {pins:List (Addr × Obj)} {σ:St} {H:Hp} {s:Shared} {a:Addr} {kvs:List (Key × V)} {A:Around} {E:Value->Shared->Prop}
end
section
variable {X:Cx} {pins:List (Addr × Obj)} {σ:St} {H:Hp} {s:Shared} {a:Addr} {y:V} {u:Value} {A:Around} {E:Value->Shared->Prop}
end
end L2
namespace Pv
open PySem
def mnR:C3:=λ ds μ Q=>match ds with
 | [.int i,.int j]=>Q (.int (if j < i then j else i)) μ
 | [.tup [.int a,.int b],.tup [.int c,.int d]]=>Q (if ltP c d a b then .tup [.int c,.int d] else .tup [.int a,.int b]) μ
 | [.ref p]=>match μ p with
  | some (.lst l)=>match ints? l with
   | some ns=>0 < ns.length /\ ∀ m,m ∈ ns->(∀ a,a ∈ ns->m<=a)->Q (.int m) μ
   | none=>False
  | _=>False
 | _=>False
def mxR:C3:=λ ds μ Q=>match ds with
 | [.int i,.int j]=>Q (.int (if j > i then j else i)) μ
 | [.ref p]=>match μ p with
  | some (.lst l)=>match ints? l with
   | some ns=>0 < ns.length /\ ∀ m,m ∈ ns->(∀ a,a ∈ ns->a<=m)->Q (.int m) μ
   | none=>False
  | _=>False
 | _=>False
theorem tg4 (i j:Int) (μ:Mu) (Q:VK3):mxR [.int i,.int j] μ Q=Q (.int (if j > i then j else i)) μ:=propext ⟨λ h=>h,λ h=>h⟩
theorem xq2 {p:Addr} {ns:List Int} {μ:Mu} {Q:VK3} (h:μ p=some (.lst (ns.map D.int))) (k:0 < ns.length /\ ∀ m,m ∈ ns->(∀ a,a ∈ ns->m<=a)->Q (.int m) μ):mnR [.ref p] μ Q:=by
 have e:∀ ns:List Int,ints? (ns.map D.int)=some ns:=λ ns=>by
  induction ns with
  | nil=>rfl
  | cons n r ih=>simp only [map_cons,ints?,ih]
 unfold mnR
 simp only [h,e]
 exact k
theorem tp2 {p:Addr} {ns:List Int} {μ:Mu} {Q:VK3} (h:μ p=some (.lst (ns.map D.int))) (k:0 < ns.length /\ ∀ m,m ∈ ns->(∀ a,a ∈ ns->a<=m)->Q (.int m) μ):mxR [.ref p] μ Q:=by
 have e:∀ ns:List Int,ints? (ns.map D.int)=some ns:=λ ns=>by
  induction ns with
  | nil=>rfl
  | cons n r ih=>simp only [map_cons,ints?,ih]
 unfold mxR
 simp only [h,e]
 exact k
abbrev XE3:=Str->Mu->Prop
def ux0 (XE:XE3) (x:Str) (t:TA3):TS3:=λ _ ρ μ=>t ρ μ λ ds μ1=>ds.length<=sizeLine /\ XE x μ1
def isx3 (t:TE3) (sub:Str->Option Bool):TE3:=λ ρ μ Q=>t ρ μ λ d μ1=>match d with
 | .exc c=>match sub c with
  | some b=>Q (.bl b) μ1
  | _=>False
 | _=>False
def try3 (i:Nat) (spx:XE3->Sp3) (st:D->St3->St3) (ok:Str->Bool) (ta:TA3) (ts:TS3):TS3:=λ D' ρ μ=>ta ρ μ λ ds μ1 =>
 spx (λ c μ2=>ok c=true /\ ts { nx:=λ ρ' μ'=>D'.nx (ρ'.set i none) μ',rt:=λ _ _=>False } (ρ.set i (some (.exc c))) μ2) ds μ1 (λ d μ2=>D'.nx (st d ρ) μ2)
def NX:XE3:=λ _ _=>False
def td3 (j:Nat):D->St3->St3:=λ d ρ=>ρ.set j (some d)
end Pv
namespace Pv
open PySem PySem.Spec PyProof.Rows L2
open Sem (wp)
def F2 (h:Heap) (e:Addr):Prop:=∃ oe vs,h.get? e=some oe /\ oe.data=.fields vs /\ vs[2]?=some .none
structure Kf {α:Type} (e:Addr) (t:Sem α):Prop where
 out:∀ (M:Model) (Γ:PySem.Ctx) (P:α->Pos->Shared->Prop) (E:Value->Pos->Shared->Prop) (p:Pos) (s:Shared),F2 s.heap e->wp M Γ t P E p s->wp M Γ t (λ a p' s'=>P a p' s' /\ F2 s'.heap e) E p s
namespace Kf
variable {α β:Type} {e:Addr}
theorem pure (a:α):Kf e (Pure.pure a:Sem α):=⟨λ _ _ _ _ _ _ f h=>⟨h,f⟩⟩
theorem uns (w:String):Kf e (unsupported w:Sem α):=⟨λ _ _ _ _ _ _ _ h=>h⟩
theorem bind {m:Sem α} {g:α->Sem β} (hm:Kf e m) (hg:∀ a,Kf e (g a)):Kf e (m >>= g):=⟨λ M Γ P E p s f h=>by
 rw [Sem.wp_bind'] at h ⊢
 exact Sem.wp_mono M Γ m (λ a p' s' ⟨h1,f1⟩=>(hg a).out M Γ P E p' s' f1 h1) (λ _ _ _ x=>x) p s (hm.out M Γ _ E p s f h)⟩
theorem ite {c:Prop} [Decidable c] {t u:Sem α} (ht:Kf e t) (hu:Kf e u):Kf e (if c then t else u):=by split <;> assumption
theorem load (a:Addr):Kf e (PySem.load a):=⟨λ _ _ _ _ _ _ f ⟨o,h1,h2⟩=>⟨o,h1,h2,f⟩⟩
theorem stack:Kf e PySem.stack:=⟨λ M Γ P E p s f h=>by
 unfold PySem.stack at h ⊢
 rw [Sem.wp_stack] at h ⊢
 exact ⟨h,f⟩⟩
theorem alloc (o:Obj):Kf e (PySem.alloc o):=⟨λ _ _ _ _ _ _ ⟨oe,vs,h1,h2,h3⟩ h=>⟨h,oe,vs,Heap.get?_push_of_some _ h1,h2,h3⟩⟩
theorem slots (a:Addr) (g:Obj->Array (Option Value)):Kf e (PySem.update a λ o=>{ o with slots:=g o }):=⟨λ _ _ _ _ _ s ⟨oe,vs,h1,h2,h3⟩ ⟨h,k⟩=>⟨h,k,by
 by_cases q:a=e
 ·subst q
  exact ⟨_,vs,Heap.get?_update_self (λ o=>{ o with slots:=g o }) h1 (Obj.isFreed_of_fields h2),h2,h3⟩
 ·exact ⟨oe,vs,(Heap.get?_update_ne _ _ _ _ (Ne.symm q)).trans h1,h2,h3⟩⟩⟩
theorem field (v:Value) (i:Nat):Kf e (PySem.field v i):=⟨λ _ Γ P E p s f h=>by
 rw [wp_field_iff] at h ⊢
 obtain ⟨a,o,vs,x,h1,h2,h3,h4,h5⟩:=h
 exact ⟨a,o,vs,x,h1,h2,h3,h4,h5,f⟩⟩
theorem setField (v:Value) {i:Nat} (x:Value) (hi:i ≠ 2):Kf e (PySem.setField v i x):=⟨λ _ Γ P E p s ⟨oe,vs,h1,h2,h3⟩ h=>by
 rw [wp_setField_iff] at h ⊢
 obtain ⟨a,o,ws,k1,k2,k3,k4,k5⟩:=h
 refine ⟨a,o,ws,k1,k2,k3,k4,k5,?_⟩
 by_cases q:a=e
 ·subst q
  have hd:=Obj.data_mapFields h2 (·.setIfInBounds i x)
  exact ⟨_,_,Heap.get?_update_self (Obj.mapFields (·.setIfInBounds i x)) h1 (Obj.isFreed_of_fields hd),hd,by rw [Array.getElem?_setIfInBounds_ne hi]; exact h3⟩
 ·exact ⟨oe,vs,(Heap.get?_update_ne _ _ _ _ (Ne.symm q)).trans h1,h2,h3⟩⟩
theorem wy3:∀ l:List Env,Kf e (readyFrames l)
 | []=>Kf.pure _
 | env :: outer=>by
  have ih:=wy3 outer
  unfold readyFrames
  unfold behindIsImport keptBack underTheClaimsCaller
  repeat' with_reducible first | assumption | exact Kf.pure _ | exact Kf.uns _ | exact Kf.field _ _ | exact Kf.load _ | exact Kf.stack | exact Kf.slots _ _ | apply Kf.ite | apply Kf.bind | intro _ | split
theorem note (v:Value) (env:Env):Kf e (noteFrame v env):=by
 have r:=λ l=>wy3 (e:=e) l
 unfold noteFrame EntryCells.newEntry newFields newObj newObjAsIs PySem.frameOf frameObject entryPlaceOf frameEnvs
 repeat' with_reducible first | assumption | exact Kf.pure _ | exact Kf.uns _ | exact Kf.field _ _ | exact Kf.load _ | exact Kf.stack | exact Kf.alloc _ | exact Kf.setField _ _ (by decide) | exact r _ | apply Kf.ite | apply Kf.bind | intro _ | split
theorem sj4 (v:Value) (o:Option Addr):Kf e (setFlight v o):=by
 unfold setFlight
 repeat' with_reducible first | exact Kf.pure _ | exact Kf.field _ _ | exact Kf.setField _ _ (by decide) | apply Kf.ite | apply Kf.bind | intro _ | split
theorem leav (v:Value) (env:Env):Kf e (leaving env v):=Kf.bind (note v env) λ _=>sj4 v none
theorem any {t:Sem α} (k:Kf e t) {M:Model} {A:Around} {Q:α->Shared->Prop} {E:Value->Shared->Prop} {s:Shared} (f:F2 s.heap e) (h:wpAny M A t Q E s):wpAny M A t (λ a s'=>Q a s' /\ F2 s'.heap e) E s :=
 λ Γ p hΓ=>k.out M Γ _ _ p s f (h Γ p hΓ)
theorem any' {o:Prop} {t:Sem α} (k:Kf e t) {M:Model} {A:Around} {Q:α->Shared->Prop} {E:Value->Shared->Prop} {s:Shared} (f:o->F2 s.heap e) (h:wpAny M A t Q E s):wpAny M A t (λ a s'=>Q a s' /\ (o->F2 s'.heap e)) E s:=by
 by_cases q:o
 ·exact wpAny_mono (k.any (f q) h) (λ _ _ z=>⟨z.1,λ _=>z.2⟩) λ _ _ z=>z
 ·exact wpAny_mono h (λ _ _ z=>⟨z,λ y=>absurd y q⟩) λ _ _ z=>z
end Kf
def CXn (P:Program) (w:World):CXT:=λ outer H s E e s'=>∃ (ea:Addr) (cls a0:Value) (H':Hp) (B:Heap),e=.ref ea /\ s'.os=s.os /\ AllBare s'.gens /\ Un (frs outer) [] H H' s.heap s'.heap /\ HOk P w H' s'.heap ∧
 Heap.FlyingW B outer ea cls a0 s'.heap /\ H' ea=none /\ (∀ b o,s'.heap.get? b=some o->b ∉ frs outer->(∃ o',s.heap.get? b=some o')->B.get? b=some o) /\ (∀ b,H' b ≠ none->∃ o,s'.heap.get? b=some o /\ B.get? b=some o) /\ ∃ o:Option Addr,(o=none->F2 s'.heap ea) /\ E cls o H'
theorem wp2 {P:Program} {w:World} {K:Fg} {mg:Str->Option Value} {base:Heap} {N:List Str} {qual:Str} {scope:Scope} {f:Addr} {cd:Value} {A:Around} {outer:List Env} {s0:Shared} {H0:Hp} {E:XK} :
    yj1 (CXn P w) (cxOf (CXn P w) P w K mg base N qual scope f cd A outer s0 H0 E) E:=by
 intro pins σ H s e s' I h
 obtain ⟨ea,cls,a0,H',B,rfl,os,bare,u2,hok,fl,hea,cov1,cov2,oo,hf2,hE⟩:=h
 have u1:Un (frs outer) [] H0 H s0.heap s.heap:=I.base
 have habove:s0.heap.objs.size<=(envOfC qual scope s0.heap.objs.size f cd).locals:=I.ok.above
 have hloc:∀ {b:Addr} {o:Obj},s0.heap.get? b=some o->b ≠ (envOfC qual scope s0.heap.objs.size f cd).locals:=λ {b o} q z=>by
  have:=Heap.lt_size q
  rw [z] at this
  exact absurd this (Nat.not_lt.mpr habove)
 have hfs:frs ((envOfC qual scope s0.heap.objs.size f cd) :: outer)=(envOfC qual scope s0.heap.objs.size f cd).locals :: frs outer:=rfl
 have hfn:∀ {b:Addr} {o:Obj},s0.heap.get? b=some o->b ∉ frs outer->b ∉ frs ((envOfC qual scope s0.heap.objs.size f cd) :: outer):=λ {b o} q z hm=>by
  rw [hfs] at hm
  rcases List.mem_cons.mp hm with hm | hm
  ·exact hloc q hm
  ·exact z hm
 show wpAny (model P w) (A.deeper (envOfC qual scope s0.heap.objs.size f cd)) (leaving (envOfC qual scope s0.heap.objs.size f cd) (.ref ea)) _ _ s'
 refine wpAny_mono ((Kf.leav _ _).any' hf2 (wpAny_leaves_onW (Q:=λ _ z=>∃ h',z={ s' with heap:=h' } /\ Heap.FlyingW B outer ea cls a0 h' /\ s'.heap.UpToSlots h') I.ok.frames rfl fl λ h' fl' up=>⟨h',rfl,fl',up⟩)) (λ _ z hz=>?_) λ _ _ z=>z
 obtain ⟨⟨h',rfl,fl',up⟩,hf3⟩:=hz
 have far:∀ b o,s0.heap.get? b=some o->b ∉ frs outer->∃ o',s'.heap.get? b=some o' /\ B.get? b=some o' /\ h'.get? b=some o':=λ b o q hb=>by
  obtain ⟨o1,e1⟩:=u1.there b o q (by simp)
  obtain ⟨o2,e2⟩:=u2.there b o1 e1 (by simp)
  have e3:=cov1 b o2 e2 (hfn q hb) ⟨o1,e1⟩
  exact ⟨o2,e2,e3,fl'.1 b o2 e3⟩
 have frm:∀ b o,s'.heap.get? b=some o->b ∈ frs outer->∃ sl,h'.get? b=some { o with slots:=sl }:=λ b o q hb=>by
  have hm:b ∈ ((envOfC qual scope s0.heap.objs.size f cd) :: outer).filterMap (·.frame):=by
   show b ∈ frs _
   rw [hfs]; exact mem_cons_of_mem _ hb
  obtain ⟨_,o',ho,hnf⟩:=fl.2.2.1.mem hm
  rw [q] at ho; cases ho
  exact up b o q hnf
 refine ⟨ea,cls,a0,H',B,rfl,os.trans I.os,bare,?_,?_,fl',hea,?_,?_,oo,hf3,hE⟩
 ·refine ⟨λ b o q n hb _=>?_,λ b o q n hb _=>?_,λ b o q n _=>?_,λ b o q _=>?_,λ b xs q=>u2.tups b xs (u1.tups b xs q),λ b o u q=>u2.frzs b o u (u1.frzs b o u q),λ b ps q=>?_⟩
  ·have e1:=u1.keep b o q n hb (by simp)
   have e2:=u2.keep b o e1 (u1.free b o q n (by simp)) (hfn q hb) (by simp)
   obtain ⟨o',e3,_,e5⟩:=far b o q hb
   rw [e2] at e3; cases e3
   exact e5
  ·obtain ⟨sl,e1⟩:=u1.slot b o q n hb (by simp)
   obtain ⟨sl2,e2⟩:=u2.slot b _ e1 (u1.free b o q n (by simp)) (by show b ∈ frs ((envOfC qual scope s0.heap.objs.size f cd) :: outer); rw [hfs]; exact mem_cons_of_mem _ hb) (by simp)
   obtain ⟨sl3,e3⟩:=frm b _ e2 hb
   exact ⟨sl3,e3⟩
  ·obtain ⟨o1,e1⟩:=u1.there b o q (by simp)
   exact u2.free b o1 e1 (u1.free b o q n (by simp)) (by simp)
  ·by_cases hb:b ∈ frs outer
   ·obtain ⟨o1,e1⟩:=u1.there b o q (by simp)
    obtain ⟨o2,e2⟩:=u2.there b o1 e1 (by simp)
    obtain ⟨sl,e3⟩:=frm b o2 e2 hb
    exact ⟨_,e3⟩
   ·obtain ⟨o',_,_,e5⟩:=far b o q hb
    exact ⟨o',e5⟩
  ·obtain ⟨m1,e1⟩:=u1.tbls b ps q
   obtain ⟨m2,e2⟩:=u2.tbls b _ e1
   exact ⟨m1 ++ m2,by rw [e2,Array.append_assoc]⟩
 ·refine λ a o e=>(hok a o e).stay (λ b u hb q=>?_) (λ _ h=>h) (λ _ _ h=>h)
  have hne:H' b ≠ none:=by
   rcases hb with rfl | hb
   ·rw [e]; simp
   ·rw [hb]; simp
  obtain ⟨o',e1,e2⟩:=cov2 b hne
  rw [q] at e1; cases e1
  exact fl'.1 b _ e2
 ·intro b o q hb ⟨o',q'⟩
  obtain ⟨o2,_,e4,e5⟩:=far b o' q' hb
  have q2:h'.get? b=some o:=q
  rw [e5] at q2; cases q2
  exact e4
 ·intro b hb
  obtain ⟨o,e1,e2⟩:=cov2 b hb
  exact ⟨o,fl'.1 b o e2,e2⟩
theorem zt0 {P:Program} {w:World} {H:Hp} {h:Heap} {a:Addr} {o:HO} (x:ObjOk P w H h a o):∃ ob,h.get? a=some ob:=by
 induction o with
 | lst xs=>obtain ⟨z,its,n,r,e⟩:=x; exact ⟨_,e⟩
 | tup xs=>obtain ⟨z,its,r,ob,e,c⟩:=x; exact ⟨_,e⟩
 | dK kvs=>obtain ⟨z,y,vs,r,ob,es,ep,e,c⟩:=x; exact ⟨_,e⟩
 | dT kvs=>obtain ⟨z,y,xs,r,ob,es,ep,e,c⟩:=x; exact ⟨_,e⟩
 | set S n=>obtain ⟨ob,es,ep,t,e,c⟩:=x; exact ⟨_,e⟩
 | ins C dx fs=>obtain ⟨d,z,ne,e,mA,_,r⟩:=x; exact ⟨_,e⟩
 | own y=>obtain ⟨ob,e⟩:=x; exact ⟨_,e⟩
 | xd fs=>obtain ⟨mA,⟨od,es,ep,e,c⟩,r⟩:=x; exact ⟨_,e⟩
 | rng lo hi=>obtain ⟨t,u,v,e⟩:=x; exact ⟨_,e⟩
 | frz ob u ih=>obtain ⟨e,q⟩:=x; exact ⟨_,e⟩
 | tbl ps=>exact ⟨_,x⟩
 | met f y=>exact ⟨_,x⟩
 | ext φ=>obtain ⟨p,⟨o,e⟩,st⟩:=x; exact ⟨_,e⟩
section
variable {P:Program} {w:World} {K:Fg} {mg:Str->Option Value} {base:Heap} {N:List Str} {qual:Str} {scope:Scope} {f:Addr} {cd:Value} {A:Around} {outer:List Env} {s0:Shared} {H0:Hp} {E:XK}
theorem wf3 {pins:List (Addr × Obj)} {σ:L2.St} {H:Hp} {s:Shared} {h1:Heap} {e:Addr} {a0:Value} {oe:Obj} {ws:Array Value} {oo:Option Addr} (I:L2.Inv (cxOf (CXn P w) P w K mg base N qual scope f cd A outer s0 H0 E) pins σ H s) (hxk:∀ b o,s.heap.get? b=some o->h1.get? b=some o) (hxn:s.heap.get? e=none) (he:h1.get? e=some oe) (hd:oe.data=.fields ws) (hw1:ws[1]?=some .none) (hw0:ws[0]?=some a0) (hw2:oo=none->ws[2]?=some .none) (hE:E oe.cls oo H) :
    (cxOf (CXn P w) P w K mg base N qual scope f cd A outer s0 H0 E).xe (.ref e) { s with heap:=h1 }:=by
 have u1:Un (frs outer) [] H0 H s0.heap s.heap:=I.base
 have e0:=I.env0
 have habove:s0.heap.objs.size<=(envOfC qual scope s0.heap.objs.size f cd).locals:=I.ok.above
 have hfs:frs ((envOfC qual scope s0.heap.objs.size f cd) :: outer)=(envOfC qual scope s0.heap.objs.size f cd).locals :: frs outer:=rfl
 have hfn:∀ {b:Addr} {o:Obj},s0.heap.get? b=some o->b ∉ frs outer->b ∉ frs ((envOfC qual scope s0.heap.objs.size f cd) :: outer):=λ {b o} q z hm=>by
  rw [hfs] at hm
  rcases List.mem_cons.mp hm with hm | hm
  ·have:=Heap.lt_size q
   rw [hm] at this
   exact absurd this (Nat.not_lt.mpr habove)
  ·exact z hm
 have hin:∀ env ∈ ((envOfC qual scope s0.heap.objs.size f cd) :: outer),∀ b,env.frame=some b->b ∈ frs ((envOfC qual scope s0.heap.objs.size f cd) :: outer):=λ env he b hb=>List.mem_filterMap.mpr ⟨env,he,hb⟩
 have hfun:s.heap.FunFrames base ((envOfC qual scope s0.heap.objs.size f cd) :: outer):=e0.funs
 have hl:=PySem.W.funFrames_hide hfun hin
 show wpAny (model P w) (A.deeper (envOfC qual scope s0.heap.objs.size f cd)) (leaving (envOfC qual scope s0.heap.objs.size f cd) (.ref e)) _ _ _
 have hen:(hideAll s.heap (frs ((envOfC qual scope s0.heap.objs.size f cd) :: outer))).get? e=none:=by
  cases q:(hideAll s.heap (frs ((envOfC qual scope s0.heap.objs.size f cd) :: outer))).get? e with
  | none=>rfl
  | some o=>have:=of_hideAll _ q; rw [hxn] at this; cases this
 refine wpAny_mono ((Kf.leav _ _).any' (λ z=>⟨oe,ws,he,hd,hw2 z⟩) (wpAny_leaving_firstW (Q:=λ _ z=>∃ h',z={ s with heap:=h' } /\ Heap.FlyingW (hideAll s.heap (frs ((envOfC qual scope s0.heap.objs.size f cd) :: outer))) outer e oe.cls a0 h' /\ h1.UpToSlots h') (s:={ s with heap:=h1 }) (a0:=a0) I.ok.frames (hl.of_keeps λ b o hb _=>⟨o,hxk b o hb,rfl⟩) rfl he (λ b o q=>hxk b o (of_hideAll _ q)) hen hd hw1 hw0 λ h' hL=>?_)) (λ _ z hz=>?_) λ _ _ z=>z
 ·obtain ⟨k1,⟨_,_,k2⟩,k3,k4⟩:=hL
  exact ⟨h',rfl,⟨k1,hen,k2,k3⟩,k4⟩
 obtain ⟨⟨h',rfl,fl,up⟩,hf3⟩:=hz
 have inB:∀ b o,s.heap.get? b=some o->b ∉ frs ((envOfC qual scope s0.heap.objs.size f cd) :: outer)->(hideAll s.heap (frs ((envOfC qual scope s0.heap.objs.size f cd) :: outer))).get? b=some o:=λ b o q hb=>hideAll_get _ q hb
 have trk:∀ b,H b ≠ none->∃ o,s.heap.get? b=some o /\ b ∉ frs ((envOfC qual scope s0.heap.objs.size f cd) :: outer):=λ b hb=>by
  cases q:H b with
  | none=>exact absurd q hb
  | some ho =>
   obtain ⟨o,eo⟩:=zt0 (I.hok b ho q)
   refine ⟨o,eo,λ hm=>?_⟩
   have:=e0.frf b hm
   rw [q] at this; cases this
 have frm:∀ b o,s.heap.get? b=some o->b ∈ frs outer->∃ sl,h'.get? b=some { o with slots:=sl }:=λ b o q hb=>by
  have hm:b ∈ ((envOfC qual scope s0.heap.objs.size f cd) :: outer).filterMap (·.frame):=by
   show b ∈ frs _
   rw [hfs]; exact mem_cons_of_mem _ hb
  obtain ⟨_,o',ho,hnf⟩:=hfun.mem hm
  rw [q] at ho; cases ho
  exact up b o (hxk b o q) hnf
 refine ⟨e,oe.cls,a0,H,_,rfl,I.os,I.bare,?_,?_,fl,?_,?_,?_,oo,hf3,hE⟩
 ·refine ⟨λ b o q n hb _=>?_,λ b o q n hb _=>?_,λ b o q n _=>u1.free b o q n (by simp),λ b o q _=>?_,λ b xs q=>u1.tups b xs q,λ b o u q=>u1.frzs b o u q,λ b ps q=>u1.tbls b ps q⟩
  ·exact fl.1 b o (inB b o (u1.keep b o q n hb (by simp)) (hfn q hb))
  ·obtain ⟨sl,e1⟩:=u1.slot b o q n hb (by simp)
   obtain ⟨sl2,e2⟩:=frm b _ e1 hb
   exact ⟨sl2,e2⟩
  ·obtain ⟨o1,e1⟩:=u1.there b o q (by simp)
   by_cases hb:b ∈ frs outer
   ·obtain ⟨sl,e2⟩:=frm b o1 e1 hb
    exact ⟨_,e2⟩
   ·exact ⟨o1,fl.1 b o1 (inB b o1 e1 (hfn q hb))⟩
 ·refine λ a o ha=>(I.hok a o ha).stay (λ b u hb q=>?_) (λ _ h=>h) (λ _ _ h=>h)
  have hne:H b ≠ none:=by
   rcases hb with rfl | hb
   ·rw [ha]; simp
   ·rw [hb]; simp
  obtain ⟨o',e1,e2⟩:=trk b hne
  exact fl.1 b u (inB b u q e2)
 ·cases q:H e with
  | none=>rfl
  | some ho =>
   obtain ⟨o,eo⟩:=zt0 (I.hok e ho q)
   rw [hxn] at eo; cases eo
 ·intro b o q hb ⟨o',q'⟩
  obtain ⟨o1,e1⟩:=u1.there b o' q' (by simp)
  have e2:=inB b o1 e1 (hfn q' hb)
  have e3:=fl.1 b o1 e2
  have q2:h'.get? b=some o:=q
  rw [e3] at q2; cases q2
  exact e2
 ·intro b hb
  obtain ⟨o,e1,e2⟩:=trk b hb
  exact ⟨o,fl.1 b o (inB b o e1 e2),inB b o e1 e2⟩
theorem sb4 {pins:List (Addr × Obj)} {σ:L2.St} {H:Hp} {s:Shared} {h1:Heap} {e:Addr} {cls:Value} {us:List Value} (I:L2.Inv (cxOf (CXn P w) P w K mg base N qual scope f cd A outer s0 H0 E) pins σ H s) (hx:Heap.MadeExcOf s.heap h1 e cls us) (hE:E cls none H) :
    (cxOf (CXn P w) P w K mg base N qual scope f cd A outer s0 H0 E).xe (.ref e) { s with heap:=h1 }:=by
 obtain ⟨t,h2,_,_⟩:=hx.there
 exact wf3 (oo:=none) I hx.keeps hx.new h2 rfl rfl rfl (λ _=>rfl) hE
def vs3 (E:XK) (C:Addr) (ta:TA):TS:=λ _ σ H=>ta σ H λ vs H1=>vs.length<=sizeLine /\ E (.ref C) none H1
theorem to2 {x:Str} {C:Addr} {Bn B newId inN nid initId:String} {bm bmN:List Value} {e₀:Expr} {rest:List Expr} {np cpos pos:Pos} {ta:TA}
    (O:OwnCls x C bm newId mg base) (Fn:ExcBaseFacts Bn newId inN bmN) (hBn:bm.contains (.type Bn)=true) (FB:ExcBaseFacts B nid initId bm)
    (hg:Gl (cxOf (CXn P w) P w K mg base N qual scope f cd A outer s0 H0 E) x) (ha:PA (cxOf (CXn P w) P w K mg base N qual scope f cd A outer s0 H0 E) (e₀ :: rest) ta)
    (he:starEach (e₀ :: rest) (envOfC qual scope s0.heap.objs.size f cd)=(false,eval e₀ (envOfC qual scope s0.heap.objs.size f cd)) :: starEach rest (envOfC qual scope s0.heap.objs.size f cd):=by rfl)
    (hplain:(backTo cpos (starEach rest (envOfC qual scope s0.heap.objs.size f cd))).any (·.1)=false:=by rfl) (hd:(x == ("__debug__" : Str))=false:=by decide) :
    PS (cxOf (CXn P w) P w K mg base N qual scope f cd A outer s0 H0 E) (.Raise (some (.Call (.Name x np) (e₀ :: rest) [] cpos)) none pos) (vs3 E C ta):=by
 intro pins s σ H D I h
 obtain ⟨tl,NN,nm,q,bs,hdct,sn,sub,ab,col,dd,k0,k1,k2,k3,k5,mN,hC,hN,hni,T⟩:=O.obj
 refine wpAny_Raise_call_subU (C:=C) (nm:=nm) (q:=q) (N:=NN) (bs:=bs) (bm:=tl) (hdct:=hdct) (sn:=sn) (sub:=sub) (ab:=ab) (col:=col) (dd:=dd) (k0:=k0) (k1:=k1) (k2:=k2) (k3:=k3) (k5:=k5)
  Fn hBn FB (mN:=mN) (T.hasType FB.hasBase) (I.ok.hd rfl) (by
   show (backTo cpos (starEach (e₀ :: rest) (envOfC qual scope s0.heap.objs.size f cd))).any (·.1)=false
   rw [he]; show (false || (backTo cpos (starEach rest (envOfC qual scope s0.heap.objs.size f cd))).any (·.1))=false; rw [hplain]; rfl) hni (vl0 I hg O.bound ⟨rfl,?_⟩ hd)
 have hA:=ha cpos pins s σ H _ I h
 have he':starEach (e₀ :: rest) (cxOf (CXn P w) P w K mg base N qual scope f cd A outer s0 H0 E).env=_:=he
 rw [he'] at hA ⊢
 refine Calls.evalArgs_plain (thn hA λ us s2 ⟨vs,H2,I2,r2,q2⟩=>⟨rfl,?_,I2.bk _ _ hC,hN.keeps I2.bk,T.keeps I2.bk,λ h' e hx=>sb4 I2 hx q2.2⟩)
 rw [<- r2.length]; exact q2.1
def EXok (K:Fg) (mg:Str->Option Value) (XE:XE3) (E:XK):Prop:=∀ x C μ' H' o,XE x μ'->mg x=some (.ref C)->RelM K μ' H'->(x = "NoWord" -> o=none)->E (.ref C) o H'
def uh4 (K:Fg) (mg:Str->Option Value) (spx:XE3->Sp3):Sp:=λ vs H Q E=>∃ ds μ Q3 XE,RelDs K H ds vs /\ RelM K μ H /\ spx XE ds μ Q3 /\ Ks K H Q3 Q /\ EXok K mg XE E
def CalX (P:Program) (w:World) (K:Fg) (mg:Str->Option Value) (base:Heap) (k:Nat) (x:Str) (ps:List Str) (spx:XE3->Sp3):Prop :=
 ∃ f fd,FnOk P w K mg base (CXn P w) k f fd ps (uh4 K mg spx) /\ mg x=some (.ref f) /\ keepIn K (.ref f)=true /\ Binds K fd ps []
theorem CalX.mono {j k:Nat} {x:Str} {ps:List Str} {spx:XE3->Sp3} (c:CalX P w K mg base j x ps spx) (h:j<=k):CalX P w K mg base k x ps spx:=by
 obtain ⟨f,fd,F,r⟩:=c
 exact ⟨f,fd,F.mono h,r⟩
variable {XE:XE3}
theorem ym0 {x:Str} {C:Addr} {Bn B newId inN nid initId:String} {bm bmN:List Value} {e₀:Expr} {rest:List Expr} {np cpos pos:Pos} {ta:TA3} (EX:EXok K mg XE E)
    (O:OwnCls x C bm newId mg base) (Fn:ExcBaseFacts Bn newId inN bmN) (hBn:bm.contains (.type Bn)=true) (FB:ExcBaseFacts B nid initId bm)
    (ha:RA (cxOf (CXn P w) P w K mg base N qual scope f cd A outer s0 H0 E) (e₀ :: rest) ta) (hg:Gl (cxOf (CXn P w) P w K mg base N qual scope f cd A outer s0 H0 E) x:=by rfl)
    (he:starEach (e₀ :: rest) (envOfC qual scope s0.heap.objs.size f cd)=(false,eval e₀ (envOfC qual scope s0.heap.objs.size f cd)) :: starEach rest (envOfC qual scope s0.heap.objs.size f cd):=by rfl)
    (hplain:(backTo cpos (starEach rest (envOfC qual scope s0.heap.objs.size f cd))).any (·.1)=false:=by rfl) (hd:(x == ("__debug__" : Str))=false:=by decide) :
    RS (cxOf (CXn P w) P w K mg base N qual scope f cd A outer s0 H0 E) (.Raise (some (.Call (.Name x np) (e₀ :: rest) [] cpos)) none pos) (ux0 XE x ta):=by
 obtain ⟨va,pa,ra⟩:=ha
 exact ⟨_,to2 O Fn hBn FB hg pa he hplain hd,λ σ H D ρ μ D3 s m h k=>ra σ H _ ρ μ _ s m h λ ds μ1 vs H1 h1 k1 r1 m1=>⟨by rw [<- r1.length]; exact h1.1,EX x C μ1 H1 none h1.2 O.bound m1 (λ _=>rfl)⟩⟩
theorem zb1 {k:Nat} {ps:List Str} {spx:XE3->Sp3} {x:Str} {e:Expr} {es:List Expr} {p pos:Pos} {t:TA3} (EX:EXok K mg XE E) (c:CalX P w K mg base k x ps spx) (hr:Room k (A.deeper (envOfC qual scope s0.heap.objs.size f cd)))
    (ha:RA (cxOf (CXn P w) P w K mg base N qual scope f cd A outer s0 H0 E) (e :: es) t) (hg:Gl (cxOf (CXn P w) P w K mg base N qual scope f cd A outer s0 H0 E) x:=by rfl) (hdb:(x == ("__debug__" : Str))=false:=by decide)
    (he:starEach (e :: es) (envOfC qual scope s0.heap.objs.size f cd)=(false,eval e (envOfC qual scope s0.heap.objs.size f cd)) :: starEach es (envOfC qual scope s0.heap.objs.size f cd):=by rfl) (hpl:(backTo pos (starEach es (envOfC qual scope s0.heap.objs.size f cd))).any (·.1)=false:=by rfl) :
    RE (cxOf (CXn P w) P w K mg base N qual scope f cd A outer s0 H0 E) (.Call (.Name x p) (e :: es) [] pos) (call3 (spx XE) t):=by
 obtain ⟨g,fd,F,hm,hk,hb⟩:=c
 obtain ⟨va,pa,ra⟩:=ha
 refine ⟨_,vk1 (X:=cxOf (CXn P w) P w K mg base N qual scope f cd A outer s0 H0 E) F hr hg hm hk hb .nil wp2 pa hdb he hpl,λ σ H Q ρ μ Q3 s m h k=>ra σ H _ ρ μ _ s m h λ ds μ1 vs H1 h1 k1 r1 m1=>?_⟩
 rw [append_nil]
 exact ⟨ds,μ1,Q3,XE,r1,m1,h1,k.after k1,EX⟩
theorem zv0 {x:Str} {st:Stmt} {g:Addr} {fd:FuncData} {NN ps:List Str} {k:Nat} {spx:XE3->Sp3} {t:XE3->TS3} (F:Fun K x x st g fd) (hm:mg x=some (.ref g)) (hb:Binds K fd ps []) (S:FnScope NN ps (wa0 st))
    (len:∀ XE ds μ Q,spx XE ds μ Q->ds.length=ps.length)
    (body:∀ (cdv:Value) (A:Around) (outer:List Env) (s:Shared) (H:Hp) (E:XK) (XE:XE3),Room k (A.deeper (envOfC x (wa0 st) s.heap.objs.size g cdv))->EXok K mg XE E ->
     RSs (cxOf (CXn P w) P w K mg base NN x (wa0 st) g cdv A outer s H E) (zb0 st) (t XE))
    (rd:∀ XE ds μ Q,spx XE ds μ Q->t XE { nx:=λ _ μ'=>Q .non μ',rt:=Q } (start3 NN ds) μ):CalX P w K mg base (k + 1) x ps spx:=by
 refine ⟨g,fd,?_,hm,F.kp,hb⟩
 obtain ⟨oc,od,kV,doc,pm,an,cdv,ct,osl,rfl,lk,hcd⟩:=F.ex
 refine tj4 lk hcd S (λ vs H Q E h=>?_) λ A outer s H vs Q E hr h=>?_
 ·obtain ⟨ds,μ,Q3,XE,r,m,q,ks,ex⟩:=h
  rw [<- r.length]; exact len _ _ _ _ q
 ·obtain ⟨ds,μ,Q3,XE,r,m,q,ks,ex⟩:=h
  obtain ⟨tv,p,rt⟩:=body cdv A outer s H E XE hr ex
  exact ⟨tv,p,rt _ H _ _ μ _ (RSt.start NN r) m (rd XE ds μ Q3 q) ⟨λ ρ μ' σ H' h' k' s' m'=>ks _ _ _ _ h' k' .non m',λ ρ μ' σ H' h'=>False.elim h',λ ρ μ' σ H' h'=>False.elim h',ks⟩⟩
end
end Pv
namespace Pv
open PySem PySem.Spec PyProof.Rows L2 PySem.Calls
section
variable {prog:Program} {w:World} {A:Around} {E:Value->Shared->Prop} {s:Shared} {K:PySem.W.Frag} {x D:Addr} {ox:Obj}
structure ExcK (K:PySem.W.Frag) (D:Addr):Prop where
 ga:findIn K (.ref D) "__getattribute__" = some (some (.builtin "BaseException.__getattribute__"))
 no:findIn K (.ref D) "__getattr__" = some none
 be:mroIn K D (.type "BaseException")=some true
 cd:(clsIn K D).isSome=true
 ca:findIn K (.ref D) "__class__" = some (some (.builtin "object.__class__"))
 gt:specialIn K (.builtin "object.__class__") "__get__" = some (some (.builtin "getset_descriptor.__get__"))
 tk:takesIn K (.builtin "object.__class__")=some true
 ob:mroIn K D (.type "object")=some true
def ExcAt (x D:Addr) (h:Heap):Prop:=∃ ob,h.get? x=some ob /\ ob.cls=.ref D
theorem ExcAt.type {M:Model} {h:Heap} (I:ExcAt x D h):PySem.W.Looks M h (typeOf (.ref x)) (.ref D):=by
 obtain ⟨ob,h1,h2⟩:=I
 exact h2 ▸ (PySem.W.Looks.ld h1).andThen .now
theorem ws2 {M:Model} {h:Heap} (Z:ExcK K D) (X:K.In h):PySem.W.Looks M h (Builtin.ObjectAttr.find (.ref x) (.ref D) "__class__") (.bind (.builtin "getset_descriptor.__get__") (.builtin "object.__class__")):=by
 have L1:=looks_findIn (M:=M) X Z.ca
 have L2:=PySem.W.looks_specialIn (M:=M) X Z.gt
 have L3:=PySem.W.looks_takesIn (M:=M) X Z.tk
 refine L1.andThen (PySem.W.Looks.andThen (show PySem.W.Looks M h (Builtin.ObjectAttr.getOf (some (.builtin "object.__class__"))) (some (.builtin "getset_descriptor.__get__")) from L2) ?_)
 exact (show PySem.W.Looks M h (Builtin.ObjectAttr.dataDescriptor? (some (.builtin "object.__class__")) (some (.builtin "getset_descriptor.__get__"))) (some (.builtin "getset_descriptor.__get__",.builtin "object.__class__")) from L3.andThen .now).andThen (PySem.W.Looks.tag .now)
theorem wl3 {R:Result->Shared->Prop} {tp:Value} (Z:ExcK K D) (X:K.In s.heap) (I:ExcAt x D s.heap)
    (h:R (.ok (.ret (.ref D))) s):codeAny (model prog w) A (.call (.builtin "getset_descriptor.__get__") ⟨[.builtin "object.__class__",.ref x,tp],[]⟩) R s:=by
 obtain ⟨ob,h1,h2⟩:=I
 obtain ⟨hh,g,dr,t,os⟩:=s
 have L0:=ExcAt.type (M:=model prog w) (x:=x) (D:=D) (h:=hh) ⟨ob,h1,h2⟩
 have L1:=looks_mroIn (M:=model prog w) X Z.ob
 refine codeAny_call_builtin PySem.W.KF.slot_gs.plain PySem.W.KF.entry_gs (PySem.W.KF.slot_gs.check _ _ _ _ _ _ _ _ PySem.W.KF.type_class (PySem.W.KF.args_gs _ _ _) ?_)
 unfold Builtin.«getset_descriptor.__get__» Builtin.Getset_descriptor.descrGet
 rw [PySem.W.dga_obj]
 refine wpAny_bind (wpAny_pure ?_)
 unfold Builtin.Getset_descriptor.descrGetter Builtin.Getset_descriptor.descrCheckInstance Builtin.Getset_descriptor.descrNameAndClass isInstance
 simp only [PySem.W.KF.owner_class]
 repeat lk
 refine ⟨Code.quiet_builtin _ (by decide +kernel),codeAny_builtin PySem.W.KF.entry_class ?_⟩
 unfold Builtin.«object.__class__» shownTypeOf
 repeat lk
 exact h
theorem xg2 {Q:Option Value->Shared->Prop} (Z:ExcK K D) (X:K.In s.heap) (I:ExcAt x D s.heap) (h:Q (some (.ref D)) { s with toks:=s.toks + 1 }):wpAny (model prog w) A (getAttr? (.ref x) "__class__") Q E s:=by
 obtain ⟨hh,g,d,t,os⟩:=s
 have L0:=I.type (M:=model prog w)
 have L1:=looks_findIn (M:=model prog w) X Z.ga
 have L2:=looks_findIn (M:=model prog w) X Z.no
 have L3:=ws2 (M:=model prog w) (x:=x) Z X
 have L4:=looks_mroIn (M:=model prog w) X Z.be
 unfold getAttr? getAttrBy? getAttrBy
 refine wpAny_bind (wpAny_mkText (wpAny_bind (wpAny_attempt (wpAny_holding (wpAny_bind (L0.at (wpAny_bind (L1.at ?_))))))))
 have hx2:(Value.builtin "BaseException.__getattribute__" == Value.builtin "object.__getattribute__")=false:=by decide +kernel
 simp only [hx2,Bool.and_false,Bool.false_eq_true,if_false]
 unfold getAttrByItsOwn hookBefore
 have hh1:onTheHeap (Value.ref D)=true:=rfl
 simp only [hh1,if_true]
 refine wpAny_bind (L2.at (wpAny_bind (wpAny_attempt (wpAny_holding ?_))))
 unfold callGetattribute boundAndCalled
 simp only [Bool.false_and,Bool.false_eq_true,if_false]
 have hb:bindSpecial (.builtin "BaseException.__getattribute__") (.ref x)=pure (.builtin "BaseException.__getattribute__",[.ref x]):=PySem.F.attr_ValueError.ga.bind _
 rw [hb]
 refine wpAny_bind (wpAny_pure ?_)
 refine wpAny_call (codeAny_call_builtin PySem.F.attr_ValueError.ga.plain F.entry_bexc_ga ?_)
 have hk:builtinKind "BaseException.__getattribute__" = some .slot:=by decide +kernel
 have hsplit:splitId "BaseException.__getattribute__" = some ("BaseException", "__getattribute__"):=by decide +kernel
 have ha:=F.args_bexc_ga (.ref x) (.str "__class__" t)
 simp only [checkBuiltinCall,hk,hsplit]
 refine wpAny_bind ?_
 ·unfold isInstance
  refine wpAny_bind (L0.at (L4.at ?_))
  simp only [Bool.not_true,Bool.false_eq_true,if_false]
  obtain ⟨ob,I1,I2⟩:=id I
  dsimp only at I1
  repeat (any_goals (first | assumption | (with_reducible refine wpAny_loadPart_at I1 ?_; rw [I2]) | with_reducible refine L3.at ?_ | wp_step))
  refine wl3 (s:=⟨hh,g,d,t + 1,os⟩) Z X I (wpAny_pure ?_)
  exact PySem.W.handed_on rfl (wpAny_pure h)
theorem sq2 (Z:ExcK K D):PySem.W.KitX K (.ref x) (.ref D) (ExcAt x D) where
 ty:=λ _ _ _ I=>I.type
 it:=λ _ _ X _=>by
  obtain ⟨cdD,hcD⟩:=Option.isSome_iff_exists.mp Z.cd
  unfold clsIn at hcD
  split at hcD
  ·rename_i c' d' cd' sl' ho
   intro A' Q' E' s' k q
   unfold isType loadHead
   exact wpAny_bind (wpAny_loadPart (k _ _ (X _ _ ho)) (wpAny_pure q))
  ·cases hcD
 ne:=λ h tp dd its n sl X htp=>by
  obtain ⟨cdD,hcD⟩:=Option.isSome_iff_exists.mp Z.cd
  refine Bool.eq_false_iff.mpr λ q=>?_
  have e:D=tp:=Value.ref.inj (beq_iff_eq.mp q)
  subst e
  unfold clsIn at hcD
  split at hcD
  ·rename_i c' d' cd' sl' ho
   have z:=(X _ _ ho).symm.trans htp
   cases z
  ·cases hcD
 ca:=λ X I k=>xg2 Z X I k
end
section
variable {X:Cx} {e:Expr} {te:TE3} {p p2 pos:Pos}
theorem zl3 {P:Program} {w:World} {H:Hp} {h:Heap} (hok:HOk P w H h) {a:Addr} {ob:Obj} {u:HO} (e:H a=some (.frz ob u)):h.get? a=some ob:=(show ObjOk P w H h a (.frz ob u) from hok a _ e).1
theorem wt2 {cV:V} {cv:Value} (rc:∀ u,RelV cV u->u=cv):CallR X (.builtin "isinstance") (λ xs H Q=>∃ a C ob u b,xs=[.ref a,cV] /\ H a=some (.frz ob u) /\ ob.cls=.ref C /\ ExcK X.K C /\ kitOne X.K (.ref C) cv=some b /\ Q (.bl b) H):=by
 intro pins s σ H xs us Q I r h
 obtain ⟨a,C,ob,u,b,rfl,ha,h1,Z,hk,q⟩:=h
 obtain ⟨u1,u2,rfl,r1,r2⟩:=sv0 r
 cases r1
 cases rc _ r2
 have hg:=zl3 I.hok ha
 have hi:ExcAt a C s.heap:=⟨ob,hg,h1⟩
 exact kia_one (sq2 Z) I.kIn hi hk (λ z=>nomatch z) λ tk=>⟨.bl b,H,I.tok tk,rfl,q⟩
theorem sx0 {y:Str} {C:Addr} (hg:Gl X y) (hm:X.mg y=some (.ref C)) (hd:(y == ("__debug__" : Str))=false:=by decide):PE X (.Name y p2) (λ _ H Q=>Q (.ref C) H):=λ pins s σ H Q I h=>vl0 I hg hm ⟨.ref C,H,I,rfl,h⟩ hd
theorem ss0 {y:Str} {cV:V} {cv:Value} {sub:Str->Option Bool} (he:RE X e te) (hc:PE X (.Name y p2) (λ _ H Q=>Q cV H)) (rc:∀ u,RelV cV u->u=cv)
    (hsub:∀ c C b,sub c=some b->nsIn X.K mainGlobals c=some (some (.ref C))->ExcK X.K C /\ kitOne X.K (.ref C) cv=some b)
    (hm:X.mg "isinstance" = none) (hg:Gl X "isinstance" := by rfl)
    (hs:starEach [e,.Name y p2] X.env=(false,eval e X.env) :: starEach [.Name y p2] X.env:=by rfl) (hs2:starEach [.Name y p2] X.env=(false,eval (.Name y p2) X.env) :: starEach [] X.env:=by rfl)
    (hpl:(backTo pos (starEach [.Name y p2] X.env)).any (·.1)=false:=by rfl) :
    RE X (.Call (.Name "isinstance" p) [e,.Name y p2] [] pos) (isx3 te sub):=by
 obtain ⟨va,pa,ra⟩:=he
 refine ⟨_,zo1 (wt2 rc) hg hm ve0 (uk1 pa (uk1 hc tw2 hs2) hs) (by decide) (by decide) hs hpl,λ σ H Q ρ μ Q3 s m h k=>ra σ H _ ρ μ _ s m h λ d μ1 v H1 h1 k1 r1 m1=>?_⟩
 cases r1 with
 | exc a1 a2 a3 =>
  dsimp only at h1
  split at h1
  ·next b eb =>
   obtain ⟨z1,z2⟩:=hsub _ _ b eb a3
   exact ⟨_,_,_,_,b,rfl,a1,a2,z1,z2,k _ _ _ _ h1 k1 (.bl _) m1⟩
  ·exact h1.elim
 | _=>exact False.elim h1
end
section
variable {X:Cx} {pins:List (Addr × Obj)} {σ:L2.St} {H H':Hp} {s s':Shared}
abbrev mark (X:Cx) (e:Value):Cx:={ X with A:=X.A.mark (some e),calm:=false,xe:=λ _ _=>False }
theorem wp1 (I:Inv X pins σ H s) (e:Value):Inv (mark X e) pins σ H s :=
 ⟨⟨I.ok.mod,I.ok.kind,I.ok.glob,I.ok.blt,I.ok.above,I.ok.inj,I.ok.has,I.ok.cab,(λ z=>Bool.noConfusion z),I.ok.frames,I.ok.stk,I.ok.exf,I.ok.bs,I.ok.bsz,I.ok.noex,I.ok.exfs,I.ok.funs,I.ok.frf⟩,I.os,I.bare,I.base,I.loc,I.cell,I.free,I.freeC,I.pin,I.hok,I.len⟩
theorem zw1 {e:Value} (ok:X.Ok) (I:Inv (mark X e) pins σ H s):Inv X pins σ H s :=
 ⟨ok,I.os,I.bare,I.base,I.loc,I.cell,I.free,I.freeC,I.pin,I.hok,I.len⟩
theorem sh1 {B h5:Heap} {ea:Addr} {cls a0:Value} (u2:Un (frs X.stack) [] H H' s.heap s'.heap)
    (cov1:∀ b o,s'.heap.get? b=some o->b ∉ frs X.stack->(∃ o',s.heap.get? b=some o')->B.get? b=some o)
    (fl:Heap.FlyingW B X.stack ea cls a0 s'.heap) (st:∀ b o,B.get? b=some o->h5.get? b=some o) (up:s'.heap.UpToSlots h5):Un (frs X.stack) [] H H' s.heap h5:=by
 have frm:∀ b o,s'.heap.get? b=some o->b ∈ frs X.stack->∃ sl,h5.get? b=some { o with slots:=sl }:=λ b o q hb=>by
  obtain ⟨_,o',ho,hnf⟩:=fl.2.2.1.mem hb
  rw [q] at ho; cases ho
  exact up b o q hnf
 refine ⟨λ b o q n hb _=>?_,λ b o q n hb _=>?_,λ b o q n hx=>u2.free b o q n hx,λ b o q hx=>?_,u2.tups,u2.frzs,u2.tbls⟩
 ·exact st b o (cov1 b o (u2.keep b o q n hb (by simp)) hb ⟨o,q⟩)
 ·obtain ⟨sl,e1⟩:=u2.slot b o q n hb (by simp)
  obtain ⟨sl2,e2⟩:=frm b _ e1 hb
  exact ⟨sl2,e2⟩
 ·obtain ⟨o1,e1⟩:=u2.there b o q hx
  by_cases hb:b ∈ frs X.stack
  ·obtain ⟨sl,e2⟩:=frm b o1 e1 hb
   exact ⟨_,e2⟩
  ·exact ⟨o1,st b o1 (cov1 b o1 e1 hb ⟨o,q⟩)⟩
theorem ty0 {B h5:Heap} {P:Program} {w:World} (hok:HOk P w H' s'.heap) (cov2:∀ b,H' b ≠ none->∃ o,s'.heap.get? b=some o /\ B.get? b=some o) (st:∀ b o,B.get? b=some o->h5.get? b=some o):HOk P w H' h5:=by
 refine λ a o e=>(hok a o e).stay (λ b u hb q=>?_) (λ _ h=>h) (λ _ _ h=>h)
 have hne:H' b ≠ none:=by
  rcases hb with rfl | hb
  ·rw [e]; simp
  ·rw [hb]; simp
 obtain ⟨o',e1,e2⟩:=cov2 b hne
 rw [q] at e1; cases e1
 exact st b _ e2
theorem vp3 {fs:List Addr} {h h5:Heap} {ea:Addr} {o:HO} (u:Un fs [] H H' h h5) (he:H' ea=none) (hn:h.get? ea=none):Un fs [] H (upd H' ea o) h h5:=by
 have ne:∀ {b ob},h.get? b=some ob->b ≠ ea:=λ {b ob} q z=>by subst z; rw [hn] at q; cases q
 have ne2:∀ {b u},H' b=some u->b ≠ ea:=λ {b u} q z=>by subst z; rw [he] at q; cases q
 refine ⟨u.keep,u.slot,λ b ob q n hx=>?_,u.there,λ b xs q=>?_,λ b ob v q=>?_,λ b ps q=>?_⟩
 ·rw [vb0 (ne q)]; exact u.free b ob q n hx
 ·have:=u.tups b xs q; rw [vb0 (ne2 this)]; exact this
 ·have:=u.frzs b ob v q; rw [vb0 (ne2 this)]; exact this
 ·obtain ⟨m,e⟩:=u.tbls b ps q; exact ⟨m,by rw [vb0 (ne2 e)]; exact e⟩
theorem xb3 {P:Program} {w:World} {h5:Heap} {ea:Addr} {oe:Obj} (hok:HOk P w H' h5) (he:H' ea=none) (hg:h5.get? ea=some oe):HOk P w (upd H' ea (.frz oe (.own 0))) h5:=by
 have ne2:∀ {b u},H' b=some u->b ≠ ea:=λ {b u} q z=>by subst z; rw [he] at q; cases q
 intro a o e
 by_cases ha:a=ea
 ·subst ha
  rw [wd0] at e
  cases e
  exact ⟨hg,⟨_,hg⟩⟩
 ·rw [vb0 ha] at e
  exact (hok a o e).stay (λ b u hb q=>q) (λ b q=>by rw [vb0 (ne2 q)]; exact q) (λ b xs q=>by rw [vb0 (ne2 q)]; exact q)
theorem tl1 {M:Model} {A:Around} {E:Value->Shared->Prop} {K:PySem.W.Frag} {ea C Pc:Addr} {ob:Obj} {Q:Bool->Shared->Prop} (Z:K.In s.heap) (h1:s.heap.get? ea=some ob) (h2:ob.cls=.ref C)
    (k1:kitCls K (.ref C) (.ref Pc)=some true) (k2:kitCls K (.ref Pc) (.type "BaseException")=some true) (k3:kitCls K (.type "type") (.type "tuple")=some false) (hq:Q true s):wpAny M A (excMatches (.ref ea) (.ref Pc)) Q E s:=by
 obtain ⟨a1,a2,a3⟩:=kit_cls (M:=M) Z k1
 obtain ⟨b1,b2,b3⟩:=kit_cls (M:=M) Z k2
 obtain ⟨c1,c2,c3⟩:=kit_cls (M:=M) Z k3
 have L0:=ExcAt.type (M:=M) (x:=ea) (D:=C) (h:=s.heap) ⟨ob,h1,h2⟩
 obtain ⟨hh,g,d,t,os⟩:=s
 unfold excMatches isInstance
 refine wpAny_bind (wpAny_bind (a1.at (c3.at ?_)))
 dsimp only
 simp only [Bool.false_eq_true,if_false,pure_bind,List.forIn_cons,List.forIn_nil]
 unfold isExcClass
 repeat (any_goals (first | assumption | with_reducible refine L0.at ?_ | with_reducible refine a3.at ?_ | with_reducible refine b3.at ?_ | with_reducible refine a2.at ?_ | with_reducible refine a1.at ?_ | wp_step))
theorem yt2 {e:Value} {E':XK} {n x:Str} {i:Nat} {Pc:Addr} {b₀:Stmt} {suite:List Stmt} {np pos:Pos} {Q:Flow->Shared->Prop} {EE:Value->Shared->Prop}
    (I:Inv X pins σ H s) (hst:X.stack=X.env :: X.outer) (hfr:X.env.frame=some X.env.locals) (h:CXn X.prog X.w X.stack H s E' e s')
    (hN:X.N.Nodup) (hi:X.N[i]?=some n) (hloc:X.env.scope.names.lookup n=some .local) (hg:Gl X x) (hm:X.mg x=some (.ref Pc)) (hd:(x == ("__debug__" : Str))=false)
    (hcls:∀ cls o H',E' cls o H'->∃ C,cls=.ref C /\ kitCls X.K (.ref C) (.ref Pc)=some true) (k2:kitCls X.K (.ref Pc) (.type "BaseException")=some true) (k3:kitCls X.K (.type "type") (.type "tuple")=some false)
    (k:∀ ea C H' ob s6 o,Kp H H'->E' (.ref C) o H'->H' ea=none->ob.cls=.ref C->Inv (mark X (.ref ea)) pins (σ.set i (some (.ref ea))) (upd H' ea (.frz ob (.own 0))) s6 ->
     wpAny (model X.prog X.w) (X.A.mark (some (.ref ea))) (execs (b₀ :: suite) X.env) (λ f s₄=>wpAny (model X.prog X.w) X.A (do bindName X.env n .none; unbindBehindTheSuite X.env n pos) (λ _ s₅=>Q f s₅) EE s₄) (λ _ _=>False) s6) :
    wpAny (model X.prog X.w) X.A (noteFrame e X.env) (λ _ s₂=>wpAny (model X.prog X.w) X.A (setFlight e none) (λ _ s₃ =>
     wpAny (model X.prog X.w) X.A (handleBy e X.env [.ExceptHandler (some (.Name x np)) (some n) (b₀ :: suite) pos]) Q EE s₃) EE s₂) EE s':=by
 obtain ⟨ea,cls,a0,H',B,rfl,os,bare,u2,hok,fl,hea,cov1,cov2,oo,hf2,hE⟩:=h
 obtain ⟨C,rfl,k1⟩:=hcls _ _ _ hE
 have fl0:=fl
 rw [hst] at fl
 refine wpAny_looks_onW (by rw [<- hst]; exact I.ok.frames) hfr fl λ h4 held4 sm4=>?_
 refine wpAny_landsW held4 λ h5 fl5 sm5=>?_
 have I5:Inv X pins σ H' { s' with heap:=h5 }:=I.call' (s':={ s' with heap:=h5 }) (ch:=[]) os (sh1 u2 cov1 fl0 fl5.1 (sm4.trans sm5)) (ty0 hok cov2 fl5.1) bare (λ b z=>absurd z (by simp))
 obtain ⟨ob5,hob5,hc5⟩:=fl5.there
 refine wpAny_handleBy_cons (codeAny_handlers_test (vl0 (wp1 I5 (.ref ea)) hg hm ?_ hd)) (by intro q; cases q)
 refine tl1 I5.kIn hob5 hc5 k1 k2 k3 ?_
 refine codeAny_handlers_suite_as ?_
 refine lands_againW (s:={ s' with heap:=h5 }) fl5 λ h6 fl6 sm6=>?_
 obtain ⟨oe,ws,hoe,hoec,hoed,hoe0⟩:=fl6.first
 have hsn:s.heap.get? ea=none:=by
  cases q:s.heap.get? ea with
  | none=>rfl
  | some o =>
   exfalso
   obtain ⟨o1,e1⟩:=u2.there ea o q (by simp)
   by_cases hb:ea ∈ frs X.stack
   ·obtain ⟨_,o',ho,hnf⟩:=fl0.2.2.1.mem hb
    obtain ⟨oe0,vs0,he0,_,hd0,_⟩:=fl0.first
    rw [he0] at ho; cases ho
    exact hnf _ hd0
   ·have:=cov1 ea o1 e1 hb ⟨o,q⟩
    rw [fl0.2.1] at this; cases this
 have I7:Inv X pins σ (upd H' ea (.frz oe (.own 0))) { s' with heap:=h6 }:=I.call' (s':={ s' with heap:=h6 }) (ch:=[]) os (vp3 (sh1 u2 cov1 fl0 fl6.1 ((sm4.trans sm5).trans sm6)) hea hsn) (xb3 (ty0 hok cov2 fl6.1) hea hoe) bare (λ b z=>absurd z (by simp))
 refine xk0 I7 hN hi (.inl hloc) (v:=.ref ea) (u:=.ref ea) rfl (λ s8 I8=>?_) (.inr hloc)
 exact wpAny_mono (k ea C H' oe s8 oo ⟨u2.tups,u2.frzs⟩ hE hea hoec (wp1 I8 (.ref ea))) (λ f s4 z=>z) (λ _ _ z=>z.elim)
theorem sk3 {M:Model} {A:Around} {E:Value->Shared->Prop} {i:Nat} {n:Str} {pos:Pos} {Q:Unit->Shared->Prop} (I:Inv X pins σ H s) (hN:X.N.Nodup) (hi:X.N[i]?=some n) (hk:X.env.scope.names.lookup n=some .local)
    (h:∀ s',Inv X pins (σ.set i none) H s'->Q () s'):wpAny M A (do bindName X.env n .none; unbindBehindTheSuite X.env n pos) Q E s:=by
 obtain ⟨m,hn,hl⟩:=id I.loc
 have hcls:(X.env.scope.kind == .class || (X.env.scope.kind == .module && X.env.locals != X.env.globals))=false:=by rw [I.ok.kind]; rfl
 have hiσ:i < σ.length:=by rw [I.len]; exact (List.getElem?_eq_some_iff.mp hi).1
 have cne:=I.cne
 have tracked:∀ {a:Addr} {h':Heap},(∃ o,s.heap.get? a=some o /\ H a=none)->Heap.SameBut a s.heap h'->HOk X.prog X.w H h':=λ {a h'} ha hs b ob e=>by
  obtain ⟨_,_,hfree⟩:=ha
  refine (I.hok b ob e).stay (λ c w' hc q=>(hs.2 c ?_).trans q) (λ _ q=>q) λ _ _ q=>q
  rintro rfl
  rcases hc with rfl | hc
  ·rw [hfree] at e; cases e
  ·rw [hfree] at hc; cases hc
 refine wpAny_nameGoes_keeps hk hn hcls λ h' v hn' hs=>?_
 obtain ⟨oL,_,_,hoL,_⟩:=id hn
 refine h _ ⟨I.ok,I.os,I.bare,⟨λ b o e n hb hx=>?_,λ b o e n hb hx=>?_,I.base.free,λ b o e hx=>?_,I.base.tups,I.base.frzs,I.base.tbls⟩,⟨_,hn',λ j y v' e1 e2 e3=>?_⟩,λ y c e=>?_,I.free,I.freeC,λ p hp=>?_,tracked ⟨oL,hoL,I.free⟩ hs,by simpa using I.len⟩
 ·exact (hs.2 b (Nat.ne_of_lt (Nat.lt_of_lt_of_le (Heap.lt_size e) I.ok.above))).trans (I.base.keep b o e n hb hx)
 ·obtain ⟨sl,e1⟩:=I.base.slot b o e n hb hx
  exact ⟨sl,(hs.2 b (Nat.ne_of_lt (Nat.lt_of_lt_of_le (Heap.lt_size e) I.ok.above))).trans e1⟩
 ·obtain ⟨o',e1⟩:=I.base.there b o e hx
  exact ⟨o',(hs.2 b (Nat.ne_of_lt (Nat.lt_of_lt_of_le (Heap.lt_size e) I.ok.above))).trans e1⟩
 ·by_cases hj:j=i
  ·subst hj
   rw [List.getElem?_set_self hiσ] at e2
   cases e2
  ·rw [getElem?_set_ne (Ne.symm hj)] at e2
   obtain ⟨u',r',q⟩:=hl j y v' e1 e2 e3
   refine ⟨u',r',?_⟩
   rcases q with ⟨k,e⟩ | ⟨k,c,e,z⟩
   ·refine .inl ⟨k,?_⟩
    have:y ≠ n:=λ e=>hj (yc1 hN e1 (e ▸ hi))
    simp [this,e]
   ·exact .inr ⟨k,c,e,z.sameBut hs (cne y c e)⟩
 ·obtain ⟨w',z⟩:=I.cell y c e
  exact ⟨w',z.sameBut hs (cne y c e)⟩
 ·obtain ⟨e,n,ne,nf,d⟩:=I.pin p hp
  exact ⟨(hs.2 p.1 ne).trans e,n,ne,nf,d⟩
def tTry (K:Fg) (Pc:Addr) (i:Nat) (sp:Sp) (st:V->L2.St->L2.St) (ta:TA) (ts:Addr->TS):TS:=λ D σ H=>ta σ H λ vs H1=>sp vs H1 (λ v H2=>D.nx (st v σ) H2)
 (λ cls _ H2=>∃ C,cls=.ref C /\ kitCls K (.ref C) (.ref Pc)=some true /\ (Kp H1 H2->∀ ea ob,H2 ea=none->ob.cls=.ref C ->
  ts ea { nx:=λ σ' H'=>D.nx (σ'.set i none) H',rt:=λ _ _=>False,bk:=λ _ _=>False,ct:=λ _ _=>False } (σ.set i (some (.ref ea))) (upd H2 ea (.frz ob (.own 0)))))
variable {k:Nat} {f:Addr} {fd:FuncData} {ps:List Str} {sp:Sp} {fx n x:Str} {i:Nat} {Pc:Addr} {e:Expr} {es:List Expr} {b₀:Stmt} {suite:List Stmt} {p cpos np hpos pos epos:Pos} {ta:TA} {ts:Addr->TS}
theorem sk2 {st:V->L2.St->L2.St} {QV:Value->Shared->Prop} {D:Ends} (F:FnOk X.prog X.w X.K X.mg X.base (CXn X.prog X.w) k f fd ps sp) (hr:Room k X.A) (hgf:Gl X fx) (hmf:X.mg fx=some (.ref f)) (hkf:keepIn X.K (.ref f)=true) (hb:Binds X.K fd ps []) (ha:PA X (e :: es) ta)
    (hsu:∀ ea,PSs (mark X (.ref ea)) (b₀ :: suite) (ts ea))
    (hN:X.N.Nodup) (hi:X.N[i]?=some n) (hloc:X.env.scope.names.lookup n=some .local) (hg:Gl X x) (hm:X.mg x=some (.ref Pc)) (hd:(x == ("__debug__" : Str))=false)
    (k2:kitCls X.K (.ref Pc) (.type "BaseException")=some true) (k3:kitCls X.K (.type "type") (.type "tuple")=some false) (hst:X.stack=X.env :: X.outer) (hfr:X.env.frame=some X.env.locals)
    (hxe:∀ v s,X.xe v s->False)
    (hdb:(fx == ("__debug__" : Str))=false) (he:starEach (e :: es) X.env=(false,eval e X.env) :: starEach es X.env) (hpl:(backTo cpos (starEach es X.env)).any (·.1)=false)
    (I:Inv X pins σ H s) (h:tTry X.K Pc i sp st ta ts D σ H) (kv:∀ v u H2 s2,RelV v u->Inv X pins σ H2 s2->D.nx (st v σ) H2->QV u s2) :
    wpAny (model X.prog X.w) X.A (eval (.Call (.Name fx p) (e :: es) [] cpos) X.env) QV
     (λ ex s₁=>wpAny (model X.prog X.w) X.A (noteFrame ex X.env) (λ _ s₂=>wpAny (model X.prog X.w) X.A (setFlight ex none) (λ _ s₃=>wpAny (model X.prog X.w) X.A (handleBy ex X.env [.ExceptHandler (some (.Name x np)) (some n) (b₀ :: suite) hpos]) (SP X pins D) X.xe s₃) X.xe s₂) X.xe s₁) s:=by
 refine wpAny_Call_Name_kw (vl0 I hgf hmf ?_ hdb)
 refine callWith_K (h₀:=X.base) I.ok.mod.kin hkf (wpAny_mono (ha cpos pins s σ H _ I h) (λ us s1 ⟨vs,H1,I1,r,q⟩=>⟨I1.kIn,?_⟩) λ _ _ z=>(hxe _ _ z).elim) he hpl
 have hl:(us ++ []).length=ps.length:=by rw [append_nil,<- r.length]; exact F.len _ _ _ _ q
 have hbb:=hb s1 us I1.kIn hl
 rw [append_nil] at hbb
 refine wpAny_call (codeAny_mono (F.run X.A X.stack s1 H1 ⟨us,[]⟩ us vs _ _ hr I1.env0 hbb r q) λ rr s' hq=>?_)
 cases rr with
 | error ex =>
  dsimp only [CR] at hq
  refine yt2 I1 hst hfr hq hN hi hloc hg hm hd (λ cls _ H' hE=>?_) k2 k3 λ ea C H' ob s6 _ hkp hE hea hob I6=>?_
  ·obtain ⟨C,e1,e2,_⟩:=hE
   exact ⟨C,e1,e2⟩
  ·obtain ⟨C',e1,e2,e3⟩:=hE
   cases e1
   refine wpAny_mono (hsu ea pins s6 _ _ _ I6 (e3 hkp ea ob hea hob)) (λ fl s4 z=>?_) λ _ _ z=>z
   cases fl with
   | next =>
    obtain ⟨σ',H4,I4,q4⟩:=z
    exact sk3 (zw1 I1.ok I4) hN hi hloc λ s5 I5=>⟨_,H4,I5,q4⟩
   | brk=>obtain ⟨_,_,_,z⟩:=z; exact z.elim
   | cont=>obtain ⟨_,_,_,z⟩:=z; exact z.elim
   | ret _=>obtain ⟨_,_,_,_,_,z⟩:=z; exact z.elim
 | ok fl =>
  cases fl with
  | ret u =>
   obtain ⟨v,H2,I2,rv,q2⟩:=I1.after hq
   exact kv v u H2 _ rv I2 q2
  | next=>exact False.elim hq
  | brk=>exact False.elim hq
  | cont=>exact False.elim hq
theorem tg3 {j:Nat} {y:Str} {py:Pos} (F:FnOk X.prog X.w X.K X.mg X.base (CXn X.prog X.w) k f fd ps sp) (hr:Room k X.A) (hgf:Gl X fx) (hmf:X.mg fx=some (.ref f)) (hkf:keepIn X.K (.ref f)=true) (hb:Binds X.K fd ps []) (ha:PA X (e :: es) ta)
    (hsu:∀ ea,PSs (mark X (.ref ea)) (b₀ :: suite) (ts ea))
    (hN:X.N.Nodup) (hi:X.N[i]?=some n) (hloc:X.env.scope.names.lookup n=some .local) (hj:X.N[j]?=some y) (hlocy:X.env.scope.names.lookup y=some .local) (hg:Gl X x) (hm:X.mg x=some (.ref Pc)) (hd:(x == ("__debug__" : Str))=false)
    (k2:kitCls X.K (.ref Pc) (.type "BaseException")=some true) (k3:kitCls X.K (.type "type") (.type "tuple")=some false) (hst:X.stack=X.env :: X.outer) (hfr:X.env.frame=some X.env.locals)
    (hxe:∀ v s,X.xe v s->False)
    (hdb:(fx == ("__debug__" : Str))=false) (he:starEach (e :: es) X.env=(false,eval e X.env) :: starEach es X.env) (hpl:(backTo cpos (starEach es X.env)).any (·.1)=false)
    (hs:swapsWith (.Call (.Name fx p) (e :: es) [] cpos) (some (.Name y py)) epos.line X.env=pure false) :
    PS X (.Try [.Assign [.Name y py] (.Call (.Name fx p) (e :: es) [] cpos) epos] [.ExceptHandler (some (.Name x np)) (some n) (b₀ :: suite) hpos] [] [] pos) (tTry X.K Pc i sp (λ v σ=>σ.set j (some v)) ta ts):=by
 intro pins s σ H D I h
 refine wpAny_Try_except (wpAny_execs_cons (wpAny_Assign_Name ?_ hs))
 exact sk2 F hr hgf hmf hkf hb ha hsu hN hi hloc hg hm hd k2 k3 hst hfr hxe hdb he hpl I h (λ v u H2 s2 rv I2 q=>xk0 I2 hN hj (.inl hlocy) rv (λ s3 I3=>wpAny_execs_nil (wpAny_execs_nil ⟨_,H2,I3,q⟩)) (.inr hlocy))
end
theorem RSt.unset {K:Fg} {H:Hp} {ρ:St3} {σ:L2.St} (i:Nat) (s:RSt K H ρ σ):RSt K H (ρ.set i none) (σ.set i none):=by
 refine ⟨by simp [s.len],λ j e h=>?_⟩
 rw [vc1] at h
 split at h
 ·cases h
 ·next c =>
  obtain ⟨v,h1,r⟩:=s.at' j e h
  by_cases hj:i=j
  ·exfalso
   apply c
   refine ⟨hj,?_⟩
   rw [s.len,hj]
   exact (List.getElem?_eq_some_iff.mp h1).1
  ·exact ⟨v,by rw [getElem?_set_ne hj]; exact h1,r⟩
theorem RelM.newF {K:Fg} {μ:Mu} {H:Hp} (m:RelM K μ H) {p:Addr} {o:HO} (h:H p=none):RelM K μ (upd H p o):=m.newT h
section
variable {X:Cx} {k:Nat} {ps:List Str} {spx:XE3->Sp3} {fx n x:Str} {i:Nat} {Pc:Addr} {e:Expr} {es:List Expr} {b₀:Stmt} {suite:List Stmt} {p cpos np hpos pos epos:Pos} {ta:TA3} {ts:TS3} {ok:Str->Bool}
theorem xz3 {f:Addr} {va:TA} {tv:Addr->TS} {st:V->L2.St->L2.St} {st3:D->St3->St3} (hstp:∀ {H:Hp} {ρ:St3} {σ:L2.St} {d:D} {v:V},RSt X.K H ρ σ->RelD X.K H d v->RSt X.K H (st3 d ρ) (st v σ))
    (ra:RdA X.K va ta) (rt:∀ ea,RdS X.K (tv ea) ts) (hok:∀ c,ok c=true->∃ C,nsIn X.K mainGlobals c=some (some (.ref C)) /\ X.mg c=some (.ref C) /\ kitCls X.K (.ref C) (.ref Pc)=some true) :
    RdS X.K (tTry X.K Pc i (uh4 X.K X.mg spx) st va tv) (try3 i spx st3 ok ta ts):=by
 intro σ H D ρ μ D3 s m h kd
 refine ra σ H _ ρ μ _ s m h λ ds μ1 vs H1 h1 k1 r1 m1=>?_
 refine ⟨ds,μ1,_,_,r1,m1,h1,λ d μ2 v H2 h2 k2 r2 m2=>?_,λ c C μ2 H2 _ hX hmc m2 _=>?_⟩
 ·exact kd.nx _ _ _ _ h2 (k1.trans k2) (hstp (s.mono (k1.trans k2)) r2) m2
 ·obtain ⟨o1,o2⟩:=hX
  obtain ⟨C',z1,z2,z3⟩:=hok c o1
  rw [hmc] at z2
  cases z2
  refine ⟨C,rfl,z3,λ kp ea ob hea hob=>?_⟩
  have kn:Kp H2 (upd H2 ea (.frz ob (.own 0))):=Kp.new hea
  refine rt ea _ _ _ _ _ _ ((((s.mono (k1.trans kp)).mono kn)).set i (.exc wd0 hob z1)) (m2.newF hea) o2 ⟨λ ρ' μ' σ' H' q k' s' m'=>?_,λ _ _ _ _ q=>False.elim q,λ _ _ _ _ q=>False.elim q,λ _ _ _ _ q=>False.elim q⟩
  exact kd.nx _ _ _ _ q (k1.trans (kp.trans (kn.trans k'))) (s'.unset i) m'
theorem ve3 {j:Nat} {y:Str} {py:Pos} (c:CalX X.prog X.w X.K X.mg X.base k fx ps spx) (hr:Room k X.A) (ha:RA X (e :: es) ta) (hsu:∀ ea,RSs (mark X (.ref ea)) (b₀ :: suite) ts) (hN:X.N.Nodup)
    (hm:X.mg x=some (.ref Pc)) (k2:kitCls X.K (.ref Pc) (.type "BaseException")=some true) (k3:kitCls X.K (.type "type") (.type "tuple")=some false)
    (hok:∀ c,ok c=true->∃ C,nsIn X.K mainGlobals c=some (some (.ref C)) /\ X.mg c=some (.ref C) /\ kitCls X.K (.ref C) (.ref Pc)=some true)
    (hi:X.N[i]?=some n:=by rfl) (hloc:X.env.scope.names.lookup n=some .local:=by rfl) (hj:X.N[j]?=some y:=by rfl) (hlocy:X.env.scope.names.lookup y=some .local:=by rfl) (hg:Gl X x:=by rfl) (hgf:Gl X fx:=by rfl) (hd:(x == ("__debug__" : Str))=false:=by decide)
    (hst:X.stack=X.env :: X.outer:=by rfl) (hfr:X.env.frame=some X.env.locals:=by rfl) (hxe:∀ v s,X.xe v s->False:=by intro _ _ h; exact h)
    (hdb:(fx == ("__debug__" : Str))=false:=by decide) (he:starEach (e :: es) X.env=(false,eval e X.env) :: starEach es X.env:=by rfl) (hpl:(backTo cpos (starEach es X.env)).any (·.1)=false:=by rfl)
    (hs:swapsWith (.Call (.Name fx p) (e :: es) [] cpos) (some (.Name y py)) epos.line X.env=pure false:=by rfl) :
    RS X (.Try [.Assign [.Name y py] (.Call (.Name fx p) (e :: es) [] cpos) epos] [.ExceptHandler (some (.Name x np)) (some n) (b₀ :: suite) hpos] [] [] pos) (try3 i spx (td3 j) ok ta ts):=by
 obtain ⟨f,fd,F,hmf,hkf,hb⟩:=c
 obtain ⟨va,pa,ra⟩:=ha
 exact ⟨_,tg3 F hr hgf hmf hkf hb pa (ts:=λ ea=>(hsu ea).choose) (λ ea=>(hsu ea).choose_spec.1) hN hi hloc hj hlocy hg hm hd k2 k3 hst hfr hxe hdb he hpl hs,xz3 (f:=f) (λ s r=>s.set j r) ra (λ ea=>(hsu ea).choose_spec.2) hok⟩
end
structure RoomM (k:Nat) (A:Around):Prop where
 dp:A.depth + 3 * k + 5 < recursionLimit
 un:A.units + 16 * k + 200 < cLine
theorem RoomM.mono {j k:Nat} {A:Around} (r:RoomM k A) (h:j<=k):RoomM j A:=⟨by have:=r.dp; omega,by have:=r.un; omega⟩
theorem RoomM.deeper {k:Nat} {A:Around} (r:RoomM (k + 1) A) (env:Env):RoomM k (A.deeper env) :=
 ⟨by have:=r.dp; show A.depth + 1 + 3 * k + 5 < _; omega,by have:=r.un; show A.units + 3 + 16 * k + 200 < _; omega⟩
theorem RoomM.of {k:Nat} {A:Around} (r:Room k A) (e:Option Value):RoomM k (A.mark e):=⟨r.dp,r.un⟩
structure FnOkM (P:Program) (w:World) (K:PySem.W.Frag) (mg:Str->Option Value) (base:Heap) (CX:CXT) (k:Nat) (f:Addr) (fd:FuncData) (ps:List Str) (sp:Sp):Prop where
 len:∀ vs H Q E,sp vs H Q E->vs.length=ps.length
 run:∀ (A:Around) (outer:List Env) (s:Shared) (H:Hp) (args:Args) (us:List Value) (vs:List V) (Q:VK) (E:XK),RoomM k A->Env0 P w K mg base A outer s H->BindsTo s fd args (ps.zip us)->Vals vs us->sp vs H Q E ->
  codeAny (model P w) A (.call (.ref f) args) (CR CX outer P w H s Q E) s
abbrev cxM (CX:CXT) (P:Program) (w:World) (K:PySem.W.Frag) (mg:Str->Option Value) (base:Heap) (N:List Str) (qual:Str) (scope:Scope) (f:Addr) (cd:Value) (A:Around) (outer:List Env) (s:Shared) (H:Hp) (E:XK):Cx :=
 { cxOf CX P w K mg base N qual scope f cd A outer s H E with calm:=false }
theorem ww1 {CX:CXT} {P:Program} {w:World} {K:PySem.W.Frag} {mg:Str->Option Value} {base:Heap} {N ps:List Str} {qual:Str} {scope:Scope} {f:Addr} {cd:Value} {A:Around} {outer:List Env} {s s1:Shared} {H:Hp} {E:XK} {us:List Value} {vs:List V}
    (S:FnScope N ps scope) (e0:Env0 P w K mg base A outer s H) (hl:vs.length=ps.length) (r:Vals vs us)
    (x:InCallC s s.heap.objs.size (bindL (envOfC qual scope s.heap.objs.size f cd).kindOf (ps.zip us) λ _=>none) (cellsFrom (s.heap.objs.size + 1) scope.names []) (bindC (envOfC qual scope s.heap.objs.size f cd).kindOf (ps.zip us) λ _=>none) s1) :
    Inv (cxM CX P w K mg base N qual scope f cd A outer s H E) [] (start N vs) H s1:=by
 have I:=xh1 (CX:=CX) (P:=P) (w:=w) (K:=K) (mg:=mg) (base:=base) (E:=E) (A:={ A with handled:=none }) (outer:=outer) S rfl ⟨e0.frames,e0.mod,e0.bs,e0.bsz,e0.funs,e0.frf,e0.hok,e0.bare⟩ hl r x
 exact ⟨⟨I.ok.mod,I.ok.kind,I.ok.glob,I.ok.blt,I.ok.above,I.ok.inj,I.ok.has,I.ok.cab,(λ z=>Bool.noConfusion z),Around.frames_deeper e0.frames,I.ok.stk,I.ok.exf,I.ok.bs,I.ok.bsz,I.ok.noex,I.ok.exfs,I.ok.funs,I.ok.frf⟩,I.os,I.bare,I.base,I.loc,I.cell,I.free,I.freeC,I.pin,I.hok,I.len⟩
theorem uj4 {CX:CXT} {P:Program} {w:World} {K:PySem.W.Frag} {mg:Str->Option Value} {base:Heap} {k:Nat} {f:Addr} {name qual:Str} {params:Arguments} {body:List Stmt} {scope:Scope} {dV kV doc pm cdv ct oc:Value} {an od:Option Addr}
    {osl:Array (Option Value)} {N ps:List Str} {sp:Sp} (lk:K.lookup f=some ⟨oc,od,.func (fnOf name qual params body scope dV kV doc pm an cdv ct),osl⟩) (hcd:codeIn K cdv qual=true) (S:FnScope N ps scope)
    (len:∀ vs H Q E,sp vs H Q E->vs.length=ps.length)
    (hbody:∀ (A:Around) (outer:List Env) (s:Shared) (H:Hp) (vs:List V) (Q:VK) (E:XK),RoomM k (A.deeper (envOfC qual scope s.heap.objs.size f cdv))->sp vs H Q E ->
     ∃ t,PSs (cxM CX P w K mg base N qual scope f cdv A outer s H E) body t /\ t { nx:=λ _ H'=>Q .non H',rt:=Q } (start N vs) H) :
    FnOkM P w K mg base CX (k + 1) f (fnOf name qual params body scope dV kV doc pm an cdv ct) ps sp:=by
 refine ⟨len,λ A outer s H args us vs Q E hr e0 hb r hsp=>?_⟩
 have hl:=len _ _ _ _ hsp
 have KX:K.In s.heap:=e0.mod.kin.keeps λ b o e=>(e0.bs b o e).1
 have lim:s.heap.NoLimit:=e0.mod.nolimit.keeps λ b o e=>(e0.bs b o e).1
 have hkind:∀ y ∈ ps.zip us,scope.names.lookup y.1=some .local \/ (scope.names.lookup y.1=some .cell /\ ((cellsFrom (s.heap.objs.size + 1) scope.names []).lookup y.1).isSome=true):=λ ⟨n,v⟩ hy=>by
  rcases S.par n (of_mem_zip hy).1 with q | q
  ·exact .inl q
  ·exact .inr ⟨q,cellsFrom_some _ _ _ (.inl q)⟩
 have hdep:A.depth < recursionLimit:=by have:=hr.dp; omega
 refine codeAny_call_function hdep (KX _ _ lk) rfl S.co S.gen rfl (codeRec_of KX hcd) (hb _ _ _ _ ?_)
 refine wpAny_newFunctionEnv_cells S.kind hkind λ env he s1 x=>?_
 subst he
 refine ⟨lim.keeps x.toInCall.keep,codeAny_func ?_⟩
 obtain ⟨t,ht,hq⟩:=hbody A outer s H vs Q E (hr.deeper _) hsp
 have I:Inv (cxM CX P w K mg base N qual scope f cdv A outer s H E) [] (start N vs) H s1:=ww1 S e0 hl r x
 refine wpAny_mono (ht [] s1 (start N vs) H _ I hq) (λ fl s' hs=>?_) λ e s' hs=>hs
 have fin:∀ {σ':L2.St} {H':Hp} {v:V} {u:Value},Inv (cxM CX P w K mg base N qual scope f cdv A outer s H E) [] σ' H' s'->RelV v u->Q v H'->CE outer P w H s Q u s' :=
  λ {σ' H' v u} J rv q=>⟨v,H',J.os,J.bare,J.base,J.hok,rv,q⟩
 cases fl with
 | ret u =>
  obtain ⟨v,σ',H',J,rv,q⟩:=hs
  exact fin J rv q
 | next =>
  obtain ⟨σ',H',J,q⟩:=hs
  exact fin (v:=V.non) (u:=Value.none) J rfl q
 | brk =>
  obtain ⟨_,_,_,q⟩:=hs
  exact False.elim q
 | cont =>
  obtain ⟨_,_,_,q⟩:=hs
  exact False.elim q
def CalM (P:Program) (w:World) (K:Fg) (mg:Str->Option Value) (base:Heap) (k:Nat) (x:Str) (ps:List Str) (sp:Sp3):Prop :=
 ∃ f fd,FnOkM P w K mg base CX0 k f fd ps (lift K sp) /\ mg x=some (.ref f) /\ keepIn K (.ref f)=true /\ Binds K fd ps []
theorem CalM.mono {P:Program} {w:World} {K:Fg} {mg:Str->Option Value} {base:Heap} {j k:Nat} {x:Str} {ps:List Str} {sp:Sp3} (c:CalM P w K mg base j x ps sp) (h:j<=k):CalM P w K mg base k x ps sp:=by
 obtain ⟨f,fd,F,r⟩:=c
 exact ⟨f,fd,⟨F.len,λ A outer s H args us vs Q E hr=>F.run A outer s H args us vs Q E (hr.mono h)⟩,r⟩
section
variable {X:Cx} {x:Str} {e:Expr} {es:List Expr} {p pos:Pos} {t:TA3}
theorem xo2 {k:Nat} {ps:List Str} {sp:Sp3} (c:CalM X.prog X.w X.K X.mg X.base k x ps sp) (hr:RoomM k X.A) (ha:RA X (e :: es) t) (hg:Gl X x:=by rfl) (hdb:(x == ("__debug__" : Str))=false:=by decide)
    (he:starEach (e :: es) X.env=(false,eval e X.env) :: starEach es X.env:=by rfl) (hpl:(backTo pos (starEach es X.env)).any (·.1)=false:=by rfl):RE X (.Call (.Name x p) (e :: es) [] pos) (call3 sp t):=by
 obtain ⟨f,fd,F,hm,hk,hb⟩:=c
 obtain ⟨va,pa,ra⟩:=ha
 refine ⟨ts3 (lift X.K sp) [] E0 va,λ pins s σ H Q I h=>?_,λ σ H Q ρ μ Q3 s m h k=>ra σ H _ ρ μ _ s m h λ ds μ1 vs H1 h1 k1 r1 m1=>?_⟩
 ·refine wpAny_Call_Name_kw (vl0 I hg hm ?_ hdb)
  refine callWith_K (h₀:=X.base) I.ok.mod.kin hk (thn (pa pos pins s σ H _ I h) λ us s1 ⟨vs,H1,I1,r,q⟩=>⟨I1.kIn,?_⟩) he hpl
  dsimp only at q
  rw [append_nil] at q
  have hl:(us ++ []).length=ps.length:=by rw [append_nil,<- r.length]; exact F.len _ _ _ _ q
  have hbb:=hb s1 us I1.kIn hl
  rw [append_nil] at hbb
  refine wpAny_call (codeAny_mono (F.run X.A X.stack s1 H1 ⟨us,[]⟩ us vs Q E0 hr I1.env0 hbb r q) λ rr s' hq=>?_)
  cases rr with
  | error ex=>exact False.elim hq
  | ok fl =>
   cases fl with
   | ret u=>exact I1.after hq
   | next=>exact False.elim hq
   | brk=>exact False.elim hq
   | cont=>exact False.elim hq
 ·rw [append_nil]
  exact ⟨ds,μ1,Q3,r1,m1,h1,k.after k1⟩
end
section
variable {P:Program} {w:World} {K:Fg} {mg:Str->Option Value} {base:Heap}
theorem um3 {x:Str} {st:Stmt} {f:Addr} {fd:FuncData} {N ps:List Str} {k:Nat} {sp:Sp3} {t:TS3} (F:Fun K x x st f fd) (hm:mg x=some (.ref f)) (hb:Binds K fd ps []) (S:FnScope N ps (wa0 st))
    (len:∀ ds μ Q,sp ds μ Q->ds.length=ps.length)
    (body:∀ (cdv:Value) (A:Around) (outer:List Env) (s:Shared) (H:Hp) (E:XK),RoomM k (A.deeper (envOfC x (wa0 st) s.heap.objs.size f cdv))->RSs (cxM CX0 P w K mg base N x (wa0 st) f cdv A outer s H E).nox (zb0 st) t)
    (rd:∀ ds μ Q,sp ds μ Q->t { nx:=λ _ μ'=>Q .non μ',rt:=Q } (start3 N ds) μ):CalM P w K mg base (k + 1) x ps sp:=by
 refine ⟨f,fd,?_,hm,F.kp,hb⟩
 obtain ⟨oc,od,kV,doc,pm,an,cdv,ct,osl,rfl,lk,hcd⟩:=F.ex
 refine uj4 lk hcd S (λ vs H Q E h=>?_) λ A outer s H vs Q E hr h=>?_
 ·obtain ⟨ds,μ,Q3,r,m,q,ks⟩:=h
  rw [<- r.length]; exact len _ _ _ q
 ·obtain ⟨ds,μ,Q3,r,m,q,ks⟩:=h
  obtain ⟨tv,p,rt⟩:=body cdv A outer s H E hr
  exact ⟨tv,p.nox,rt _ H _ _ μ _ (RSt.start N r) m (rd ds μ Q3 q) ⟨λ ρ μ' σ H' h' k' s' m'=>ks _ _ _ _ h' k' .non m',λ ρ μ' σ H' h'=>False.elim h',λ ρ μ' σ H' h'=>False.elim h',ks⟩⟩
end
theorem zd2 {K:Fg} {h:Heap} {mg:Str->Option Value} {x:Str} {C:Addr} {bs:List Value} {ni:String} (Z:K.In h) (G:h.Ns mainGlobals mg) (e:nsIn K mainGlobals x=some (some (.ref C))) (w:excIn K C bs ni=true):OwnCls x C bs ni mg h:=by
 refine ⟨mg_of Z G e,?_⟩
 unfold excIn at w
 split at w
 case h_2=>cases w
 case h_1 d1 c1 s1 ho =>
  split at w
  case h_2=>cases w
  case h_1 C2 b1 z0 z1 z2 z3 id z5 hm hs =>
   simp only [Bool.and_eq_true,beq_iff_eq,Bool.not_eq_true'] at w
   obtain ⟨⟨⟨⟨⟨w1,w2⟩,w3⟩,w4⟩,w5⟩,w6⟩:=w
   subst w1 w2
   cases c1
   dsimp only at hm w3 w5 w6
   subst hm w3
   have es:s1 = #[z0,z1,z2,z3,some (.builtin id),z5]:=by cases s1; simp only at hs; rw [hs]
   rw [es] at ho
   exact ⟨b1,_,_,_,_,_,_,_,_,_,d1,z0,z1,z2,z3,z5,_,Z _ _ ho,.of_isNs (PySem.W.isNs_of_in Z w5),PySem.W.nsMap_none_of_in Z w5 w6,PySem.W.tail_of_in Z w4⟩
theorem uf1 {X:Cx} {k:Nat} {ps:List Str} {spx:XE3->Sp3} {x:Str} {e:Expr} {es:List Expr} {p pos:Pos} {t:TA3} (c:CalX X.prog X.w X.K X.mg X.base k x ps spx) (hr:Room k X.A)
    (ha:RA X (e :: es) t) (hg:Gl X x:=by rfl) (hdb:(x == ("__debug__" : Str))=false:=by decide)
    (he:starEach (e :: es) X.env=(false,eval e X.env) :: starEach es X.env:=by rfl) (hpl:(backTo pos (starEach es X.env)).any (·.1)=false:=by rfl) :
    RE X (.Call (.Name x p) (e :: es) [] pos) (call3 (spx NX) t):=by
 obtain ⟨g,fd,F,hm,hk,hb⟩:=c
 obtain ⟨va,pa,ra⟩:=ha
 have ps:yj1 (CXn X.prog X.w) X (λ _ _ _=>False):=λ pins σ H s e s' I h=>by
  obtain ⟨_,_,_,_,_,_,_,_,_,_,_,_,_,_,_,_,hE⟩:=h
  exact hE.elim
 refine ⟨_,vk1 F hr hg hm hk hb .nil ps pa hdb he hpl,λ σ H Q ρ μ Q3 s m h k=>ra σ H _ ρ μ _ s m h λ ds μ1 vs H1 h1 k1 r1 m1=>?_⟩
 rw [append_nil]
 exact ⟨ds,μ1,Q3,NX,r1,m1,h1,k.after k1,λ _ _ _ _ _ h=>False.elim h⟩
section
variable {K:Fg} {C:Addr} {cd:ClassData} {t c:Value} {b:Bool} {T:String}
theorem yd0 (cl:clsIn K C=some cd) (tc:typeIn K (.ref C)=some (.type "type")) (sb:subIn K t (.ref C)=some b):kitCls K t (.ref C)=some b:=by
 unfold kitCls
 dsimp only
 rw [cl,tc,if_pos (by simp),sb]
theorem xu0 (hm:PySem.W.kitMeta T=true) (sb:subIn K t (.type T)=some b):kitCls K t (.type T)=some b:=by
 unfold kitCls
 dsimp only
 rw [if_pos hm,sb]
theorem xe0 (ne:(t == c)=false) (h:kitCls K t c=some b):kitOne K t c=some b:=by
 unfold kitOne
 rw [if_neg (by rw [ne]; decide),h]
theorem st0:kitOne K t t=some true:=by
 unfold kitOne
 rw [if_pos (by simp)]
end
theorem sd1:bootBuiltins "ValueError" = some (.type "ValueError"):=by decide +kernel
end Pv
namespace Pv
open PySem PySem.Spec PyProof.Rows L2
section
variable {X:Cx} {i:Expr} {ti:TE3} {ty:TE} {a:Addr} {x:Str} {p pos pos':Pos}
end
end Pv
namespace PySem
section
variable {prog:Program} {w:World} {A:Around} {E:Value->Shared->Prop} {s:Shared}
end
end PySem
namespace Pv
open PySem PySem.Spec PyProof.Rows L2
section
variable {X:Cx} {pos:Pos}
end
end Pv
namespace Pv
open PySem PySem.Spec PyProof.Rows L2 PySem.Calls
section
variable {X:Cx} {e o value:Expr} {te to tv:TE3} {c f m:Str} {C:Addr} {pos pos' p apos:Pos} {es:List Expr} {t:TA3} {x:Str}
end
section
variable {P:Program} {w:World} {K:Fg} {mg:Str->Option Value} {base:Heap}
end
section
variable {P:Program} {w:World} {K:Fg} {mg:Str->Option Value} {base:Heap} {N:List Str} {qual:Str} {scope:Scope} {f:Addr} {cd:Value} {A:Around} {outer:List Env} {s0:Shared} {H0:Hp} {E:XK} {XE:XE3}
end
section
variable {X:Cx} {pins:List (Addr × Obj)} {σ:L2.St} {H H':Hp} {s s':Shared}
variable {k:Nat} {f:Addr} {fd:FuncData} {ps:List Str} {sp:Sp} {fx x:Str} {Pc:Addr} {e:Expr} {es:List Expr} {b₀:Stmt} {suite:List Stmt} {p cpos np hpos pos epos:Pos} {ta:TA} {ts:Addr->TS}
end
section
variable {X:Cx} {k:Nat} {ps:List Str} {spx:XE3->Sp3} {fx x:Str} {Pc:Addr} {e:Expr} {es:List Expr} {b₀:Stmt} {suite:List Stmt} {p cpos np hpos pos epos:Pos} {ta:TA3} {ts:TS3} {ok:Str->Bool}
end
def zt2 (X:Cx):Cx:={ X with xe:=λ _ _=>False }
section
variable {X:Cx} {pins:List (Addr × Obj)} {σ:L2.St} {H:Hp} {s:Shared}
theorem zj4 (I:Inv X pins σ H s):Inv (zt2 X) pins σ H s :=
 ⟨⟨I.ok.mod,I.ok.kind,I.ok.glob,I.ok.blt,I.ok.above,I.ok.inj,I.ok.has,I.ok.cab,I.ok.hd,I.ok.frames,I.ok.stk,I.ok.exf,I.ok.bs,I.ok.bsz,I.ok.noex,I.ok.exfs,I.ok.funs,I.ok.frf⟩,I.os,I.bare,I.base,I.loc,I.cell,I.free,I.freeC,I.pin,I.hok,I.len⟩
theorem vp1 (I:Inv (zt2 X) pins σ H s):Inv X pins σ H s :=
 ⟨⟨I.ok.mod,I.ok.kind,I.ok.glob,I.ok.blt,I.ok.above,I.ok.inj,I.ok.has,I.ok.cab,I.ok.hd,I.ok.frames,I.ok.stk,I.ok.exf,I.ok.bs,I.ok.bsz,I.ok.noex,I.ok.exfs,I.ok.funs,I.ok.frf⟩,I.os,I.bare,I.base,I.loc,I.cell,I.free,I.freeC,I.pin,I.hok,I.len⟩
theorem ug3 {body:List Stmt} {h0:ExceptHandler} {hs:List ExceptHandler} {tb:TS} {pos:Pos} (hb:PSs (zt2 X) body tb):PS X (.Try body (h0 :: hs) [] [] pos) tb:=by
 intro pins s σ H D I h
 refine wpAny_Try_except (wpAny_mono (hb pins s σ H D (zj4 I) h) (λ f s1 q=>?_) λ e s1 q=>(show False from q).elim)
 cases f with
 | next=>obtain ⟨a,b,I',r⟩:=q; exact wpAny_pure ⟨a,b,vp1 I',r⟩
 | brk=>obtain ⟨a,b,I',r⟩:=q; exact ⟨a,b,vp1 I',r⟩
 | cont=>obtain ⟨a,b,I',r⟩:=q; exact ⟨a,b,vp1 I',r⟩
 | ret u=>obtain ⟨v,a,b,I',r⟩:=q; exact ⟨v,a,b,vp1 I',r⟩
theorem we3 {body:List Stmt} {h0:ExceptHandler} {hs:List ExceptHandler} {tb:TS3} {pos:Pos} (hb:RSs (zt2 X) body tb):RS X (.Try body (h0 :: hs) [] [] pos) tb:=by
 obtain ⟨vb,pb,rb⟩:=hb
 exact ⟨_,ug3 pb,rb⟩
end
section
variable {X:Cx} {i:Expr} {ty:TE} {a:Addr} {x:Str} {p pos pos':Pos} {CX:CXT} {EE:XK}
end
section
variable {P:Program} {w:World} {K:Fg} {mg:Str->Option Value} {base:Heap} {N:List Str} {qual:Str} {scope:Scope} {f:Addr} {cd:Value} {A:Around} {outer:List Env} {s0:Shared} {H0:Hp} {E:XK} {XE:XE3}
end
section
variable {X:Cx} {pins:List (Addr × Obj)} {σ:L2.St} {H H':Hp} {s s':Shared}
variable {k:Nat} {f:Addr} {fd:FuncData} {ps:List Str} {sp:Sp} {fx x1 x2:Str} {P1 P2:Addr} {e:Expr} {es:List Expr} {b₀:Stmt} {suite:List Stmt} {kk:Nat} {p cpos p1 p2 tpos hpos pos epos:Pos} {ta:TA}
end
section
variable {X:Cx} {k:Nat} {ps:List Str} {spx:XE3->Sp3} {fx x1 x2:Str} {P1 P2:Addr} {e:Expr} {es:List Expr} {b₀:Stmt} {suite:List Stmt} {kk:Nat} {p cpos p1 p2 tpos hpos pos epos:Pos} {ta:TA3} {ts:TS3} {ok:Str->Bool}
end
end Pv
namespace Pv
open PySem PySem.Spec PyProof.Rows L2
open PySem.AutoSeq1 (wpAny_loadPart')
theorem vj3 (p q:Addr) (a b c d:Int) (t1 t2 t3 t4:Tok) (n m:Nat) (dd dd2:Option Addr) (sl sl2:Array (Option Value)) :
    Meets (Builtin.«tuple.__lt__» ⟨[.ref p,.ref q],[]⟩) (λ A R s=>s.heap.get? p=some { cls:=.type "tuple",dict:=dd,data:=.seq #[.int a t1,.int b t2] n,slots:=sl } /\ s.heap.get? q=some { cls:=.type "tuple",dict:=dd2,data:=.seq #[.int c t3,.int d t4] m,slots:=sl2 } ∧
     R (.ok (.ret (.bool (ltP a b c d)))) s) :=
 .of_wp λ prog w A R s h=>by
  obtain ⟨hp,g,dr,tk,os⟩:=s; obtain ⟨hl,hb,h⟩:=h
  have f2:=AutoSeq1.sub_tuple_tuple
  have lt:∀ (x y:Int) (tx ty:Tok) {Q:Value->Shared->Prop} {E:Value->Shared->Prop} {A:Around} {s:Shared},Q (.bool (decide (x < y))) s->wpAny (model prog w) A (richCompare .Lt (.int x tx) (.int y ty)) Q E s:=λ x y tx ty Q E A s hq=>wpAny_lt_int hq
  have eqb:∀ (x y:Int) (tx ty:Tok) {Q:Bool->Shared->Prop} {E:Value->Shared->Prop} {A:Around} {s:Shared},Q (x == y) s->wpAny (model prog w) A (eqBool (.int x tx) (.int y ty)) Q E s:=λ x y tx ty Q E A s hq=>wpAny_eqBool_int hq
  wp_walk using wpAny_loadPart' hl,wpAny_loadPart' hb,eqb a c t1 t3
  by_cases h1:a=c
  ·rw [show (a == c)=true by simpa using h1]
   wp_walk using eqb b d t2 t4
   by_cases h2:b=d
   ·rw [show (b == d)=true by simpa using h2]
    wp_walk
    have h':R (.ok (.ret (.bool false))) ⟨hp,g,dr,tk,os⟩:=by simpa [ltP,h1,h2] using h
    exact ⟨_,rfl,h'⟩
   ·rw [show (b == d)=false by simpa using h2]
    wp_walk using lt b d t2 t4
    exact ⟨_,rfl,by simpa [ltP,h1] using h⟩
  ·rw [show (a == c)=false by simpa using h1]
   wp_walk using lt a c t1 t3
   exact ⟨_,rfl,by simpa [ltP,h1] using h⟩
section
variable {prog:Program} {w:World} {A:Around} {R:Result->Shared->Prop} {I:Addr} {fp wr:List Addr} {n:Nat} {P:Nat->Value->Prop} {St:Nat->Heap->Prop}
theorem sr2:(toString "min" ++ toString ".loop" : String) = "min.loop" := by decide
theorem xx2 (W:Walks prog w A.in1 I fp wr n P St) (S:Addr) (hSf:S ∉ fp) (s:Shared) (vb:Value) (c:Nat) (hst:St n s.heap)
    (hS:s.heap.get? S=some { cls:=.type "list",dict:=none,data:=.seq #[vb,vb] c,slots:=#[] })
    (hR:∀ h' tk,(∀ b o,b ∉ wr->b ≠ S->s.heap.get? b=some o->h'.get? b=some o)->R (.ok (.ret vb)) { s with heap:=h',toks:=tk }) :
    codeAny (model prog w) A (.builtin "min.loop" ⟨[.ref I,.none,.ref S],[]⟩) R s:=by
 have hSw:S ∉ wr:=λ h=>hSf (W.sub _ h)
 refine codeAny_builtin F.entry_min_loop ?_
 rw [Around.under_plainId F.plain_min_loop _]
 show wpAny _ A.in1 (seqItems? (.ref S) >>= _) _ _ s
 refine wpAny_bind (wpAny_seqItems hS rfl ?_)
 show wpAny _ A.in1 (tryCatch (pyNext (.ref I)) _ >>= _) _ _ s
 refine wpAny_bind (wpAny_tryCatch (W.done s _ _ hst λ h' tk hk'=>?_))
 have hS':=hk' S _ hSw hS
 show wpAny _ A.in1 (updateSeq S (λ _=>#[]) >>= _) _ _ _
 refine wpAny_bind ?_
 refine wpAny_updateSeq hS' rfl (wpAny_bind (wpAny_letGo (wpAny_pure ?_)))
 exact hR _ tk λ b o hbw hbS e=>(Heap.get?_update_other _ _ (Ne.symm hbS)).trans (hk' b o hbw e)
theorem wj3 (W:Walks prog w A.in1 I fp wr n P St) (S:Addr) (hSf:S ∉ fp) (s:Shared) (vb v0:Value) (r:Bool) (c j:Nat) (hlt:j < n) (hj:j + 1=n) (hst:St j s.heap) (hv:∀ v,P j v->v=v0)
    (hcmp:∀ (h':Heap) (tk:Nat) (Q:Value->Shared->Prop) (E:Value->Shared->Prop),(∀ b o,b ∉ wr->s.heap.get? b=some o->h'.get? b=some o)->Q (.bool r) { s with heap:=h',toks:=tk }->wpAny (model prog w) A.in1 (richCompare .Lt v0 vb) Q E { s with heap:=h',toks:=tk })
    (hS:s.heap.get? S=some { cls:=.type "list",dict:=none,data:=.seq #[vb,vb] c,slots:=#[] })
    (hR:∀ h' tk,(∀ b o,b ∉ wr->b ≠ S->s.heap.get? b=some o->h'.get? b=some o)->R (.ok (.ret (if r then v0 else vb))) { s with heap:=h',toks:=tk }) :
    codeAny (model prog w) A (.builtin "min.loop" ⟨[.ref I,.none,.ref S],[]⟩) R s:=by
 have hSw:S ∉ wr:=λ h=>hSf (W.sub _ h)
 refine codeAny_builtin F.entry_min_loop ?_
 rw [Around.under_plainId F.plain_min_loop _]
 show wpAny _ A.in1 (seqItems? (.ref S) >>= _) _ _ s
 refine wpAny_bind (wpAny_seqItems hS rfl ?_)
 show wpAny _ A.in1 (tryCatch (pyNext (.ref I)) _ >>= _) _ _ s
 refine wpAny_bind (wpAny_tryCatch (W.item j s _ _ hlt hst λ v h' tk hP hst' hk'=>?_))
 obtain rfl:=hv v hP
 have hS':=hk' S _ hSw hS
 show wpAny _ A.in1 (tryCatch (holding [v,v] (richCompare .Lt v vb >>= _)) _ >>= _) _ _ _
 refine wpAny_bind (wpAny_tryCatch (wpAny_holding (wpAny_bind (hcmp h' tk _ _ hk' ?_))))
 refine wpAny_bind (wpAny_holding (wpAny_truthy_bool ?_))
 refine wpAny_bind (wpAny_letGo (wpAny_pure ?_))
 cases r with
 | true =>
  simp only [if_true]
  refine wpAny_bind ?_
  refine wpAny_updateSeq hS' rfl (wpAny_bind (wpAny_letGo ?_))
  rw [sr2]
  refine wpAny_pure ⟨plainId_quiet F.plain_min_loop _,xx2 W S hSf _ v _ (hj ▸ W.frame _ _ _ hst' λ b hbf o e=>?_) (Heap.get?_update_self _ hS' rfl) λ h'' tk'' hk''=>?_⟩
  ·exact (Heap.get?_update_other _ _ (λ h:S=b=>hSf (by rw [h]; exact hbf))).trans e
  ·exact hR h'' tk'' λ b o hbw hbS e=>hk'' b o hbw hbS ((Heap.get?_update_other _ _ (Ne.symm hbS)).trans (hk' b o hbw e))
 | false =>
  simp only [Bool.false_eq_true,if_false]
  refine wpAny_bind (wpAny_letGo ?_)
  rw [sr2]
  refine wpAny_pure ⟨plainId_quiet F.plain_min_loop _,xx2 W S hSf _ vb c (hj ▸ hst') hS' λ h'' tk'' hk''=>?_⟩
  exact hR h'' tk'' λ b o hbw hbS e=>hk'' b o hbw hbS (hk' b o hbw e)
theorem sg4 (W:Walks prog w A.in1 I fp wr 2 P St) (S:Addr) (hSf:S ∉ fp) (s:Shared) (va vb:Value) (r:Bool) (c:Nat) (hst:St 0 s.heap) (hva:∀ v,P 0 v->v=va) (hvb:∀ v,P 1 v->v=vb)
    (hcmp:∀ (h':Heap) (tk:Nat) (Q:Value->Shared->Prop) (E:Value->Shared->Prop),(∀ b o,b ∉ wr->b ≠ S->s.heap.get? b=some o->h'.get? b=some o)->Q (.bool r) { s with heap:=h',toks:=tk }->wpAny (model prog w) A.in1 (richCompare .Lt vb va) Q E { s with heap:=h',toks:=tk })
    (hS:s.heap.get? S=some { cls:=.type "list",dict:=none,data:=.seq #[] c,slots:=#[] })
    (hR:∀ h' tk,(∀ b o,b ∉ wr->b ≠ S->s.heap.get? b=some o->h'.get? b=some o)->R (.ok (.ret (if r then vb else va))) { s with heap:=h',toks:=tk }) :
    codeAny (model prog w) A (.builtin "min.loop" ⟨[.ref I,.none,.ref S],[]⟩) R s:=by
 have hSw:S ∉ wr:=λ h=>hSf (W.sub _ h)
 refine codeAny_builtin F.entry_min_loop ?_
 rw [Around.under_plainId F.plain_min_loop _]
 show wpAny _ A.in1 (seqItems? (.ref S) >>= _) _ _ s
 refine wpAny_bind (wpAny_seqItems hS rfl ?_)
 show wpAny _ A.in1 (tryCatch (pyNext (.ref I)) _ >>= _) _ _ s
 refine wpAny_bind (wpAny_tryCatch (W.item 0 s _ _ (by decide) hst λ v h' tk hP hst' hk'=>?_))
 obtain rfl:=hva v hP
 have hS':=hk' S _ hSw hS
 show wpAny _ A.in1 (updateSeq S (λ _=>#[v,v]) >>= _) _ _ _
 refine wpAny_bind ?_
 refine wpAny_updateSeq hS' rfl ?_
 rw [sr2]
 have up:∀ (f:Obj->Obj) b o,b ∉ wr->b ≠ S->s.heap.get? b=some o->Heap.get? (h'.update S f) b=some o:=λ f b o hbw hbS e=>(Heap.get?_update_other _ _ (Ne.symm hbS)).trans (hk' b o hbw e)
 refine wpAny_pure ⟨plainId_quiet F.plain_min_loop _,wj3 W S hSf _ v vb r _ 1 (by decide) rfl (W.frame _ _ _ hst' λ b hbf o e=>?_) hvb (λ h2 tk2 Q E hk2 hq=>?_) (Heap.get?_update_self _ hS' rfl) λ h'' tk'' hk''=>?_⟩
 ·exact (Heap.get?_update_other _ _ (λ h:S=b=>hSf (by rw [h]; exact hbf))).trans e
 ·exact hcmp h2 tk2 Q E (λ b o hbw hbS e=>hk2 b o hbw (up _ b o hbw hbS e)) hq
 ·exact hR h'' tk'' λ b o hbw hbS e=>hk'' b o hbw hbS (up _ b o hbw hbS e)
end
section
variable {prog:Program} {w:World} {A:Around} {E:Value->Shared->Prop} {s:Shared}
theorem uv1 {va vb:Value} {r:Bool} {Q:Value->Shared->Prop} (hh:A.handled=none)
    (hcmp:∀ (h':Heap) (tk:Nat) (Q:Value->Shared->Prop) (E:Value->Shared->Prop),(∀ b o,s.heap.get? b=some o->h'.get? b=some o)->Q (.bool r) { s with heap:=h',toks:=tk }->wpAny (model prog w) A.in1 (richCompare .Lt vb va) Q E { s with heap:=h',toks:=tk })
    (h:∀ h' tk,(∀ c o,s.heap.get? c=some o->h'.get? c=some o)->Q (if r then vb else va) { s with heap:=h',toks:=tk }) :
    wpAny (model prog w) A (call (.builtin "min") [va,vb]) Q E s:=by
 refine call_function_tree F.kind_min F.plain_min F.entry_min (F.args_min2 _ _) ?_
 show wpAny _ A.in1 (Builtin.Builtins.bindParams "min" ["key", "default"] 0 ⟨[],[]⟩ >>= _) _ _ s
 refine wpAny_bind (wpAny_of_eq (show Builtin.Builtins.bindParams "min" ["key", "default"] 0 ⟨[],[]⟩=pure [none,none] from rfl) ?_)
 show wpAny _ A.in1 (newTuple [va,vb] >>= _) _ _ s
 refine wpAny_bind (wpAny_newObj_type ?_)
 have hT:(s.heap.push { cls:=.type "tuple",data:=.seq #[va,vb] }).IsTuple s.heap.objs.size #[va,vb]:=⟨_,Heap.get?_push_size _ rfl,rfl,0,rfl⟩
 refine wpAny_bind (wpAny_pyIter_tuple (s:={ s with heap:=s.heap.push { cls:=.type "tuple",data:=.seq #[va,vb] } }) hT ?_)
 have hsz:(s.heap.push { cls:=.type "tuple",data:=.seq #[va,vb] }).objs.size=s.heap.objs.size + 1:=Heap.size_push ..
 refine wpAny_bind (wpAny_newObj_type ?_)
 rw [sr2]
 have hsz2:((s.heap.push { cls:=.type "tuple",data:=.seq #[va,vb] }).push { cls:=.type "tuple_iterator",data:=.fields #[.ref s.heap.objs.size,.int 0 0] }).objs.size=s.heap.objs.size + 2:=by rw [Heap.size_push,hsz]
 have keep:∀ c o,s.heap.get? c=some o->Heap.get? (((s.heap.push { cls:=.type "tuple",data:=.seq #[va,vb] }).push { cls:=.type "tuple_iterator",data:=.fields #[.ref s.heap.objs.size,.int 0 0] }).push { cls:=.type "list",data:=.seq #[] }) c=some o:=λ c o e=>Heap.get?_push_of_some _ (Heap.get?_push_of_some _ (Heap.get?_push_of_some _ e))
 have off:∀ (c:Addr) (o:Obj),s.heap.get? c=some o->c ∉ [(s.heap.push { cls:=.type "tuple",data:=.seq #[va,vb] }).objs.size] /\ c ≠ ((s.heap.push { cls:=.type "tuple",data:=.seq #[va,vb] }).push { cls:=.type "tuple_iterator",data:=.fields #[.ref s.heap.objs.size,.int 0 0] }).objs.size:=λ c o e=>by
  have h1:=Heap.lt_size e
  rw [hsz2,hsz]
  refine ⟨λ hm=>?_,Nat.ne_of_lt (Nat.lt_succ_of_lt (Nat.lt_succ_of_lt h1))⟩
  rw [List.mem_singleton.mp hm] at h1
  exact absurd h1 (Nat.not_lt.mpr (Nat.le_succ _))
 refine wpAny_pure ⟨plainId_quiet F.plain_min_loop _,sg4 (Walks.tuple (A:=A.in1) hh _ s.heap.objs.size (by rw [hsz]; exact Nat.ne_of_lt (Nat.lt_succ_self _)) #[va,vb]) _ ?_ _ va vb r _ ?_ (λ v hP=>by simpa using hP.symm) (λ v hP=>by simpa using hP.symm) ?_ (Heap.get?_push_size _ rfl) ?_⟩
 ·rw [hsz2,hsz]
  simp
 ·exact ⟨⟨_,Heap.get?_push_of_some _ (Heap.get?_push_size _ rfl),rfl,rfl⟩,(hT.push _).push _⟩
 ·intro h' tk Q E hk hq
  exact hcmp h' tk Q E (λ c o e=>hk c o (off c o e).1 (off c o e).2 (keep c o e)) hq
 ·intro h' tk hk
  exact h h' tk λ c o e=>hk c o (off c o e).1 (off c o e).2 (keep c o e)
theorem yq2 {p q:Addr} {a b c d:Int} {t1 t2 t3 t4:Tok} {Q:Value->Shared->Prop} (hh:A.handled=none) (hu:A.units + 64 < cLine) (hp:IsTup s.heap p #[.int a t1,.int b t2]) (hq:IsTup s.heap q #[.int c t3,.int d t4])
    (h:∀ h' tk,(∀ c o,s.heap.get? c=some o->h'.get? c=some o)->Q (if ltP c d a b then .ref q else .ref p) { s with heap:=h',toks:=tk }) :
    wpAny (model prog w) A (call (.builtin "min") [.ref p,.ref q]) Q E s:=by
 refine uv1 hh (λ h' tk Q E hk hq'=>?_) h
 obtain ⟨⟨cp,dp,datp,slp⟩,ep,hcp,np,hdp⟩:=hp
 obtain ⟨⟨cq,dq,datq,slq⟩,eq,hcq,nq,hdq⟩:=hq
 dsimp only at hcp hdp hcq hdq
 subst hcp hdp hcq hdq
 refine richCompare_meets_room (T := "tuple") (s:={ s with heap:=h',toks:=tk }) ⟨_,hk _ _ eq,rfl⟩ ⟨_,hk _ _ ep,rfl⟩ F.slot_tuple_lt F.entry_tuple_lt (F.args_tuple_lt_2 _ _) (vj3 q p c d a b t3 t4 t1 t2 nq np dq dp slq slp) ⟨hk _ _ eq,hk _ _ ep,by simp,hq'⟩ ?_
 have:A.in1.units=A.units + 1:=rfl
 omega
end
section
variable {X:Cx}
theorem zi2 (hc:X.calm=true) (hu:X.A.units + 64 < cLine):CallR X (.builtin "min") (λ xs H Q=>∃ p q a b c d,xs=[.ref p,.ref q] /\ SqT X.K H p [.int a,.int b] /\ SqT X.K H q [.int c,.int d] /\ Q (.ref (if ltP c d a b then q else p)) H):=by
 intro pins s σ H xs us Q I r h
 obtain ⟨p,q,a,b,c,d,rfl,hp,hq,k⟩:=h
 obtain ⟨u,w',rfl,e1,e2⟩:=sv0 r
 cases e1
 cases e2
 obtain ⟨its,rv,pp,hz⟩:=I.tuple hp
 obtain ⟨its2,rv2,pp2,hz2⟩:=I.tuple hq
 obtain ⟨v1,v2,rfl,⟨t1,rfl⟩,⟨t2,rfl⟩⟩:=sv0 rv
 obtain ⟨v3,v4,rfl,⟨t3,rfl⟩,⟨t4,rfl⟩⟩:=sv0 rv2
 refine yq2 (I.ok.hd hc) hu pp pp2 λ h' tk kk=>⟨_,H,I.kept kk,?_,k⟩
 cases ltP c d a b
 ·exact rfl
 ·exact rfl
theorem vc4 (hc:X.calm=true) (hu:X.A.units + 64 < cLine):RC X (.builtin "min") minR:=by
 refine ⟨_,zi2 hc hu,λ xs vs H Q μ Q3 m r h k=>?_⟩
 unfold minR at h
 split at h
 ·next a b c d =>
  cases r with
  | cons r1 r2 =>
   cases r2 with
   | cons r2 r3 =>
    cases r3
    cases r1 with
    | tup hq rs =>
     cases r2 with
     | tup hq2 rs2 =>
      cases rs with
      | cons x1 y1 =>
       cases y1 with
       | cons x2 y2 =>
        cases y2
        cases x1
        cases x2
        cases rs2 with
        | cons x3 y3 =>
         cases y3 with
         | cons x4 y4 =>
          cases y4
          cases x3
          cases x4
          rename_i p q
          refine ⟨p,q,a,b,c,d,rfl,(SqT.of hq),(SqT.of hq2),k _ _ _ _ h (Kp.refl _) ?_ m⟩
          cases ltP c d a b
          ·exact .tup hq (.cons (.int _) (.cons (.int _) .nil))
          ·exact .tup hq2 (.cons (.int _) (.cons (.int _) .nil))
 ·exact h.elim
theorem zy3 {i j:Nat} {x y:Str} {a b:Expr} {ta:TA3} {px py pt pos:Pos} {kt k2 pt2} (hN:X.N.Nodup) (ha:RA X [a,b] ta) (hc:X.calm=true:=by rfl) (hi:X.N[i]?=some x:=by rfl) (hj:X.N[j]?=some y:=by rfl) (hij:i ≠ j:=by decide)
    (hx:X.env.scope.names.lookup x=some .local:=by rfl) (hy:X.env.scope.names.lookup y=some .local:=by rfl)
    (hw:swappedStores [.Tuple [.Name x px,.Name y py] kt pt] (.Tuple [a,b] k2 pt2) X.env=pure (some [x,y]):=by rfl)
    (hs:swapsWithSole [.Tuple [.Name x px,.Name y py] kt pt] (.Tuple [a,b] k2 pt2) pos.line X.env=pure false:=by rfl) :
    RS X (.Assign [.Tuple [.Name x px,.Name y py] kt pt] (.Tuple [a,b] k2 pt2) pos) (par3 i j ta):=by
 obtain ⟨va,pa,ra⟩:=ha
 refine ⟨_,td4 hc hN hi hj hij hx hy pa hw hs,λ σ H D ρ μ D3 s m h k=>ra σ H _ ρ μ _ s m h λ ds μ1 vs H1 h1 k1 r1 m1=>?_⟩
 cases r1 with
 | nil=>exact False.elim h1
 | cons r1 r2 =>
  cases r2 with
  | nil=>exact False.elim h1
  | cons r2 r3 =>
   cases r3 with
   | cons _ _=>exact False.elim h1
   | nil=>exact ⟨_,_,rfl,k.nx _ _ _ _ h1 k1 (((s.mono k1).set i r1).set j r2) m1⟩
end
end Pv
namespace Pv
open PySem PySem.Spec PySem.W PyProof.Rows L2
def DG (h:Heap) (d:Addr) (es:Array DictEntry) (ep:Nat):Prop:=∃ o,h.get? d=some o /\ o.ExactDict /\ o.data=.dict es ep
theorem DG.keep {h h':Heap} {d:Addr} {es:Array DictEntry} {ep:Nat} (x:DG h d es ep) (k:∀ o,h.get? d=some o->h'.get? d=some o):DG h' d es ep:=by
 obtain ⟨o,a,b⟩:=x
 exact ⟨o,k o a,b⟩
theorem DG.ty {s:Shared} {d:Addr} {es:Array DictEntry} {ep:Nat} (x:DG s.heap d es ep):s.TypeIs (.ref d) "dict" := by
 obtain ⟨o,a,b,_⟩:=x
 exact ⟨o,a,b.1⟩
section
variable {prog:Program} {w:World} {A:Around} {E:Value->Shared->Prop} {s:Shared} {d it:Addr} {es:Array DictEntry} {ep i:Nat}
theorem xh2 {Q:Value->Shared->Prop} (lo:(d == sysModules)=false) (x:DG s.heap d es ep) (q:Q (.ref s.heap.objs.size) { s with heap:=s.heap.push { cls:=.type "dict_keyiterator",data:=.fields #[.ref d,.int 0 0,.int es.size 0,.int ep 0] } }) :
    wpAny (model prog w) A (pyIter (.ref d)) Q E s:=by
 have ty:=x.ty
 obtain ⟨o,e1,e2,e3⟩:=x
 refine wpAny_pyIter_slot ty F.slot_dict_iter (wpAny_call_entry F.slot_dict_iter ty F.entry_dict_iter ?a (F.args_dict_iter_1 _))
 case a =>
  unfold Builtin.«dict.__iter__»
  refine wpAny_bind ?_; unfold Builtin.Dict.dictSlotNone
  refine wpAny_bind (wpAny_notOrdered_dict ty (show wpAny _ _ (pure (Value.ref d)) _ _ s from wpAny_pure ?_))
  show wpAny _ _ (Builtin.Dict.showsAll d >>= _) _ _ s; unfold Builtin.Dict.showsAll
  rw [if_neg (by rw [lo]; exact Bool.false_ne_true)]
  refine wpAny_bind (wpAny_pure (wpAny_bind (wpAny_dictEntries e1 e3 (wpAny_bind (wpAny_dictEpoch e1 e3 ?_)))))
  refine wpAny_bind (wpAny_newObj_type (wpAny_pure ⟨_,rfl, "dict_keyiterator",_,⟨_,Heap.get?_push_size _ rfl,rfl⟩,F.slot_dict_keyiterator_next.lookup,q⟩))
theorem tg2 {Q:Option Value->Shared->Prop} (hi:s.heap.IsKeyIter it d i es.size ep) (x:DG s.heap d es ep) (lt:i < es.size)
    (q:∀ h',h'.IsKeyIter it d (i + 1) es.size ep->Heap.SameBut it s.heap h'->Q (some es[i].key) { s with heap:=h' }):wpAny (model prog w) A (pyNext (.ref it)) Q E s:=by
 obtain ⟨o,a1,a2,a3⟩:=id hi
 obtain ⟨od,e1,e2,e3⟩:=x
 have ty:=hi.typeIs
 have own0:Builtin.Dict_items.ownsTuple "dict_keyiterator" = false:=by decide
 unfold pyNext
 refine wpAny_bind (wpAny_attempt (wpAny_callSpecial?_slot (name:=Str.ofString "__next__") ty F.slot_dict_keyiterator_next (wpAny_call_entry F.slot_dict_keyiterator_next ty F.entry_dict_keyiterator_next ?a (F.args_dict_keyiterator_next_1 _))))
 case a =>
  refine wpAny_bind (wpAny_pure (wpAny_bind (wpAny_bind ?_)))
  first | refine wpAny_bind (wpAny_typeNameOfWhole_keyiter ty (wpAny_pure ?_)) | refine wpAny_bind (wpAny_typeNameOf_keyiter ty (wpAny_pure ?_))
  refine wpAny_bind (wpAny_fieldsOf a1 a3 ?_); simp only [own0,Bool.false_eq_true,if_false]
  show wpAny _ _ (if (Value.ref d == Value.none)=true then _ else _) _ _ s; rw [if_neg (show ¬ ((Value.ref d == Value.none)=true) from Bool.false_ne_true)]
  refine wpAny_bind (wpAny_pure (wpAny_bind (wpAny_dictEntries e1 e3 ?_))); rw [if_neg (by simp)]
  refine wpAny_bind (wpAny_pure (wpAny_bind (wpAny_dictEpoch e1 e3 ?_))); rw [if_neg (by simp)]
  refine wpAny_pure ?_
  simp only [show ¬ ((i:Int) < 0) from by omega,if_false,Int.toNat_natCast,Array.getElem?_eq_getElem lt]
  refine wpAny_bind ?_
  first | refine wpAny_bind (wpAny_typeNameOfWhole_keyiter ty (wpAny_pure ?_)) | refine wpAny_bind (wpAny_typeNameOf_keyiter ty (wpAny_pure ?_))
  refine wpAny_bind (wpAny_isOneOf_keyiter ty (show wpAny _ _ (setField (.ref it) 1 (rawInt ((i:Int) + 1)) >>= _) _ _ s from wpAny_bind (wpAny_setField a1 a3 (by simp) ?_)))
  have hi':(s.heap.update it (Obj.mapFields (·.setIfInBounds 1 (rawInt ((i:Int) + 1))))).IsKeyIter it d (i + 1) es.size ep:=⟨_,Heap.get?_update_self _ a1 (Obj.isFreed_of_fields (Obj.data_mapFields a3 _)),(Obj.cls_mapFields ..).trans a2,by rw [Obj.data_mapFields a3]; simp [rawInt]⟩
  refine wpAny_bind (wpAny_holding (wpAny_bind (wpAny_isOneOf_keyiter (s:={ s with heap:=s.heap.update it (Obj.mapFields (·.setIfInBounds 1 (rawInt ((i:Int) + 1)))) }) hi'.typeIs ?_)))
  show wpAny _ _ (pure es[i].key) _ _ _
  exact wpAny_pure (wpAny_pure ⟨_,rfl,wpAny_pure (q _ hi' (Heap.SameBut.update ..))⟩)
theorem wz2 {Q:Option Value->Shared->Prop} (hh:A.handled=none) (hi:s.heap.IsKeyIter it d i es.size ep) (x:DG s.heap d es ep) (ge:es.size<=i)
    (q:∀ h',Heap.ExtBut it s.heap h'->Q none { s with heap:=h' }):wpAny (model prog w) A (pyNext (.ref it)) Q E s:=by
 obtain ⟨o,a1,a2,a3⟩:=id hi
 obtain ⟨od,e1,e2,e3⟩:=x
 have ty:=hi.typeIs
 have own0:Builtin.Dict_items.ownsTuple "dict_keyiterator" = false:=by decide
 unfold pyNext
 refine wpAny_bind (wpAny_attempt (wpAny_callSpecial?_slot (name:=Str.ofString "__next__") ty F.slot_dict_keyiterator_next (wpAny_call_entry F.slot_dict_keyiterator_next ty F.entry_dict_keyiterator_next ?a (F.args_dict_keyiterator_next_1 _))))
 case a =>
  refine wpAny_bind (wpAny_pure (wpAny_bind (wpAny_bind ?_)))
  first | refine wpAny_bind (wpAny_typeNameOfWhole_keyiter ty (wpAny_pure ?_)) | refine wpAny_bind (wpAny_typeNameOf_keyiter ty (wpAny_pure ?_))
  refine wpAny_bind (wpAny_fieldsOf a1 a3 ?_); simp only [own0,Bool.false_eq_true,if_false]
  show wpAny _ _ (if (Value.ref d == Value.none)=true then _ else _) _ _ s; rw [if_neg (show ¬ ((Value.ref d == Value.none)=true) from Bool.false_ne_true)]
  refine wpAny_bind (wpAny_pure (wpAny_bind (wpAny_dictEntries e1 e3 ?_))); rw [if_neg (by simp)]
  refine wpAny_bind (wpAny_pure (wpAny_bind (wpAny_dictEpoch e1 e3 ?_))); rw [if_neg (by simp)]
  refine wpAny_pure ?_
  simp only [show ¬ ((i:Int) < 0) from by omega,if_false,Int.toNat_natCast,getElem?_eq_none ge]
  refine wpAny_bind ?_
  first | refine wpAny_bind (wpAny_typeNameOfWhole_keyiter ty (wpAny_pure ?_)) | refine wpAny_bind (wpAny_typeNameOf_keyiter ty (wpAny_pure ?_))
  show wpAny _ _ (setField (.ref it) 0 .none >>= _) _ _ s; refine wpAny_bind (wpAny_setField a1 a3 (by simp) ?_)
  show wpAny _ _ (newExc (.type "StopIteration") [] >>= _) _ _ _; refine wpAny_bind ?_; simp only [newExc,newTuple]
  refine wpAny_bind (wpAny_newObj_type (wpAny_bind (m:=firstArgMember _ _) (wpAny_of_eq (a:=Value.none) (by first | rfl | (simp only [firstArgMember]; rfl)) (wpAny_newObj_type ?_ (by size_fits)))) (by size_fits))
  simp only [raiseNew]; refine wpAny_bind (wpAny_handled ?_); rw [show A.in1.handled=none from hh]
  refine wpAny_bind (wpAny_pure (wpAny_throw ?_)); refine wpAny_bind (wpAny_isInstance (T := "StopIteration") (b:=true) ⟨_,Heap.get?_push_size _ rfl,rfl⟩ isSubtype_stop ?_)
  exact wpAny_pure (q _ (((Heap.SameBut.update ..).extBut.push _).push _))
theorem ts2 (hh:A.handled=none) (I d:Addr) (ne:d ≠ I):Walks prog w A I [I,d] [I] es.size (λ i v=>∃ e,es[i]?=some e /\ v=e.key) (λ i h=>h.IsKeyIter I d i es.size ep /\ DG h d es ep) where
 sub:=λ b hb=>by simp at hb; simp [hb]
 frame:=λ _ _ _ z hk=>⟨z.1.at λ o e=>hk I (by simp) o e,z.2.keep λ o e=>hk d (by simp) o e⟩
 item:=λ i s Q E hi z q=>by
  refine tg2 z.1 z.2 hi λ h' k1 k2=>?_
  exact q _ h' s.toks ⟨es[i],by simp [hi],rfl⟩ ⟨k1,z.2.keep λ o e=>k2.extBut d o ne e⟩ λ b o hb e=>k2.extBut b o (λ y=>hb (by simp [y])) e
 done:=λ s Q E z q=>wz2 hh z.1 z.2 (Nat.le_refl _) λ h' k=>q h' s.toks λ b o hb e=>k b o (λ y=>hb (by simp [y])) e
 self:=λ _ _ _ _ z q=>wpAny_pyIter_keyiter z.1 q
theorem tk4 (lo:(d == sysModules)=false):KdlSrc prog w "dict" d d es.size (λ i v=>∃ e,es[i]?=some e /\ v=e.key) (λ h=>DG h d es ep) where
 type:=λ _ x=>x.ty
 there:=λ _ x=>by obtain ⟨o,a,_⟩:=x; exact ⟨Heap.lt_size a,Heap.lt_size a⟩
 keep:=λ _ _ x k=>x.keep λ o e=>k d (.inl rfl) o e
 notList:=by decide
 notTuple:=by decide
 hint:=λ _ _ _ _ x q=>kdl_hint_dict x.ty q
 iter:=λ _ s hh x=>by
  have hl:d < s.heap.objs.size:=by obtain ⟨o,a,_⟩:=x; exact Heap.lt_size a
  exact ⟨_,_,(λ _ _ q=>xh2 lo x q),ts2 hh _ d (Nat.ne_of_lt hl),⟨⟨_,Heap.get?_push_size _ rfl,rfl,rfl⟩,x.keep λ o e=>Heap.get?_push_of_some _ e⟩⟩
end
end Pv
namespace Pv
open PySem PySem.Spec PyProof.Rows L2
section
variable {X:Cx}
theorem RC.or {f:Value} {R1 R2:C3} (h1:RC X f R1) (h2:RC X f R2):RC X f (λ ds μ Q=>R1 ds μ Q \/ R2 ds μ Q):=by
 obtain ⟨c1,p1,r1⟩:=h1
 obtain ⟨c2,p2,r2⟩:=h2
 exact ⟨λ xs H Q=>c1 xs H Q \/ c2 xs H Q,λ pins s σ H xs us Q I r h=>h.elim (p1 pins s σ H xs us Q I r) (p2 pins s σ H xs us Q I r),
  λ xs vs H Q μ Q3 m r h k=>h.elim (λ h=>.inl (r1 xs vs H Q μ Q3 m r h k)) λ h=>.inr (r2 xs vs H Q μ Q3 m r h k)⟩
theorem RC.le {f:Value} {R1 R2:C3} (h:RC X f R1) (e:∀ ds μ Q,R2 ds μ Q->R1 ds μ Q):RC X f R2:=by
 obtain ⟨c1,p1,r1⟩:=h
 exact ⟨c1,p1,λ xs vs H Q μ Q3 m r h k=>r1 xs vs H Q μ Q3 m r (e _ _ _ h) k⟩
def yh4:C3:=λ ds μ Q=>match ds with
 | [.ref p]=>match μ p with
  | some (.lst l)=>match ints? l with
   | some ns=>0 < ns.length /\ ∀ m,m ∈ ns->(∀ a,a ∈ ns->m<=a)->Q (.int m) μ
   | none=>False
  | _=>False
 | _=>False
def wh4:C3:=λ ds μ Q=>match ds with
 | [.ref p]=>match μ p with
  | some (.lst l)=>match ints? l with
   | some ns=>0 < ns.length /\ ∀ m,m ∈ ns->(∀ a,a ∈ ns->a<=m)->Q (.int m) μ
   | none=>False
  | _=>False
 | _=>False
theorem wi2 (hc:X.calm=true):CallR X (.builtin "min") (λ xs H Q=>∃ (p:Addr) (ns:List Int),xs=[.ref p] /\ SqL X.K H p (ns.map V.int) /\ 0 < ns.length /\ ∀ m,m ∈ ns->(∀ a,a ∈ ns->m<=a)->Q (.int m) H):=by
 intro pins s σ H xs us Q I r h
 obtain ⟨p,ns,rfl,hq,hne,q⟩:=h
 obtain ⟨u,rfl,rx⟩:=xw0 r
 cases rx
 obtain ⟨its,r',pl,hz⟩:=I.list hq
 have hi:=yy0 r'
 obtain ⟨ys,e⟩:=hi.allInts.items
 have hl:=pl.isList
 rw [e] at hl
 have hns:ns=ys.toList.map (·.1):=by rw [<- hi.numsOf,<- nums_intItems,<- e]
 have hsz:0 < ys.size:=by
  have h3:=hne; rw [hns,length_map,length_toList] at h3; exact h3
 refine min_intList (I.ok.hd hc) hl hsz λ v h' tk hv hk=>?_
 obtain ⟨t,rfl⟩:=intItems_at hv
 obtain ⟨h1,h2⟩:=argBest_lt (numAt ys) (ys.size - 1)
 refine ⟨.int _,H,I.kept (t':=tk) hk,⟨t,rfl⟩,q _ ?_ λ a ha=>?_⟩
 ·rw [hns,numAt_eq]; exact getD_mem (by rw [length_map,length_toList]; omega)
 ·rw [hns] at ha
  obtain ⟨j,hj,rfl⟩:=mem_getD ha
  rw [length_map,length_toList] at hj
  rw [<- numAt_eq]; exact h2 j (by omega)
theorem ti2 (hc:X.calm=true):CallR X (.builtin "max") (λ xs H Q=>∃ (p:Addr) (ns:List Int),xs=[.ref p] /\ SqL X.K H p (ns.map V.int) /\ 0 < ns.length /\ ∀ m,m ∈ ns->(∀ a,a ∈ ns->a<=m)->Q (.int m) H):=by
 intro pins s σ H xs us Q I r h
 obtain ⟨p,ns,rfl,hq,hne,q⟩:=h
 obtain ⟨u,rfl,rx⟩:=xw0 r
 cases rx
 obtain ⟨its,r',pl,hz⟩:=I.list hq
 have hi:=yy0 r'
 obtain ⟨ys,e⟩:=hi.allInts.items
 have hl:=pl.isList
 rw [e] at hl
 have hns:ns=ys.toList.map (·.1):=by rw [<- hi.numsOf,<- nums_intItems,<- e]
 have hsz:0 < ys.size:=by
  have h3:=hne; rw [hns,length_map,length_toList] at h3; exact h3
 refine max_intList (I.ok.hd hc) hl hsz λ v h' tk hv hk=>?_
 obtain ⟨t,rfl⟩:=intItems_at hv
 obtain ⟨h1,h2⟩:=argBest_gt (numAt ys) (ys.size - 1)
 refine ⟨.int _,H,I.kept (t':=tk) hk,⟨t,rfl⟩,q _ ?_ λ a ha=>?_⟩
 ·rw [hns,numAt_eq]; exact getD_mem (by rw [length_map,length_toList]; omega)
 ·rw [hns] at ha
  obtain ⟨j,hj,rfl⟩:=mem_getD ha
  rw [length_map,length_toList] at hj
  rw [<- numAt_eq]; exact h2 j (by omega)
theorem zc4 (hc:X.calm=true):RC X (.builtin "min") yh4:=by
 refine ⟨_,wi2 hc,λ xs vs H Q μ Q3 m r h k=>?_⟩
 unfold yh4 at h
 split at h
 ·next p =>
  cases r with
  | cons r1 r2 =>
   cases r2
   cases r1
   split at h
   ·next l e =>
    split at h
    ·next ns e1 =>
     obtain ⟨vs,hv,rs⟩:=m p l e
     have ev:=xq0 rs e1
     subst ev
     exact ⟨p,ns,rfl,SqL.of hv,h.1,λ a h1 h2=>k _ _ _ _ (h.2 a h1 h2) (Kp.refl _) (.int _) m⟩
    ·exact h.elim
   ·exact h.elim
 ·exact h.elim
theorem tc4 (hc:X.calm=true):RC X (.builtin "max") wh4:=by
 refine ⟨_,ti2 hc,λ xs vs H Q μ Q3 m r h k=>?_⟩
 unfold wh4 at h
 split at h
 ·next p =>
  cases r with
  | cons r1 r2 =>
   cases r2
   cases r1
   split at h
   ·next l e =>
    split at h
    ·next ns e1 =>
     obtain ⟨vs,hv,rs⟩:=m p l e
     have ev:=xq0 rs e1
     subst ev
     exact ⟨p,ns,rfl,SqL.of hv,h.1,λ a h1 h2=>k _ _ _ _ (h.2 a h1 h2) (Kp.refl _) (.int _) m⟩
    ·exact h.elim
   ·exact h.elim
 ·exact h.elim
theorem q_mn (hc:X.calm=true) (hu:X.A.units + 64 < cLine):RC X (.builtin "min") mnR:=by
 refine ((wc4 hc).or ((vc4 hc hu).or (zc4 hc))).le λ ds μ Q h=>?_
 unfold mnR at h
 split at h
 ·exact .inl h
 ·exact .inr (.inl h)
 ·exact .inr (.inr h)
 ·exact h.elim
theorem q_mx (hc:X.calm=true):RC X (.builtin "max") mxR:=by
 refine ((sr4 hc).or (tc4 hc)).le λ ds μ Q h=>?_
 unfold mxR at h
 split at h
 ·exact .inl h
 ·exact .inr h
 ·exact h.elim
end
section
variable {X:Cx} {e:Expr} {te:TE3} {p p2 pos pos2:Pos}
end
end Pv
namespace Pv
open PySem PySem.Spec PySem.W PyProof.Rows L2
section
variable {prog:Program} {w:World} {A:Around} {E:Value->Shared->Prop} {s:Shared} {d:Addr} {es:Array DictEntry} {ep:Nat}
theorem yw1 {acc:Array Value} (h:ItemsOf (λ i v=>∃ e,es[i]?=some e /\ v=e.key) acc es.size):acc.toList=es.toList.map (·.key):=by
 obtain ⟨h1,h2⟩:=h
 apply List.ext_getElem?
 intro i
 rw [getElem?_map,getElem?_toList,getElem?_toList]
 by_cases c:i < es.size
 ·obtain ⟨e,e1,e2⟩:=h2 i (acc[i]'(by omega)) (by simp)
  rw [e1,Array.getElem?_eq_getElem (by omega),e2]
  rfl
 ·rw [getElem?_eq_none (by omega),getElem?_eq_none (by omega)]
  rfl
theorem sy1 {ts:List T3} {Q:Value->Shared->Prop} (hh:A.handled=none) (lo:(d == sysModules)=false) (x:DG s.heap d es ep) (ht:T3s s.heap (es.toList.map (·.key)) ts) (h64:es.size < 64)
    (h:∀ (p:Array Nat) (h1 h':Heap) (c tk:Nat),p.Perm (List.toArray (List.range es.size))->Ms.Up (ltI ts) p es.size->(∀ b o,s.heap.get? b=some o->h1.get? b=some o)->(∀ b o,h1.get? b=some o->h'.get? b=some o) ->
     h'.get? h1.objs.size=some (seqObj "list" (outV (es.toList.map (·.key)) p).toArray c)->Q (.ref h1.objs.size) { s with heap:=h',toks:=tk }) :
    wpAny (model prog w) A (call (.builtin "sorted") [.ref d]) Q E s:=by
 have hz:es.size<=sizeLine:=by rw [sizeLine_eq]; omega
 refine Calls.call_function_entry kind_sorted plain_sorted entry_sorted (args_sorted1 _) ?_
 unfold Builtin.«sorted»
 refine wpAny_bind (m:=checkCount "sorted" 1 1 _) (wpAny_pure (wpAny_bind (kdu_collect (tk4 lo) hh x hz λ h1 tk acc k1 ia=>?_)))
 rw [yw1 ia]
 have l1:(es.toList.map (·.key)).length=es.size:=by simp
 refine wpAny_bind (wpAny_newList ?_ (by rw [l1]; exact hz))
 have k2:∀ b o,s.heap.get? b=some o->(h1.push (seqObj "list" (es.toList.map (·.key)).toArray 0)).get? b=some o:=λ b o q=>Heap.get?_push_of_some _ (k1 b o q)
 have zo:(h1.push (seqObj "list" (es.toList.map (·.key)).toArray 0)).get? h1.objs.size=some (seqObj "list" (es.toList.map (·.key)).toArray 0):=Heap.get?_push_size _ rfl
 have tt:=T3s.kept (λ b o e _=>k2 b o e) ht
 show wpAny _ _ _ _ _ { s with heap:=h1.push (seqObj "list" (es.toList.map (·.key)).toArray 0),toks:=tk }
 refine wpAny_bind (wpAny_holding (wpAny_call_entry slot_list_sort ⟨_,zo,rfl⟩ entry_list_sort (wc1 (s:={ s with heap:=h1.push (seqObj "list" (es.toList.map (·.key)).toArray 0),toks:=tk }) zo tt (by rw [l1]; exact h64) λ p h' c a1 a2 a3 a4=>⟨_,rfl,?_⟩) (args_list_sort _)))
 rw [l1] at a1 a2
 exact wpAny_pure ⟨_,rfl,h p h1 h' c tk a1 a2 k1 (λ b o q=>a3 b o (Nat.ne_of_lt (Heap.lt_size q)) (Heap.get?_push_of_some _ q)) a4⟩
end
section
variable {X:Cx}
theorem sh2 {P:Program} {w:World} {H:Hp} {h:Heap}:∀ {kvs:List (List Key × V)} {xs:List (List Key × Addr × Value)} {ts:List T3},
    Paired (λ (p:List Key × V) (q:List Key × Addr × Value)=>p.1=q.1 /\ H q.2.1=some (.tup (p.1.map kV)) /\ RelV p.2 q.2.2) kvs xs->kvs.map (·.1)=ts.map kT ->
    V3s X.K H (xs.map λ q=>V.ref q.2.1) ts /\ Vals (xs.map λ q=>V.ref q.2.1) (xs.map λ q=>Value.ref q.2.1)
 | [],_,ts,.nil,e=>by
  cases ts with
  | nil=>exact ⟨trivial,.nil⟩
  | cons _ _=>cases e
 | p :: kvs,q :: xs,ts,.cons r rs,e=>by
  cases ts with
  | nil=>cases e
  | cons t ts =>
   rw [map_cons,map_cons] at e
   injection e with e1 e2
   obtain ⟨a,b⟩:=sh2 (P:=P) (w:=w) (h:=h) rs e2
   have hq:=r.2.1
   rw [e1] at hq
   exact ⟨⟨⟨_,rfl,hq⟩,a⟩,.cons rfl b⟩
def yc4 (K:Fg):List V->Hp->VK->Prop:=λ xs H Q=>∃ d kvs ts,xs=[.ref d] /\ H d=some (.dT kvs) /\ kvs.map (·.1)=ts.map kT /\ kvs.length < 64 ∧
 ∀ vs,V3s K H vs ts->∀ q:Array Nat,q.Perm (List.toArray (List.range ts.length))->Ms.Up (ltI ts) q ts.length->∀ r,H r=none->Q (.ref r) (upd H r (.lst (q.toList.map λ i=>vs.getD i .non)))
theorem V3s.len {K:Fg} {H:Hp}:∀ {vs:List V} {ts:List T3},V3s K H vs ts->vs.length=ts.length
 | [],[],_=>rfl
 | [],_ :: _,z=>z.elim
 | _ :: _,[],z=>z.elim
 | _ :: vs,_ :: ts,z=>by rw [length_cons,length_cons,V3s.len z.2]
theorem xx1 (hc:X.calm=true):CallR X (.builtin "sorted") (yc4 X.K):=by
 intro pins s σ H xs us Q I r h
 obtain ⟨d,kvs,ts,rfl,hd,ek,h64,k⟩:=h
 cases r with
 | cons r rr =>
  cases rr
  cases r
  obtain ⟨hz,lo,ys,pr,o,es,ep,o1,o2,o3,o4,_⟩:=(show ObjOk X.prog X.w H s.heap d (.dT kvs) from I.hok d _ hd)
  obtain ⟨v3,vv⟩:=sh2 (X:=X) (P:=X.prog) (w:=X.w) (h:=s.heap) pr ek
  have ekey:es.toList.map (·.key)=ys.map λ q=>Value.ref q.2.1:=by rw [o4,map_map]; rfl
  have l1:kvs.length=ys.length:=pr.length
  have l2:ts.length=kvs.length:=by have:=congrArg List.length ek; simpa using this.symm
  have l3:es.size=ys.length:=by rw [<- length_toList,o4,length_map]
  refine sy1 (I.ok.hd hc) lo ⟨o,o1,o2,o3⟩ (by rw [ekey]; exact zp0 I v3 vv) (by omega) λ p h1 h' c tk a1 a2 a3 a4 a5=>?_
  rw [ekey] at a5
  have e0:es.size=ts.length:=by omega
  rw [e0] at a1 a2
  have lt':∀ i ∈ p.toList,i < (ys.map λ q=>V.ref q.2.1).length:=λ i hi=>by
   have e:i ∈ List.toArray (List.range ts.length):=a1.mem_iff.mp (by simpa using hi)
   have e':i < ts.length:=by simpa using e
   rw [length_map]
   omega
  have sz:p.toList.length=ts.length:=by have:=a1.size_eq; simpa using this
  have I1:Inv X pins σ H { s with heap:=h1,toks:=tk }:=I.kept a3
  refine ⟨.ref _,_,I1.laid (t':=tk) a4 (Nat.le_refl _) (show ObjOk X.prog X.w _ h' _ (.lst (p.toList.map λ i=>(ys.map λ q=>V.ref q.2.1).getD i .non)) from ⟨by rw [length_map,sz]; omega,_,c,tl0 vv _ lt',a5⟩),rfl,k _ v3 p a1 a2 _ (I1.hok.fresh (Nat.le_refl _))⟩
theorem xb1 {K:Fg} {H:Hp}:∀ {ts:List T3} {vs:List V},V3s K H vs ts->RelDs K H (ts.map encT) vs
 | [],[],_=>.nil
 | [],_ :: _,z=>z.elim
 | _ :: _,[],z=>z.elim
 | t :: ts,v :: vs,z=>by
  obtain ⟨⟨a,rfl,hq⟩,z⟩:=z
  exact .cons (.tup hq (.cons (.int _) (.cons (.int _) (.cons (.int _) .nil)))) (xb1 z)
theorem RelKs.keys {K:Fg} {H:Hp} {l:List (T3 × D)} {vs:List (List Key × V)} (r:RelKs K H l vs):vs.map (·.1)=(l.map (·.1)).map kT /\ l.length=vs.length:=by
 induction r with
 | nil=>exact ⟨rfl,rfl⟩
 | cons _ _ ih=>exact ⟨by rw [map_cons,ih.1]; rfl,by rw [length_cons,length_cons,ih.2]⟩
def vl2:C3:=λ ds μ Q=>match ds with
 | [.ref p]=>match μ p with
  | some (.dct kvs)=>kvs.length < 64 /\ ∀ us:List T3,us.Perm (kvs.map (·.1))->us.Pairwise le3->∀ r,μ r=none->Q (.ref r) (updM μ r (.lst (us.map encT)))
  | _=>False
 | _=>False
theorem zb2 (hc:X.calm=true):RC X (.builtin "sorted") vl2:=by
 refine ⟨_,xx1 hc,λ xs vs H Q μ Q3 m r h k=>?_⟩
 unfold vl2 at h
 split at h
 ·next p =>
  split at h
  ·next kvs e =>
   cases r with
   | cons r1 r2 =>
    cases r2
    cases r1
    obtain ⟨ws,hv,rk⟩:=m.dct p kvs e
    obtain ⟨k1,k2⟩:=rk.keys
    refine ⟨p,ws,kvs.map (·.1),rfl,hv,k1,by omega,λ vs v3 q a1 a2 r hr=>?_⟩
    have lt':∀ i ∈ q.toList,i < vs.length:=λ i hi=>by
     have e:i ∈ List.toArray (List.range (kvs.map (·.1)).length):=a1.mem_iff.mp (by simpa using hi)
     have e':i < (kvs.map (·.1)).length:=by simpa using e
     rw [v3.len]
     exact e'
    exact k _ _ _ _ (h.2 _ (ys0 a1) (yk1 a1 a2) r (m.free hr)) (Kp.new hr) (.ref r) (m.newL hr (zk0 (xb1 v3) _ lt'))
  ·exact h.elim
 ·exact h.elim
def xs0:C3:=λ ds μ Q=>srtR ds μ Q \/ vl2 ds μ Q
theorem sf1 (hc:X.calm=true):RC X (.builtin "sorted") xs0:=RC.or zo2 (zb2 hc)
end
open PySem.AutoSeq1 (wpAny_loadPart')
theorem Kp.wrD {H:Hp} {p:Addr} {o:HO} {xs:List (List Key × V)} (h:H p=some (.dT xs)):Kp H (upd H p o) :=
 ⟨λ b ys q=>by rw [vb0 (xe2 q h (by intro z; cases z))]; exact q,λ b o u q=>by rw [vb0 (xe2 q h (by intro z; cases z))]; exact q⟩
theorem RelM.newD {K:Fg} {μ:Mu} {H:Hp} {p:Addr} (h:H p=none) (m:RelM K μ H):RelM K (updM μ p (.dct [])) (upd H p (.dT [])):=by
 have m':=m.newT (o:=.dT []) h
 refine ⟨λ q ys e=>?_,λ q c fs e=>?_,λ q kvs e=>?_,λ q kvs e=>?_,λ q kvs e=>?_⟩
 ·by_cases z:q=p
  ·subst z; rw [va0] at e; cases e
  ·rw [xb0 z] at e; exact m'.lst q ys e
 ·by_cases z:q=p
  ·subst z; rw [va0] at e; cases e
  ·rw [xb0 z] at e; exact m'.ins q c fs e
 ·by_cases z:q=p
  ·subst z; rw [va0] at e; cases e; exact ⟨[],wd0,.nil⟩
  ·rw [xb0 z] at e; exact m'.dct q kvs e
 ·by_cases z:q=p
  ·subst z; rw [va0] at e; cases e
  ·rw [xb0 z] at e; exact m'.dcl q kvs e
 ·by_cases z:q=p
  ·subst z; rw [va0] at e; cases e
  ·rw [xb0 z] at e; exact m'.dck q kvs e
theorem RelM.wrD {K:Fg} {μ:Mu} {H:Hp} {p:Addr} {kvs:List (T3 × D)} {vs ws:List (List Key × V)} (h:H p=some (.dT ws)) (r:RelKs K H kvs vs) (m:RelM K μ H):RelM K (updM μ p (.dct kvs)) (upd H p (.dT vs)):=by
 refine ⟨λ q ys e=>?_,λ q c fs e=>?_,λ q ks e=>?_,λ q ks e=>?_,λ q ks e=>?_⟩
 ·by_cases z:q=p
  ·subst z; rw [va0] at e; cases e
  ·rw [xb0 z] at e
   obtain ⟨us,q1,r1⟩:=m.lst q ys e
   exact ⟨us,by rw [vb0 z]; exact q1,r1.mono (Kp.wrD h)⟩
 ·by_cases z:q=p
  ·subst z; rw [va0] at e; cases e
  ·rw [xb0 z] at e
   obtain ⟨C,dx,us,n,q1,q2,r1⟩:=m.ins q c fs e
   refine ⟨C,dx,us,n,by rw [vb0 z]; exact q1,?_,r1.mono (Kp.wrD h)⟩
   rw [vb0]
   ·exact q2
   ·intro y; subst y; rw [h] at q2; cases q2
 ·by_cases z:q=p
  ·subst z; rw [va0] at e; cases e; exact ⟨vs,wd0,r.mono (Kp.wrD h)⟩
  ·rw [xb0 z] at e
   obtain ⟨us,q1,r1⟩:=m.dct q ks e
   exact ⟨us,by rw [vb0 z]; exact q1,r1.mono (Kp.wrD h)⟩
 ·by_cases z:q=p
  ·subst z; rw [va0] at e; cases e
  ·rw [xb0 z] at e
   obtain ⟨us,q1,r1⟩:=m.dcl q ks e
   exact ⟨us,by rw [vb0 z]; exact q1,r1.mono (Kp.wrD h)⟩
 ·by_cases z:q=p
  ·subst z; rw [va0] at e; cases e
  ·rw [xb0 z] at e
   obtain ⟨us,q1,r1⟩:=m.dck q ks e
   exact ⟨us,by rw [vb0 z]; exact q1,r1.mono (Kp.wrD h)⟩
def wk4:TE3:=λ _ μ Q=>∀ p,μ p=none->Q (.ref p) (updM μ p (.dct []))
def putT (kvs:List (T3 × D)) (t:T3) (y:D):List (T3 × D):=if (kvs.any λ kv=>decide (kv.1=t))=true then kvs.map (λ kv=>if kv.1=t then (kv.1,y) else kv) else kvs ++ [(t,y)]
def tl3 (to:TE3) (tk:TA3) (tv:TE3):TS3:=λ D' ρ μ=>tv ρ μ λ y μ1=>to ρ μ1 λ d μ2=>tk ρ μ2 λ ks μ3=>match d,ks with
 | .ref p,[.int a,.int b,.int c]=>match μ3 p with
  | some (.dct kvs)=>kvs.length < 90000 /\ D'.nx ρ (updM μ3 p (.dct (putT kvs (a,b,c) y)))
  | _=>False
 | _,_=>False
theorem tx2 {a b:T3} (h:kT a=kT b):a=b:=by
 obtain ⟨a1,a2,a3⟩:=a
 obtain ⟨b1,b2,b3⟩:=b
 simp only [kT,List.cons.injEq,Sum.inl.injEq,and_true] at h
 obtain ⟨rfl,rfl,rfl⟩:=h
 rfl
theorem RelKs.any {K:Fg} {H:Hp} {t:T3} {l:List (T3 × D)} {vs:List (List Key × V)} (r:RelKs K H l vs):(vs.any λ kv=>decide (kv.1=kT t))=l.any λ kv=>decide (kv.1=t):=by
 induction r with
 | nil=>rfl
 | cons _ _ ih =>
  rw [any_cons,any_cons,ih]
  congr 1
  rw [decide_eq_decide]
  exact ⟨tx2,λ h=>congrArg kT h⟩
theorem RelKs.rep {K:Fg} {H:Hp} {t:T3} {y:D} {v:V} (ry:RelD K H y v) {l:List (T3 × D)} {vs:List (List Key × V)} (r:RelKs K H l vs):RelKs K H (l.map λ kv=>if kv.1=t then (kv.1,y) else kv) (vs.map λ kv=>if kv.1=kT t then (kv.1,v) else kv):=by
 induction r with
 | nil=>exact .nil
 | cons h _ ih =>
  rename_i t' d' v' l' vs' _
  rw [map_cons,map_cons]
  by_cases c:t'=t
  ·rw [if_pos c,if_pos (by rw [c])]; exact .cons ry ih
  ·rw [if_neg c,if_neg (λ z=>c (tx2 z))]; exact .cons h ih
theorem RelKs.snoc {K:Fg} {H:Hp} {t:T3} {y:D} {v:V} (ry:RelD K H y v) {l:List (T3 × D)} {vs:List (List Key × V)} (r:RelKs K H l vs):RelKs K H (l ++ [(t,y)]) (vs ++ [(kT t,v)]):=by
 induction r with
 | nil=>exact .cons ry .nil
 | cons h _ ih=>exact .cons h ih
theorem RelKs.put {K:Fg} {H:Hp} {t:T3} {y:D} {v:V} (ry:RelD K H y v) {l:List (T3 × D)} {vs:List (List Key × V)} (r:RelKs K H l vs):RelKs K H (putT l t y) (putK vs (kT t) v):=by
 unfold putT putK
 rw [r.any]
 split
 ·exact r.rep ry
 ·exact r.snoc ry
section
variable {X:Cx} {pos pos':Pos}
theorem zf3:RE X (.Dict [] [] pos) wk4:=⟨_,yo1,λ σ H Q ρ μ Q3 s m h k p hp=>k _ _ _ _ (h p (m.free hp)) (Kp.new hp) (.ref p) (m.newD hp)⟩
theorem ue3 {o value:Expr} {es:List Expr} {to tv:TE3} {tk:TA3} {x1} {pos2:Pos} (hu:X.A.units + 64 < cLine) (ho:RE X o to) (hk:RA X es tk) (hv:RE X value tv)
    (hs:swapsWith value (some (.Subscript o (.Tuple es x1 pos2) pos')) pos.line X.env=pure false:=by rfl):RS X (.Assign [.Subscript o (.Tuple es x1 pos2) pos'] value pos) (tl3 to tk tv):=by
 obtain ⟨vo,po,ro⟩:=ho
 obtain ⟨vk,pk,rk⟩:=hk
 obtain ⟨vv,pv,rv⟩:=hv
 refine ⟨_,xc2 (by omega) po (uw2 pk) pv hs,λ σ H D ρ μ D3 s m h k=>rv σ H _ ρ μ _ s m h λ y μ1 v H1 h1 k1 r1 m1=>ro σ H1 _ ρ μ1 _ (s.mono k1) m1 h1 λ d μ2 x H2 h2 k2 r2 m2 =>
  rk σ H2 _ ρ μ2 _ (s.mono (k1.trans k2)) m2 h2 λ ks μ3 xs H3 h3 k3 r3 m3=>?_⟩
 split at h3
 ·next p a b c =>
  split at h3
  ·next kvs e =>
   cases r2
   cases r3 with
   | cons x1 r3 =>
    cases r3 with
    | cons x2 r3 =>
     cases r3 with
     | cons x3 r3 =>
      cases r3
      cases x1
      cases x2
      cases x3
      obtain ⟨ws,hw,rw'⟩:=m3.dct p kvs e
      refine ⟨show 3<=sizeLine by decide,λ t ht=>?_⟩
      have hpt:p ≠ t:=by intro z; subst z; rw [hw] at ht; cases ht
      have hw2:upd H3 t (.tup [.int a,.int b,.int c]) p=some (.dT ws):=by rw [vb0 hpt]; exact hw
      have m4:=m3.newT (o:=.tup [.int a,.int b,.int c]) ht
      have kt:=Kp.new (o:=.tup [.int a,.int b,.int c]) ht
      have ry:=r1.mono (k2.trans (k3.trans kt))
      have hl:=rw'.keys.2
      have hz:(90000:Nat) < sizeLine:=by decide
      refine ⟨p,_,rfl,DPut.t (k:=kT (a,b,c)) hw2 wd0 (by omega),?_⟩
      exact k.nx _ _ _ _ h3.2 (k1.trans (k2.trans (k3.trans (kt.trans (Kp.wrD hw2))))) (s.mono (k1.trans (k2.trans (k3.trans (kt.trans (Kp.wrD hw2)))))) (m4.wrD hw2 ((rw'.mono kt).put ry))
  ·exact h3.elim
 ·exact h3.elim
end
end Pv
namespace Pv
open PySem PySem.Spec PyProof.Rows L2
open PySem.AutoSeq1 (wpAny_loadPart')
theorem uk3 (p q:Addr) (a b c d:Int) (t1 t2 t3 t4:Tok) (n m:Nat) (dd dd2:Option Addr) (sl sl2:Array (Option Value)) :
    Meets (Builtin.«tuple.__gt__» ⟨[.ref p,.ref q],[]⟩) (λ A R s=>s.heap.get? p=some { cls:=.type "tuple",dict:=dd,data:=.seq #[.int a t1,.int b t2] n,slots:=sl } /\ s.heap.get? q=some { cls:=.type "tuple",dict:=dd2,data:=.seq #[.int c t3,.int d t4] m,slots:=sl2 } ∧
     R (.ok (.ret (.bool (ltP c d a b)))) s) :=
 .of_wp λ prog w A R s h=>by
  obtain ⟨hp,g,dr,tk,os⟩:=s; obtain ⟨hl,hb,h⟩:=h
  have f2:=AutoSeq1.sub_tuple_tuple
  have gt:∀ (x y:Int) (tx ty:Tok) {Q:Value->Shared->Prop} {E:Value->Shared->Prop} {A:Around} {s:Shared},Q (.bool (decide (y < x))) s->wpAny (model prog w) A (richCompare .Gt (.int x tx) (.int y ty)) Q E s:=λ x y tx ty Q E A s hq=>gt_int hq
  have eqb:∀ (x y:Int) (tx ty:Tok) {Q:Bool->Shared->Prop} {E:Value->Shared->Prop} {A:Around} {s:Shared},Q (x == y) s->wpAny (model prog w) A (eqBool (.int x tx) (.int y ty)) Q E s:=λ x y tx ty Q E A s hq=>wpAny_eqBool_int hq
  wp_walk using wpAny_loadPart' hl,wpAny_loadPart' hb,eqb a c t1 t3
  by_cases h1:a=c
  ·rw [show (a == c)=true by simpa using h1]
   wp_walk using eqb b d t2 t4
   by_cases h2:b=d
   ·rw [show (b == d)=true by simpa using h2]
    wp_walk
    have h':R (.ok (.ret (.bool false))) ⟨hp,g,dr,tk,os⟩:=by simpa [ltP,h1,h2] using h
    exact ⟨_,rfl,h'⟩
   ·rw [show (b == d)=false by simpa using h2]
    wp_walk using gt b d t2 t4
    exact ⟨_,rfl,by simpa [ltP,h1] using h⟩
  ·rw [show (a == c)=false by simpa using h1]
   wp_walk using gt a c t1 t3
   exact ⟨_,rfl,by simpa [ltP,Ne.symm h1] using h⟩
theorem ndlt (x y:Int):(!decide (x < y))=decide (y<=x):=by
 by_cases h:x < y
 ·rw [decide_eq_true h,decide_eq_false (by omega)]; rfl
 ·rw [decide_eq_false h,decide_eq_true (by omega)]; rfl
theorem xl3 (p q:Addr) (a b:T3) (t1 t2 t3 u1 u2 u3:Tok) (n m:Nat) (dd dd2:Option Addr) (sl sl2:Array (Option Value)) :
    Meets (Builtin.«tuple.__ge__» ⟨[.ref p,.ref q],[]⟩) (λ A R s=>s.heap.get? p=some { cls:=.type "tuple",dict:=dd,data:=.seq #[.int a.1 t1,.int a.2.1 t2,.int a.2.2 t3] n,slots:=sl } /\ s.heap.get? q=some { cls:=.type "tuple",dict:=dd2,data:=.seq #[.int b.1 u1,.int b.2.1 u2,.int b.2.2 u3] m,slots:=sl2 } ∧
     R (.ok (.ret (.bool (!lt3 a b)))) s) :=
 .of_wp λ prog w A R s h=>by
  obtain ⟨hp,g,dr,tk,os⟩:=s; obtain ⟨hl,hb,h⟩:=h
  obtain ⟨a1,a2,a3⟩:=a
  obtain ⟨b1,b2,b3⟩:=b
  have f2:=AutoSeq1.sub_tuple_tuple
  have ge:∀ (x y:Int) (tx ty:Tok) {Q:Value->Shared->Prop} {E:Value->Shared->Prop} {A:Around} {s:Shared},Q (.bool (decide (y<=x))) s->wpAny (model prog w) A (richCompare .GtE (.int x tx) (.int y ty)) Q E s:=λ x y tx ty Q E A s hq=>ge_int hq
  have eqb:∀ (x y:Int) (tx ty:Tok) {Q:Bool->Shared->Prop} {E:Value->Shared->Prop} {A:Around} {s:Shared},Q (x == y) s->wpAny (model prog w) A (eqBool (.int x tx) (.int y ty)) Q E s:=λ x y tx ty Q E A s hq=>wpAny_eqBool_int hq
  wp_walk using wpAny_loadPart' hl,wpAny_loadPart' hb,eqb a1 b1 t1 u1
  by_cases h1:a1=b1
  ·rw [show (a1 == b1)=true by simpa using h1]
   wp_walk using eqb a2 b2 t2 u2
   by_cases h2:a2=b2
   ·rw [show (a2 == b2)=true by simpa using h2]
    wp_walk using eqb a3 b3 t3 u3
    by_cases h3:a3=b3
    ·rw [show (a3 == b3)=true by simpa using h3]
     wp_walk
     have h':R (.ok (.ret (.bool true))) ⟨hp,g,dr,tk,os⟩:=by simpa [lt3,h1,h2,h3] using h
     exact ⟨_,rfl,h'⟩
    ·rw [show (a3 == b3)=false by simpa using h3]
     wp_walk using ge a3 b3 t3 u3
     have e:(!lt3 (a1,a2,a3) (b1,b2,b3))=decide (b3<=a3):=by rw [show lt3 (a1,a2,a3) (b1,b2,b3)=decide (a3 < b3) by subst h1 h2; simp [lt3],ndlt]
     rw [e] at h
     exact ⟨_,rfl,by simpa using h⟩
   ·rw [show (a2 == b2)=false by simpa using h2]
    wp_walk using ge a2 b2 t2 u2
    have e:(!lt3 (a1,a2,a3) (b1,b2,b3))=decide (b2<=a2):=by rw [show lt3 (a1,a2,a3) (b1,b2,b3)=decide (a2 < b2) by subst h1; simp [lt3,h2],ndlt]
    rw [e] at h
    exact ⟨_,rfl,by simpa using h⟩
  ·rw [show (a1 == b1)=false by simpa using h1]
   wp_walk using ge a1 b1 t1 u1
   have e:(!lt3 (a1,a2,a3) (b1,b2,b3))=decide (b1<=a1):=by rw [show lt3 (a1,a2,a3) (b1,b2,b3)=decide (a1 < b1) by simp [lt3,h1],ndlt]
   rw [e] at h
   exact ⟨_,rfl,by simpa using h⟩
section
variable {prog:Program} {w:World} {A:Around} {R:Result->Shared->Prop} {I:Addr} {fp wr:List Addr} {n:Nat} {P:Nat->Value->Prop} {St:Nat->Heap->Prop}
theorem vk2:(toString "max" ++ toString ".loop" : String) = "max.loop" := by decide
theorem vu2 (W:Walks prog w A.in1 I fp wr n P St) (S:Addr) (hSf:S ∉ fp) (s:Shared) (vb:Value) (c:Nat) (hst:St n s.heap)
    (hS:s.heap.get? S=some { cls:=.type "list",dict:=none,data:=.seq #[vb,vb] c,slots:=#[] })
    (hR:∀ h' tk,(∀ b o,b ∉ wr->b ≠ S->s.heap.get? b=some o->h'.get? b=some o)->R (.ok (.ret vb)) { s with heap:=h',toks:=tk }) :
    codeAny (model prog w) A (.builtin "max.loop" ⟨[.ref I,.none,.ref S],[]⟩) R s:=by
 have hSw:S ∉ wr:=λ h=>hSf (W.sub _ h)
 refine codeAny_builtin F.entry_max_loop ?_
 rw [Around.under_plainId F.plain_max_loop _]
 show wpAny _ A.in1 (seqItems? (.ref S) >>= _) _ _ s
 refine wpAny_bind (wpAny_seqItems hS rfl ?_)
 show wpAny _ A.in1 (tryCatch (pyNext (.ref I)) _ >>= _) _ _ s
 refine wpAny_bind (wpAny_tryCatch (W.done s _ _ hst λ h' tk hk'=>?_))
 have hS':=hk' S _ hSw hS
 show wpAny _ A.in1 (updateSeq S (λ _=>#[]) >>= _) _ _ _
 refine wpAny_bind ?_
 refine wpAny_updateSeq hS' rfl (wpAny_bind (wpAny_letGo (wpAny_pure ?_)))
 exact hR _ tk λ b o hbw hbS e=>(Heap.get?_update_other _ _ (Ne.symm hbS)).trans (hk' b o hbw e)
theorem sa3 (W:Walks prog w A.in1 I fp wr n P St) (S:Addr) (hSf:S ∉ fp) (s:Shared) (vb v0:Value) (r:Bool) (c j:Nat) (hlt:j < n) (hj:j + 1=n) (hst:St j s.heap) (hv:∀ v,P j v->v=v0)
    (hcmp:∀ (h':Heap) (tk:Nat) (Q:Value->Shared->Prop) (E:Value->Shared->Prop),(∀ b o,b ∉ wr->s.heap.get? b=some o->h'.get? b=some o)->Q (.bool r) { s with heap:=h',toks:=tk }->wpAny (model prog w) A.in1 (richCompare .Gt v0 vb) Q E { s with heap:=h',toks:=tk })
    (hS:s.heap.get? S=some { cls:=.type "list",dict:=none,data:=.seq #[vb,vb] c,slots:=#[] })
    (hR:∀ h' tk,(∀ b o,b ∉ wr->b ≠ S->s.heap.get? b=some o->h'.get? b=some o)->R (.ok (.ret (if r then v0 else vb))) { s with heap:=h',toks:=tk }) :
    codeAny (model prog w) A (.builtin "max.loop" ⟨[.ref I,.none,.ref S],[]⟩) R s:=by
 have hSw:S ∉ wr:=λ h=>hSf (W.sub _ h)
 refine codeAny_builtin F.entry_max_loop ?_
 rw [Around.under_plainId F.plain_max_loop _]
 show wpAny _ A.in1 (seqItems? (.ref S) >>= _) _ _ s
 refine wpAny_bind (wpAny_seqItems hS rfl ?_)
 show wpAny _ A.in1 (tryCatch (pyNext (.ref I)) _ >>= _) _ _ s
 refine wpAny_bind (wpAny_tryCatch (W.item j s _ _ hlt hst λ v h' tk hP hst' hk'=>?_))
 obtain rfl:=hv v hP
 have hS':=hk' S _ hSw hS
 show wpAny _ A.in1 (tryCatch (holding [v,v] (richCompare .Gt v vb >>= _)) _ >>= _) _ _ _
 refine wpAny_bind (wpAny_tryCatch (wpAny_holding (wpAny_bind (hcmp h' tk _ _ hk' ?_))))
 refine wpAny_bind (wpAny_holding (wpAny_truthy_bool ?_))
 refine wpAny_bind (wpAny_letGo (wpAny_pure ?_))
 cases r with
 | true =>
  simp only [if_true]
  refine wpAny_bind ?_
  refine wpAny_updateSeq hS' rfl (wpAny_bind (wpAny_letGo ?_))
  rw [vk2]
  refine wpAny_pure ⟨plainId_quiet F.plain_max_loop _,vu2 W S hSf _ v _ (hj ▸ W.frame _ _ _ hst' λ b hbf o e=>?_) (Heap.get?_update_self _ hS' rfl) λ h'' tk'' hk''=>?_⟩
  ·exact (Heap.get?_update_other _ _ (λ h:S=b=>hSf (by rw [h]; exact hbf))).trans e
  ·exact hR h'' tk'' λ b o hbw hbS e=>hk'' b o hbw hbS ((Heap.get?_update_other _ _ (Ne.symm hbS)).trans (hk' b o hbw e))
 | false =>
  simp only [Bool.false_eq_true,if_false]
  refine wpAny_bind (wpAny_letGo ?_)
  rw [vk2]
  refine wpAny_pure ⟨plainId_quiet F.plain_max_loop _,vu2 W S hSf _ vb c (hj ▸ hst') hS' λ h'' tk'' hk''=>?_⟩
  exact hR h'' tk'' λ b o hbw hbS e=>hk'' b o hbw hbS (hk' b o hbw e)
theorem zp3 (W:Walks prog w A.in1 I fp wr 2 P St) (S:Addr) (hSf:S ∉ fp) (s:Shared) (va vb:Value) (r:Bool) (c:Nat) (hst:St 0 s.heap) (hva:∀ v,P 0 v->v=va) (hvb:∀ v,P 1 v->v=vb)
    (hcmp:∀ (h':Heap) (tk:Nat) (Q:Value->Shared->Prop) (E:Value->Shared->Prop),(∀ b o,b ∉ wr->b ≠ S->s.heap.get? b=some o->h'.get? b=some o)->Q (.bool r) { s with heap:=h',toks:=tk }->wpAny (model prog w) A.in1 (richCompare .Gt vb va) Q E { s with heap:=h',toks:=tk })
    (hS:s.heap.get? S=some { cls:=.type "list",dict:=none,data:=.seq #[] c,slots:=#[] })
    (hR:∀ h' tk,(∀ b o,b ∉ wr->b ≠ S->s.heap.get? b=some o->h'.get? b=some o)->R (.ok (.ret (if r then vb else va))) { s with heap:=h',toks:=tk }) :
    codeAny (model prog w) A (.builtin "max.loop" ⟨[.ref I,.none,.ref S],[]⟩) R s:=by
 have hSw:S ∉ wr:=λ h=>hSf (W.sub _ h)
 refine codeAny_builtin F.entry_max_loop ?_
 rw [Around.under_plainId F.plain_max_loop _]
 show wpAny _ A.in1 (seqItems? (.ref S) >>= _) _ _ s
 refine wpAny_bind (wpAny_seqItems hS rfl ?_)
 show wpAny _ A.in1 (tryCatch (pyNext (.ref I)) _ >>= _) _ _ s
 refine wpAny_bind (wpAny_tryCatch (W.item 0 s _ _ (by decide) hst λ v h' tk hP hst' hk'=>?_))
 obtain rfl:=hva v hP
 have hS':=hk' S _ hSw hS
 show wpAny _ A.in1 (updateSeq S (λ _=>#[v,v]) >>= _) _ _ _
 refine wpAny_bind ?_
 refine wpAny_updateSeq hS' rfl ?_
 rw [vk2]
 have up:∀ (f:Obj->Obj) b o,b ∉ wr->b ≠ S->s.heap.get? b=some o->Heap.get? (h'.update S f) b=some o:=λ f b o hbw hbS e=>(Heap.get?_update_other _ _ (Ne.symm hbS)).trans (hk' b o hbw e)
 refine wpAny_pure ⟨plainId_quiet F.plain_max_loop _,sa3 W S hSf _ v vb r _ 1 (by decide) rfl (W.frame _ _ _ hst' λ b hbf o e=>?_) hvb (λ h2 tk2 Q E hk2 hq=>?_) (Heap.get?_update_self _ hS' rfl) λ h'' tk'' hk''=>?_⟩
 ·exact (Heap.get?_update_other _ _ (λ h:S=b=>hSf (by rw [h]; exact hbf))).trans e
 ·exact hcmp h2 tk2 Q E (λ b o hbw hbS e=>hk2 b o hbw (up _ b o hbw hbS e)) hq
 ·exact hR h'' tk'' λ b o hbw hbS e=>hk'' b o hbw hbS (up _ b o hbw hbS e)
end
section
variable {prog:Program} {w:World} {A:Around} {E:Value->Shared->Prop} {s:Shared}
theorem tv1 {va vb:Value} {r:Bool} {Q:Value->Shared->Prop} (hh:A.handled=none)
    (hcmp:∀ (h':Heap) (tk:Nat) (Q:Value->Shared->Prop) (E:Value->Shared->Prop),(∀ b o,s.heap.get? b=some o->h'.get? b=some o)->Q (.bool r) { s with heap:=h',toks:=tk }->wpAny (model prog w) A.in1 (richCompare .Gt vb va) Q E { s with heap:=h',toks:=tk })
    (h:∀ h' tk,(∀ c o,s.heap.get? c=some o->h'.get? c=some o)->Q (if r then vb else va) { s with heap:=h',toks:=tk }) :
    wpAny (model prog w) A (call (.builtin "max") [va,vb]) Q E s:=by
 refine call_function_tree F.kind_max F.plain_max F.entry_max (F.args_max2 _ _) ?_
 show wpAny _ A.in1 (Builtin.Builtins.bindParams "max" ["key", "default"] 0 ⟨[],[]⟩ >>= _) _ _ s
 refine wpAny_bind (wpAny_of_eq (show Builtin.Builtins.bindParams "max" ["key", "default"] 0 ⟨[],[]⟩=pure [none,none] from rfl) ?_)
 show wpAny _ A.in1 (newTuple [va,vb] >>= _) _ _ s
 refine wpAny_bind (wpAny_newObj_type ?_)
 have hT:(s.heap.push { cls:=.type "tuple",data:=.seq #[va,vb] }).IsTuple s.heap.objs.size #[va,vb]:=⟨_,Heap.get?_push_size _ rfl,rfl,0,rfl⟩
 refine wpAny_bind (wpAny_pyIter_tuple (s:={ s with heap:=s.heap.push { cls:=.type "tuple",data:=.seq #[va,vb] } }) hT ?_)
 have hsz:(s.heap.push { cls:=.type "tuple",data:=.seq #[va,vb] }).objs.size=s.heap.objs.size + 1:=Heap.size_push ..
 refine wpAny_bind (wpAny_newObj_type ?_)
 rw [vk2]
 have hsz2:((s.heap.push { cls:=.type "tuple",data:=.seq #[va,vb] }).push { cls:=.type "tuple_iterator",data:=.fields #[.ref s.heap.objs.size,.int 0 0] }).objs.size=s.heap.objs.size + 2:=by rw [Heap.size_push,hsz]
 have keep:∀ c o,s.heap.get? c=some o->Heap.get? (((s.heap.push { cls:=.type "tuple",data:=.seq #[va,vb] }).push { cls:=.type "tuple_iterator",data:=.fields #[.ref s.heap.objs.size,.int 0 0] }).push { cls:=.type "list",data:=.seq #[] }) c=some o:=λ c o e=>Heap.get?_push_of_some _ (Heap.get?_push_of_some _ (Heap.get?_push_of_some _ e))
 have off:∀ (c:Addr) (o:Obj),s.heap.get? c=some o->c ∉ [(s.heap.push { cls:=.type "tuple",data:=.seq #[va,vb] }).objs.size] /\ c ≠ ((s.heap.push { cls:=.type "tuple",data:=.seq #[va,vb] }).push { cls:=.type "tuple_iterator",data:=.fields #[.ref s.heap.objs.size,.int 0 0] }).objs.size:=λ c o e=>by
  have h1:=Heap.lt_size e
  rw [hsz2,hsz]
  refine ⟨λ hm=>?_,Nat.ne_of_lt (Nat.lt_succ_of_lt (Nat.lt_succ_of_lt h1))⟩
  rw [List.mem_singleton.mp hm] at h1
  exact absurd h1 (Nat.not_lt.mpr (Nat.le_succ _))
 refine wpAny_pure ⟨plainId_quiet F.plain_max_loop _,zp3 (Walks.tuple (A:=A.in1) hh _ s.heap.objs.size (by rw [hsz]; exact Nat.ne_of_lt (Nat.lt_succ_self _)) #[va,vb]) _ ?_ _ va vb r _ ?_ (λ v hP=>by simpa using hP.symm) (λ v hP=>by simpa using hP.symm) ?_ (Heap.get?_push_size _ rfl) ?_⟩
 ·rw [hsz2,hsz]
  simp
 ·exact ⟨⟨_,Heap.get?_push_of_some _ (Heap.get?_push_size _ rfl),rfl,rfl⟩,(hT.push _).push _⟩
 ·intro h' tk Q E hk hq
  exact hcmp h' tk Q E (λ c o e=>hk c o (off c o e).1 (off c o e).2 (keep c o e)) hq
 ·intro h' tk hk
  exact h h' tk λ c o e=>hk c o (off c o e).1 (off c o e).2 (keep c o e)
theorem zq2 {p q:Addr} {a b c d:Int} {t1 t2 t3 t4:Tok} {Q:Value->Shared->Prop} (hh:A.handled=none) (hu:A.units + 64 < cLine) (hp:IsTup s.heap p #[.int a t1,.int b t2]) (hq:IsTup s.heap q #[.int c t3,.int d t4])
    (h:∀ h' tk,(∀ c o,s.heap.get? c=some o->h'.get? c=some o)->Q (if ltP a b c d then .ref q else .ref p) { s with heap:=h',toks:=tk }) :
    wpAny (model prog w) A (call (.builtin "max") [.ref p,.ref q]) Q E s:=by
 refine tv1 hh (λ h' tk Q E hk hq'=>?_) h
 obtain ⟨⟨cp,dp,datp,slp⟩,ep,hcp,np,hdp⟩:=hp
 obtain ⟨⟨cq,dq,datq,slq⟩,eq,hcq,nq,hdq⟩:=hq
 dsimp only at hcp hdp hcq hdq
 subst hcp hdp hcq hdq
 refine richCompare_meets_room (T := "tuple") (s:={ s with heap:=h',toks:=tk }) ⟨_,hk _ _ eq,rfl⟩ ⟨_,hk _ _ ep,rfl⟩ F.slot_tuple_gt F.entry_tuple_gt (F.args_tuple_gt_2 _ _) (uk3 q p c d a b t3 t4 t1 t2 nq np dq dp slq slp) ⟨hk _ _ eq,hk _ _ ep,by simp,hq'⟩ ?_
 have:A.in1.units=A.units + 1:=rfl
 omega
end
section
variable {X:Cx}
def ge3R:R3:=λ x y μ Q=>match x,y with
 | .int i,.int j=>Q (.bl (decide (j<=i))) μ
 | .tup [.int a,.int b,.int c],.tup [.int d,.int e,.int f]=>Q (.bl (!lt3 (a,b,c) (d,e,f))) μ
 | _,_=>False
def rGe3 (K:Fg):R2:=λ x y H Q=>∃ p q a b,x=.ref p /\ y=.ref q /\ SqT K H p [.int a.1,.int a.2.1,.int a.2.2] /\ SqT K H q [.int b.1,.int b.2.1,.int b.2.2] /\ Q (.bl (!lt3 a b)) H
theorem wp3 {x y z:V} {us:List Value} (r:Vals [x,y,z] us):∃ a b c,us=[a,b,c] /\ RelV x a /\ RelV y b /\ RelV z c:=by
 cases r with
 | cons r1 r =>
  cases r with
  | cons r2 r =>
   cases r with
   | cons r3 r=>cases r; exact ⟨_,_,_,rfl,r1,r2,r3⟩
theorem wg4 (hu:X.A.units < cLine):OpR X (compareOp .GtE) (rGe3 X.K):=by
 intro pins s σ H x y v u Q I rx ry h
 obtain ⟨p,q,a,b,rfl,rfl,ha,hb,k⟩:=h
 cases rx
 cases ry
 obtain ⟨its,r1,⟨⟨c1,d1,e1,l1⟩,o1,o2,n1,o3⟩,_⟩:=I.tuple ha
 obtain ⟨its2,r2,⟨⟨c2,d2,e2,l2⟩,o4,o5,n2,o6⟩,_⟩:=I.tuple hb
 obtain ⟨_,_,_,rfl,⟨t1,rfl⟩,⟨t2,rfl⟩,⟨t3,rfl⟩⟩:=wp3 r1
 obtain ⟨_,_,_,rfl,⟨u1,rfl⟩,⟨u2,rfl⟩,⟨u3,rfl⟩⟩:=wp3 r2
 dsimp only at o2 o3 o5 o6
 subst o2 o3 o5 o6
 exact richCompare_meets_room (op:=.GtE) (T := "tuple") ⟨_,o1,rfl⟩ ⟨_,o4,rfl⟩ PySem.F.slot_tuple_ge PySem.F.entry_tuple_ge (PySem.F.args_tuple_ge_2 _ _) (xl3 p q a b t1 t2 t3 u1 u2 u3 n1 n2 d1 d2 l1 l2) ⟨o1,o4,by simp,⟨.bl (!lt3 a b),H,I,rfl,k⟩⟩ hu
theorem sf3 (hu:X.A.units + 64 < cLine):RO X (compareOp .GtE) ge3R:=by
 refine ⟨_,op_ge.or (wg4 (by omega)),λ x y v u H Q μ Q3 m rx ry h k=>?_⟩
 unfold ge3R at h
 split at h
 ·cases rx
  cases ry
  exact .inl ⟨_,_,rfl,rfl,k _ _ _ _ h (Kp.refl _) (.bl _) m⟩
 ·next a b c d e f =>
  cases rx with
  | tup hq rs =>
   cases ry with
   | tup hq2 rs2 =>
    cases rs with
    | cons x1 rs =>
     cases rs with
     | cons x2 rs =>
      cases rs with
      | cons x3 rs =>
       cases rs
       cases rs2 with
       | cons y1 rs2 =>
        cases rs2 with
        | cons y2 rs2 =>
         cases rs2 with
         | cons y3 rs2 =>
          cases rs2
          cases x1; cases x2; cases x3; cases y1; cases y2; cases y3
          exact .inr ⟨_,_,(a,b,c),(d,e,f),rfl,rfl,(SqT.of hq),(SqT.of hq2),k _ _ _ _ h (Kp.refl _) (.bl _) m⟩
 ·exact h.elim
def wq2:C3:=λ ds μ Q=>match ds with
 | [.tup [.int a,.int b],.tup [.int c,.int d]]=>Q (if ltP a b c d then .tup [.int c,.int d] else .tup [.int a,.int b]) μ
 | _=>False
theorem ui2 (hc:X.calm=true) (hu:X.A.units + 64 < cLine):CallR X (.builtin "max") (λ xs H Q=>∃ p q a b c d,xs=[.ref p,.ref q] /\ SqT X.K H p [.int a,.int b] /\ SqT X.K H q [.int c,.int d] /\ Q (.ref (if ltP a b c d then q else p)) H):=by
 intro pins s σ H xs us Q I r h
 obtain ⟨p,q,a,b,c,d,rfl,hp,hq,k⟩:=h
 obtain ⟨u,w',rfl,e1,e2⟩:=sv0 r
 cases e1
 cases e2
 obtain ⟨its,rv,pp,hz⟩:=I.tuple hp
 obtain ⟨its2,rv2,pp2,hz2⟩:=I.tuple hq
 obtain ⟨v1,v2,rfl,⟨t1,rfl⟩,⟨t2,rfl⟩⟩:=sv0 rv
 obtain ⟨v3,v4,rfl,⟨t3,rfl⟩,⟨t4,rfl⟩⟩:=sv0 rv2
 refine zq2 (I.ok.hd hc) hu pp pp2 λ h' tk kk=>⟨_,H,I.kept kk,?_,k⟩
 cases ltP a b c d
 ·exact rfl
 ·exact rfl
theorem uc4 (hc:X.calm=true) (hu:X.A.units + 64 < cLine):RC X (.builtin "max") wq2:=by
 refine ⟨_,ui2 hc hu,λ xs vs H Q μ Q3 m r h k=>?_⟩
 unfold wq2 at h
 split at h
 ·next a b c d =>
  cases r with
  | cons r1 r2 =>
   cases r2 with
   | cons r2 r3 =>
    cases r3
    cases r1 with
    | tup hq rs =>
     cases r2 with
     | tup hq2 rs2 =>
      cases rs with
      | cons x1 y1 =>
       cases y1 with
       | cons x2 y2 =>
        cases y2
        cases rs2 with
        | cons x3 y3 =>
         cases y3 with
         | cons x4 y4 =>
          cases y4
          cases x1; cases x2; cases x3; cases x4
          rename_i p q
          refine ⟨p,q,a,b,c,d,rfl,(SqT.of hq),(SqT.of hq2),k _ _ _ _ h (Kp.refl _) ?_ m⟩
          cases ltP a b c d
          ·exact .tup hq (.cons (.int _) (.cons (.int _) .nil))
          ·exact .tup hq2 (.cons (.int _) (.cons (.int _) .nil))
 ·exact h.elim
end
def keyI:D->Option (List Int)
 | .tup l=>ints? l
 | _=>none
def valL (kvs:List (List Int × D)) (k:List Int):Option D:=(kvs.find? λ kv=>decide (kv.1=k)).map (·.2)
def putL (kvs:List (List Int × D)) (k:List Int) (y:D):List (List Int × D):=if (kvs.any λ kv=>decide (kv.1=k))=true then kvs.map (λ kv=>if kv.1=k then (kv.1,y) else kv) else kvs ++ [(k,y)]
def dnl3:TE3:=λ _ μ Q=>∀ p,μ p=none->Q (.ref p) (updM μ p (.dcl []))
def dinR (neg:Bool):R3:=λ y x μ Q=>match x,keyI y with
 | .ref p,some k=>match μ p with
  | some (.dcl kvs)=>Q (.bl (if neg then !(valL kvs k).isSome else (valL kvs k).isSome)) μ
  | _=>False
 | _,_=>False
def to0 (to ti tv:TE3):TS3:=λ D' ρ μ=>tv ρ μ λ v μ1=>to ρ μ1 λ x μ2=>ti ρ μ2 λ y μ3=>match x,keyI y with
 | .ref p,some k=>match μ3 p with
  | some (.dcl kvs)=>kvs.length < 90000 /\ D'.nx ρ (updM μ3 p (.dcl (putL kvs k v)))
  | _=>False
 | _,_=>False
theorem RelM.newC {K:Fg} {μ:Mu} {H:Hp} {p:Addr} (h:H p=none) (m:RelM K μ H):RelM K (updM μ p (.dcl [])) (upd H p (.dT [])):=by
 have m':=m.newT (o:=.dT []) h
 refine ⟨λ q ys e=>?_,λ q c fs e=>?_,λ q kvs e=>?_,λ q kvs e=>?_,λ q kvs e=>?_⟩
 ·by_cases z:q=p
  ·subst z; rw [va0] at e; cases e
  ·rw [xb0 z] at e; exact m'.lst q ys e
 ·by_cases z:q=p
  ·subst z; rw [va0] at e; cases e
  ·rw [xb0 z] at e; exact m'.ins q c fs e
 ·by_cases z:q=p
  ·subst z; rw [va0] at e; cases e
  ·rw [xb0 z] at e; exact m'.dct q kvs e
 ·by_cases z:q=p
  ·subst z; rw [va0] at e; cases e; exact ⟨[],wd0,.nil⟩
  ·rw [xb0 z] at e; exact m'.dcl q kvs e
 ·by_cases z:q=p
  ·subst z; rw [va0] at e; cases e
  ·rw [xb0 z] at e; exact m'.dck q kvs e
theorem RelM.wrC {K:Fg} {μ:Mu} {H:Hp} {p:Addr} {kvs:List (List Int × D)} {vs ws:List (List Key × V)} (h:H p=some (.dT ws)) (r:RelKl K H kvs vs) (m:RelM K μ H):RelM K (updM μ p (.dcl kvs)) (upd H p (.dT vs)):=by
 refine ⟨λ q ys e=>?_,λ q c fs e=>?_,λ q ks e=>?_,λ q ks e=>?_,λ q ks e=>?_⟩
 ·by_cases z:q=p
  ·subst z; rw [va0] at e; cases e
  ·rw [xb0 z] at e
   obtain ⟨us,q1,r1⟩:=m.lst q ys e
   exact ⟨us,by rw [vb0 z]; exact q1,r1.mono (Kp.wrD h)⟩
 ·by_cases z:q=p
  ·subst z; rw [va0] at e; cases e
  ·rw [xb0 z] at e
   obtain ⟨C,dx,us,n,q1,q2,r1⟩:=m.ins q c fs e
   refine ⟨C,dx,us,n,by rw [vb0 z]; exact q1,?_,r1.mono (Kp.wrD h)⟩
   rw [vb0]
   ·exact q2
   ·intro y; subst y; rw [h] at q2; cases q2
 ·by_cases z:q=p
  ·subst z; rw [va0] at e; cases e
  ·rw [xb0 z] at e
   obtain ⟨us,q1,r1⟩:=m.dct q ks e
   exact ⟨us,by rw [vb0 z]; exact q1,r1.mono (Kp.wrD h)⟩
 ·by_cases z:q=p
  ·subst z; rw [va0] at e; cases e; exact ⟨vs,wd0,r.mono (Kp.wrD h)⟩
  ·rw [xb0 z] at e
   obtain ⟨us,q1,r1⟩:=m.dcl q ks e
   exact ⟨us,by rw [vb0 z]; exact q1,r1.mono (Kp.wrD h)⟩
 ·by_cases z:q=p
  ·subst z; rw [va0] at e; cases e
  ·rw [xb0 z] at e
   obtain ⟨us,q1,r1⟩:=m.dck q ks e
   exact ⟨us,by rw [vb0 z]; exact q1,r1.mono (Kp.wrD h)⟩
theorem yp1:∀ {a b:List Int},kL a=kL b->a=b
 | [],[],_=>rfl
 | [],_ :: _,h=>by cases h
 | _ :: _,[],h=>by cases h
 | x :: a,y :: b,h=>by
  have h':(Sum.inl x:Key) :: kL a=Sum.inl y :: kL b:=h
  injection h' with h1 h2
  cases h1
  rw [yp1 h2]
theorem RelKl.len {K:Fg} {H:Hp} {l:List (List Int × D)} {vs:List (List Key × V)} (r:RelKl K H l vs):l.length=vs.length:=by
 induction r with
 | nil=>rfl
 | cons _ _ ih=>rw [length_cons,length_cons,ih]
theorem RelKl.any {K:Fg} {H:Hp} {t:List Int} {l:List (List Int × D)} {vs:List (List Key × V)} (r:RelKl K H l vs):(vs.any λ kv=>decide (kv.1=kL t))=l.any λ kv=>decide (kv.1=t):=by
 induction r with
 | nil=>rfl
 | cons _ _ ih =>
  rw [any_cons,any_cons,ih]
  congr 1
  rw [decide_eq_decide]
  exact ⟨yp1,λ h=>congrArg kL h⟩
theorem RelKl.val {K:Fg} {H:Hp} {t:List Int} {l:List (List Int × D)} {vs:List (List Key × V)} (r:RelKl K H l vs):(valL l t=none /\ valV vs (kL t)=none) \/ ∃ d v,valL l t=some d /\ valV vs (kL t)=some v /\ RelD K H d v:=by
 induction r with
 | nil=>exact .inl ⟨rfl,rfl⟩
 | cons h _ ih =>
  rename_i t' d' v' l' vs' _
  by_cases c:t'=t
  ·subst c
   exact .inr ⟨d',v',by simp [valL],xp0 rfl,h⟩
  ·have e1:valL ((t',d') :: l') t=valL l' t:=by simp [valL,c]
   rw [e1,yp0 (p:=(kL t',v')) (λ z=>c (yp1 z))]
   exact ih
theorem RelKl.rep {K:Fg} {H:Hp} {t:List Int} {y:D} {v:V} (ry:RelD K H y v) {l:List (List Int × D)} {vs:List (List Key × V)} (r:RelKl K H l vs):RelKl K H (l.map λ kv=>if kv.1=t then (kv.1,y) else kv) (vs.map λ kv=>if kv.1=kL t then (kv.1,v) else kv):=by
 induction r with
 | nil=>exact .nil
 | cons h _ ih =>
  rename_i t' d' v' l' vs' _
  rw [map_cons,map_cons]
  by_cases c:t'=t
  ·rw [if_pos c,if_pos (by rw [c])]; exact .cons ry ih
  ·rw [if_neg c,if_neg (λ z=>c (yp1 z))]; exact .cons h ih
theorem RelKl.snoc {K:Fg} {H:Hp} {t:List Int} {y:D} {v:V} (ry:RelD K H y v) {l:List (List Int × D)} {vs:List (List Key × V)} (r:RelKl K H l vs):RelKl K H (l ++ [(t,y)]) (vs ++ [(kL t,v)]):=by
 induction r with
 | nil=>exact .cons ry .nil
 | cons h _ ih=>exact .cons h ih
theorem RelKl.put {K:Fg} {H:Hp} {t:List Int} {y:D} {v:V} (ry:RelD K H y v) {l:List (List Int × D)} {vs:List (List Key × V)} (r:RelKl K H l vs):RelKl K H (putL l t y) (putK vs (kL t) v):=by
 unfold putL putK
 rw [r.any]
 split
 ·exact r.rep ry
 ·exact r.snoc ry
theorem tp1 {K:Fg} {H:Hp}:∀ {l:List D} {vs:List V} {k:List Int},RelDs K H l vs->ints? l=some k->vs=(kL k).map kV
 | _,_,k,.nil,e=>by simp [ints?] at e; subst e; rfl
 | _,_,k,.cons h r,e=>by
  cases h with
  | int x =>
   simp only [ints?] at e
   split at e
   ·next ys e1 =>
    simp only [Option.some.injEq] at e
    subst e
    rw [tp1 r e1]; rfl
   ·cases e
  | _=>simp [ints?] at e
theorem wl1 {K:Fg} {H:Hp} {y:D} {v:V} {k:List Int} (r:RelD K H y v) (e:keyI y=some k):∃ b,v=.ref b /\ H b=some (.tup ((kL k).map kV)):=by
 cases r with
 | tup hq rs=>exact ⟨_,rfl,by rw [<- tp1 rs e]; exact hq⟩
 | _=>simp [keyI] at e
section
variable {X:Cx} {pos pos':Pos}
theorem yw2:RE X (.Dict [] [] pos) dnl3:=⟨_,yo1,λ σ H Q ρ μ Q3 s m h k p hp=>k _ _ _ _ (h p (m.free hp)) (Kp.new hp) (.ref p) (m.newC hp)⟩
theorem zs4 (neg:Bool) (hu:X.A.units + 64 < cLine):RO X (compareOp (if neg then .NotIn else .In)) (dinR neg):=by
 refine ⟨λ y x H Q=>∃ a o,x=.ref a /\ DGet H a y o /\ Q (.bl (if neg then !o.isSome else o.isSome)) H,?_,λ y x b a H Q μ Q3 m ry rx h k=>?_⟩
 ·intro pins s σ H y x u v Q I ry rx h
  obtain ⟨a,o,rfl,g,q⟩:=h
  cases rx
  cases neg with
  | true=>exact xm3 (by omega) I g ry λ s' I'=>⟨.bl (!o.isSome),H,I',rfl,q⟩
  | false=>exact d_in (by omega) I g ry λ s' I'=>⟨.bl o.isSome,H,I',rfl,q⟩
 ·unfold dinR at h
  split at h
  ·next p kk ek =>
   split at h
   ·next kvs e =>
    cases rx
    obtain ⟨ws,hw,rk⟩:=m.dcl p kvs e
    obtain ⟨b',rfl,hb⟩:=wl1 ry ek
    refine ⟨p,_,rfl,DGet.t (k:=kL kk) hw hb,?_⟩
    have es:(valV ws (kL kk)).isSome=(valL kvs kk).isSome:=by
     rcases rk.val (t:=kk) with ⟨z1,z2⟩ | ⟨d,w,z1,z2,_⟩ <;> rw [z1,z2] <;> rfl
    rw [es]
    exact k _ _ _ _ h (Kp.refl _) (.bl _) m
   ·exact h.elim
  ·exact h.elim
theorem sc4 (hu:X.A.units + 64 < cLine):RO X (compareOp .In) (dinR false):=zs4 false hu
theorem ta1 {o i value:Expr} {to ti tv:TE3} (hu:X.A.units + 64 < cLine) (ho:RE X o to) (hi:RE X i ti) (hv:RE X value tv) (hs:swapsWith value (some (.Subscript o i pos')) pos.line X.env=pure false:=by rfl) :
    RS X (.Assign [.Subscript o i pos'] value pos) (to0 to ti tv):=by
 obtain ⟨vo,po,ro⟩:=ho
 obtain ⟨vi,pi,ri⟩:=hi
 obtain ⟨vv,pv,rv⟩:=hv
 refine ⟨_,xc2 (by omega) po pi pv hs,λ σ H D ρ μ D3 s m h k=>rv σ H _ ρ μ _ s m h λ y μ1 v H1 h1 k1 r1 m1=>ro σ H1 _ ρ μ1 _ (s.mono k1) m1 h1 λ d μ2 x H2 h2 k2 r2 m2 =>
  ri σ H2 _ ρ μ2 _ (s.mono (k1.trans k2)) m2 h2 λ kd μ3 b H3 h3 k3 r3 m3=>?_⟩
 split at h3
 ·next p kk ek =>
  split at h3
  ·next kvs e =>
   cases r2
   obtain ⟨ws,hw,rk⟩:=m3.dcl p kvs e
   obtain ⟨b',rfl,hb⟩:=wl1 r3 ek
   have hl:=rk.len
   have hz:(90000:Nat) < sizeLine:=by decide
   refine ⟨p,_,rfl,DPut.t (k:=kL kk) hw hb (by omega),?_⟩
   exact k.nx _ _ _ _ h3.2 (k1.trans (k2.trans (k3.trans (Kp.wrD hw)))) (s.mono (k1.trans (k2.trans (k3.trans (Kp.wrD hw))))) (m3.wrC hw (rk.put (r1.mono (k2.trans k3))))
  ·exact h3.elim
 ·exact h3.elim
end
section
variable {X:Cx}
variable {o e:Expr} {es:List Expr} {to:TE3} {t:TA3} {apos cpos:Pos}
end
def gdf3 (to:TE3) (t:TA3):TE3:=λ ρ μ Q=>to ρ μ λ x μ1=>match x with
 | .ref p=>match μ1 p with
  | some (.dcl _)=>t ρ μ1 λ ds μ2=>match ds with
   | [y,d]=>match keyI y,μ2 p with
    | some k,some (.dcl kvs)=>(match valL kvs k with
     | some v=>Q v μ2
     | none=>Q d μ2)
    | _,_=>False
   | _=>False
  | _=>False
 | _=>False
def rGd:V->List V->Hp->VK->Prop:=λ x vs H Q=>∃ a kvs k b v,x=.ref a /\ vs=[.ref b,v] /\ H a=some (.dT kvs) /\ H b=some (.tup (k.map kV)) ∧
 (∀ u,valV kvs k=some u->Q u H) /\ (valV kvs k=none->Q v H)
section
variable {X:Cx}
theorem xu4 (hu:X.A.units + 1 < cLine):MtM X "dict.get" rGd:=by
 intro pins s σ H x vs v us Q I rx rv h
 obtain ⟨d,kvs,k,b,v0,rfl,rfl,e,eb,q1,q2⟩:=h
 cases rx
 cases rv with
 | cons r1 r2 =>
 cases r2 with
 | cons r2 r3 =>
 cases r3
 rename_i u1 u2
 cases (show u1=Value.ref b from r1)
 refine xl4 hu I (DGet.t e eb) rfl r2 λ w' s' I' rw'=>?_
 cases ev:valV kvs k with
 | none=>exact ⟨v0,H,I',by rw [ev] at rw'; exact rw',q2 ev⟩
 | some w''=>exact ⟨w'',H,I',by rw [ev] at rw'; exact rw',q1 _ ev⟩
variable {o e:Expr} {es:List Expr} {to:TE3} {t:TA3} {apos cpos:Pos}
theorem yf3 (hu:X.A.units + 64 < cLine) (ho:RE X o to) (ha:RA X (e :: es) t) (hbase:attributeBase o "get" X.env (eval o X.env)=eval o X.env:=by rfl)
    (hfew:((backTo cpos (starEach (e :: es) X.env)).all (λ x=>!x.1) && (backToKw cpos (keywordEach [] X.env)).all (λ x=>x.1.isSome)
     && decide ((e :: es).length + ([]:List Keyword).length + (if ([]:List Keyword).isEmpty then 0 else 1) < 30))=true:=by rfl)
    (hline:(apos.endLine == cpos.line)=true:=by rfl) (hs:starEach (e :: es) X.env=(false,eval e X.env) :: starEach es X.env:=by rfl) (hplain:(backTo cpos (starEach es X.env)).any (·.1)=false:=by rfl) :
    RE X (.Call (.Attribute o "get" apos) (e :: es) [] cpos) (gdf3 to t):=by
 obtain ⟨va,pa,ra⟩:=ho
 obtain ⟨vb,pb,rb⟩:=ha
 refine ⟨_,wi3 PySem.F.plainAttrs_dict slot_dict_get PySem.F.type_dict_get (xu4 (by omega)) pa pb hbase hfew hline hs hplain,λ σ H Q ρ μ Q3 s m h k=>ra σ H _ ρ μ _ s m h λ x μ1 v H1 h1 k1 r1 m1=>?_⟩
 split at h1
 ·next p =>
  split at h1
  ·next kvs0 e0 =>
   cases r1
   obtain ⟨ws0,hw0,_⟩:=m1.dcl p kvs0 e0
   refine ⟨.inr (.inr (.inl ⟨rfl,.inr ⟨ws0,hw0⟩⟩)),rb σ H1 _ ρ μ1 _ (s.mono k1) m1 h1 λ ds μ2 vs H2 h2 k2 r2 m2=>?_⟩
   split at h2
   ·next y d =>
    cases r2 with
    | cons ry r2 =>
    cases r2 with
    | cons rd r2 =>
    cases r2
    split at h2
    ·next kk kvs ek e =>
     obtain ⟨ws,hw,rk⟩:=m2.dcl p kvs e
     obtain ⟨b,rfl,hb⟩:=wl1 ry ek
     refine ⟨p,ws,kL kk,b,_,rfl,rfl,hw,hb,λ u eu=>?_,λ eu=>?_⟩
     ·rcases rk.val (t:=kk) with ⟨_,z2⟩ | ⟨d',w',z1,z2,rd'⟩
      ·rw [eu] at z2; cases z2
      ·rw [eu] at z2; cases z2; rw [z1] at h2; exact k _ _ _ _ h2 (k1.trans k2) rd' m2
     ·rcases rk.val (t:=kk) with ⟨z1,_⟩ | ⟨d',w',_,z2,_⟩
      ·rw [z1] at h2; exact k _ _ _ _ h2 (k1.trans k2) rd m2
      ·rw [eu] at z2; cases z2
    ·exact h2.elim
   ·exact h2.elim
  ·exact h1.elim
 ·exact h1.elim
end
def Itd (a:Addr) (n:Nat):It :=
 ⟨λ i H=>∃ kvs,H a=some (.dT kvs) /\ kvs.length=n /\ i < n,λ i H x H'=>H'=H /\ ∃ kvs k v b,H a=some (.dT kvs) /\ kvs[i]?=some (k,v) /\ x=.ref b /\ H b=some (.tup (k.map kV)),
  λ i H=>∃ kvs,H a=some (.dT kvs) /\ kvs.length=n /\ n<=i⟩
theorem ux2 {H:Hp}:∀ {kvs:List (List Key × V)} {xs:List (List Key × Addr × Value)},KT H kvs xs->∀ (i:Nat) x,xs[i]?=some x->∃ v,kvs[i]?=some (x.1,v) /\ H x.2.1=some (.tup (x.1.map kV))
 | _,_,.nil,i,x,e=>by simp at e
 | _,_,.cons (a:=p) (b:=q) h r,0,x,e=>by
  simp at e; subst e
  exact ⟨p.2,by rw [List.getElem?_cons_zero,<- h.1],by rw [<- h.1]; exact h.2.1⟩
 | _,_,.cons h r,i + 1,x,e=>by
  rw [getElem?_cons_succ] at e ⊢
  exact ux2 r i x e
theorem ux1 {P:Program} {w:World} {K:PySem.W.Frag} {tg:Expr} (a it:Addr) (n:Nat):Turn P w K tg (Itd a n) [it] it (λ i h=>h.IsKeyIter it a i n n) where
 mem:=by simp
 obj:=λ i h st b hb=>by
  have e:b=it:=by simpa using hb
  subst e
  obtain ⟨o,e,c,d⟩:=st
  exact ⟨o,e,λ v z=>by rw [d] at z; cases z⟩
 keep:=λ i h h' st k=>by
  obtain ⟨o,e,c,d⟩:=st
  exact ⟨o,k it (by simp) o e,c,d⟩
 item:=by
  intro X hP hw hK hc i pins s σ H E I hf st hg
  subst hP hw hK
  obtain ⟨f0,f1,f2,f3,f4,f5⟩:=hf it (by simp)
  obtain ⟨kvs,e,el,hi⟩:=hg
  obtain ⟨z,hd,xs,rel,o,es,ho,hc1,hd1,he,_⟩:=vg2 I.hok (.inl e)
  have l1:xs.length=n:=by rw [<- Paired.length rel]; exact el
  have l2:es.size=n:=by rw [<- length_toList,he,length_map,l1]
  rw [el] at hd1
  have st':s.heap.IsKeyIter it a i es.size n:=by rw [l2]; exact st
  refine tg2 st' ⟨o,ho,hc1,hd1⟩ (by omega) λ h' hst hk=>?_
  rw [l2] at hst
  have hx:xs[i]?=some (xs[i]'(by omega)):=getElem?_eq_getElem _
  have ek:(es[i]'(by omega)).key=.ref (xs[i]'(by omega)).2.1:=by
   have q:es.toList[i]?=some (entryOfKey (tupleKind (ue0 X.prog X.w)) (xs[i]'(by omega))):=by rw [he,getElem?_map,hx]; rfl
   rw [getElem?_toList,Array.getElem?_eq_getElem (by omega)] at q
   cases q':es[i]'(by omega) with
   | mk a1 a2 a3=>rw [q'] at q; cases q; rfl
  obtain ⟨v,kg,kh⟩:=ux2 rel i _ hx
  have I1:Inv X pins σ H { s with heap:=h' }:=I.turned (t':=s.toks) (λ b o hb e=>hk.extBut b o hb e) f0 f1 f3 f4 f5
  obtain ⟨o1,e1,c1,d1⟩:=id hst
  refine ⟨_,rfl,vf2 (s:={ s with heap:=h' }) e1 c1 d1 (by decide) ⟨.ref _,H,I1,ek,⟨rfl,kvs,_,v,_,e,kg,rfl,kh⟩,hst,λ b hb=>(hf b hb).1⟩⟩
 done:=by
  intro X hP hw hK hc i pins s σ H E I hf st hg
  subst hP hw hK
  obtain ⟨f0,f1,f2,f3,f4,f5⟩:=hf it (by simp)
  obtain ⟨kvs,e,el,hi⟩:=hg
  obtain ⟨z,hd,xs,rel,o,es,ho,hc1,hd1,he,_⟩:=vg2 I.hok (.inl e)
  have l1:xs.length=n:=by rw [<- Paired.length rel]; exact el
  have l2:es.size=n:=by rw [<- length_toList,he,length_map,l1]
  rw [el] at hd1
  have st':s.heap.IsKeyIter it a i es.size n:=by rw [l2]; exact st
  exact wz2 (I.ok.hd hc) st' ⟨o,ho,hc1,hd1⟩ (by omega) λ h' hk=>⟨rfl,I.turned (t':=s.toks) (λ b o hb e=>hk b o hb e) f0 f1 f3 f4 f5⟩
 self:=λ A i s Q E st h=>wpAny_pyIter_keyiter st h
section
variable {X:Cx} {tg:Expr}
def iDct (tl:TE):TI:=λ σ H R=>tl σ H λ x H1=>∃ a kvs,x=.ref a /\ H1 a=some (.dT kvs) /\ R (Itd a kvs.length) H1
theorem vh3 {l:Expr} {tl:TE} (hl:PE X l tl):PI X tg l (iDct tl):=by
 intro pins s σ H R I h
 refine thn (hl pins s σ H _ I h) λ v s1 ⟨x,H1,I1,r1,q1⟩=>?_
 have fp:∀ b ∈ [s1.heap.objs.size],FpOk X pins H1 b:=λ b hb=>by
  have e:b=s1.heap.objs.size:=by simpa using hb
  subst e
  exact I1.fpOk (Nat.le_refl _) (I1.hok.fresh (Nat.le_refl _))
 obtain ⟨a,kvs,rfl,e,q⟩:=q1
 cases r1
 obtain ⟨z,hd,xs,rel,o,es,ho,hc1,hd1,he,_⟩:=vg2 I1.hok (.inl e)
 have l2:es.size=kvs.length:=by rw [<- length_toList,he,length_map]; exact (Paired.length rel).symm
 refine xh2 hd ⟨o,ho,hc1,hd1⟩ ?_
 rw [l2]
 exact ⟨s1.heap.objs.size,[s1.heap.objs.size],_,_,H1,rfl,I1.kept (t':=s1.toks) λ b o e=>Heap.get?_push_of_some _ e,ux1 a _ _,⟨_,Heap.get?_push_size _ rfl,rfl,rfl⟩,fp,q⟩
def tupI (k:List Int):D:=.tup (k.map .int)
theorem vx0 {K:Fg} {H:Hp}:∀ k:List Int,RelDs K H (k.map .int) ((kL k).map kV)
 | []=>.nil
 | i :: k=>.cons (.int i) (vx0 k)
theorem RelKl.get {K:Fg} {H:Hp} {l:List (List Int × D)} {vs:List (List Key × V)} (r:RelKl K H l vs):∀ (i:Nat) k v,vs[i]?=some (k,v)->∃ t d,l[i]?=some (t,d) /\ k=kL t:=by
 induction r with
 | nil=>intro i k v e; simp at e
 | cons h _ ih =>
  intro i k v e
  cases i with
  | zero=>simp at e; exact ⟨_,_,rfl,e.1.symm⟩
  | succ i=>rw [getElem?_cons_succ] at e ⊢; exact ih i k v e
theorem ur2 {K:Fg} {H0:Hp} {a:Addr} {l:List (List Int × D)}:ItOk K (Itd a l.length) (l.map λ kv=>tupI kv.1) (λ μ=>μ a=some (.dcl l)) H0:=λ i H μ k m s=>by
 obtain ⟨vs,h,r⟩:=m.dcl a l s
 have hl:=r.len
 refine ⟨λ d e=>?_,λ hl'=>⟨vs,h,hl.symm,by simpa using hl'⟩⟩
 rw [getElem?_map] at e
 have hi:i < l.length:=by
  rcases Nat.lt_or_ge i l.length with c | c
  ·exact c
  ·rw [List.getElem?_eq_none c] at e; cases e
 refine ⟨⟨vs,h,hl.symm,hi⟩,λ x H2 y=>?_⟩
 obtain ⟨rfl,kvs,kk,v,b,e1,e2,rfl,e3⟩:=y
 rw [h] at e1
 cases e1
 obtain ⟨t,dd,e4,rfl⟩:=r.get i kk v e2
 rw [e4] at e
 cases e
 exact ⟨Kp.refl _,m,.tup e3 (vx0 t)⟩
def isd3 (t:TE3):TI3:=λ ρ μ R=>t ρ μ λ d μ1=>match d with
 | .ref p=>match μ1 p with
  | some (.dcl l)=>R (l.map λ kv=>tupI kv.1) (λ μ=>μ p=some (.dcl l)) μ1
  | _=>False
 | _=>False
theorem tn1 {a:Expr} {ta:TE3} (ha:RE X a ta):RI X tg a (isd3 ta):=by
 obtain ⟨va,pa,ra⟩:=ha
 refine ⟨_,vh3 pa,λ σ H R ρ μ R3 s m h k=>ra σ H _ ρ μ _ s m h λ d μ1 v H1 h1 k1 r1 m1=>?_⟩
 split at h1
 ·next p =>
  split at h1
  ·next l e =>
   cases r1
   obtain ⟨vs,hv,rv⟩:=m1.dcl p l e
   refine ⟨p,vs,rfl,hv,?_⟩
   rw [<- rv.len]
   exact k _ _ _ _ _ h1 k1 m1 ur2
  ·exact h1.elim
 ·exact h1.elim
end
def so0 (cells:List (Str × Addr)):List (Str × NameKind)->List (Str × Addr)->List (Str × Addr)
 | [],acc=>acc
 | (n,k) :: r,acc=>if k == .free then so0 cells r ((n,(cells.lookup n).getD 0) :: acc) else so0 cells r acc
theorem vd1 {scope:Scope} {env:Env} (h:∀ y ∈ scope.names,y.2=.free->(env.cells.lookup y.1).isSome=true):closureFor scope env=pure (so0 env.cells scope.names []):=by
 unfold closureFor
 have key:∀ (l:List (Str × NameKind)) (acc:List (Str × Addr)),(∀ y ∈ l,y.2=.free->(env.cells.lookup y.1).isSome=true) ->
     (forIn l acc (λ x r=>if (x.2 == NameKind.free)=true then do let c <- cellOf env x.1; pure (ForInStep.yield ((x.1,c) :: r)) else pure (ForInStep.yield r)):Sem (List (Str × Addr)))=pure (so0 env.cells l acc):=by
  intro l
  induction l with
  | nil=>intro acc _; rfl
  | cons y r ih =>
   intro acc hl
   obtain ⟨n,k⟩:=y
   rw [List.forIn_cons]
   have ih':=λ a=>ih a λ z hz=>hl z (mem_cons_of_mem _ hz)
   by_cases hk:k=.free
   ·subst hk
    have hs:=hl (n,.free) (mem_cons_self ..) rfl
    obtain ⟨c,hc⟩:=Option.isSome_iff_exists.mp hs
    have ec:cellOf env n=pure c:=by unfold cellOf; rw [hc]
    simp only [so0,ec,pure_bind,beq_self_eq_true,if_true,hc,Option.getD_some]
    exact ih' _
   ·have hk':(k == NameKind.free)=false:=by simpa using hk
    simp only [so0,hk',Bool.false_eq_true,if_false,pure_bind]
    exact ih' _
 have:=key scope.names [] h
 refine Eq.trans ?_ this
 refine Eq.trans (bind_pure (forIn scope.names ([]:List (Str × Addr)) _:Sem (List (Str × Addr)))) ?_
 congr 1
theorem xv0 {cells:List (Str × Addr)} {x:Str} {c:Addr}:∀ (l:List (Str × NameKind)) (acc:List (Str × Addr)),(∀ y ∈ l,y.2=.free->(cells.lookup y.1).isSome=true)->(acc.lookup x=some c->cells.lookup x=some c) ->
    (so0 cells l acc).lookup x=some c->cells.lookup x=some c
 | [],acc,_,ha,h=>ha h
 | (n,k) :: r,acc,hl,ha,h=>by
  unfold so0 at h
  split at h
  ·next hk =>
   refine xv0 r _ (λ z hz=>hl z (mem_cons_of_mem _ hz)) (λ h2=>?_) h
   rw [lookup_cons] at h2
   split at h2
   ·next e =>
    have e':x=n:=eq_of_beq e
    subst e'
    obtain ⟨c',hc⟩:=Option.isSome_iff_exists.mp (hl (x,k) (mem_cons_self ..) (eq_of_beq hk))
    rw [hc] at h2
    simp only [Option.getD_some,Option.some.injEq] at h2
    rw [hc,h2]
   ·exact ha h2
  ·exact xv0 r acc (λ z hz=>hl z (mem_cons_of_mem _ hz)) ha h
theorem yv0 {cells:List (Str × Addr)} {x:Str}:∀ (l:List (Str × NameKind)) (acc:List (Str × Addr)),((∃ c,acc.lookup x=some c) \/ (x,NameKind.free) ∈ l)->∃ c,(so0 cells l acc).lookup x=some c
 | [],acc,h=>by
  rcases h with h | h
  ·exact h
  ·cases h
 | (n,k) :: r,acc,h=>by
  unfold so0
  split
  ·next hk =>
   refine yv0 r _ ?_
   by_cases e:x=n
   ·subst e
    left
    exact ⟨(cells.lookup x).getD 0,by rw [lookup_cons]; simp⟩
   ·rcases h with ⟨c,h⟩ | h
    ·left
     refine ⟨c,?_⟩
     rw [lookup_cons]
     have:(x == n)=false:=by simpa using e
     rw [this]; exact h
    ·right
     rcases List.mem_cons.mp h with h | h
     ·exact absurd (congrArg Prod.fst h) e
     ·exact h
  ·next hk =>
   refine yv0 r acc ?_
   rcases h with h | h
   ·exact .inl h
   ·rcases List.mem_cons.mp h with h | h
    ·cases h; exact absurd rfl hk
    ·exact .inr h
theorem CompSc.free {X:Cx} {NN:List Str} {scope:Scope} {js:List (Option Nat)} (hcell:∀ y ∈ scope.names,y.2 ≠ .cell) (hk:scope.kind=.function) (hfn:X.env.scope.kind=.function)
    (hn:∀ y ∈ scope.names,y.2=.local->scope.names.lookup y.1=some .local) (hfree:∀ y ∈ scope.names,y.2=.free->X.env.scope.names.lookup y.1=some .cell) (hlook:∀ y ∈ scope.names,y.2=.free->scope.names.lookup y.1=some .free)
    (hcl:∀ x,X.env.scope.names.lookup x=some .cell->(X.env.cells.lookup x).isSome=true) (len:js.length=NN.length)
    (hout:∀ i ∈ List.range js.length,∀ j,js.getD i none=some j->∃ x,NN[i]?=some x /\ X.N[j]?=some x /\ scope.names.lookup x=some .free) :
    CompSc X NN scope (so0 X.env.cells scope.names []) js where
 clos:=vd1 λ y hy e=>hcl _ (hfree y hy e)
 cell:=hcell
 kind:=hk
 names:=hn
 sub:=λ x c h=>xv0 scope.names [] (λ y hy e=>hcl _ (hfree y hy e)) (λ h=>by simp at h) h
 has:=λ x h=>by
  refine yv0 scope.names [] (.inr ?_)
  have hm:∃ k,(x,k) ∈ scope.names /\ (k=.free \/ k=.cell):=by
   have key:∀ kk,(relabel scope X.env).names.lookup x=some kk->(kk=.cell \/ kk=.free)->∃ k,(x,k) ∈ scope.names /\ (k=.free \/ k=.cell):=λ kk hkk hc=>by
    have hmem:=uh0 hkk
    obtain ⟨⟨n,k⟩,hy,e⟩:=List.mem_map.mp hmem
    dsimp only at e
    split at e
    ·next hq =>
     cases e
     simp only [Bool.and_eq_true] at hq
     exact ⟨k,hy,.inl (by simpa using hq.1.1)⟩
    ·cases e
     exact ⟨kk,hy,hc.symm⟩
   rcases h with h | h
   ·exact key _ h (.inl rfl)
   ·exact key _ h (.inr rfl)
  obtain ⟨k,hk1,hk2⟩:=hm
  rcases hk2 with rfl | rfl
  ·exact hk1
  ·exact absurd rfl (hcell _ hk1)
 len:=len
 out:=λ i j h=>by
  have hi:i < js.length:=by
   rcases Nat.lt_or_ge i js.length with z | z
   ·exact z
   ·rw [List.getElem?_eq_none z] at h; cases h
  obtain ⟨x,e1,e2,e3⟩:=hout i (List.mem_range.mpr hi) j (by rw [getD_eq_getElem?_getD,h]; rfl)
  have hf:=hfree (x,.free) (uh0 e3) rfl
  refine ⟨x,e1,e2,.inr (.inl hf),by rw [hf]; simp,?_⟩
  left
  have key:∀ (l:List (Str × NameKind)),l.lookup x=some .free->(l.map λ (n,k)=>if (k == NameKind.free && X.env.scope.kind == .function && X.env.kindOf n == some .cell) then (n,NameKind.cell) else (n,k)).lookup x=some .cell:=λ l=>by
   induction l with
   | nil=>intro h; simp at h
   | cons y r ih =>
    obtain ⟨n,k⟩:=y
    intro h
    rw [lookup_cons] at h
    rw [map_cons,lookup_cons]
    by_cases e:x=n
    ·subst e
     simp only [beq_self_eq_true,Option.some.injEq] at h
     subst h
     have hkind:(X.env.kindOf x == some NameKind.cell)=true:=by
      show (X.env.scope.names.lookup x == some NameKind.cell)=true
      rw [hf]; rfl
     simp [hfn,hkind]
    ·have e':(x == n)=false:=by simpa using e
     rw [e'] at h
     have ih':=ih h
     by_cases hq:(k == NameKind.free && X.env.scope.kind == ScopeKind.function && X.env.kindOf n == some NameKind.cell)=true
     ·simp only [hq,if_true,e']; exact ih'
     ·simp only [hq,Bool.false_eq_true,if_false,e']; exact ih'
  exact key _ e3
theorem zd1 {CX:CXT} {P:Program} {w:World} {K:Fg} {mg:Str->Option Value} {base:Heap} {N:List Str} {qual:Str} {sc:Scope} {f:Addr} {cdv:Value} {A:Around} {outer:List Env} {s:Shared} {H:Hp} {E:XK} {NN:List Str} {scope:Scope} {js:List (Option Nat)}
    (hcell:∀ y ∈ scope.names,y.2 ≠ .cell:=by decide +kernel) (hk:scope.kind=.function:=by rfl) (hfn:sc.kind=.function:=by rfl)
    (hn:∀ y ∈ scope.names,y.2=.local->scope.names.lookup y.1=some .local:=by decide +kernel) (hfree:∀ y ∈ scope.names,y.2=.free->sc.names.lookup y.1=some .cell:=by decide +kernel)
    (hlook:∀ y ∈ scope.names,y.2=.free->scope.names.lookup y.1=some .free:=by decide +kernel) (len:js.length=NN.length:=by rfl)
    (hout:∀ i ∈ List.range js.length,∀ j ∈ (js.getD i none).toList,∃ x ∈ NN[i]?.toList,N[j]?=some x /\ scope.names.lookup x=some .free:=by decide +kernel) :
    CompSc (cxOf CX P w K mg base N qual sc f cdv A outer s H E).nox NN scope (so0 (cxOf CX P w K mg base N qual sc f cdv A outer s H E).nox.env.cells scope.names []) js :=
 CompSc.free (X:=(cxOf CX P w K mg base N qual sc f cdv A outer s H E).nox) hcell hk hfn hn hfree hlook (λ x h=>by
  obtain ⟨c,hc⟩:=ud1 (n:=_) h
  exact Option.isSome_iff_exists.mpr ⟨c,hc⟩) len λ i hi j hj=>by
   obtain ⟨x,h1,h2,h3⟩:=hout i hi j (by rw [hj]; simp)
   exact ⟨x,by simpa using h1,h2,h3⟩
section
variable {X:Cx} {NN:List Str} {scope:Scope} {cl:List (Str × Addr)} {js:List (Option Nat)}
theorem wm3 {elt target iter:Expr} {ifs:List Expr} {pos:Pos} {wi:TI} {g:TG} {tc:TT} {te:TE} (hc:X.calm=true) (S:CompSc X NN scope cl js) (hi:PI X target iter wi)
    (hg:∀ C fp s₀ H₀ pn,PG (xd0 X NN scope cl C fp s₀ H₀ pn) target g) (ht:∀ C fp s₀ H₀ pn,PTs (xd0 X NN scope cl C fp s₀ H₀ pn) ifs tc) (he:∀ C fp s₀ H₀ pn,PE (xd0 X NN scope cl C fp s₀ H₀ pn) elt te)
    (hs:∀ x,foldedSetIterable iter X.env x=pure x) {use:Option (Value->Sem Unit)} {Q':Value->Shared->Prop} {pins:List (Addr × Obj)} {s:Shared} {σ:L2.St} {H:Hp} {Q:VK} (I:Inv X pins σ H s) (h:yy1 js wi g tc te σ H Q)
    (hu:∀ (p0 C:Addr) (H':Hp) (s':Shared) (m':Str->Option Value),Inv X pins σ H' s'->s'.heap.Ns C m'->H' C=none->C ≠ X.env.locals->X.s₀.heap.objs.size<=C->(∀ x c,X.env.cells.lookup x=some c->c ≠ C)->(∀ p ∈ X.pn ++ pins,p.1 ≠ C)->Q (.ref p0) H' ->
     compPost (model X.prog X.w) X.A X.xe use Q' (.ref p0) C (.ok .next) s') :
    wpAny (model X.prog X.w) X.A (comprehension (.ListComp elt [⟨target,iter,ifs,0⟩] scope pos) scope X.env (firstIterPos [⟨target,iter,ifs,0⟩] pos) (newList []) (firstAsync [⟨target,iter,ifs,0⟩]) (firstIter [⟨target,iter,ifs,0⟩] X.env) use) Q' X.xe s:=by
 refine wpAny_comprehension_free (use:=use) rfl hs S.clos S.kind S.names (thn (hi pins s σ H _ I h) λ xv s1 h1=>thn h1 λ itv s2 h2=>?_)
 obtain ⟨it,fp,tn,J,H2,rfl,I2,T,st2,f2,hW⟩:=h2
 refine wpAny_newObj_type (wpAny_newFunctionEnv S.cell (by intro y hy; simp at hy) (λ h₁ hns₁ hsb₁=>?_) S.kind)
 dsimp only at hns₁ hsb₁ ⊢
 have hD:H2 s2.heap.objs.size=none:=I2.hok.fresh (Nat.le_refl _)
 have I3:Inv X pins σ (upd H2 s2.heap.objs.size (.lst [])) { s2 with heap:=s2.heap.push { cls:=.type "list",dict:=none,data:=.seq ([]:List Value).toArray } } :=
  I2.lnew (t':=s2.toks) (its:=[]) .nil (by rw [sizeLine_eq]; decide)
 generalize hsD:({ s2 with heap:=s2.heap.push { cls:=.type "list",dict:=none,data:=.seq ([]:List Value).toArray } }:Shared)=sD at I3
 have eh:sD.heap=s2.heap.push { cls:=.type "list",dict:=none,data:=.seq ([]:List Value).toArray }:=by rw [<- hsD]
 have es:∀ (h:Heap) (tk:Nat),({ s2 with heap:=h,toks:=tk }:Shared)={ sD with heap:=h,toks:=tk }:=λ h tk=>by rw [<- hsD]
 have hsz:s2.heap.objs.size < sD.heap.objs.size:=by rw [eh,Heap.size_push]; exact Nat.lt_succ_self _
 rw [<- eh] at hns₁ hsb₁ ⊢
 generalize hp0:s2.heap.objs.size=p0 at *
 have up:∀ b u,s2.heap.get? b=some u->sD.heap.get? b=some u:=λ b u e=>by rw [eh]; exact Heap.get?_push_of_some _ e
 have k:∀ b u,sD.heap.get? b=some u->h₁.get? b=some u:=λ b u e=>hsb₁.extBut b u (Nat.ne_of_lt (Heap.lt_size e)) (Heap.get?_push_of_some _ e)
 have f3:∀ b ∈ fp,FpOk X pins (upd H2 p0 (.lst [])) b /\ b < sD.heap.objs.size:=λ b hb=>by
  obtain ⟨o,ho,_⟩:=T.obj 0 _ st2 b hb
  have hlt:b < p0:=by rw [<- hp0]; exact Heap.lt_size ho
  refine ⟨⟨?_,(f2 b hb).2⟩,Nat.lt_trans hlt hsz⟩
  rw [vb0 (Nat.ne_of_lt hlt)]; exact (f2 b hb).1
 obtain ⟨W,⟨m0,w0⟩,turn⟩:=hW p0 hD
 have I4:=th1 (tk:=s2.toks + ([]:List (Str × Value)).length) hc S I3 f3 hns₁ k
 have st4:tn 0 h₁:=T.keep 0 _ _ st2 λ b _ o e=>k b o (up b o e)
 rw [es]
 generalize hX':xd0 X NN scope cl sD.heap.objs.size fp sD (upd H2 p0 (.lst [])) (X.pn ++ pins)=X' at I4
 have a1:X'.env=compEnvC scope cl sD.heap.objs.size X.env:=by rw [<- hX']
 have a2:X'.prog=X.prog:=by rw [<- hX']
 have a3:X'.w=X.w:=by rw [<- hX']
 have a4:X'.A=X.A:=by rw [<- hX']
 have a5:X'.K=X.K:=by rw [<- hX']
 have a6:X'.calm=true:=by rw [<- hX']; exact hc
 have a7:X'.xe=λ _ _=>False:=by rw [<- hX']
 have a8:X'.ex=fp:=by rw [<- hX']
 have T':Turn X'.prog X'.w X'.K target J fp it tn:=by rw [a2,a3,a5]; exact T
 have hg':PG X' target g:=by rw [<- hX']; exact hg _ _ _ _ _
 have ht':PTs X' ifs tc:=by rw [<- hX']; exact ht _ _ _ _ _
 have he':PE X' elt te:=by rw [<- hX']; exact he _ _ _ _ _
 have fin:∀ {σ':L2.St} {H':Hp} {s':Shared},Inv X' [] σ' H' s'->Q (.ref p0) H'->compPost (model X.prog X.w) X.A X.xe use Q' (.ref p0) sD.heap.objs.size (.ok .next) s':=λ {σ' H' s'} I' q=>by
  obtain ⟨m',hn',_⟩:=I'.loc
  rw [a1] at hn'
  have u:Un (frs X.stack) fp (upd H2 p0 (.lst [])) H' sD.heap s'.heap:=by
   have:=I'.base
   rw [<- hX'] at this
   exact this
  have hch:∀ b ∈ fp,(b ∈ X.ex \/ X.s₀.heap.objs.size<=b) /\ b ≠ X.env.locals /\ (∀ x c,X.env.cells.lookup x=some c->c ≠ b) /\ ∀ p ∈ X.pn ++ pins,p.1 ≠ b:=λ b hb=>by
   obtain ⟨_,z1,_,z3,z4,z5⟩:=(f3 b hb).1
   exact ⟨z3,z1,z4,z5⟩
  have os':s'.os=sD.os:=by
   have:=I'.os
   rw [<- hX'] at this
   exact this
  have hok':HOk X.prog X.w H' s'.heap:=by
   have:=I'.hok
   rw [<- hX'] at this
   exact this
  have I5:Inv X pins σ H' s':=I3.call' os' u hok' I'.bare hch
  have hC:H' sD.heap.objs.size=none:=by
   have:=I'.free
   rw [a1] at this
   exact this
  refine hu p0 _ H' s' m' I5 hn' hC (Nat.ne_of_gt I3.lt) I3.sz (λ x c e=>?_) (λ p hp=>?_) q
  ·obtain ⟨v,o,ho,_⟩:=I3.cell x c e
   exact Nat.ne_of_lt (Heap.lt_size ho)
  ·exact Nat.ne_of_lt (Heap.lt_size (I3.pin p hp).1)
 have fp4:∀ {H':Hp},(∀ b ∈ fp,H' b=none)->∀ b ∈ fp,FpOk X' [] H' b:=λ hn b hb=>by
  obtain ⟨_,z1,z2,z3,z4,z5⟩:=(f3 b hb).1
  rw [<- hX']
  refine ⟨hn b hb,Nat.ne_of_lt (f3 b hb).2,λ z=>?_,.inl hb,λ x c e=>z4 x c (S.sub x c e),λ p hp=>z5 p (by simpa using hp)⟩
  rcases List.mem_cons.mp (I3.stkSub _ z) with z | z
  ·exact z1 z
  ·exact z2 z
 have loop:∀ s₃:Shared,Inv X' [] (xo0 js σ) (upd H2 p0 (.lst [])) s₃->tn 0 s₃.heap ->
     codeAny (model X.prog X.w) X.A (.compLoop (.ListComp elt [⟨target,iter,ifs,0⟩] scope pos) 0 (.ref it) (.ref p0) (compEnvC scope cl sD.heap.objs.size X.env)) (compPost (model X.prog X.w) X.A X.xe use Q' (.ref p0) sD.heap.objs.size) s₃:=by
  intro s₃ I₃ st₃
  refine codeAny_loop rfl (λ n s'=>∃ i σ' H',Inv X' [] σ' H' s' /\ tn i s'.heap /\ (∀ b ∈ fp,H' b=none) /\ W i n σ' H') (λ n s' hI=>?_) m0 ⟨0,xo0 js σ,_,I₃,st₃,λ b hb=>(f3 b hb).1.1,w0⟩
  obtain ⟨i,σ3,H3,J3,st3,fr3,w3⟩:=hI
  have tr:=turn i n σ3 H3 w3
  show wpAny _ X.A ((compTurn (.ListComp elt [⟨target,iter,ifs,0⟩] scope pos) 0 (.ref it) (.ref p0) (compEnvC scope cl sD.heap.objs.size X.env)).onRaise (λ x=>do noteFrame x (compEnvC scope cl sD.heap.objs.size X.env); theTreesLotGoes x)) _ _ s'
  refine wpAny_noted ?_
  rw [compTurn_list,<- a1,<- a2,<- a3,<- a4]
  have nof:∀ {α:Type} {t:Sem α} {Q':α->Shared->Prop} {s'':Shared} {E:Value->Shared->Prop},wpAny (model X'.prog X'.w) X'.A t Q' X'.xe s''->wpAny (model X'.prog X'.w) X'.A t Q' E s'':=λ h=>wpAny_mono h (λ _ _ q=>q) λ _ _ z=>by rw [a7] at z; exact z.elim
  rcases tr with ⟨stop,qn⟩ | ⟨go,step⟩
  ·refine wpAny_bind (wpAny_standAt (wpAny_bind (nof (thn (T'.done X' rfl rfl rfl a6 i [] s' σ3 H3 X'.xe J3 (fp4 fr3) st3 stop) λ r s4 ⟨hr,J4⟩=>?_))))
   subst hr
   refine wpAny_pure ?_
   show compPost (model X'.prog X'.w) X'.A X.xe use Q' (.ref p0) sD.heap.objs.size (.ok .next) s4
   rw [a2,a3,a4]
   exact fin J4 qn
  ·refine wpAny_bind (wpAny_standAt (wpAny_bind (nof (thn (T'.item X' rfl rfl rfl a6 i [] s' σ3 H3 X'.xe J3 (fp4 fr3) st3 go) λ r s4 ⟨u,hr,h4⟩=>?_))))
   subst hr
   refine wpAny_bind (nof (thn h4 λ _ s5 ⟨x,H5,I5,r5,y5,st5,fr5⟩=>?_))
   have I5':=I5.pinned (fp4 fr5) (T.obj _ _ st5)
   refine wpAny_bind (nof (thn (hg' _ s5 σ3 H5 x u _ I5' r5 (step x H5 y5)) λ _ s6 ⟨σ6,H6,I6,q6⟩=>?_))
   refine wpAny_bind (nof (thn (ht' _ s6 σ6 H6 _ I6 q6) λ ok s7 ⟨H7,I7,q7⟩=>?_))
   have again:∀ {s8:Shared} {σ8:L2.St} {H8:Hp},Inv X' ([] ++ tx0 fp s5.heap) σ8 H8 s8->(∃ m',m' < n /\ W (i + 1) m' σ8 H8)->∃ m,m < n /\ ∃ i σ' H',Inv X' [] σ' H' s8 /\ tn i s8.heap /\ (∀ b ∈ fp,H' b=none) /\ W i m σ' H':=λ {s8 σ8 H8} I8 ⟨m',hm,w8⟩=>by
    refine ⟨m',hm,i + 1,σ8,H8,I8.unpinned,T.keep _ _ _ st5 λ b hb o e=>(I8.pin (b,o) (mem_append_right _ (mem_append_right _ (tg0 hb e)))).1,λ b hb=>?_,w8⟩
    obtain ⟨o,e,d⟩:=T.obj _ _ st5 b hb
    exact (I8.pin (b,o) (mem_append_right _ (mem_append_right _ (tg0 hb e)))).2.1
   cases ok with
   | false=>exact wpAny_pure ⟨rfl,again I7 q7⟩
   | true =>
    refine wpAny_bind (wpAny_bind (nof (thn (he' _ s7 σ6 H7 _ I7 q7) λ xv s8 ⟨y,H8,I8,r8,ys,q8,hlen,q9⟩=>wpAny_bind (nof ?_))))
    refine thn (vt0 (X:=X') _ s8 σ6 H8 (.ref p0) [y] (.ref p0) [xv] (λ v H9=>v=.non /\ H9=upd H8 p0 (.lst (ys ++ [y]))) I8 rfl (.cons r8 .nil) ⟨p0,ys,y,rfl,rfl,q8,hlen,rfl,rfl⟩) λ rv s9 ⟨v9,H9,I9,_,_,e9⟩=>?_
    subst e9
    exact wpAny_pure (wpAny_pure ⟨rfl,again I9 q9⟩)
 exact codeAny_compStart_list (loop _ I4 st4) (T.self X.A 0 _ _ _ st4 (loop _ I4 st4))
theorem sg3 {i:Nat} {x:Str} {px apos:Pos} {elt target iter:Expr} {ifs:List Expr} {pos:Pos} {wi:TI} {g:TG} {tc:TT} {te:TE} (hN:X.N.Nodup) (hi':X.N[i]?=some x) (hl:X.env.scope.names.lookup x=some .local) (hc:X.calm=true) (S:CompSc X NN scope cl js) (hi:PI X target iter wi)
    (hg:∀ C fp s₀ H₀ pn,PG (xd0 X NN scope cl C fp s₀ H₀ pn) target g) (ht:∀ C fp s₀ H₀ pn,PTs (xd0 X NN scope cl C fp s₀ H₀ pn) ifs tc) (he:∀ C fp s₀ H₀ pn,PE (xd0 X NN scope cl C fp s₀ H₀ pn) elt te)
    (hs:∀ x,foldedSetIterable iter X.env x=pure x) (hw:swapsWith (.ListComp elt [⟨target,iter,ifs,0⟩] scope pos) (some (.Name x px)) apos.line X.env=pure true) :
    PS X (.Assign [.Name x px] (.ListComp elt [⟨target,iter,ifs,0⟩] scope pos) apos) (tAsg (yy1 js wi g tc te) (yl3 i)):=by
 intro pins s σ H D I h
 rw [exec_Assign_Name_used _ _ _ _ hw]
 refine wpAny_bind (wpAny_standAt (wpAny_bind ?_))
 show wpAny _ _ (comprehension (.ListComp elt [⟨target,iter,ifs,0⟩] scope pos) scope X.env (firstIterPos [⟨target,iter,ifs,0⟩] pos) (newList []) (firstAsync [⟨target,iter,ifs,0⟩]) (firstIter [⟨target,iter,ifs,0⟩] X.env) (some (assign (.Name x px) X.env)) >>= λ _=>pure ()) _ _ s
 refine wpAny_bind (wpAny_mono (wm3 (use:=some (assign (.Name x px) X.env)) (Q':=λ _ s'=>SP X pins D .next s') hc S hi hg ht he hs I h λ p0 C H' s' m' I5 hn hC n1 n2 n3 n4 q=>?_) (λ _ s' hq=>wpAny_pure (wpAny_pure hq)) λ _ _ e=>e)
 show wpAny _ _ (assign (.Name x px) X.env (.ref p0)) _ _ s'
 refine wpAny_assign_Name (we1 I5 hN hi' (.inl hl) (v:=.ref p0) rfl (λ s2 I6 ⟨b,sb,hb⟩=>?_) (.inr hl))
 have nb:C ≠ b:=by
  rcases hb with hb | hb
  ·rw [hb]; exact n1
  ·exact Ne.symm (n3 x b hb)
 exact ⟨m',hn.sameBut sb nb,λ h' sb'=>⟨_,H',I6.turned (t':=s2.toks) (λ b o hb e=>sb'.extBut b o hb e) hC n1 (.inr n2) n3 n4,q⟩⟩
end
section
variable {X:Cx} {elt target iter:Expr} {ifs:List Expr} {pos:Pos} {ti:TI3} {g:TG3} {tc:TT3} {te:TE3} {NN:List Str} {scope:Scope} {cl:List (Str × Addr)} {js:List (Option Nat)}
theorem un1 {i:Nat} {x:Str} {px apos:Pos} (hN:X.N.Nodup) (hc:X.calm=true) (S:CompSc X NN scope cl js) (hi:RI X target iter ti) (hg:∀ C fp s₀ H₀ pn,RG (xd0 X NN scope cl C fp s₀ H₀ pn) target g)
    (ht:∀ C fp s₀ H₀ pn,RTs (xd0 X NN scope cl C fp s₀ H₀ pn) ifs tc) (he:∀ C fp s₀ H₀ pn,RE (xd0 X NN scope cl C fp s₀ H₀ pn) elt te)
    (hs:∀ x,foldedSetIterable iter X.env x=pure x) (hi':X.N[i]?=some x:=by rfl) (hl:X.env.scope.names.lookup x=some .local:=by rfl)
    (hw:swapsWith (.ListComp elt [⟨target,iter,ifs,0⟩] scope pos) (some (.Name x px)) apos.line X.env=pure true:=by rfl):RS X (.Assign [.Name x px] (.ListComp elt [⟨target,iter,ifs,0⟩] scope pos) apos) (set3 i (comp3 js ti g tc te)):=by
 obtain ⟨wi,pi,ri⟩:=hi
 let gU:TG:=λ v σ H Q=>∀ (r:TG3),r=g->∃ d ρ μ Q3,RSt X.K H ρ σ /\ RelM X.K μ H /\ RelD X.K H d v /\ g d ρ μ Q3 /\ (∀ ρ' μ' σ' H',Q3 ρ' μ'->Kp H H'->RSt X.K H' ρ' σ'->RelM X.K μ' H'->Q σ' H')
 let tU:TT:=λ σ H Q=>∃ ρ μ Q3,RSt X.K H ρ σ /\ RelM X.K μ H /\ tc ρ μ Q3 /\ (∀ b μ' H',Q3 b μ'->Kp H H'->RelM X.K μ' H'->Q b H')
 let eU:TE:=λ σ H Q=>∃ ρ μ Q3,RSt X.K H ρ σ /\ RelM X.K μ H /\ te ρ μ Q3 /\ Ks X.K H Q3 Q
 have hg':∀ C fp s₀ H₀ pn,PG (xd0 X NN scope cl C fp s₀ H₀ pn) target gU:=λ C fp s₀ H₀ pn=>by
  obtain ⟨tv,p,r⟩:=hg C fp s₀ H₀ pn
  intro pins s σ H v u Q I rv h
  obtain ⟨d,ρ,μ,Q3,a1,a2,a3,a4,a5⟩:=h g rfl
  exact p pins s σ H v u Q I rv (r v d σ H Q ρ μ Q3 a1 a2 a3 a4 a5)
 have ht':∀ C fp s₀ H₀ pn,PTs (xd0 X NN scope cl C fp s₀ H₀ pn) ifs tU:=λ C fp s₀ H₀ pn=>by
  obtain ⟨tv,p,r⟩:=ht C fp s₀ H₀ pn
  intro pins s σ H Q I h
  obtain ⟨ρ,μ,Q3,a1,a2,a3,a4⟩:=h
  exact p pins s σ H Q I (r σ H Q ρ μ Q3 a1 a2 a3 a4)
 have he':∀ C fp s₀ H₀ pn,PE (xd0 X NN scope cl C fp s₀ H₀ pn) elt eU:=λ C fp s₀ H₀ pn=>by
  obtain ⟨tv,p,r⟩:=he C fp s₀ H₀ pn
  intro pins s σ H Q I h
  obtain ⟨ρ,μ,Q3,a1,a2,a3,a4⟩:=h
  exact p pins s σ H Q I (r σ H Q ρ μ Q3 a1 a2 a3 a4)
 have rd:RdE X.K (yy1 js wi gU tU eU) (comp3 js ti g tc te):=RdE.comp ri (λ v d σ H Q ρ μ Q3 a1 a2 a3 a4 a5 _ _=>⟨d,ρ,μ,Q3,a1,a2,a3,a4,a5⟩) (λ σ H Q ρ μ Q3 a1 a2 a3 a4=>⟨ρ,μ,Q3,a1,a2,a3,a4⟩) (λ σ H Q ρ μ Q3 a1 a2 a3 a4=>⟨ρ,μ,Q3,a1,a2,a3,a4⟩)
 exact ⟨_,sg3 hN hi' hl hc S pi hg' ht' he' hs hw,λ σ H D ρ μ D3 s m h k=>rd σ H _ ρ μ _ s m h λ d μ1 v H1 h1 k1 r1 m1=>k.nx _ _ _ _ h1 k1 ((s.mono k1).set i r1) m1⟩
theorem tp0 {i:Nat} {x:Str} {px apos:Pos} (hN:X.N.Nodup) (hf:∀ y ∈ scope.names,y.2 ≠ .free) (hcl:∀ y ∈ scope.names,y.2 ≠ .cell) (hn:∀ y ∈ scope.names,y.2=.local->scope.names.lookup y.1=some .local) (hi:RI X target iter ti) (hg:∀ C fp s₀ H₀ pn,RG (xd0 X NN scope [] C fp s₀ H₀ pn) target g)
    (ht:∀ C fp s₀ H₀ pn,RTs (xd0 X NN scope [] C fp s₀ H₀ pn) ifs tc) (he:∀ C fp s₀ H₀ pn,RE (xd0 X NN scope [] C fp s₀ H₀ pn) elt te) (hc:X.calm=true:=by rfl) (hk:scope.kind=.function:=by rfl)
    (hs:∀ x,foldedSetIterable iter X.env x=pure x:=by intro _; rfl) (hi':X.N[i]?=some x:=by rfl) (hl:X.env.scope.names.lookup x=some .local:=by rfl)
    (hw:swapsWith (.ListComp elt [⟨target,iter,ifs,0⟩] scope pos) (some (.Name x px)) apos.line X.env=pure true:=by rfl):RS X (.Assign [.Name x px] (.ListComp elt [⟨target,iter,ifs,0⟩] scope pos) apos) (set3 i (comp3 (NN.map λ _=>none) ti g tc te)) :=
 un1 hN hc (CompSc.closed hf hcl hk hn) hi hg ht he hs hi' hl hw
end
end Pv
namespace Pv
open PySem
abbrev Rise (xs:Array Nat):Prop:=xs.toList.Pairwise (· < ·)
theorem un0 {xs:Array Nat} (h:Rise xs) {i j a b:Nat} (hi:xs[i]?=some a) (hj:xs[j]?=some b) (l:i < j):a < b:=by
 have h':=List.pairwise_iff_getElem.mp h
 rw [<- getElem?_toList] at hi hj
 obtain ⟨hi1,hi2⟩:=List.getElem?_eq_some_iff.mp hi
 obtain ⟨hj1,hj2⟩:=List.getElem?_eq_some_iff.mp hj
 rw [<- hi2,<- hj2]
 exact h' i j hi1 hj1 l
theorem zq0 (xs:Array Nat) (j:Nat) (h:Rise xs):∀ (fuel lo hi:Nat),hi - lo<=fuel->lo<=hi->hi<=xs.size->(∀ i a,i < lo->xs[i]?=some a->a < j)->(∀ i a,hi<=i->xs[i]?=some a->j<=a) ->
    (∀ i a,xs[i]?=some a->(i < SetTable.below.go xs j fuel lo hi ↔ a < j)) /\ SetTable.below.go xs j fuel lo hi<=xs.size
 | 0,lo,hi,f,l1,l2,a1,a2=>by
  have e:lo=hi:=by omega
  subst e
  unfold SetTable.below.go
  refine ⟨λ i a q=>⟨λ c=>a1 i a c q,λ c=>?_⟩,l2⟩
  by_cases z:i < lo
  ·exact z
  ·have:=a2 i a (by omega) q; omega
 | fuel + 1,lo,hi,f,l1,l2,a1,a2=>by
  unfold SetTable.below.go
  split
  ·next c =>
   have m1:(lo + hi) / 2 < hi:=by omega
   have m2:lo<=(lo + hi) / 2:=by omega
   have hm:xs[(lo + hi) / 2]?=some (xs.getD ((lo + hi) / 2) j):=by
    have:(lo + hi) / 2 < xs.size:=by omega
    simp [Array.getD,this]
   dsimp only
   split
   ·next c2 =>
    refine zq0 xs j h fuel _ _ (by omega) (by omega) l2 (λ i a z q=>?_) a2
    by_cases y:i=(lo + hi) / 2
    ·subst y; rw [hm] at q; cases q; exact c2
    ·exact Nat.lt_trans (un0 h q hm (by omega)) c2
   ·next c2 =>
    refine zq0 xs j h fuel _ _ (by omega) (by omega) (by omega) a1 (λ i a z q=>?_)
    by_cases y:i=(lo + hi) / 2
    ·subst y; rw [hm] at q; cases q; omega
    ·have:=un0 h hm q (by omega); omega
  ·next c =>
   have e:lo=hi:=by omega
   subst e
   refine ⟨λ i a q=>⟨λ c=>a1 i a c q,λ c=>?_⟩,l2⟩
   by_cases z:i < lo
   ·exact z
   ·have:=a2 i a (by omega) q; omega
theorem vk0 {xs:Array Nat} (h:Rise xs) (j:Nat) {i a:Nat} (q:xs[i]?=some a):i < SetTable.below xs j ↔ a < j :=
 (zq0 xs j h xs.size 0 xs.size (by omega) (by omega) (Nat.le_refl _) (λ _ _ z=>absurd z (Nat.not_lt_zero _)) (λ i a z q=>by rw [getElem?_eq_none z] at q; cases q)).1 i a q
theorem xn0 {xs:Array Nat} (h:Rise xs) (j:Nat):SetTable.below xs j<=xs.size :=
 (zq0 xs j h xs.size 0 xs.size (by omega) (by omega) (Nat.le_refl _) (λ _ _ z=>absurd z (Nat.not_lt_zero _)) (λ i a z q=>by rw [getElem?_eq_none z] at q; cases q)).2
theorem yn0 {xs:Array Nat} (h:Rise xs) {i j:Nat} (q:xs[i]?=some j):SetTable.below xs j=i:=by
 have h1:=vk0 h j q
 have h2:=xn0 h j
 by_cases c:SetTable.below xs j < i
 ·have hi:=(Array.getElem?_eq_some_iff.mp q).1
  obtain ⟨a,ha⟩:∃ a,xs[SetTable.below xs j]?=some a:=⟨_,Array.getElem?_eq_getElem (by omega)⟩
  have h3:=vk0 h j ha
  have h4:=un0 h ha q c
  omega
 ·omega
theorem wg1 {xs:Array Nat} {j:Nat} (h:j ∈ xs.toList):∃ i:Nat,xs[i]?=some j:=by
 obtain ⟨i,hi⟩:=List.mem_iff_getElem?.mp h
 exact ⟨i,by rw [<- getElem?_toList]; exact hi⟩
theorem sy0 {xs:Array Nat} {i j:Nat} (h:xs[i]?=some j):j ∈ xs.toList:=List.mem_iff_getElem?.mpr ⟨i,by rw [getElem?_toList]; exact h⟩
theorem ul0 {xs:Array Nat} (h:Rise xs) (j:Nat):SetTable.has xs j=true ↔ j ∈ xs.toList:=by
 unfold SetTable.has
 constructor
 ·intro z; exact sy0 (eq_of_beq z)
 ·intro z
  obtain ⟨i,hi⟩:=wg1 z
  rw [yn0 h hi,hi]
  exact beq_self_eq_true _
theorem ue1 {t:SetTable} (h:Rise t.place) {i j:Nat}:t.slot j=.live i ↔ t.place[i]?=some j:=by
 unfold SetTable.slot
 dsimp only
 constructor
 ·intro z
  split at z
  ·next c=>cases z; exact eq_of_beq c
  ·split at z <;> cases z
 ·intro z
  rw [yn0 h z,z]
  simp
theorem sw0 {t:SetTable} (h:Rise t.place) (hd:Rise t.dummies) {j:Nat} (dj:j ∈ t.dummies.toList->j ∉ t.place.toList):t.slot j=.dummy ↔ j ∈ t.dummies.toList:=by
 unfold SetTable.slot
 dsimp only
 constructor
 ·intro z
  split at z
  ·cases z
  ·split at z
   ·next c=>exact (ul0 hd j).mp c
   ·cases z
 ·intro z
  rw [if_neg,if_pos ((ul0 hd j).mpr z)]
  intro c
  exact dj z (sy0 (eq_of_beq c))
theorem tw0 {t:SetTable} (h:Rise t.place) (hd:Rise t.dummies) {j:Nat}:t.slot j=.empty ↔ j ∉ t.place.toList /\ j ∉ t.dummies.toList:=by
 unfold SetTable.slot
 dsimp only
 constructor
 ·intro z
  split at z
  ·cases z
  ·next c =>
   split at z
   ·cases z
   ·next c2 =>
    refine ⟨λ m=>c ?_,λ m=>c2 ((ul0 hd j).mpr m)⟩
    obtain ⟨i,hi⟩:=wg1 m
    rw [yn0 h hi,hi]
    exact beq_self_eq_true _
 ·rintro ⟨z1,z2⟩
  rw [if_neg (λ c=>z1 (sy0 (eq_of_beq c))),if_neg (λ c=>z2 ((ul0 hd j).mp c))]
def mkT (mask:Nat):SetTable:={ SetTable.fresh 0 0 false with mask:=mask }
def trS (mask:Nat) (h:Int):Nat->SetTable.Probe
 | 0=>(mkT mask).probeStart h
 | n + 1=>(mkT mask).advance (trS mask h n)
abbrev tr (mask:Nat) (h:Int) (n:Nat):Nat:=(trS mask h n).j
theorem xj1 (t:SetTable) (p:SetTable.Probe) (d:Option Nat):t.advance { p with dummy:=d }={ t.advance p with dummy:=d }:=by
 unfold SetTable.advance
 dsimp only
 split <;> rfl
def seg (mask i perturb:Nat):SetTable.Probe:={ j:=i,more:=SetTable.runEnd mask i - i,i:=i,perturb:=perturb,dummy:=none }
theorem run9 (mask i:Nat):SetTable.runEnd mask i - i<=9:=by unfold SetTable.runEnd; split <;> omega
theorem yv3 (mask i:Nat):i<=SetTable.runEnd mask i:=by unfold SetTable.runEnd; split <;> omega
theorem zv3 (mask i:Nat) (h:i<=mask):SetTable.runEnd mask i<=mask:=by unfold SetTable.runEnd; split <;> omega
theorem va1 {mask:Nat} {h:Int} {n i p:Nat} (e:trS mask h n=seg mask i p):∀ k,k<=SetTable.runEnd mask i - i->trS mask h (n + k)={ seg mask i p with j:=i + k,more:=SetTable.runEnd mask i - i - k }
 | 0,_=>e
 | k + 1,hk=>by
  have ih:=va1 e k (by omega)
  show (mkT mask).advance (trS mask h (n + k))=_
  rw [ih]
  unfold SetTable.advance
  dsimp only [seg]
  rw [if_pos (by omega)]
  congr 1
theorem vp0 {mask:Nat} {h:Int} {n i p:Nat} (e:trS mask h n=seg mask i p):trS mask h (n + (SetTable.runEnd mask i - i) + 1)=seg mask (SetTable.leap mask i p).1 (SetTable.leap mask i p).2:=by
 have ih:=va1 e _ (Nat.le_refl _)
 show (mkT mask).advance (trS mask h (n + (SetTable.runEnd mask i - i)))=_
 rw [ih]
 unfold SetTable.advance
 dsimp only [seg]
 rw [if_neg (by omega)]
 rfl
def lp (mask:Nat):Nat->Nat × Nat->Nat × Nat
 | 0,x=>x
 | k + 1,x=>lp mask k (SetTable.leap mask x.1 x.2)
theorem vv2 {mask:Nat} {h:Int}:∀ (K:Nat) {n i p:Nat},trS mask h n=seg mask i p->∃ m,n<=m /\ m<=n + 10 * K /\ trS mask h m=seg mask (lp mask K (i,p)).1 (lp mask K (i,p)).2
 | 0,n,i,p,e=>⟨n,Nat.le_refl _,Nat.le_refl _,e⟩
 | K + 1,n,i,p,e=>by
  obtain ⟨m,h1,h2,h3⟩:=vv2 K (vp0 e)
  have:=run9 mask i
  exact ⟨m,by omega,by omega,h3⟩
theorem vx2 (mask:Nat):∀ (a b:Nat) (x:Nat × Nat),lp mask (a + b) x=lp mask b (lp mask a x)
 | 0,b,x=>by rw [Nat.zero_add]; rfl
 | a + 1,b,x=>by rw [show a + 1 + b=(a + b) + 1 by omega]; exact vx2 mask a b _
theorem wx2 (mask:Nat):∀ (k:Nat) (x:Nat × Nat),x.2 < 32 ^ k->(lp mask k x).2=0
 | 0,x,h=>by simp at h; exact h
 | k + 1,x,h=>wx2 mask k _ (by show x.2 / 32 < 32 ^ k; rw [Nat.pow_succ] at h; omega)
def f0 (mask i:Nat):Nat:=(i * 5 + 1) % (mask + 1)
def fN (mask:Nat):Nat->Nat->Nat
 | 0,i=>i
 | k + 1,i=>fN mask k (f0 mask i)
theorem we2 (mask:Nat):∀ (k i:Nat),lp mask k (i,0)=(fN mask k i,0)
 | 0,i=>rfl
 | k + 1,i=>by
  show lp mask k (SetTable.leap mask i 0)=_
  have:SetTable.leap mask i 0=(f0 mask i,0):=by unfold SetTable.leap f0; simp
  rw [this,we2 mask k]
  rfl
theorem wq1 (mask:Nat):∀ (a b i:Nat),fN mask (a + b) i=fN mask b (fN mask a i)
 | 0,b,i=>by rw [Nat.zero_add]; rfl
 | a + 1,b,i=>by rw [show a + 1 + b=(a + b) + 1 by omega]; exact wq1 mask a b _
def okM:List Nat:=[7,15,31,63,127,255]
def orb (mask:Nat):Nat->Nat->List Nat
 | 0,_=>[]
 | k + 1,i=>i :: orb mask k (f0 mask i)
theorem wd2 (mask:Nat):∀ (k i r:Nat) (x:Nat),(orb mask k i)[r]?=some x->r < k /\ fN mask r i=x
 | 0,i,r,x,h=>by simp [orb] at h
 | k + 1,i,0,x,h=>by simp [orb] at h; exact ⟨by omega,h⟩
 | k + 1,i,r + 1,x,h=>by
  simp only [orb,getElem?_cons_succ] at h
  obtain ⟨a,b⟩:=wd2 mask k _ r x h
  exact ⟨by omega,b⟩
theorem ui3:∀ m ∈ okM,((List.range (m + 1)).all λ e=>(orb m (m + 1) 0).contains e)=true /\ fN m (m + 1) 0=0:=by decide +kernel
theorem zl4 {mask:Nat} (hm:mask ∈ okM) {i e:Nat} (hi:i<=mask) (he:e<=mask):∃ r,r<=mask /\ fN mask r i=e:=by
 obtain ⟨h1,h2⟩:=ui3 mask hm
 have g:∀ x,x<=mask->∃ r,r<=mask /\ fN mask r 0=x:=λ x hx=>by
  have:=List.all_eq_true.mp h1 x (List.mem_range.mpr (by omega))
  obtain ⟨r,hr⟩:=List.mem_iff_getElem?.mp (List.contains_iff_mem.mp this)
  obtain ⟨a,b⟩:=wd2 mask _ _ _ _ hr
  exact ⟨r,by omega,b⟩
 obtain ⟨a,ha,ea⟩:=g i hi
 obtain ⟨b,hb,eb⟩:=g e he
 by_cases c:a<=b
 ·refine ⟨b - a,by omega,?_⟩
  have:=wq1 mask a (b - a) 0
  rw [show a + (b - a)=b by omega,eb,ea] at this
  exact this.symm
 ·refine ⟨mask + 1 - a + b,by omega,?_⟩
  have h3:=wq1 mask a (mask + 1 - a) 0
  rw [show a + (mask + 1 - a)=mask + 1 by omega,h2,ea] at h3
  rw [wq1,<- h3,eb]
theorem vh4 {mask:Nat}:∀ (k:Nat) (x:Nat × Nat),x.1<=mask->(lp mask k x).1<=mask
 | 0,x,h=>h
 | k + 1,x,_=>vh4 k _ (by show (x.1 * 5 + 1 + x.2 / 32) % (mask + 1)<=mask; have:=Nat.mod_lt (x.1 * 5 + 1 + x.2 / 32) (show mask + 1 > 0 by omega); omega)
theorem so1 {mask:Nat} (hm:mask ∈ okM) {i p e:Nat} (hi:i<=mask) (hp:p < 2 ^ 64) (he:e<=mask):∃ K,K<=13 + mask /\ (lp mask K (i,p)).1=e:=by
 have h1:=wx2 mask 13 (i,p) (Nat.lt_of_lt_of_le hp (by decide))
 have h2:=vh4 13 (i,p) hi
 obtain ⟨r,hr,er⟩:=zl4 hm h2 he
 refine ⟨13 + r,by omega,?_⟩
 rw [vx2,show lp mask 13 (i,p)=((lp mask 13 (i,p)).1,0) from Prod.ext rfl h1,we2,er]
theorem wj2 (h:Int):SetTable.bits h < 2 ^ 64:=by
 unfold SetTable.bits
 have:=Int.emod_lt_of_pos h (show (0:Int) < 2 ^ 64 by decide)
 have:=Int.emod_nonneg h (show (2 ^ 64:Int) ≠ 0 by decide)
 omega
theorem ve1 (mask:Nat) (h:Int):trS mask h 0=seg mask (SetTable.bits h % (mask + 1)) (SetTable.bits h):=rfl
theorem xq3 {mask:Nat} (h:Int) (n:Nat):∃ n0 i p k,n=n0 + k /\ trS mask h n0=seg mask i p /\ i<=mask /\ p < 2 ^ 64 /\ k<=SetTable.runEnd mask i - i:=by
 induction n with
 | zero=>exact ⟨0,_,_,0,rfl,ve1 mask h,by have:=Nat.mod_lt (SetTable.bits h) (show mask + 1 > 0 by omega); omega,wj2 h,Nat.zero_le _⟩
 | succ n ih =>
  obtain ⟨n0,i,p,k,e1,e2,e3,e4,e5⟩:=ih
  by_cases c:k + 1<=SetTable.runEnd mask i - i
  ·exact ⟨n0,i,p,k + 1,by omega,e2,e3,e4,c⟩
  ·refine ⟨n0 + (SetTable.runEnd mask i - i) + 1,_,_,0,by omega,vp0 e2,?_,?_,Nat.zero_le _⟩
   ·show (i * 5 + 1 + p / 32) % (mask + 1)<=mask; have:=Nat.mod_lt (i * 5 + 1 + p / 32) (show mask + 1 > 0 by omega); omega
   ·show p / 32 < 2 ^ 64; omega
theorem zb3 {mask:Nat} (h:Int) (n:Nat):tr mask h n<=mask:=by
 obtain ⟨n0,i,p,k,e1,e2,e3,e4,e5⟩:=xq3 (mask:=mask) h n
 subst e1
 show (trS mask h (n0 + k)).j<=mask
 rw [va1 e2 k e5]
 show i + k<=mask
 have:=zv3 mask i e3
 omega
theorem tm1 {mask:Nat} (hm:mask ∈ okM) (h:Int) (n:Nat) {e:Nat} (he:e<=mask):∃ m,n<=m /\ m < n + 10 * SetTable.turns mask /\ tr mask h m=e:=by
 obtain ⟨n0,i,p,k,e1,e2,e3,e4,e5⟩:=xq3 (mask:=mask) h n
 have e6:=vp0 e2
 have l1:(SetTable.leap mask i p).1<=mask:=by show (i * 5 + 1 + p / 32) % (mask + 1)<=mask; have:=Nat.mod_lt (i * 5 + 1 + p / 32) (show mask + 1 > 0 by omega); omega
 obtain ⟨K,hK,eK⟩:=so1 hm l1 (show (SetTable.leap mask i p).2 < 2 ^ 64 by show p / 32 < 2 ^ 64; omega) he
 obtain ⟨m,h1,h2,h3⟩:=vv2 K e6
 have:=run9 mask i
 refine ⟨m,by omega,by unfold SetTable.turns; omega,?_⟩
 show (trS mask h m).j=e
 rw [h3]
 exact eK
def Occ (t:SetTable) (j:Nat):Prop:=j ∈ t.place.toList \/ j ∈ t.dummies.toList
structure TOk (t:SetTable) (hs:List Int):Prop where
 ris:Rise t.place
 rid:Rise t.dummies
 dj:∀ j,j ∈ t.dummies.toList->j ∉ t.place.toList
 inP:∀ j,j ∈ t.place.toList->j<=t.mask
 inD:∀ j,j ∈ t.dummies.toList->j<=t.mask
 msk:t.mask ∈ okM
 sz:t.place.size=hs.length
 reach:∀ (i j:Nat) (h:Int),t.place[i]?=some j->hs[i]?=some h->∃ m,tr t.mask h m=j /\ ∀ l,l < m->Occ t (tr t.mask h l)
theorem TOk.occ {t:SetTable} {hs:List Int} (k:TOk t hs) (j:Nat):Occ t j ↔ t.slot j ≠ .empty:=by
 rw [Ne,tw0 k.ris k.rid]
 unfold Occ
 constructor
 ·rintro (z | z) ⟨a,b⟩
  ·exact a z
  ·exact b z
 ·intro z
  by_cases c:j ∈ t.place.toList
  ·exact .inl c
  ·by_cases d:j ∈ t.dummies.toList
   ·exact .inr d
   ·exact absurd ⟨c,d⟩ z
theorem ww2:∀ (M:Nat) (L:List Nat),(∀ e,e < M->e ∈ L)->M<=L.length
 | 0,_,_=>Nat.zero_le _
 | M + 1,L,h=>by
  have h1:=h M (Nat.lt_succ_self _)
  have h2:=ww2 M (L.erase M) λ e he=>(List.mem_erase_of_ne (Nat.ne_of_lt he)).mpr (h e (Nat.lt_succ_of_lt he))
  rw [List.length_erase_of_mem h1] at h2
  have:=List.length_pos_of_mem h1
  omega
theorem TOk.hole {t:SetTable} {hs:List Int} (k:TOk t hs) (r:t.fill<=t.mask):∃ e,e<=t.mask /\ t.slot e=.empty:=by
 refine Classical.byContradiction λ c=>?_
 have:=ww2 (t.mask + 1) (t.place.toList ++ t.dummies.toList) λ e he=>by
  have h1:Occ t e:=(k.occ e).mpr λ z=>c ⟨e,by omega,z⟩
  exact List.mem_append.mpr h1
 rw [length_append] at this
 simp only [length_toList] at this
 unfold SetTable.fill at r
 omega
def Sk (t:SetTable) (hashAt:Nat->Int) (h:Int) (n m:Nat):Prop:=∀ l,n<=l->l < m->t.slot (tr t.mask h l) ≠ .empty /\ ∀ i,t.slot (tr t.mask h l)=.live i->hashAt i ≠ h
def DumOk (t:SetTable) (h:Int) (d:Option Nat) (n:Nat):Prop:=∀ x,d=some x->∃ l,l < n /\ tr t.mask h l=x /\ t.slot x=.dummy
theorem DumOk.up {t:SetTable} {h:Int} {d:Option Nat} {n m:Nat} (k:DumOk t h d n) (l:n<=m):DumOk t h d m:=λ x e=>by
 obtain ⟨a,b,c⟩:=k x e
 exact ⟨a,by omega,c⟩
theorem Sk.cons {t:SetTable} {hashAt:Nat->Int} {h:Int} {n m:Nat} (a:t.slot (tr t.mask h n) ≠ .empty) (b:∀ i,t.slot (tr t.mask h n)=.live i->hashAt i ≠ h) (k:Sk t hashAt h (n + 1) m):Sk t hashAt h n m:=λ l h1 h2=>by
 by_cases c:l=n
 ·subst c; exact ⟨a,b⟩
 ·exact k l (by omega) h2
theorem vl1 (t:SetTable) (hashAt:Nat->Int) (h:Int):∀ (fuel n:Nat) (d:Option Nat),DumOk t h d n->(∃ m,n<=m /\ m < n + fuel /\ t.slot (tr t.mask h m)=.empty) ->
    (∃ m d',SetTable.probe.go t hashAt h fuel { trS t.mask h n with dummy:=d }=some (.empty (tr t.mask h m) d') /\ n<=m /\ t.slot (tr t.mask h m)=.empty /\ Sk t hashAt h n m /\ DumOk t h d' m) ∨
    (∃ m i d',SetTable.probe.go t hashAt h fuel { trS t.mask h n with dummy:=d }=some (.candidate (tr t.mask h m) i { trS t.mask h (m + 1) with dummy:=d' }) /\ n<=m /\ t.slot (tr t.mask h m)=.live i /\ hashAt i=h /\ Sk t hashAt h n m /\ DumOk t h d' m)
 | 0,n,d,k,c=>by obtain ⟨m,a,b,_⟩:=c; omega
 | fuel + 1,n,d,k,c=>by
  have nx:t.slot (tr t.mask h n) ≠ .empty->∃ m,n + 1<=m /\ m < n + 1 + fuel /\ t.slot (tr t.mask h m)=.empty:=λ z=>by
   obtain ⟨m,a,b,e⟩:=c
   refine ⟨m,?_,by omega,e⟩
   by_cases y:m=n
   ·subst y; exact absurd e z
   ·omega
  unfold SetTable.probe.go
  dsimp only
  cases hs:t.slot (tr t.mask h n) with
  | empty=>exact .inl ⟨n,d,rfl,Nat.le_refl _,hs,λ l a b=>by omega,k⟩
  | dummy =>
   dsimp only
   have e1:t.advance { trS t.mask h n with dummy:=some (tr t.mask h n) }={ trS t.mask h (n + 1) with dummy:=some (tr t.mask h n) }:=xj1 t (trS t.mask h n) _
   rw [e1]
   have k':DumOk t h (some (tr t.mask h n)) (n + 1):=λ x e=>by cases e; exact ⟨n,Nat.lt_succ_self _,rfl,hs⟩
   have e2:t.slot (tr t.mask h n) ≠ .empty:=by rw [hs]; intro z; cases z
   have e3:∀ i,t.slot (tr t.mask h n)=.live i->hashAt i ≠ h:=λ i z=>by rw [hs] at z; cases z
   rcases vl1 t hashAt h fuel (n + 1) _ k' (nx e2) with ⟨m,d',a1,a2,a3,a4,a5⟩ | ⟨m,i,d',a1,a2,a3,a4,a5,a6⟩
   ·exact .inl ⟨m,d',a1,by omega,a3,a4.cons e2 e3,a5⟩
   ·exact .inr ⟨m,i,d',a1,by omega,a3,a4,a5.cons e2 e3,a6⟩
  | live i =>
   dsimp only
   have e1:t.advance { trS t.mask h n with dummy:=d }={ trS t.mask h (n + 1) with dummy:=d }:=xj1 t (trS t.mask h n) _
   rw [e1]
   have e2:t.slot (tr t.mask h n) ≠ .empty:=by rw [hs]; intro z; cases z
   by_cases c2:hashAt i=h
   ·rw [if_pos (by simpa using c2)]
    exact .inr ⟨n,i,d,rfl,Nat.le_refl _,hs,c2,λ l a b=>by omega,k⟩
   ·rw [if_neg (by simpa using c2)]
    have e3:∀ i,t.slot (tr t.mask h n)=.live i->hashAt i ≠ h:=λ i' z=>by rw [hs] at z; cases z; exact c2
    rcases vl1 t hashAt h fuel (n + 1) _ (k.up (Nat.le_succ _)) (nx e2) with ⟨m,d',a1,a2,a3,a4,a5⟩ | ⟨m,i,d',a1,a2,a3,a4,a5,a6⟩
    ·exact .inl ⟨m,d',a1,by omega,a3,a4.cons e2 e3,a5⟩
    ·exact .inr ⟨m,i,d',a1,by omega,a3,a4,a5.cons e2 e3,a6⟩
theorem TOk.probe {t:SetTable} {hs:List Int} (k:TOk t hs) (r:t.fill<=t.mask) (hashAt:Nat->Int) (h:Int) (n:Nat) (d:Option Nat) (kd:DumOk t h d n) :
    (∃ m d',t.probe hashAt h { trS t.mask h n with dummy:=d }=some (.empty (tr t.mask h m) d') /\ n<=m /\ t.slot (tr t.mask h m)=.empty /\ Sk t hashAt h n m /\ DumOk t h d' m) ∨
    (∃ m i d',t.probe hashAt h { trS t.mask h n with dummy:=d }=some (.candidate (tr t.mask h m) i { trS t.mask h (m + 1) with dummy:=d' }) /\ n<=m /\ t.slot (tr t.mask h m)=.live i /\ hashAt i=h /\ Sk t hashAt h n m /\ DumOk t h d' m):=by
 obtain ⟨e,he,ee⟩:=k.hole r
 obtain ⟨m,h1,h2,h3⟩:=tm1 k.msk h n he
 exact vl1 t hashAt h _ n d kd ⟨m,h1,h2,by rw [h3]; exact ee⟩
theorem zy0 {α:Type} {xs:List α} {p:Nat} {x:α} {i:Nat} (hp:p<=xs.length) (h:i < p):(xs.take p ++ x :: xs.drop p)[i]?=xs[i]?:=by
 rw [List.getElem?_append_left (by rw [length_take]; omega),List.getElem?_take_of_lt h]
theorem vy0 {α:Type} {xs:List α} {p:Nat} {x:α} (hp:p<=xs.length):(xs.take p ++ x :: xs.drop p)[p]?=some x:=by
 rw [List.getElem?_append_right (by rw [length_take]; omega),length_take,show p - min p xs.length=0 by omega]
 rfl
theorem wy0 {α:Type} {xs:List α} {p:Nat} {x:α} {i:Nat} (hp:p<=xs.length) (h:p<=i):(xs.take p ++ x :: xs.drop p)[i + 1]?=xs[i]?:=by
 rw [List.getElem?_append_right (by rw [length_take]; omega),length_take,show i + 1 - min p xs.length=(i - p) + 1 by omega,getElem?_cons_succ,getElem?_drop]
 congr 1
 omega
def insL {α:Type} (xs:List α) (p:Nat) (x:α):List α:=xs.take p ++ x :: xs.drop p
theorem yq0 {α:Type} (xs:List α) (p:Nat) (x y:α):y ∈ insL xs p x ↔ y=x \/ y ∈ xs:=by
 have e:xs=xs.take p ++ xs.drop p:=(List.take_append_drop p xs).symm
 unfold insL
 rw [mem_append,mem_cons]
 constructor
 ·rintro (z | z | z)
  ·exact .inr (List.mem_of_mem_take z)
  ·exact .inl z
  ·exact .inr (List.mem_of_mem_drop z)
 ·rintro (z | z)
  ·exact .inr (.inl z)
  ·rw [e] at z
   rcases List.mem_append.mp z with z | z
   ·exact .inl z
   ·exact .inr (.inr z)
theorem yi0 {α:Type} (xs:List α) (p:Nat) (x:α):(insL xs p x).length=xs.length + 1:=by
 unfold insL
 rw [length_append,length_cons,length_take,length_drop]
 omega
theorem xq1 {α β:Type} (f:α->β) (xs:List α) (p:Nat) (x:α):(insL xs p x).map f=insL (xs.map f) p (f x):=by
 unfold insL
 rw [map_append,map_cons,List.map_take,List.map_drop]
theorem vn2 {xs:Array Nat} (h:Rise xs) {j:Nat} (hn:j ∉ xs.toList):(insL xs.toList (SetTable.below xs j) j).Pairwise (· < ·):=by
 have b:∀ {i a:Nat},xs[i]?=some a->(i < SetTable.below xs j ↔ a < j):=λ q=>vk0 h j q
 have hb:=xn0 h j
 have e:xs.toList=xs.toList.take (SetTable.below xs j) ++ xs.toList.drop (SetTable.below xs j):=(List.take_append_drop _ _).symm
 have h':=h
 unfold Rise at h'
 rw [e] at h'
 obtain ⟨h1,h2,h3⟩:=List.pairwise_append.mp h'
 unfold insL
 refine List.pairwise_append.mpr ⟨h1,List.pairwise_cons.mpr ⟨λ x hx=>?_,h2⟩,λ x hx y hy=>?_⟩
 ·obtain ⟨i,hi⟩:=List.mem_iff_getElem?.mp hx
  rw [getElem?_drop,getElem?_toList] at hi
  have:=b hi
  have ne:x ≠ j:=λ z=>hn (by subst z; exact sy0 hi)
  omega
 ·have hxl:x < j:=by
    obtain ⟨i,hi⟩:=List.mem_iff_getElem?.mp hx
    have hlt:i < SetTable.below xs j:=by
     have:=(List.getElem?_eq_some_iff.mp hi).1
     rw [length_take] at this
     omega
    rw [List.getElem?_take_of_lt hlt,getElem?_toList] at hi
    exact (b hi).mp hlt
  rcases List.mem_cons.mp hy with rfl | hy
  ·exact hxl
  ·exact h3 x hx y hy
theorem vl3 {xs:Array Nat} (h:Rise xs) {p j:Nat} (hp:xs[p]?=some j) (x:Nat):x ∈ (SetTable.eraseAt xs p).toList ↔ x ∈ xs.toList /\ x ≠ j:=by
 have hpl:=(Array.getElem?_eq_some_iff.mp hp).1
 have e:(SetTable.eraseAt xs p).toList=xs.toList.take p ++ xs.toList.drop (p + 1):=by
  simp [SetTable.eraseAt,List.extract_eq_take_drop,List.take_of_length_le]
 rw [e,mem_append]
 constructor
 ·rintro (z | z)
  ·obtain ⟨i,hi⟩:=List.mem_iff_getElem?.mp z
   have hlt:i < p:=by
    have:=(List.getElem?_eq_some_iff.mp hi).1
    rw [length_take] at this
    omega
   rw [List.getElem?_take_of_lt hlt,getElem?_toList] at hi
   exact ⟨sy0 hi,Nat.ne_of_lt (un0 h hi hp hlt)⟩
  ·obtain ⟨i,hi⟩:=List.mem_iff_getElem?.mp z
   rw [getElem?_drop,getElem?_toList] at hi
   exact ⟨sy0 hi,Nat.ne_of_gt (un0 h hp hi (by omega))⟩
 ·rintro ⟨z,ne⟩
  obtain ⟨i,hi⟩:=wg1 z
  have hil:=(Array.getElem?_eq_some_iff.mp hi).1
  by_cases c:i < p
  ·exact .inl (List.mem_iff_getElem?.mpr ⟨i,by rw [List.getElem?_take_of_lt c,getElem?_toList]; exact hi⟩)
  ·have:i ≠ p:=λ y=>by subst y; rw [hp] at hi; cases hi; exact ne rfl
   exact .inr (List.mem_iff_getElem?.mpr ⟨i - (p + 1),by rw [getElem?_drop,show p + 1 + (i - (p + 1))=i by omega,getElem?_toList]; exact hi⟩)
theorem xd1 (xs:Array Nat) (p:Nat):(SetTable.eraseAt xs p).toList=xs.toList.take p ++ xs.toList.drop (p + 1):=by
 simp [SetTable.eraseAt,List.extract_eq_take_drop,List.take_of_length_le]
theorem un2 {xs:Array Nat} (h:Rise xs) (p:Nat):Rise (SetTable.eraseAt xs p):=by
 unfold Rise
 rw [xd1]
 have e:xs.toList=xs.toList.take p ++ xs.toList.drop p:=(List.take_append_drop p xs.toList).symm
 refine List.Pairwise.sublist ?_ h
 conv=>rhs; rw [e]
 refine List.Sublist.append (List.Sublist.refl _) ?_
 rw [<- List.drop_drop]
 exact List.drop_sublist _ _
theorem wl0 {t:SetTable} (k:Rise t.dummies) (j x:Nat):x ∈ (t.put j).1.dummies.toList ↔ x ∈ t.dummies.toList /\ x ≠ j:=by
 show x ∈ (if SetTable.has t.dummies j then SetTable.eraseAt t.dummies (SetTable.below t.dummies j) else t.dummies).toList ↔ _
 by_cases c:SetTable.has t.dummies j=true
 ·rw [if_pos c]
  obtain ⟨i,hi⟩:=wg1 ((ul0 k j).mp c)
  rw [yn0 k hi]
  exact vl3 k hi x
 ·rw [if_neg c]
  exact ⟨λ z=>⟨z,λ y=>by subst y; exact c ((ul0 k x).mpr z)⟩,λ z=>z.1⟩
theorem sf0 (t:SetTable) (j:Nat):(t.put j).1.place.toList=insL t.place.toList (SetTable.below t.place j) j:=SetTable.toList_insertAt _ _ _
theorem TOk.put {t:SetTable} {hs:List Int} (k:TOk t hs) {x:Nat} {h:Int} (hx:x ∉ t.place.toList) (hr:∃ m,tr t.mask h m=x /\ ∀ l,l < m->Occ t (tr t.mask h l)) :
    TOk (t.put x).1 (insL hs (SetTable.below t.place x) h):=by
 have hb:=xn0 k.ris x
 have sz:=k.sz
 have oc:∀ j,Occ t j->Occ (t.put x).1 j:=λ j o=>by
  unfold Occ
  rw [sf0,yq0,wl0 k.rid]
  by_cases c:j=x
  ·exact .inl (.inl c)
  ·exact o.elim (λ z=>.inl (.inr z)) λ z=>.inr ⟨z,c⟩
 have hxm:x<=t.mask:=by obtain ⟨m,e,_⟩:=hr; rw [<- e]; exact zb3 h m
 refine ⟨?_,?_,λ j a b=>?_,λ j a=>?_,λ j a=>?_,k.msk,?_,λ i j h' a b=>?_⟩
 ·unfold Rise; rw [sf0]; exact vn2 k.ris hx
 ·show Rise (if SetTable.has t.dummies x then SetTable.eraseAt t.dummies (SetTable.below t.dummies x) else t.dummies)
  split
  ·exact un2 k.rid _
  ·exact k.rid
 ·rw [wl0 k.rid] at a
  rw [sf0,yq0] at b
  rcases b with rfl | b
  ·exact a.2 rfl
  ·exact k.dj j a.1 b
 ·rw [sf0,yq0] at a
  rcases a with rfl | a
  ·exact hxm
  ·exact k.inP j a
 ·rw [wl0 k.rid] at a
  exact k.inD j a.1
 ·rw [<- length_toList,sf0,yi0,yi0,length_toList,sz]
 ·have lp:SetTable.below t.place x<=t.place.toList.length:=by rw [length_toList]; exact hb
  have lh:SetTable.below t.place x<=hs.length:=by rw [<- sz]; exact hb
  rw [<- getElem?_toList,sf0] at a
  show ∃ m,tr t.mask h' m=j /\ ∀ l,l < m->Occ (t.put x).1 (tr t.mask h' l)
  unfold insL at a b
  by_cases c:i < SetTable.below t.place x
  ·rw [zy0 lp c,getElem?_toList] at a
   rw [zy0 lh c] at b
   obtain ⟨m,e,o⟩:=k.reach i j h' a b
   exact ⟨m,e,λ l hl=>oc _ (o l hl)⟩
  ·by_cases c2:i=SetTable.below t.place x
   ·subst c2
    rw [vy0 lp] at a
    rw [vy0 lh] at b
    cases a
    cases b
    obtain ⟨m,e,o⟩:=hr
    exact ⟨m,e,λ l hl=>oc _ (o l hl)⟩
   ·obtain ⟨i',rfl⟩:∃ i',i=i' + 1:=⟨i - 1,by omega⟩
    rw [wy0 lp (by omega),getElem?_toList] at a
    rw [wy0 lh (by omega)] at b
    obtain ⟨m,e,o⟩:=k.reach i' j h' a b
    exact ⟨m,e,λ l hl=>oc _ (o l hl)⟩
theorem vo2 {t:SetTable} {hs:List Int} (k:TOk t hs) {x:Nat}:(t.put x).1.fill<=t.fill + 1:=by
 unfold SetTable.fill
 have h1:(t.put x).1.place.size=t.place.size + 1:=by rw [<- length_toList,sf0,yi0,length_toList]
 have h2:(t.put x).1.dummies.size<=t.dummies.size:=by
  show (if SetTable.has t.dummies x then SetTable.eraseAt t.dummies (SetTable.below t.dummies x) else t.dummies).size<=_
  split
  ·rw [<- length_toList,xd1,length_append,length_take,length_drop,length_toList]; omega
  ·exact Nat.le_refl _
 omega
theorem yv1 {t:SetTable} {hs:List Int} (k:TOk t hs) {x:Nat} (hd:t.slot x=.dummy):(t.put x).1.fill<=t.fill:=by
 unfold SetTable.fill
 have h1:(t.put x).1.place.size=t.place.size + 1:=by rw [<- length_toList,sf0,yi0,length_toList]
 have m:=(sw0 k.ris k.rid (k.dj x)).mp hd
 obtain ⟨i,hi⟩:=wg1 m
 have hil:=(Array.getElem?_eq_some_iff.mp hi).1
 have h2:(t.put x).1.dummies.size + 1<=t.dummies.size:=by
  show (if SetTable.has t.dummies x then SetTable.eraseAt t.dummies (SetTable.below t.dummies x) else t.dummies).size + 1<=_
  rw [if_pos ((ul0 k.rid x).mpr m),yn0 k.rid hi,<- length_toList,xd1,length_append,length_take,length_drop,length_toList]
  omega
 omega
theorem zh1 (mask:Nat) (h:Int) (owner:Array (Option Nat)):∀ (fuel n i p:Nat),trS mask h n=seg mask i p->(∃ K,K < fuel /\ owner.getD (lp mask K (i,p)).1 (some 0)=none) ->
    ∃ m,SetTable.layClean.free mask owner fuel i p=some (tr mask h m) /\ n<=m /\ owner.getD (tr mask h m) (some 0)=none /\ ∀ l,n<=l->l < m->owner.getD (tr mask h l) (some 0) ≠ none
 | 0,n,i,p,e,c=>by obtain ⟨K,a,_⟩:=c; omega
 | fuel + 1,n,i,p,e,c=>by
  have trk:∀ k,k<=SetTable.runEnd mask i - i->tr mask h (n + k)=i + k:=λ k hk=>by
   show (trS mask h (n + k)).j=_
   rw [va1 e k hk]
  have rl:=yv3 mask i
  unfold SetTable.layClean.free
  cases hf:(List.range (SetTable.runEnd mask i + 1 - i)).find? (λ k=>(owner.getD (i + k) (some 0)).isNone) with
  | some k =>
   dsimp only
   obtain ⟨h1,h2,h3⟩:=List.find?_range_eq_some.mp hf
   have h2':k < SetTable.runEnd mask i + 1 - i:=List.mem_range.mp h2
   refine ⟨n + k,by rw [trk k (by omega)],by omega,by rw [trk k (by omega)]; simpa using h1,λ l a b=>?_⟩
   obtain ⟨l',rfl⟩:∃ l',l=n + l':=⟨l - n,by omega⟩
   rw [trk l' (by omega)]
   have:=h3 l' (by omega)
   intro z
   rw [z] at this
   simp at this
  | none =>
   dsimp only
   have h1:=List.find?_range_eq_none.mp hf
   have h1':∀ k,k<=SetTable.runEnd mask i - i->owner.getD (i + k) (some 0) ≠ none:=λ k hk z=>by
    have:=h1 k (by omega)
    rw [z] at this
    simp at this
   have c':∃ K,K < fuel /\ owner.getD (lp mask K (SetTable.leap mask i p)).1 (some 0)=none:=by
    obtain ⟨K,a,b⟩:=c
    cases K with
    | zero=>exact absurd b (h1' 0 (Nat.zero_le _))
    | succ K=>exact ⟨K,by omega,b⟩
   obtain ⟨m,a1,a2,a3,a4⟩:=zh1 mask h owner fuel _ _ _ (vp0 e) c'
   refine ⟨m,a1,by omega,a3,λ l b1 b2=>?_⟩
   by_cases z:l<=n + (SetTable.runEnd mask i - i)
   ·obtain ⟨l',rfl⟩:∃ l',l=n + l':=⟨l - n,by omega⟩
    rw [trk l' (by omega)]
    exact h1' l' (by omega)
   ·exact a4 l (by omega) b2
theorem ty2 {α β:Type} {f:α->Option β}:∀ {L:List α},(∀ j ∈ L,f j ≠ none)->(L.filterMap f).length=L.length
 | [],_=>rfl
 | j :: L,h=>by
  have h1:=h j (mem_cons_self ..)
  obtain ⟨b,hb⟩:∃ b,f j=some b:=by cases hq:f j with | none=>exact absurd hq h1 | some b=>exact ⟨b,rfl⟩
  rw [List.filterMap_cons_some hb,length_cons,length_cons,ty2 λ x hx=>h x (mem_cons_of_mem _ hx)]
theorem tc1 {α β:Type} {f g:α->Option β}:∀ {L:List α},(∀ j ∈ L,f j=g j)->L.filterMap f=L.filterMap g
 | [],_=>rfl
 | j :: L,h=>by
  rw [filterMap_cons,filterMap_cons,h j (mem_cons_self ..),tc1 λ x hx=>h x (mem_cons_of_mem _ hx)]
theorem uy2 {f g:Nat->Option Nat} {x k:Nat} (e1:f x=none) (e2:g x=some k) (e3:∀ y,y ≠ x->g y=f y):∀ {L:List Nat},L.Nodup->x ∈ L->(L.filterMap g).Perm (k :: L.filterMap f)
 | [],_,h=>by cases h
 | y :: L,nd,h=>by
  obtain ⟨n1,n2⟩:=List.nodup_cons.mp nd
  by_cases c:y=x
  ·subst c
   rw [List.filterMap_cons_some e2,List.filterMap_cons_none e1]
   refine List.Perm.cons _ (List.Perm.of_eq ?_)
   exact tc1 λ j hj=>e3 j λ z=>n1 (z ▸ hj)
  ·have ih:=uy2 e1 e2 e3 n2 (by rcases List.mem_cons.mp h with rfl | h; exact absurd rfl c; exact h)
   have e:=e3 y c
   cases hf:f y with
   | none=>rw [List.filterMap_cons_none (by rw [e,hf]),List.filterMap_cons_none hf]; exact ih
   | some b =>
    rw [List.filterMap_cons_some (by rw [e,hf]),List.filterMap_cons_some hf]
    exact (List.Perm.cons _ ih).trans (List.Perm.swap _ _ _)
structure OwnOk (mask:Nat) (hs:List Int) (owner:Array (Option Nat)):Prop where
 sz:owner.size=mask + 1
 perm:((List.range (mask + 1)).filterMap λ j=>owner.getD j none).Perm (List.range hs.length)
 reach:∀ j k,owner.getD j none=some k->∃ h,hs[k]?=some h /\ ∃ m,tr mask h m=j /\ ∀ l,l < m->owner.getD (tr mask h l) none ≠ none
theorem uc1 {owner:Array (Option Nat)} {j:Nat} (h:j < owner.size) (a b:Option Nat):owner.getD j a=owner.getD j b:=by simp [Array.getD,h]
theorem OwnOk.step {mask:Nat} (hm:mask ∈ okM) {hs:List Int} {owner:Array (Option Nat)} (k:OwnOk mask hs owner) (hl:hs.length<=mask) (h:Int) :
    ∃ x,SetTable.layClean.free mask owner (SetTable.turns mask) (SetTable.bits h % (mask + 1)) (SetTable.bits h)=some x /\ OwnOk mask (hs ++ [h]) (owner.setIfInBounds x (some hs.length)):=by
 have sz:=k.sz
 obtain ⟨e,he,ee⟩:∃ e,e<=mask /\ owner.getD e none=none:=by
  refine Classical.byContradiction λ c=>?_
  have h1:=ty2 (f:=λ j=>owner.getD j none) (L:=List.range (mask + 1)) λ j hj z=>c ⟨j,by have:=List.mem_range.mp hj; omega,z⟩
  rw [k.perm.length_eq,length_range,length_range] at h1
  omega
 have hi:SetTable.bits h % (mask + 1)<=mask:=by have:=Nat.mod_lt (SetTable.bits h) (show mask + 1 > 0 by omega); omega
 obtain ⟨K,hK,eK⟩:=so1 hm hi (wj2 h) he
 obtain ⟨m,a1,a2,a3,a4⟩:=zh1 mask h owner (SetTable.turns mask) 0 _ _ (ve1 mask h) ⟨K,by unfold SetTable.turns; omega,by rw [eK,uc1 (by omega) _ none]; exact ee⟩
 have ml:∀ l,tr mask h l < owner.size:=λ l=>by have:=zb3 (mask:=mask) h l; omega
 have a3':owner.getD (tr mask h m) none=none:=by rw [uc1 (ml m) _ (some 0)]; exact a3
 have gx:(owner.setIfInBounds (tr mask h m) (some hs.length)).getD (tr mask h m) none=some hs.length:=by
  have:=ml m
  simp [Array.getD,this]
 have gy:∀ y,y ≠ tr mask h m->(owner.setIfInBounds (tr mask h m) (some hs.length)).getD y none=owner.getD y none:=λ y hy=>by
  by_cases c:y < owner.size
  ·simp [Array.getD,c,Array.getElem_setIfInBounds,Ne.symm hy]
  ·simp [Array.getD,c]
 have mono:∀ y,owner.getD y none ≠ none->(owner.setIfInBounds (tr mask h m) (some hs.length)).getD y none ≠ none:=λ y hy=>by
  by_cases c:y=tr mask h m
  ·subst c; rw [gx]; intro z; cases z
  ·rw [gy y c]; exact hy
 refine ⟨tr mask h m,a1,by rw [Array.size_setIfInBounds]; exact sz,?_,λ j q e=>?_⟩
 ·refine (uy2 a3' gx gy List.nodup_range (List.mem_range.mpr (by have:=ml m; omega))).trans ?_
  rw [length_append,List.length_singleton]
  exact ((List.Perm.cons _ k.perm).trans (List.perm_append_singleton _ _).symm).trans (List.Perm.of_eq List.range_succ.symm)
 ·by_cases c:j=tr mask h m
  ·subst c
   rw [gx] at e
   cases e
   refine ⟨h,by simp,m,rfl,λ l hl=>mono _ ?_⟩
   have:=a4 l (Nat.zero_le _) hl
   rw [uc1 (ml l) _ none] at this
   exact this
  ·rw [gy j c] at e
   obtain ⟨h',b1,m',b2,b3⟩:=k.reach j q e
   refine ⟨h',?_,m',b2,λ l hl=>mono _ (b3 l hl)⟩
   rw [List.getElem?_append_left (List.getElem?_eq_some_iff.mp b1).1]
   exact b1
theorem uf2 {mask:Nat} (hm:mask ∈ okM):∀ (rest done:List Int) (owner:Array (Option Nat)),OwnOk mask done owner->done.length + rest.length<=mask + 1 ->
    ∃ owner',List.foldl (λ acc h=>do
     let (owner,k) <- acc
     let j <- SetTable.layClean.free mask owner (SetTable.turns mask) (SetTable.bits h % (mask + 1)) (SetTable.bits h)
     pure (owner.setIfInBounds j (some k),k + 1)) (some (owner,done.length)) rest=some (owner',done.length + rest.length) /\ OwnOk mask (done ++ rest) owner'
 | [],done,owner,k,_=>⟨owner,rfl,by rw [append_nil]; exact k⟩
 | h :: rest,done,owner,k,hl=>by
  rw [length_cons] at hl
  obtain ⟨x,e,k'⟩:=k.step hm (by omega) h
  obtain ⟨o',e',k''⟩:=uf2 hm rest (done ++ [h]) _ k' (by rw [length_append,List.length_singleton]; omega)
  refine ⟨o',?_,by rw [append_assoc] at k''; exact k''⟩
  rw [length_append,List.length_singleton] at e'
  rw [List.foldl_cons,length_cons,show done.length + (rest.length + 1)=done.length + 1 + rest.length by omega,<- e']
  simp only [bind,Option.bind,e,pure]
theorem own0 (mask:Nat):OwnOk mask [] (Array.replicate (mask + 1) none):=by
 have g:∀ j,(Array.replicate (mask + 1) (none:Option Nat)).getD j none=none:=λ j=>by
  by_cases c:j < mask + 1 <;> simp [Array.getD,c]
 refine ⟨by simp,?_,λ j k e=>by rw [g] at e; cases e⟩
 rw [List.filterMap_eq_nil_iff.mpr λ j _=>g j]
 exact List.Perm.refl _
theorem zl1 {mask:Nat} (hm:mask ∈ okM) (hs:Array Int) (hl:hs.size<=mask + 1):∃ owner,SetTable.layClean mask hs=some owner /\ OwnOk mask hs.toList owner:=by
 obtain ⟨o,e,k⟩:=uf2 hm hs.toList [] _ (own0 mask) (by simpa using hl)
 refine ⟨o,?_,by simpa using k⟩
 unfold SetTable.layClean
 rw [<- Array.foldl_toList]
 rw [length_nil] at e
 rw [e]
 rfl
theorem sj3 {mask:Nat} (hm:mask ∈ okM) (hs:Array Int) (hl:hs.size<=mask + 1) (fi mo:Nat) (le pl:Bool) :
    ∃ t' order,SetTable.laid mask fi mo le pl hs=some (t',order) /\ t'.mask=mask /\ t'.dummies = #[] /\ t'.led=le /\ t'.plain=pl /\ t'.finger=fi /\ t'.moves=mo /\ order.toList.Perm (List.range hs.size) /\ TOk t' (order.toList.map λ k=>hs.getD k 0):=by
 obtain ⟨o,e,k⟩:=zl1 hm hs hl
 unfold SetTable.laid
 rw [e]
 refine ⟨_,_,rfl,rfl,rfl,rfl,rfl,rfl,rfl,?_,?_⟩
 ·have:(((List.range (mask + 1)).filterMap λ j=>(o.getD j none).map (j,·)).map (·.2))=(List.range (mask + 1)).filterMap λ j=>o.getD j none:=by
    rw [List.map_filterMap]
    refine tc1 λ j _=>?_
    cases o.getD j none <;> rfl
  simp only [List.toList_toArray]
  rw [this]
  simpa using k.perm
 ·generalize hlv:((List.range (mask + 1)).filterMap λ j=>(o.getD j none).map (j,·))=live
  have lget:∀ x,x ∈ live->x.1<=mask /\ o.getD x.1 none=some x.2:=λ x hx=>by
   rw [<- hlv] at hx
   obtain ⟨j,hj,ej⟩:=List.mem_filterMap.mp hx
   cases hq:o.getD j none with
   | none=>rw [hq] at ej; cases ej
   | some b=>rw [hq] at ej; cases ej; exact ⟨by have:=List.mem_range.mp hj; show j<=mask; omega,hq⟩
  have lin:∀ j q,j<=mask->o.getD j none=some q->j ∈ live.map (·.1):=λ j q hj eq=>by
   rw [<- hlv]
   exact List.mem_map.mpr ⟨(j,q),List.mem_filterMap.mpr ⟨j,List.mem_range.mpr (by omega),by rw [eq]; rfl⟩,rfl⟩
  have pw:(live.map (·.1)).Pairwise (· < ·):=by
   rw [<- hlv,List.map_filterMap,List.pairwise_filterMap]
   refine List.pairwise_lt_range.imp_of_mem ?_
   ·intro a b ha hb hab x hx y hy
    cases hq:o.getD a none with
    | none=>rw [hq] at hx; cases hx
    | some u =>
     cases hq2:o.getD b none with
     | none=>rw [hq2] at hy; cases hy
     | some v=>rw [hq] at hx; rw [hq2] at hy; cases hx; cases hy; exact hab
  refine ⟨by simpa [Rise] using pw,List.Pairwise.nil,λ j z=>by simp at z,λ j z=>?_,λ j z=>by simp at z,hm,by simp,λ i j h a b=>?_⟩
  ·have z':j ∈ live.map (·.1):=by simpa using z
   obtain ⟨x,hx,rfl⟩:=List.mem_map.mp z'
   exact (lget x hx).1
  ·have a':(live.map (·.1))[i]?=some j:=by simpa using a
   have b':((live.map (·.2)).map λ k=>hs.getD k 0)[i]?=some h:=by simpa using b
   rw [getElem?_map] at a' b'
   rw [getElem?_map] at b'
   cases hx:live[i]? with
   | none=>rw [hx] at a'; cases a'
   | some x =>
    rw [hx] at a' b'
    have a2:x.1=j:=by simpa using a'
    have b2:hs.getD x.2 0=h:=by simpa using b'
    obtain ⟨g1,g2⟩:=lget x (List.mem_of_getElem? hx)
    obtain ⟨h',c1,m,c2,c3⟩:=k.reach _ _ g2
    have hh:h'=h:=by
     rw [<- b2]
     rw [getElem?_toList] at c1
     obtain ⟨hl1,hl2⟩:=Array.getElem?_eq_some_iff.mp c1
     simp [Array.getD,hl1,hl2]
    subst hh
    refine ⟨m,by rw [c2,a2],λ l hl=>.inl ?_⟩
    have c4:=c3 l hl
    cases hq:o.getD (tr mask h' l) none with
    | none=>exact absurd hq c4
    | some q=>simpa using lin _ q (zb3 h' l) hq
theorem se1:∀ n,n < 64->SetTable.sizeAbove (n * 4) - 1 ∈ okM /\ n * 5 < (SetTable.sizeAbove (n * 4) - 1) * 3 /\ SetTable.sizeAbove (n * 4)<=256:=by
 have:((List.range 64).all λ n=>decide (SetTable.sizeAbove (n * 4) - 1 ∈ okM /\ n * 5 < (SetTable.sizeAbove (n * 4) - 1) * 3 /\ SetTable.sizeAbove (n * 4)<=256))=true:=by decide +kernel
 intro n hn
 exact of_decide_eq_true (List.all_eq_true.mp this n (List.mem_range.mpr hn))
end Pv
namespace Pv
open PySem PySem.Spec PySem.W PyProof.Rows L2
def kI (t:T3):List Int:=[t.1,t.2.1,t.2.2]
theorem sx2 {a b:T3} (h:kI a=kI b):a=b:=by
 obtain ⟨a1,a2,a3⟩:=a
 obtain ⟨b1,b2,b3⟩:=b
 simp only [kI,List.cons.injEq,and_true] at h
 obtain ⟨rfl,rfl,rfl⟩:=h
 rfl
section
variable {prog:Program} {w:World} {A:Around} {E:Value->Shared->Prop} {s:Shared}
abbrev TK (prog:Program) (w:World) (h:Heap) (t:T3) (a:Addr):Prop:=IsTupleKey (intKind prog w) h (kI t) a
def hT (prog:Program) (w:World) (t:T3):Int:=tupleKeyHash (intKind prog w) (kI t)
theorem vk3 {k:T3} {b:Addr} {Q:Int->Shared->Prop} (hu:A.units < cLine) (i:TK prog w s.heap k b) (h:∀ tk,Q (hT prog w k) { s with toks:=tk }):wpAny (model prog w) A (pyHash (.ref b)) Q E s:=wpAny_pyHash_tuple hu i (h _)
theorem IsT3.key {h:Heap} {a:Addr} {t:T3} (i:IsT3 h (.ref a) t):TK prog w h t a:=by
 obtain ⟨a',o,t1,t2,t3,n,e1,e2,e3,e4⟩:=i
 cases e1
 exact ⟨o,_,n,e2,e3,e4,.cons (intKind_is ..) (.cons (intKind_is ..) (.cons (intKind_is ..) .nil))⟩
theorem TK.t3 {h:Heap} {a:Addr} {t:T3} (i:TK prog w h t a):IsT3 h (.ref a) t:=by
 obtain ⟨o,items,n,e1,e2,e3,e4⟩:=i
 obtain ⟨it⟩:=items
 dsimp only at e4
 have f:∀ {k:Int} {v:Value},(intKind prog w).is k v=true->∃ tk,v=.int k tk:=λ {k v} z=>by
  cases v <;> simp [intKind,Value.isInt] at z
  exact ⟨_,by rw [z]⟩
 unfold kI at e4
 cases e4 with
 | cons a1 e4 =>
  cases e4 with
  | cons a2 e4 =>
   cases e4 with
   | cons a3 e4 =>
    cases e4
    obtain ⟨t1,rfl⟩:=f a1
    obtain ⟨t2,rfl⟩:=f a2
    obtain ⟨t3,rfl⟩:=f a3
    exact ⟨a,o,t1,t2,t3,n,rfl,e1,e2,e3⟩
theorem TK.kept {h h':Heap} {a:Addr} {t:T3} (k:∀ o,h.get? a=some o->o.cls=.type "tuple" -> h'.get? a=some o) (i:TK prog w h t a):TK prog w h' t a:=by
 obtain ⟨o,items,n,e1,e2,e3⟩:=i
 exact ⟨o,items,n,k o e1 e2,e2,e3⟩
theorem up0 {a:Addr} {Q:Bool->Shared->Prop} (h:Q true s):wpAny (model prog w) A (isSame (.ref a) (.ref a)) Q E s:=by
 unfold isSame
 dsimp only
 rw [if_pos (beq_self_eq_true a)]
 exact wpAny_pure h
theorem TK.items {h:Heap} {a:Addr} {t:T3} (i:TK prog w h t a):∃ o t1 t2 t3 n,h.get? a=some o /\ o.cls=.type "tuple" /\ o.data=.seq #[.int t.1 t1,.int t.2.1 t2,.int t.2.2 t3] n:=by
 obtain ⟨a',o,t1,t2,t3,n,e1,e2,e3,e4⟩:=i.t3
 cases e1
 exact ⟨o,t1,t2,t3,n,e2,e3,e4⟩
theorem sz2 {t:T3} {a:Addr} {Q:Bool->Shared->Prop} (i:TK prog w s.heap t a) (h:Q false s):wpAny (model prog w) A (ofAClassStatement 8 (.ref a)) Q E s:=by
 have ty:=i.typeIs
 obtain ⟨o,t1,t2,t3,n,e1,e2,e3⟩:=i.items
 unfold ofAClassStatement
 refine wpAny_bind (wpAny_typeOf ty ?_)
 dsimp only
 rw [if_pos (by decide)]
 refine wpAny_bind (wpAny_pure ?_)
 rw [if_neg (by decide)]
 refine wpAny_bind (wpAny_seqItems e1 e3 ?_)
 dsimp only
 refine wpAny_bind ?_
 rw [<- Array.forIn_toList]
 refine wpAny_forIn_list _ (λ rest r s'=>r.1=none /\ s'=s /\ ∀ v ∈ rest,carriedByValue v=true) _ ?_ ?_ _ _ ⟨rfl,rfl,by simp [carriedByValue]⟩
 ·rintro v rest r s' ⟨hr,rfl,hall⟩
  have hv:=hall v mem_cons_self
  have hq:ofAClassStatement 7 v=pure false:=by
   cases v with
   | ref a=>simp [carriedByValue] at hv
   | _=>first | rfl | simp [ofAClassStatement] | (unfold ofAClassStatement; rfl)
  rw [hq]
  refine wpAny_bind (wpAny_pure ?_)
  simp only [Bool.false_eq_true,if_false]
  exact wpAny_pure ⟨rfl,rfl,λ u hu'=>hall u (mem_cons_of_mem _ hu')⟩
 ·rintro ⟨r1,r2⟩ s' ⟨hr,rfl,_⟩
  simp only at hr
  subst hr
  exact wpAny_pure h
theorem xe3 {k:T3} {b:Addr} {stored:List Value} {Q:Bool->Shared->Prop} (i:TK prog w s.heap k b) (hs:∀ v ∈ stored,∃ t a,v=.ref a /\ TK prog w s.heap t a) (h:Q false s) :
    wpAny (model prog w) A (searchCouldBeSeen (.ref b) stored) Q E s:=by
 unfold searchCouldBeSeen
 refine wpAny_bind ?_
 refine wpAny_forIn_list _ (λ rest r s'=>r.1=none /\ s'=s /\ ∀ v ∈ rest,∃ t a,v=.ref a /\ TK prog w s.heap t a) _ ?_ ?_ _ _ ⟨rfl,rfl,hs⟩
 ·rintro v rest r s' ⟨hr,rfl,hall⟩
  obtain ⟨t,a,rfl,hv⟩:=hall v mem_cons_self
  have tl:=λ u hu'=>hall u (mem_cons_of_mem _ hu')
  dsimp only
  split
  ·exact wpAny_pure ⟨rfl,rfl,tl⟩
  ·refine wpAny_bind (wpAny_eqIsQuiet_tuple i ?_)
   simp only [Bool.not_true,Bool.false_eq_true,if_false]
   refine wpAny_bind (wpAny_eqIsQuiet_tuple hv ?_)
   simp only [Bool.not_true,Bool.false_eq_true,if_false]
   refine wpAny_bind (sz2 i ?_)
   simp only [Bool.false_eq_true,if_false]
   refine wpAny_bind (sz2 hv ?_)
   simp only [Bool.false_eq_true,if_false]
   exact wpAny_pure ⟨rfl,rfl,tl⟩
 ·rintro ⟨r1,r2⟩ s' ⟨hr,rfl,_⟩
  simp only at hr
  subst hr
  exact wpAny_pure h
theorem ut2 {t:T3} {a:Addr} {Q:Bool->Shared->Prop} (i:TK prog w s.heap t a) (h:Q true s):wpAny (model prog w) A (hashByValue 8 (.ref a)) Q E s:=by
 have ty:=i.typeIs
 obtain ⟨o,t1,t2,t3,n,e1,e2,e3⟩:=i.items
 unfold hashByValue
 refine wpAny_bind (wpAny_specialOf ty F.slot_tuple_hash.lookup ?_)
 show wpAny _ _ (seqItems? (.ref a) >>= _) _ _ s
 refine wpAny_bind (wpAny_seqItems e1 e3 ?_)
 refine wpAny_bind ?_
 show wpAny _ _ (forIn #[Value.int t.1 t1,.int t.2.1 t2,.int t.2.2 t3] _ _) _ _ s
 rw [<- Array.forIn_toList]
 refine wpAny_forIn_list _ (λ rest r s'=>r.1=none /\ s'=s /\ ∀ v ∈ rest,∃ i t,v=Value.int i t) _ ?_ ?_ _ _ ⟨rfl,rfl,by simp⟩
 ·rintro v rest r s' ⟨hr,rfl,hall⟩
  obtain ⟨j,tk,rfl⟩:=hall v mem_cons_self
  have hq:hashByValue 7 (.int j tk)=pure true:=by unfold hashByValue; rfl
  rw [hq]
  refine wpAny_bind (wpAny_pure ?_)
  simp only [Bool.not_true,Bool.false_eq_true,if_false]
  exact wpAny_pure ⟨rfl,rfl,λ u hu'=>hall u (mem_cons_of_mem _ hu')⟩
 ·rintro ⟨r1,r2⟩ s' ⟨hr,rfl,_⟩
  simp only at hr
  subst hr
  exact wpAny_pure h
end
def bT (prog:Program) (w:World):Bool:=(model prog w).w.params.followText "set-order"
abbrev ent (hf:T3->Int) (x:T3 × Addr):Int × Value:=(hf x.1,.ref x.2)
structure SetIs (prog:Program) (w:World) (hf:T3->Int) (h:Heap) (a:Addr) (o:Obj) (es:Array (Int × Value)) (ep:Nat) (t:SetTable) (xs:List (T3 × Addr)):Prop where
 ho:h.get? a=some o
 ex:o.ExactSet
 hd:o.data=.set es ep t
 el:es.toList=xs.map (ent hf)
 ks:∀ x ∈ xs,TK prog w h x.1 x.2
 nd:(xs.map (·.1)).Nodup
 ok:TOk t (xs.map λ x=>hf x.1)
 rm:t.fill<=t.mask
 pl:t.plain=true
 le:t.led = !bT prog w
section
variable {prog:Program} {w:World} {A:Around} {E:Value->Shared->Prop} {s:Shared} {a:Addr} {o:Obj} {es:Array (Int × Value)} {ep:Nat} {t:SetTable} {xs:List (T3 × Addr)} {hf:T3->Int}
theorem SetIs.at {h:Heap} (S:SetIs prog w hf h a o es ep t xs) (i:Nat):es[i]?=(xs[i]?).map (ent hf):=by rw [<- getElem?_toList,S.el,getElem?_map]
theorem SetIs.size {h:Heap} (S:SetIs prog w hf h a o es ep t xs):es.size=xs.length:=by rw [<- length_toList,S.el,length_map]
theorem SetIs.fits {h:Heap} (S:SetIs prog w hf h a o es ep t xs):t.fits es.size=true:=by
 have h1:=S.ok.sz
 have h2:=S.size
 have h3:=S.rm
 rw [length_map] at h1
 simp [SetTable.fits,h1,h2,h3]
theorem SetIs.odd {h:Heap} (S:SetIs prog w hf h a o es ep t xs):t.gaveWay=false:=by
 have:∀ m ∈ okM,(m % 2 == 0)=false:=by decide
 exact this _ S.ok.msk
theorem xg1 {f:Nat->Int} {h:Int} {n:Nat} {d:Option Nat} {hs:List Int} {r:Option SetTable.Met} (k:TOk t hs) (rm:t.fill<=t.mask) (kd:DumOk t h d n) (e:t.probe f h { trS t.mask h n with dummy:=d }=r) :
    (∃ m d',r=some (.empty (tr t.mask h m) d') /\ n<=m /\ t.slot (tr t.mask h m)=.empty /\ Sk t f h n m /\ DumOk t h d' m) ∨
    (∃ m i d',r=some (.candidate (tr t.mask h m) i { trS t.mask h (m + 1) with dummy:=d' }) /\ n<=m /\ t.slot (tr t.mask h m)=.live i /\ f i=h /\ Sk t f h n m /\ DumOk t h d' m):=by
 subst e
 exact k.probe rm f h n d kd
def Hist (hf:T3->Int) (t:SetTable) (xs:List (T3 × Addr)) (k:T3) (n:Nat):Prop:=∀ l,l < n->t.slot (tr t.mask (hf k) l) ≠ .empty /\ ∀ i,t.slot (tr t.mask (hf k) l)=.live i->∀ x,xs[i]?=some x->x.1 ≠ k
theorem zk1 {k:T3} {b:Addr} {adding:Bool} {Q:SetFound->Shared->Prop} (hu:A.units < cLine) (S:SetIs prog w hf s.heap a o es ep t xs) (hk:TK prog w s.heap k b)
    (found:∀ i b',xs[i]?=some (k,b')->Q (.there (if adding then none else some i)) s)
    (free:∀ sl wd,k ∉ xs.map (·.1)->sl ∉ t.place.toList->(∃ m,tr t.mask (hf k) m=sl /\ ∀ l,l < m->Occ t (tr t.mask (hf k) l))->(wd=true->t.slot sl=.dummy)->Q (.free sl wd) s)
    {fuel n:Nat} {d:Option Nat} {stand:Option SetTable.Probe} (kd:DumOk t (hf k) d n) (hist:Hist hf t xs k n) (st:stand.getD (t.probeStart (hf k))={ trS t.mask (hf k) n with dummy:=d })
    (ih:∀ (n':Nat) (d':Option Nat) (stand':Option SetTable.Probe),n < n'->DumOk t (hf k) d' n'->Hist hf t xs k n'->stand'.getD (t.probeStart (hf k))={ trS t.mask (hf k) n' with dummy:=d' } ->
     wpAny (model prog w) A (setSearchFrom a (.ref b) (hf k) adding fuel stand') Q E s) :
    wpAny (model prog w) A (setSearchFrom a (.ref b) (hf k) adding (fuel + 1) stand) Q E s:=by
 have hist':∀ {f:Nat->Int} {m:Nat},(∀ i,f i=((es[i]?).map (·.1)).getD 0)->Sk t f (hf k) n m->∀ l,l < m->t.slot (tr t.mask (hf k) l) ≠ .empty /\ ∀ i,t.slot (tr t.mask (hf k) l)=.live i->∀ x,xs[i]?=some x->x.1 ≠ k:=λ {f m} hf sk l hl=>by
  by_cases c:l < n
  ·exact hist l c
  ·obtain ⟨b1,b2⟩:=sk l (by omega) hl
   refine ⟨b1,λ i e x hx z=>b2 i e ?_⟩
   rw [hf,S.at,hx,Option.map_some,Option.map_some,Option.getD_some,<- z]
 unfold setSearchFrom
 refine wpAny_bind (wpAny_setState_of S.ho S.hd S.fits ?_)
 dsimp only
 rw [S.odd,st]
 simp only [Bool.false_eq_true,if_false]
 split
 ·next met heq =>
  rcases xg1 S.ok S.rm kd heq with ⟨m,d',e,a1,a2,a3,a4⟩ | ⟨m,i,d',e,a1,a2,a3,a4,a5⟩
  ·cases e
   have H:=hist' (λ _=>rfl) a3
   have nk:k ∉ xs.map (·.1):=λ z=>by
    obtain ⟨x,hx,ek⟩:=List.mem_map.mp z
    obtain ⟨i,hi⟩:=List.mem_iff_getElem?.mp hx
    have hlt:i < t.place.size:=by rw [S.ok.sz,length_map]; exact (List.getElem?_eq_some_iff.mp hi).1
    have hp:t.place[i]?=some t.place[i]:=Array.getElem?_eq_getElem hlt
    obtain ⟨m',q1,q2⟩:=S.ok.reach i _ (hf k) hp (by rw [getElem?_map,hi]; show some (hf x.1)=_; rw [ek])
    have hl:=(ue1 S.ok.ris).mpr hp
    rw [<- q1] at hl
    by_cases c:m' < m
    ·exact (H m' c).2 i hl x hi ek
    ·by_cases c2:m=m'
     ·subst c2; rw [a2] at hl; cases hl
     ·exact (S.ok.occ _).mp (q2 m (by omega)) a2
   have oc:∀ l,l < m->Occ t (tr t.mask (hf k) l):=λ l hl=>(S.ok.occ _).mpr (H l hl).1
   cases d' with
   | none=>exact wpAny_pure (free _ false nk ((tw0 S.ok.ris S.ok.rid).mp a2).1 ⟨m,rfl,oc⟩ (λ z=>by cases z))
   | some x =>
    obtain ⟨l,b1,b2,b3⟩:=a4 x rfl
    dsimp only
    rw [b3]
    simp only [bne_self_eq_false,Bool.and_false,Bool.false_eq_true,if_false]
    refine wpAny_pure (free x true nk (S.ok.dj x ((sw0 S.ok.ris S.ok.rid (S.ok.dj x)).mp b3)) ⟨l,b2,λ l' hl=>oc l' (by omega)⟩ (λ _=>b3))
  ·cases e
   have H:=hist' (λ _=>rfl) a4
   have hp:=(ue1 S.ok.ris).mp a2
   have hlt:i < xs.length:=by have:=(Array.getElem?_eq_some_iff.mp hp).1; rw [S.ok.sz,length_map] at this; exact this
   obtain ⟨x,hx⟩:∃ x,xs[i]?=some x:=⟨_,getElem?_eq_getElem hlt⟩
   have he:es[i]?=some (ent hf x):=by rw [S.at,hx]; rfl
   have hkx:=S.ks x (List.mem_of_getElem? hx)
   have sm:t.sameMemory t.moves t.mask=some true:=by unfold SetTable.sameMemory; simp
   have sto:∀ v ∈ List.map (λ x=>x.snd) (Array.filter (λ x=>x.fst == hf k) es).toList,∃ t a,v=.ref a /\ TK prog w s.heap t a:=λ v hv=>by
    obtain ⟨y,hy,rfl⟩:=List.mem_map.mp hv
    have hy':y ∈ es.toList:=by
     rw [Array.toList_filter] at hy
     exact (List.mem_filter.mp hy).1
    rw [S.el] at hy'
    obtain ⟨z,hz,rfl⟩:=List.mem_map.mp hy'
    exact ⟨z.1,z.2,rfl,S.ks z hz⟩
   dsimp only
   split
   ·refine wpAny_bind (xe3 hk sto ?_)
    simp only [Bool.false_eq_true,if_false]
    rw [he]
    dsimp only
    refine wpAny_bind (wpAny_holding (wpAny_eqBool_tuple hu hkx hk ?_))
    refine wpAny_bind (wpAny_setState_of S.ho S.hd S.fits ?_)
    dsimp only
    by_cases c:x.1=k
    ·rw [decide_eq_true (congrArg kI c)]
     have fd:=found i x.2 (by rw [hx,<- c])
     cases adding
     ·rw [sm]
      simp only [Bool.false_and,Bool.false_eq_true,if_false,if_true]
      rw [a2]
      dsimp only
      rw [he]
      dsimp only
      refine wpAny_bind (up0 (wpAny_bind (wpAny_pure ?_)))
      exact wpAny_pure fd
     ·exact wpAny_pure fd
    ·rw [decide_eq_false (λ z=>c (sx2 z)),sm]
     simp only [Bool.and_false,Bool.false_eq_true,if_false,if_true]
     rw [a2]
     dsimp only
     rw [he]
     dsimp only
     refine wpAny_bind (up0 (wpAny_bind (wpAny_pure ?_)))
     refine ih (m + 1) d' _ (by omega) (a5.up (Nat.le_succ _)) (λ l hl=>?_) rfl
     by_cases c2:l < m
     ·exact H l c2
     ·have:l=m:=by omega
      subst this
      refine ⟨(by rw [a2]; intro z; cases z),λ i' z y hy=>?_⟩
      rw [a2] at z
      cases z
      rw [hx] at hy
      cases hy
      exact c
   ·rw [he]
    dsimp only
    refine wpAny_bind (wpAny_holding (wpAny_eqBool_tuple hu hkx hk ?_))
    refine wpAny_bind (wpAny_setState_of S.ho S.hd S.fits ?_)
    dsimp only
    by_cases c:x.1=k
    ·rw [decide_eq_true (congrArg kI c)]
     have fd:=found i x.2 (by rw [hx,<- c])
     cases adding
     ·rw [sm]
      simp only [Bool.false_and,Bool.false_eq_true,if_false,if_true]
      rw [a2]
      dsimp only
      rw [he]
      dsimp only
      refine wpAny_bind (up0 (wpAny_bind (wpAny_pure ?_)))
      exact wpAny_pure fd
     ·exact wpAny_pure fd
    ·rw [decide_eq_false (λ z=>c (sx2 z)),sm]
     simp only [Bool.and_false,Bool.false_eq_true,if_false,if_true]
     rw [a2]
     dsimp only
     rw [he]
     dsimp only
     refine wpAny_bind (up0 (wpAny_bind (wpAny_pure ?_)))
     refine ih (m + 1) d' _ (by omega) (a5.up (Nat.le_succ _)) (λ l hl=>?_) rfl
     by_cases c2:l < m
     ·exact H l c2
     ·have:l=m:=by omega
      subst this
      refine ⟨(by rw [a2]; intro z; cases z),λ i' z y hy=>?_⟩
      rw [a2] at z
      cases z
      rw [hx] at hy
      cases hy
      exact c
 ·next hne =>
  rcases xg1 S.ok S.rm kd rfl with ⟨m,d',e,a1,a2,a3,a4⟩ | ⟨m,i,d',e,a1,a2,a3,a4,a5⟩
  ·exact (hne _ e).elim
  ·exact (hne _ e).elim
theorem vz1 {k:T3} {b:Addr} {adding:Bool} {Q:SetFound->Shared->Prop} (hu:A.units < cLine) (S:SetIs prog w hf s.heap a o es ep t xs) (hk:TK prog w s.heap k b)
    (found:∀ i b',xs[i]?=some (k,b')->Q (.there (if adding then none else some i)) s)
    (free:∀ sl wd,k ∉ xs.map (·.1)->sl ∉ t.place.toList->(∃ m,tr t.mask (hf k) m=sl /\ ∀ l,l < m->Occ t (tr t.mask (hf k) l))->(wd=true->t.slot sl=.dummy)->Q (.free sl wd) s)
    (N:Nat) (hN:t.slot (tr t.mask (hf k) N)=.empty) (r:Nat):∀ (fuel n:Nat) (d:Option Nat) (stand:Option SetTable.Probe),N < n + r->r<=fuel->DumOk t (hf k) d n->Hist hf t xs k n ->
    stand.getD (t.probeStart (hf k))={ trS t.mask (hf k) n with dummy:=d } ->
    wpAny (model prog w) A (setSearchFrom a (.ref b) (hf k) adding fuel stand) Q E s:=by
 induction r with
 | zero =>
  intro fuel n d stand h1 h2 kd hist st
  exact absurd hN (hist N (by omega)).1
 | succ r ih =>
  intro fuel n d stand h1 h2 kd hist st
  cases fuel with
  | zero=>omega
  | succ fuel=>exact zk1 hu S hk found free kd hist st λ n' d' stand' a1 a2 a3 a4=>ih fuel n' d' stand' (by omega) (by omega) a2 a3 a4
end
section
variable {prog:Program} {w:World} {A:Around} {E:Value->Shared->Prop} {s:Shared} {a:Addr} {o:Obj} {es:Array (Int × Value)} {ep:Nat} {t:SetTable} {xs:List (T3 × Addr)} {hf:T3->Int}
theorem zc1:∀ m ∈ okM,7<=m /\ m<=255:=by decide
theorem xf1 {k:T3} {b:Addr} {adding:Bool} {Q:SetFound->Shared->Prop} (hu:A.units < cLine) (S:SetIs prog w hf s.heap a o es ep t xs) (hk:TK prog w s.heap k b)
    (found:∀ i b',xs[i]?=some (k,b')->Q (.there (if adding then none else some i)) s)
    (free:∀ sl wd,k ∉ xs.map (·.1)->sl ∉ t.place.toList->(∃ m,tr t.mask (hf k) m=sl /\ ∀ l,l < m->Occ t (tr t.mask (hf k) l))->(wd=true->t.slot sl=.dummy)->Q (.free sl wd) s) :
    wpAny (model prog w) A (setSearch a (.ref b) (hf k) adding) Q E s:=by
 obtain ⟨e,he,ee⟩:=S.ok.hole S.rm
 obtain ⟨N,_,h2,h3⟩:=tm1 S.ok.msk (hf k) 0 he
 have hm:=zc1 _ S.ok.msk
 unfold SetTable.turns at h2
 unfold setSearch
 refine vz1 hu S hk found free N (by rw [h3]; exact ee) (N + 1) _ 0 none none (by omega) (by omega) (λ x z=>by cases z) (λ l hl=>absurd hl (Nat.not_lt_zero _)) ?_
 rfl
theorem ye3 (b:Addr) (es:Array (Int × Value)):byScan (.ref b) es=false:=by simp [byScan,Value.scannable]
theorem SetIs.store {h:Heap} (S:SetIs prog w hf h a o es ep t xs) {xs':List (T3 × Addr)} {es':Array (Int × Value)} {t':SetTable} (el:es'.toList=xs'.map (ent hf)) (ks:∀ x ∈ xs',TK prog w h x.1 x.2) (nd:(xs'.map (·.1)).Nodup)
    (ok:TOk t' (xs'.map λ x=>hf x.1)) (rm:t'.fill<=t'.mask) (pl:t'.plain=true) (le:t'.led = !bT prog w) :
    SetIs prog w hf (h.update a (Obj.putSet es' t')) a { o with data:=.set es' (ep + 1) t' } es' (ep + 1) t' xs':=by
 have hg:(h.update a (Obj.putSet es' t')).get? a=some { o with data:=.set es' (ep + 1) t' }:=by
  have:=Heap.get?_update_self (Obj.putSet es' t') S.ho (by rw [putSet_of es' t' S.hd]; rfl)
  rw [putSet_of es' t' S.hd] at this; exact this
 refine ⟨hg,S.ex,rfl,el,λ x hx=>(ks x hx).kept λ o' e1 e2=>?_,nd,ok,rm,pl,le⟩
 rw [Heap.get?_update_ne _ _ _ _ (λ z=>?_)]
 ·exact e1
 ·rw [z,S.ho] at e1
  cases e1
  rw [S.ex.1] at e2
  injection e2 with e
  exact absurd e (by decide)
theorem ym4 {α β:Type} {m m':Sem α} {g:α->Sem β} {Q:β->Shared->Prop} (e:m=m') (h:wpAny (model prog w) A (m' >>= g) Q E s):wpAny (model prog w) A (m >>= g) Q E s:=by rw [e]; exact h
theorem tj3 {mk fi mo:Nat} {le pl:Bool} (m1:mk ∈ okM) (hl:xs.length<=mk + 1) (eel:es.toList=xs.map (ent hf)) :
    ∃ t' order,∃ xs':List (T3 × Addr),SetTable.laid mk fi mo le pl (es.map (·.1))=some (t',order) /\ (order.filterMap λ k=>es[k]?).toList=xs'.map (ent hf) /\ xs'.Perm xs /\ (order.filterMap λ k=>es[k]?).size=es.size /\ TOk t' (xs'.map λ x=>hf x.1) /\ t'.mask=mk /\ t'.dummies = #[] /\ t'.led=le /\ t'.plain=pl:=by
 have sz:es.size=xs.length:=by rw [<- length_toList,eel,length_map]
 have hat:∀ i:Nat,es[i]?=(xs[i]?).map (ent hf):=λ i=>by rw [<- getElem?_toList,eel,getElem?_map]
 obtain ⟨t',order,e1,e2,e3,e4,e5,e6,e7,e8,e9⟩:=sj3 m1 (es.map (·.1)) (by rw [size_map,sz]; omega) fi mo le pl
 rw [size_map,sz] at e8
 have olt:∀ k ∈ order.toList,k < xs.length:=λ k hk=>List.mem_range.mp (e8.mem_iff.mp hk)
 obtain ⟨d⟩:Nonempty (T3 × Addr):=⟨((0,0,0),0)⟩
 have fm:∀ (l:List Nat),(∀ k ∈ l,k < xs.length)->l.filterMap (λ k=>es[k]?)=(l.map λ k=>xs.getD k d).map (ent hf):=λ l=>by
  induction l with
  | nil=>intro _; rfl
  | cons k l ih =>
   intro hl
   have hk:=hl k (mem_cons_self ..)
   rw [List.filterMap_cons_some (b:=ent hf (xs.getD k d)),ih λ j hj=>hl j (mem_cons_of_mem _ hj),map_cons,map_cons]
   rw [hat,getD_eq_getElem?_getD,getElem?_eq_getElem hk]
   simp only [Option.map_some,Option.getD_some]
 have fm':(order.filterMap λ k=>es[k]?).toList=(order.toList.map λ k=>xs.getD k d).map (ent hf):=by rw [Array.toList_filterMap]; exact fm _ olt
 have pm:(order.toList.map λ k=>xs.getD k d).Perm xs:=by
  refine (e8.map _).trans (List.Perm.of_eq ?_)
  apply List.ext_getElem
  ·simp
  ·intro i h1 h2
   simp [getD_eq_getElem?_getD,getElem?_eq_getElem h2]
 have hz:(order.filterMap λ k=>es[k]?).size=es.size:=by rw [<- length_toList,fm',length_map,pm.length_eq,sz]
 have hok:TOk t' ((order.toList.map λ k=>xs.getD k d).map λ x=>hf x.1):=by
  have:(order.toList.map λ k=>(es.map (·.1)).getD k 0)=(order.toList.map λ k=>xs.getD k d).map λ x=>hf x.1:=by
   rw [map_map]
   refine map_congr_left λ k hk=>?_
   have hl:=olt k hk
   have hl2:k < es.size:=by omega
   have q:es[k]?=some (ent hf (xs.getD k d)):=by
    rw [hat,getD_eq_getElem?_getD,getElem?_eq_getElem hl]
    simp only [Option.map_some,Option.getD_some]
   rw [Array.getElem?_eq_getElem hl2] at q
   injection q with q
   simp only [Array.getD,size_map,hl2,dite_true,Array.getInternal_eq_getElem,Array.getElem_map,q,Function.comp]
  rw [<- this]
  exact e9
 exact ⟨t',order,_,e1,fm',pm,hz,hok,e2,e3,e4,e5⟩
theorem za2 {Q:Unit->Shared->Prop} {wd:Nat} (S:SetIs prog w hf s.heap a o es ep t xs) (m1:SetTable.sizeAbove wd - 1 ∈ okM) (m2:xs.length * 5 < (SetTable.sizeAbove wd - 1) * 3) (m3:SetTable.sizeAbove wd<=256)
    (h:∀ h' o' es' ep' t' xs',Heap.SameBut a s.heap h'->SetIs prog w hf h' a o' es' ep' t' xs'->xs'.Perm xs->t'.fill * 5 < t'.mask * 3->t'.mask=SetTable.sizeAbove wd - 1->t'.dummies = #[]->Q () { s with heap:=h' }) :
    wpAny (model prog w) A (setRelay a wd) Q E s:=by
 have sz:=S.size
 have mm:=zc1 _ m1
 have sl:SetTable.sizeAbove wd<=sizeLine:=by rw [sizeLine_eq]; omega
 obtain ⟨t',order,xs',e1,fm',pm,hz,hok,e2,e3,e4,e5⟩:=tj3 (fi:=t.finger) (mo:=t.movedTo (SetTable.sizeAbove wd - 1)) (le:=t.led) (pl:=t.plain) m1 (by omega) S.el
 have el:t.relaid (es.map (·.1)) wd=some (t',order):=e1
 have rm:t'.fill * 5 < t'.mask * 3:=by
  have h1:=hok.sz
  rw [length_map,pm.length_eq] at h1
  unfold SetTable.fill
  rw [h1,e3,e2]
  simpa using m2
 have hm:=zc1 _ hok.msk
 unfold setRelay
 refine wpAny_bind (wpAny_setState_of S.ho S.hd S.fits ?_)
 dsimp only
 rw [if_neg (by omega),el]
 refine ym4 (m':=if ((order.filterMap λ k=>es[k]?).size != es.size)=true then (unsupported "internal:set-table-lost-an-element" >>= λ (_:PUnit)=>pure ((order.filterMap λ k=>es[k]?),t')) else pure ((order.filterMap λ k=>es[k]?),t')) rfl ?_
 rw [hz]
 simp only [bne_self_eq_false,Bool.false_eq_true,if_false]
 refine wpAny_bind (wpAny_pure (wpAny_storeSet_of S.ho S.hd ?_ (by rw [hz,sz,sizeLine_eq]; omega)))
 exact h _ _ _ _ _ _ (Heap.SameBut.update _ a _) (S.store fm' (λ x hx=>S.ks x (pm.mem_iff.mp hx)) ((pm.map _).nodup_iff.mpr S.nd) hok (show t'.fill<=t'.mask by omega) (by rw [e5]; exact S.pl) (by rw [e4]; exact S.le)) pm rm e2 e3
theorem tn2 {Q:Unit->Shared->Prop} {n:Nat} (S:SetIs prog w hf s.heap a o es ep t xs) (hn:xs.length < 64) (en:n=xs.length)
    (h:∀ h' o' es' ep' t' xs',Heap.SameBut a s.heap h'->SetIs prog w hf h' a o' es' ep' t' xs'->xs'.Perm xs->t'.fill * 5 < t'.mask * 3->Q () { s with heap:=h' }) :
    wpAny (model prog w) A (setRelay a (n * 4)) Q E s:=by
 subst en
 obtain ⟨m1,m2,m3⟩:=se1 _ hn
 exact za2 S m1 m2 m3 λ h' o' es' ep' t' xs' q1 q2 q3 q4 _ _=>h h' o' es' ep' t' xs' q1 q2 q3 q4
def SetG (prog:Program) (w:World) (hf:T3->Int) (h:Heap) (a:Addr) (xs:List (T3 × Addr)):Prop:=∃ o es ep t,SetIs prog w hf h a o es ep t xs /\ t.fill * 5 < t.mask * 3
theorem xm4 {k:T3} {b:Addr} {Q:Bool->Shared->Prop} (hu:A.units < cLine) (S:SetG prog w hf s.heap a xs) (hk:TK prog w s.heap k b) (hn:xs.length + 1 < 64)
    (old:k ∈ xs.map (·.1)->Q false s)
    (new:k ∉ xs.map (·.1)->∀ h' xs',Heap.SameBut a s.heap h'->SetG prog w hf h' a xs'->xs'.Perm ((k,b) :: xs)->Q true { s with heap:=h' }):wpAny (model prog w) A (setAddHashed a (.ref b) (hf k)) Q E s:=by
 obtain ⟨o,es,ep,t,S,rm5⟩:=S
 have hm:=zc1 _ S.ok.msk
 have sz:=S.size
 unfold setAddHashed setAddHashedIn
 refine wpAny_holding (wpAny_bind (wpAny_setState_of S.ho S.hd S.fits ?_))
 dsimp only
 rw [ye3]
 simp only [Bool.false_eq_true,if_false]
 refine wpAny_bind (xf1 hu S hk (λ i b' e=>?_) λ sl wd nk ns rc wdd=>?_)
 ·exact wpAny_pure (old (List.mem_map.mpr ⟨_,List.mem_of_getElem? e,rfl⟩))
 ·dsimp only
  refine wpAny_bind (wpAny_setState_of S.ho S.hd S.fits ?_)
  dsimp only
  have ok':=S.ok.put ns rc
  have f1:=vo2 S.ok (x:=sl)
  have pl':(t.put sl).1.plain=true:=S.pl
  have mk':(t.put sl).1.mask=t.mask:=rfl
  rw [pl']
  simp only [if_true]
  refine wpAny_bind (ut2 hk ?_)
  simp only [if_true]
  have el':(SetTable.insertAt es (t.put sl).2 (hf k,Value.ref b)).toList=(insL xs (SetTable.below t.place sl) (k,b)).map (ent hf):=by
   rw [SetTable.toList_insertAt,xq1,S.el]
   rfl
  have pm:(insL xs (SetTable.below t.place sl) (k,b)).Perm ((k,b) :: xs):=by
   unfold insL
   exact List.perm_middle.trans (List.Perm.cons _ (List.Perm.of_eq (List.take_append_drop _ _)))
  have sz':(SetTable.insertAt es (t.put sl).2 (hf k,Value.ref b)).size=xs.length + 1:=by rw [<- length_toList,el',length_map,yi0]
  have S':=S.store el' (λ x hx=>by
   rcases (yq0 _ _ _ _).mp hx with rfl | hx
   ·exact hk
   ·exact S.ks x hx) ((pm.map _).nodup_iff.mpr (List.nodup_cons.mpr ⟨nk,S.nd⟩)) (by rw [xq1]; exact ok') (by rw [mk']; omega) pl' S.le
  refine wpAny_bind (wpAny_storeSet_of S.ho S.hd ?_ (by rw [sz',sizeLine_eq]; omega))
  have sb:=Heap.SameBut.update s.heap a (Obj.putSet (SetTable.insertAt es (t.put sl).2 (hf k,Value.ref b)) (t.put sl).1)
  split
  ·next c =>
   have gr:SetTable.grown (es.size + 1)=(xs.length + 1) * 4:=by unfold SetTable.grown; rw [if_neg (by omega),sz]
   rw [gr]
   refine wpAny_bind (tn2 S' (by rw [yi0]; omega) (by rw [yi0]) λ h' o' es' ep' t' xs' q1 q2 q3 q4=>wpAny_pure ?_)
   exact new nk h' xs' (sb.trans q1) ⟨_,_,_,_,q2,q4⟩ (q3.trans pm)
  ·next c =>
   refine wpAny_pure (new nk _ _ sb ⟨_,_,_,_,S',?_⟩ pm)
   cases wd with
   | true =>
    have f2:=yv1 S.ok (wdd rfl)
    rw [mk']
    omega
   | false =>
    simp only [Bool.not_false,Bool.true_and,SetTable.tooFull,decide_eq_true_eq] at c
    omega
end
def Got (P:Nat->Value->Prop) (ks:Nat->T3) (i:Nat) (xs:List (T3 × Addr)):Prop:=(∀ x ∈ xs,∃ j,j < i /\ P j (.ref x.2) /\ ks j=x.1) /\ ∀ j,j < i->ks j ∈ xs.map (·.1)
def KpH (h h':Heap):Prop:=∀ b o,h.get? b=some o->h'.get? b=some o
section
variable {prog:Program} {w:World} {A:Around} {E:Value->Shared->Prop} {R:Result->Shared->Prop} {s:Shared} {hf:T3->Int}
theorem SetG.nd {h:Heap} {a:Addr} {xs:List (T3 × Addr)} (S:SetG prog w hf h a xs):(xs.map (·.1)).Nodup:=by
 obtain ⟨o,es,ep,t,S,_⟩:=S
 exact S.nd
theorem SetG.keep {h h':Heap} {a:Addr} {xs:List (T3 × Addr)} (S:SetG prog w hf h a xs) (k1:∀ o,h.get? a=some o->h'.get? a=some o) (k2:∀ x ∈ xs,TK prog w h' x.1 x.2):SetG prog w hf h' a xs:=by
 obtain ⟨o,es,ep,t,S,q⟩:=S
 exact ⟨o,es,ep,t,⟨k1 o S.ho,S.ex,S.hd,S.el,k2,S.nd,S.ok,S.rm,S.pl,S.le⟩,q⟩
theorem Got.len {P:Nat->Value->Prop} {ks:Nat->T3} {i n:Nat} {xs:List (T3 × Addr)} (g:Got P ks i xs) (hi:i<=n) (nd:(xs.map (·.1)).Nodup) (B:∀ l:List T3,l.Nodup->(∀ x ∈ l,∃ j,j < n /\ ks j=x)->l.length < 63):xs.length < 63:=by
 have:=B _ nd λ x hx=>by
  obtain ⟨y,hy,rfl⟩:=List.mem_map.mp hx
  obtain ⟨j,h1,_,h2⟩:=g.1 y hy
  exact ⟨j,by omega,h2⟩
 rwa [length_map] at this
theorem vm1 {I S:Addr} {fp wr:List Addr} {n:Nat} {P:Nat->Value->Prop} {St:Nat->Heap->Prop} {h0:Heap} {ks:Nat->T3} (W:Walks prog w A.in1 I fp wr n P St) (hS:S ∉ fp) (ua:A.units + 1 < cLine)
    (low:∀ b ∈ S :: wr,h0.objs.size<=b) (hv:∀ i v,i < n->P i v->∃ b,v=.ref b /\ TK prog w h0 (ks i) b) (B:∀ l:List T3,l.Nodup->(∀ x ∈ l,∃ j,j < n /\ ks j=x)->l.length < 63) :
    ∀ (k i:Nat) (s:Shared) (xs:List (T3 × Addr)),n - i=k->i<=n->St i s.heap->KpH h0 s.heap->SetG prog w (hT prog w) s.heap S xs->Got P ks i xs ->
     (∀ h' tk xs',KpH h0 h'->SetG prog w (hT prog w) h' S xs'->Got P ks n xs'->R (.ok (.ret .none)) { s with heap:=h',toks:=tk }) ->
     codeAny (model prog w) A (.builtin "set.update.loop" ⟨[.ref S,.ref I],[]⟩) R s:=by
 have nw:S ∉ wr:=λ h=>hS (W.sub _ h)
 have nl:∀ {b:Addr} {o:Obj},h0.get? b=some o->b ∉ wr /\ b ≠ S:=λ {b o} e =>
  ⟨λ z=>absurd (Heap.lt_size e) (Nat.not_lt.mpr (low b (mem_cons_of_mem _ z))),λ z=>absurd (Heap.lt_size e) (Nat.not_lt.mpr (low b (by rw [z]; exact mem_cons_self ..)))⟩
 have tkk:∀ {i:Nat} {xs:List (T3 × Addr)} {h:Heap},i<=n->Got P ks i xs->KpH h0 h->∀ x ∈ xs,TK prog w h x.1 x.2:=λ {i xs h} hi g k x hx=>by
  obtain ⟨j,a1,a2,a3⟩:=g.1 x hx
  obtain ⟨b,e,t⟩:=hv j _ (by omega) a2
  cases e
  rw [<- a3]
  exact t.kept λ o e _=>k _ o e
 intro k
 induction k with
 | zero =>
  intro i s xs hk hi st kp sg g q
  have:i=n:=by omega
  subst this
  refine codeAny_builtin F.entry_set_update_loop ?_
  rw [Around.under_plainId F.plain_set_update_loop _]
  show wpAny _ A.in1 (pyNext (.ref I) >>= _) _ _ s
  refine wpAny_bind (W.done s _ _ st λ h1 tk km=>?_)
  show wpAny _ A.in1 (ret Value.none) _ _ _
  have kp1:KpH h0 h1:=λ b o e=>km b o (nl e).1 (kp b o e)
  exact wpAny_pure (q h1 tk xs kp1 (sg.keep (λ o e=>km S o nw e) (tkk hi g kp1)) g)
 | succ k ih =>
  intro i s xs hk hi st kp sg g q
  have lt:i < n:=by omega
  refine codeAny_builtin F.entry_set_update_loop ?_
  rw [Around.under_plainId F.plain_set_update_loop _]
  show wpAny _ A.in1 (pyNext (.ref I) >>= _) _ _ s
  refine wpAny_bind (W.item i s _ _ lt st λ v h1 tk hP st1 km=>?_)
  obtain ⟨b,rfl,tb0⟩:=hv i v lt hP
  have kp1:KpH h0 h1:=λ b o e=>km b o (nl e).1 (kp b o e)
  have tb:TK prog w h1 (ks i) b:=tb0.kept λ o e _=>kp1 b o e
  have sg1:SetG prog w (hT prog w) h1 S xs:=sg.keep (λ o e=>km S o nw e) (tkk hi g kp1)
  have ln:=g.len hi sg.nd B
  show wpAny _ A.in1 (holding [Value.ref b] (setAdd S (.ref b)) >>= _) _ _ _
  refine wpAny_bind (wpAny_holding ?_)
  unfold setAdd
  refine wpAny_holding ?_
  refine wpAny_bind (vk3 (s:={ s with heap:=h1,toks:=tk }) ua tb λ tk2=>?_)
  refine xm4 (hf:=hT prog w) (s:={ s with heap:=h1,toks:=tk2 }) ua sg1 tb (by omega) (λ old=>?_) (λ new h2 xs2 sb sg2 pm=>?_)
  ·refine wpAny_pure ⟨plainId_quiet F.plain_set_update_loop _,ih (i + 1) { s with heap:=h1,toks:=tk2 } xs (by omega) lt st1 kp1 sg1 ?_ λ h' tk' xs' a b c=>q h' tk' xs' a b c⟩
   refine ⟨λ x hx=>?_,λ j hj=>?_⟩
   ·obtain ⟨j,a1,a2⟩:=g.1 x hx
    exact ⟨j,by omega,a2⟩
   ·by_cases c:j < i
    ·exact g.2 j c
    ·have:j=i:=by omega
     rw [this]; exact old
  ·have kp2:KpH h0 h2:=λ b o e=>by rw [sb.2 b (nl e).2]; exact kp1 b o e
   refine wpAny_pure ⟨plainId_quiet F.plain_set_update_loop _,ih (i + 1) { s with heap:=h2,toks:=tk2 } xs2 (by omega) lt (W.frame _ h1 _ st1 λ b hb o e=>?_) kp2 sg2 ?_ λ h' tk' xs' a b c=>q h' tk' xs' a b c⟩
   ·rw [sb.2 b (λ z=>hS (by rw [<- z]; exact hb))]; exact e
   ·refine ⟨λ x hx=>?_,λ j hj=>?_⟩
    ·rcases List.mem_cons.mp (pm.mem_iff.mp hx) with rfl | hx
     ·exact ⟨i,by omega,hP,rfl⟩
     ·obtain ⟨j,a1,a2⟩:=g.1 x hx
      exact ⟨j,by omega,a2⟩
    ·refine (pm.map (·.1)).mem_iff.mpr ?_
     by_cases c:j < i
     ·exact mem_cons_of_mem _ (g.2 j c)
     ·have:j=i:=by omega
      rw [this]; exact mem_cons_self ..
def nset (b:Bool):Obj:={ cls:=.type "set",dict:=none,data:=.set #[] 0 (.fresh 0 0 b) }
theorem wz1 (v:Value) {Q1:Value->Shared->Prop} (h:Q1 (.ref s.heap.objs.size) { s with heap:=s.heap.push (nset (!bT prog w)) }):codeAny (model prog w) A (.call (.builtin "set.__new__") ⟨[.type "set",v],[]⟩) (wants Q1 E) s:=by
 refine codeAny_of_tree ?_
 show wpAny _ A.in1 (do checkBuiltinCall "set.__new__" ⟨[.type "set",v],[]⟩; again (.builtin "set.__new__" ⟨[.type "set",v],[]⟩)) _ _ s
 refine wpAny_bind (wpAny_of_eq (F.newCall_set_1 v) (wpAny_pure ⟨plainId_quiet F.plain_set_new _,codeAny_builtin F.entry_set_new ?_⟩))
 rw [Around.under_plainId F.plain_set_new _]; unfold Builtin.«set.__new__» Builtin.Frozenset.newClass
 have ss:=sub_set_self
 obtain ⟨hp,g,d,tk,os⟩:=s
 dsimp only; wp_walk
 refine wpAny_askSetting (wpAny_pure ?_); dsimp only; simp only [newObj]
 refine wpAny_bind (wpAny_alloc (wpAny_pure ?_)); exact wpAny_pure h
theorem set0 {h:Heap} {a:Addr} (e:h.get? a=some (nset (!bT prog w))):SetG prog w hf h a []:=by
 refine ⟨_,#[],0,.fresh 0 0 (!bT prog w),⟨e,?_,rfl,rfl,(λ x hx=>nomatch hx),nodup_nil,?_,(show 0<=7 by decide),rfl,rfl⟩,(show 0 * 5 < 7 * 3 by decide)⟩
 ·exact ⟨rfl,rfl,rfl⟩
 ·refine ⟨by simp [Rise,SetTable.fresh],by simp [Rise,SetTable.fresh],(λ j h=>by simp [SetTable.fresh] at h),(λ j h=>by simp [SetTable.fresh] at h),(λ j h=>by simp [SetTable.fresh] at h),(show 7 ∈ okM by decide),rfl,(λ i j h z=>by simp [SetTable.fresh] at z)⟩
theorem zw0:isSubtype (.type "tuple") (.type "set")=pure false:=by rw [isSubtype_type]; kernel_rfl
theorem sn0:isSubtype (.type "tuple") (.type "frozenset")=pure false:=by rw [isSubtype_type]; kernel_rfl
theorem wa1 {l:Addr} {items:Array Value} {ks:Nat->T3} {Q:Value->Shared->Prop} (hh:A.handled=none) (hu:A.units + 16 < cLine) (hl:s.heap.IsList l items)
    (hi:∀ i v,i < items.size->items[i]?=some v->∃ b,v=.ref b /\ TK prog w s.heap (ks i) b) (B:∀ l:List T3,l.Nodup->(∀ x ∈ l,∃ j,j < items.size /\ ks j=x)->l.length < 63)
    (h:∀ (h':Heap) (tk:Nat) xs,KpH s.heap h'->SetG prog w (hT prog w) h' s.heap.objs.size xs->Got (λ i v=>items[i]?=some v) ks items.size xs->Q (.ref s.heap.objs.size) { s with heap:=h',toks:=tk }) :
    wpAny (model prog w) A (call (.type "set") [.ref l]) Q E s:=by
 obtain ⟨c,tl,emro⟩:=F.called_set.mro
 have e0:=F.called_set.made
 have e1:=F.called_set.sub
 refine wpAny_call (codeAny_of_tree ?_); show wpAny _ _ (callAny (.type "set") _) _ _ _
 refine wpAny_pure ⟨Code.quiet_builtin _ (by decide +kernel),codeAny_builtin F.entry_type_call ?_⟩; rw [Around.under_plain (weight_type_call_type "set" [.ref l] []) rfl]
 have e2:=F.called_set.notType
 have e3:=F.called_set.canCreate
 have e4:=F.typeCall_set_1 (.ref l)
 repeat (any_goals (first | assumption | wp_step))
 refine codeAny_mono (wz1 (.ref l) (E:=E) (Q1:=λ obj s1=>obj=.ref s.heap.objs.size /\ s1={ s with heap:=s.heap.push (nset (!bT prog w)) }) ⟨rfl,rfl⟩) λ r s1 hr=>?_
 cases r with
 | error e=>exact hr
 | ok fl =>
  cases fl with
  | ret obj =>
   obtain ⟨rfl,rfl⟩:=hr
   have gS:(s.heap.push (nset (!bT prog w))).get? s.heap.objs.size=some (nset (!bT prog w)):=Heap.get?_push_size _ rfl
   have tS:Shared.TypeIs { s with heap:=s.heap.push (nset (!bT prog w)) } (.ref s.heap.objs.size) "set" := ⟨_,gS,rfl⟩
   have e5:=F.called_set.init.lookup
   have e6:=F.called_set.init.bind (.ref s.heap.objs.size)
   repeat (any_goals (first | assumption | wp_step))
   refine codeAny_mono (codeAny_call_builtin (R:=wants (λ r s2=>r=.none /\ ∃ h' tk xs,s2={ s with heap:=h',toks:=tk } /\ KpH s.heap h' /\ SetG prog w (hT prog w) h' s.heap.objs.size xs /\ Got (λ i v=>items[i]?=some v) ks items.size xs) E) F.called_set.init.plain F.entry_set_init (check_set_init_1 tS ?_)) λ r2 s2 hr2=>?_
   ·obtain ⟨ol,gl,cl,nl,dl⟩:=hl
    obtain ⟨ocls,odict,odata,oslots⟩:=ol
    simp only at cl dl
    subst cl; subst dl
    have gl':(s.heap.push (nset (!bT prog w))).get? l=some { cls:=.type "list",dict:=odict,data:=.seq items nl,slots:=oslots }:=Heap.get?_push_of_some _ gl
    have f1:=F.sub_list_set
    have f2:=F.sub_list_frozenset
    have f3:(Value.type "list" == Value.type "dict")=false:=by decide
    have il:(s.heap.push (nset (!bT prog w))).IsList l items:=⟨_,gl',rfl,nl,rfl⟩
    unfold Builtin.«set.__init__» noKeywords Builtin.Frozenset.updateFrom
    generalize hPI:pyIter=PI
    wp_walk
    subst hPI; refine wpAny_pyIter_list il ?_; refine wpAny_bind (wpAny_runValue ?_)
    have ls:l < s.heap.objs.size:=Heap.lt_size gl
    have z1:(s.heap.push (nset (!bT prog w))).objs.size=s.heap.objs.size + 1:=Heap.size_push ..
    have ni:l ≠ (s.heap.push (nset (!bT prog w))).objs.size:=by rw [z1]; exact Nat.ne_of_lt (Nat.lt_succ_of_lt ls)
    refine vm1 (A:=A.in1.in1) (h0:=s.heap) (ks:=ks) (Walks.list (show A.in1.in1.in1.handled=none by simp [hh]) _ l ni items) (S:=s.heap.objs.size) ?_ (show A.units + 1 + 1 + 1 < cLine by omega) ?_ (λ i v lt e=>hi i v lt e) B (items.size - 0) 0 _ [] (by omega) (Nat.zero_le _) ?_ ?_ ?_ ?_ ?_
    ·rw [z1]
     intro z
     rcases List.mem_cons.mp z with z | z
     ·exact Nat.ne_of_lt (Nat.lt_succ_self _) z
     ·rcases List.mem_cons.mp z with z | z
      ·exact Nat.ne_of_gt ls z
      ·cases z
    ·intro b hb
     rcases List.mem_cons.mp hb with rfl | hb
     ·exact Nat.le_refl _
     ·rcases List.mem_cons.mp hb with rfl | hb
      ·rw [z1]; exact Nat.le_succ _
      ·cases hb
    ·exact ⟨⟨_,Heap.get?_push_size _ rfl,rfl,rfl⟩,il.push _⟩
    ·exact λ b o e=>Heap.get?_push_of_some _ (Heap.get?_push_of_some _ e)
    ·exact set0 (Heap.get?_push_of_some _ gS)
    ·exact ⟨(λ x hx=>nomatch hx),λ j hj=>absurd hj (Nat.not_lt_zero _)⟩
    ·intro h' tk xs kp sg g
     show wpAny _ _ _ _ _ _
     refine wpAny_pure ?_
     show wpAny _ _ (ret Value.none) _ _ _
     exact wpAny_pure ⟨rfl,h',tk,xs,rfl,kp,sg,g⟩
   ·cases r2 with
    | error e=>exact hr2
    | ok fl2 =>
     cases fl2 with
     | ret r =>
      obtain ⟨rfl,h',tk,xs,rfl,kp,sg,g⟩:=hr2
      repeat (any_goals (first | assumption | wp_step))
      exact h _ _ _ kp sg g
     | _=>exact hr2.elim
  | _=>exact hr.elim
theorem zz1 {l:Addr} {items:Array Value} {ks:Nat->T3} {Q:Value->Shared->Prop} (hh:A.handled=none) (hu:A.units + 16 < cLine) (hl:s.heap.IsTuple l items)
    (hi:∀ i v,i < items.size->items[i]?=some v->∃ b,v=.ref b /\ TK prog w s.heap (ks i) b) (B:∀ l:List T3,l.Nodup->(∀ x ∈ l,∃ j,j < items.size /\ ks j=x)->l.length < 63)
    (h:∀ (h':Heap) (tk:Nat) xs,KpH s.heap h'->SetG prog w (hT prog w) h' s.heap.objs.size xs->Got (λ i v=>items[i]?=some v) ks items.size xs->Q (.ref s.heap.objs.size) { s with heap:=h',toks:=tk }) :
    wpAny (model prog w) A (call (.type "set") [.ref l]) Q E s:=by
 obtain ⟨c,tl,emro⟩:=F.called_set.mro
 have e0:=F.called_set.made
 have e1:=F.called_set.sub
 refine wpAny_call (codeAny_of_tree ?_); show wpAny _ _ (callAny (.type "set") _) _ _ _
 refine wpAny_pure ⟨Code.quiet_builtin _ (by decide +kernel),codeAny_builtin F.entry_type_call ?_⟩; rw [Around.under_plain (weight_type_call_type "set" [.ref l] []) rfl]
 have e2:=F.called_set.notType
 have e3:=F.called_set.canCreate
 have e4:=F.typeCall_set_1 (.ref l)
 repeat (any_goals (first | assumption | wp_step))
 refine codeAny_mono (wz1 (.ref l) (E:=E) (Q1:=λ obj s1=>obj=.ref s.heap.objs.size /\ s1={ s with heap:=s.heap.push (nset (!bT prog w)) }) ⟨rfl,rfl⟩) λ r s1 hr=>?_
 cases r with
 | error e=>exact hr
 | ok fl =>
  cases fl with
  | ret obj =>
   obtain ⟨rfl,rfl⟩:=hr
   have gS:(s.heap.push (nset (!bT prog w))).get? s.heap.objs.size=some (nset (!bT prog w)):=Heap.get?_push_size _ rfl
   have tS:Shared.TypeIs { s with heap:=s.heap.push (nset (!bT prog w)) } (.ref s.heap.objs.size) "set" := ⟨_,gS,rfl⟩
   have e5:=F.called_set.init.lookup
   have e6:=F.called_set.init.bind (.ref s.heap.objs.size)
   repeat (any_goals (first | assumption | wp_step))
   refine codeAny_mono (codeAny_call_builtin (R:=wants (λ r s2=>r=.none /\ ∃ h' tk xs,s2={ s with heap:=h',toks:=tk } /\ KpH s.heap h' /\ SetG prog w (hT prog w) h' s.heap.objs.size xs /\ Got (λ i v=>items[i]?=some v) ks items.size xs) E) F.called_set.init.plain F.entry_set_init (check_set_init_1 tS ?_)) λ r2 s2 hr2=>?_
   ·obtain ⟨ol,gl,cl,nl,dl⟩:=hl
    obtain ⟨ocls,odict,odata,oslots⟩:=ol
    simp only at cl dl
    subst cl; subst dl
    have gl':(s.heap.push (nset (!bT prog w))).get? l=some { cls:=.type "tuple",dict:=odict,data:=.seq items nl,slots:=oslots }:=Heap.get?_push_of_some _ gl
    have f1:=zw0
    have f2:=sn0
    have f3:(Value.type "tuple" == Value.type "dict")=false:=by decide
    have il:(s.heap.push (nset (!bT prog w))).IsTuple l items:=⟨_,gl',rfl,nl,rfl⟩
    unfold Builtin.«set.__init__» noKeywords Builtin.Frozenset.updateFrom
    generalize hPI:pyIter=PI
    wp_walk
    subst hPI; refine wpAny_pyIter_tuple il ?_; refine wpAny_bind (wpAny_runValue ?_)
    have ls:l < s.heap.objs.size:=Heap.lt_size gl
    have z1:(s.heap.push (nset (!bT prog w))).objs.size=s.heap.objs.size + 1:=Heap.size_push ..
    have ni:l ≠ (s.heap.push (nset (!bT prog w))).objs.size:=by rw [z1]; exact Nat.ne_of_lt (Nat.lt_succ_of_lt ls)
    refine vm1 (A:=A.in1.in1) (h0:=s.heap) (ks:=ks) (Walks.tuple (show A.in1.in1.in1.handled=none by simp [hh]) _ l ni items) (S:=s.heap.objs.size) ?_ (show A.units + 1 + 1 + 1 < cLine by omega) ?_ (λ i v lt e=>hi i v lt e) B (items.size - 0) 0 _ [] (by omega) (Nat.zero_le _) ?_ ?_ ?_ ?_ ?_
    ·rw [z1]
     intro z
     rcases List.mem_cons.mp z with z | z
     ·exact Nat.ne_of_lt (Nat.lt_succ_self _) z
     ·rcases List.mem_cons.mp z with z | z
      ·exact Nat.ne_of_gt ls z
      ·cases z
    ·intro b hb
     rcases List.mem_cons.mp hb with rfl | hb
     ·exact Nat.le_refl _
     ·rcases List.mem_cons.mp hb with rfl | hb
      ·rw [z1]; exact Nat.le_succ _
      ·cases hb
    ·exact ⟨⟨_,Heap.get?_push_size _ rfl,rfl,rfl⟩,il.push _⟩
    ·exact λ b o e=>Heap.get?_push_of_some _ (Heap.get?_push_of_some _ e)
    ·exact set0 (Heap.get?_push_of_some _ gS)
    ·exact ⟨(λ x hx=>nomatch hx),λ j hj=>absurd hj (Nat.not_lt_zero _)⟩
    ·intro h' tk xs kp sg g
     show wpAny _ _ _ _ _ _
     refine wpAny_pure ?_
     show wpAny _ _ (ret Value.none) _ _ _
     exact wpAny_pure ⟨rfl,h',tk,xs,rfl,kp,sg,g⟩
   ·cases r2 with
    | error e=>exact hr2
    | ok fl2 =>
     cases fl2 with
     | ret r =>
      obtain ⟨rfl,h',tk,xs,rfl,kp,sg,g⟩:=hr2
      repeat (any_goals (first | assumption | wp_step))
      exact h _ _ _ kp sg g
     | _=>exact hr2.elim
  | _=>exact hr.elim
end
theorem yp2 {α β:Type} {f:α->β} {l m:List β} (p:l.Perm m):∀ xs:List α,m=xs.map f->∃ ys:List α,ys.Perm xs /\ l=ys.map f:=by
 induction p with
 | nil=>intro xs e; cases xs with
  | nil=>exact ⟨[],.nil,rfl⟩
  | cons _ _=>cases e
 | cons a _ ih =>
  intro xs e
  cases xs with
  | nil=>cases e
  | cons x xs =>
   rw [map_cons] at e
   injection e with e1 e2
   obtain ⟨ys,p,q⟩:=ih xs e2
   exact ⟨x :: ys,p.cons x,by rw [map_cons,e1,q]⟩
 | swap a b l =>
  intro xs e
  match xs,e with
  | x :: y :: xs,e =>
   simp only [map_cons,List.cons.injEq] at e
   obtain ⟨e1,e2,e3⟩:=e
   exact ⟨y :: x :: xs,.swap x y xs,by rw [map_cons,map_cons,e1,e2,e3]⟩
 | trans _ _ i1 i2 =>
  intro xs e
  obtain ⟨ys,p,q⟩:=i2 xs e
  obtain ⟨zs,p',q'⟩:=i1 ys q
  exact ⟨zs,p'.trans p,q'⟩
theorem vq1 {α:Type}:∀ {l:List α} {i:Nat} (h:i < l.length),(l[i] :: l.eraseIdx i).Perm l
 | x :: l,0,_=>List.Perm.refl _
 | x :: l,i + 1,h=>(List.Perm.swap _ _ _).trans ((vq1 (l:=l) (i:=i) (by simpa using h)).cons x)
theorem vc2 {α:Type} (next:Nat->Nat):∀ (fuel k:Nat) (left:List α) (out:Array α),left.length<=fuel->(pickOrder.go next fuel k left out).toList.Perm (out.toList ++ left)
 | 0,k,left,out,h=>by
  have:left=[]:=List.length_eq_zero_iff.mp (by omega)
  subst this
  unfold pickOrder.go
  rw [append_nil]
 | fuel + 1,k,left,out,h=>by
  unfold pickOrder.go
  by_cases c:left=[]
  ·subst c
   simp
  ·have lt:next k % left.length < left.length:=Nat.mod_lt _ (List.length_pos_iff.mpr c)
   rw [getElem?_eq_getElem lt]
   dsimp only
   refine (vc2 next fuel (k + 1) _ _ (by rw [List.length_eraseIdx_of_lt lt]; omega)).trans ?_
   rw [Array.toList_push,append_assoc]
   refine List.Perm.append_left _ ?_
   exact vq1 lt
theorem wc2 {α:Type} (next:Nat->Nat) (xs:Array α):(pickOrder next xs).toList.Perm xs.toList:=by
 have:=vc2 next xs.size 0 xs.toList #[] (by simp)
 simpa [pickOrder] using this
theorem sl4 {xs:Array Nat} (h:Rise xs):SetTable.below xs 0=0:=by
 by_cases c:SetTable.below xs 0=0
 ·exact c
 ·have hl:=xn0 h 0
  have hz:0 < xs.size:=by omega
  have q:xs[0]?=some xs[0]:=Array.getElem?_eq_getElem hz
  have:=(vk0 h 0 q).mp (by omega)
  omega
theorem tl4 {xs:Array Nat} (h:Rise xs) {i j:Nat} (q:xs[i]?=some j):SetTable.below xs (j + 1)=i + 1:=by
 have h1:=(vk0 h (j + 1) q).mpr (by omega)
 have hl:=xn0 h (j + 1)
 by_cases c:i + 1 < SetTable.below xs (j + 1)
 ·have hz:i + 1 < xs.size:=by omega
  have q2:xs[i + 1]?=some xs[i + 1]:=Array.getElem?_eq_getElem hz
  have a:=(vk0 h (j + 1) q2).mp c
  have b:=un0 h q q2 (by omega)
  omega
 ·omega
theorem yd2:Manifest.owners.lookup (String.ofList "set_iterator".toList.reverse.reverse)=some Manifest.sig_set_iterator:=by kernel_rfl
theorem slot_sit:Slot "set_iterator" "__next__" "set_iterator.__next__" := by
 refine .of (owner := "set_iterator") (n := "__next__") ?_ ?_ ?_ ?_ ?_ ?_
 ·rw [typeLookup_type,builtinLookup_eq_fast]; kernel_rfl
 ·decide +kernel
 ·decide +kernel
 ·decide +kernel
 ·first | exact .inl (by decide +kernel) | exact .inr (by decide +kernel)
 ·rw [isSubtype_type]; kernel_rfl
theorem wn1:Slot "set_iterator" "__iter__" "set_iterator.__iter__" := by
 refine .of (owner := "set_iterator") (n := "__iter__") ?_ ?_ ?_ ?_ ?_ ?_
 ·rw [typeLookup_type,builtinLookup_eq_fast]; kernel_rfl
 ·decide +kernel
 ·decide +kernel
 ·decide +kernel
 ·first | exact .inl (by decide +kernel) | exact .inr (by decide +kernel)
 ·rw [isSubtype_type]; kernel_rfl
theorem vh1:entryFor table "set_iterator.__next__" = some Builtin.«set_iterator.__next__» := by exact entryFor_of_tree (by kernel_rfl)
theorem zg2:entryFor table "set_iterator.__iter__" = some Builtin.«dict_keyiterator.__iter__» := by refine entryFor_alias (id' := "dict_keyiterator.__iter__") (by kernel_rfl) ?_ (by decide +kernel) (by kernel_rfl); first | rfl | decide +kernel | (unfold String.splitOn; simp +decide [String.splitOnAux])
theorem wr1 (a:Value):argsOk "set_iterator.__next__" ⟨[a],[]⟩:=by
 unfold argsOk
 rw [signature?_of (id := "set_iterator.__next__") (n := "__next__".toList.reverse) (o := "set_iterator".toList.reverse) (by kernel_rfl) yd2]
 kernel_rfl
theorem xu2 (a:Value):argsOk "set_iterator.__iter__" ⟨[a],[]⟩:=by
 unfold argsOk
 rw [signature?_of (id := "set_iterator.__iter__") (n := "__iter__".toList.reverse) (o := "set_iterator".toList.reverse) (by kernel_rfl) yd2]
 kernel_rfl
theorem uw1:entryFor table "set.__iter__" = some Builtin.«frozenset.__iter__» := by exact entryFor_alias (id' := "frozenset.__iter__") (by kernel_rfl) rfl (by decide +kernel) (by kernel_rfl)
def SIt (h:Heap) (it a:Addr) (sl i n ep:Nat):Prop:=∃ o,h.get? it=some o /\ o.cls=.type "set_iterator" /\ o.data=.fields #[rawInt sl,rawInt i,.ref a,rawInt n,rawInt ep]
theorem SIt.keep {h h':Heap} {it a:Addr} {sl i n ep:Nat} (x:SIt h it a sl i n ep) (k:∀ o,h.get? it=some o->h'.get? it=some o):SIt h' it a sl i n ep:=by
 obtain ⟨o,e1,e2⟩:=x
 exact ⟨o,k o e1,e2⟩
theorem SIt.ty {s:Shared} {it a:Addr} {sl i n ep:Nat} (x:SIt s.heap it a sl i n ep):s.TypeIs (.ref it) "set_iterator" := by
 obtain ⟨o,e1,e2,_⟩:=x
 exact ⟨o,e1,e2⟩
theorem sf2 {h:Heap} {it:Addr} {o:Obj} {vs:Array Value} {c:Value} (e1:h.get? it=some o) (e2:o.cls=c) (e3:o.data=.fields vs) (j:Nat) (x:Value) :
    ∃ o',(h.update it (Obj.mapFields (·.setIfInBounds j x))).get? it=some o' /\ o'.cls=c /\ o'.data=.fields (vs.setIfInBounds j x) :=
 ⟨_,Heap.get?_update_self _ e1 (Obj.isFreed_of_fields (Obj.data_mapFields e3 _)),(Obj.cls_mapFields ..).trans e2,Obj.data_mapFields e3 _⟩
structure SObj (prog:Program) (w:World) (h:Heap) (a:Addr) (o:Obj) (es:Array (Int × Value)) (ep:Nat) (t:SetTable):Prop where
 ho:h.get? a=some o
 ex:o.ExactSet
 hd:o.data=.set es ep t
 fits:t.fits es.size=true
 ris:Rise t.place
 sz:t.place.size=es.size
 pl:t.plain=true
 le:t.led = !bT prog w
theorem SObj.keep {prog:Program} {w:World} {h h':Heap} {a:Addr} {o:Obj} {es:Array (Int × Value)} {ep:Nat} {t:SetTable} (S:SObj prog w h a o es ep t) (k:∀ o,h.get? a=some o->h'.get? a=some o):SObj prog w h' a o es ep t :=
 ⟨k o S.ho,S.ex,S.hd,S.fits,S.ris,S.sz,S.pl,S.le⟩
theorem SetIs.obj {prog:Program} {w:World} {hf:T3->Int} {h:Heap} {a:Addr} {o:Obj} {es:Array (Int × Value)} {ep:Nat} {t:SetTable} {xs:List (T3 × Addr)} (S:SetIs prog w hf h a o es ep t xs):SObj prog w h a o es ep t :=
 ⟨S.ho,S.ex,S.hd,S.fits,S.ok.ris,by have h1:=S.ok.sz; have h2:=S.size; rw [length_map] at h1; omega,S.pl,S.le⟩
section
variable {prog:Program} {w:World} {A:Around} {E:Value->Shared->Prop} {s:Shared} {a it:Addr} {o:Obj} {es:Array (Int × Value)} {ep:Nat} {t:SetTable}
theorem um2 {Q:Value->Shared->Prop} (S:SObj prog w s.heap a o es ep t)
    (q:Q (.ref s.heap.objs.size) { s with heap:=s.heap.push { cls:=.type "set_iterator",data:=.fields #[rawInt (0:Nat),rawInt (0:Nat),.ref a,rawInt es.size,rawInt ep] } }):wpAny (model prog w) A (pyIter (.ref a)) Q E s:=by
 have ty:s.TypeIs (.ref a) "set" := ⟨o,S.ho,S.ex.1⟩
 refine wpAny_pyIter_slot ty F.slot_set_iter (wpAny_call_entry F.slot_set_iter ty uw1 ?_ (F.args_set_iter_1 _))
 unfold Builtin.«frozenset.__iter__» Builtin.Frozenset.slot0 slotArgs
 simp only [List.isEmpty_nil,Bool.not_true,Bool.false_eq_true,↓reduceIte,bind_assoc,length_nil,bne_self_eq_false]
 unfold Builtin.Frozenset.addrOf Builtin.Frozenset.sizeOf
 refine wpAny_bind (wpAny_pure ?_)
 try dsimp only
 refine wpAny_bind (wpAny_pure ?_)
 refine wpAny_bind (wpAny_bind (wpAny_setEntries_of S.ho S.hd S.fits (wpAny_pure ?_)))
 have dr:wpAny (model prog w) A.in1 (setDrawn a) (λ b s'=>b=false /\ s'=s) E s:=by
  unfold setDrawn setsByText
  refine wpAny_bind (wpAny_setState_of S.ho S.hd S.fits ?_)
  dsimp only
  refine wpAny_bind (wpAny_bind (wpAny_askSetting (wpAny_pure (wpAny_pure ⟨?_,rfl⟩))))
  show (!_ && (!t.plain && _))=false
  rw [S.pl]
  simp
 refine wpAny_bind (wpAny_mono dr (λ b s' h=>?_) λ _ _ h=>h)
 obtain ⟨rfl,rfl⟩:=h
 simp only [Bool.false_eq_true,if_false]
 refine wpAny_bind (wpAny_pure ?_)
 refine wpAny_bind (wpAny_setEpoch_of S.ho S.hd S.fits ?_)
 refine wpAny_bind (wpAny_newObj_type (wpAny_pure ⟨_,rfl, "set_iterator",_,⟨_,Heap.get?_push_size _ rfl,rfl⟩,slot_sit.lookup,q⟩))
def ordS (prog:Program) (w:World) (a:Addr) (ep:Nat) (es:Array (Int × Value)):Array (Int × Value):=if bT prog w=true then pickOrder ((model prog w).w.params.setOrder a ep) es else es
theorem wo1:(ordS prog w a ep es).toList.Perm es.toList:=by
 unfold ordS
 split
 ·exact wc2 _ _
 ·exact List.Perm.refl _
theorem xc1:(ordS prog w a ep es).size=es.size:=by
 have:=(wo1 (prog:=prog) (w:=w) (a:=a) (ep:=ep) (es:=es)).length_eq
 simpa using this
theorem yx0 {Q:Option (Value × Nat)->Shared->Prop} (S:SObj prog w s.heap a o es ep t) {sl i:Nat} (hb:bT prog w=false->SetTable.below t.place sl=i)
    (some':∀ e nx,(ordS prog w a ep es)[i]?=some e->(bT prog w=false->SetTable.below t.place nx=i + 1)->Q (some (e.2,nx)) s) (none':(ordS prog w a ep es)[i]?=none->Q none s) :
    wpAny (model prog w) A (setNext a sl i ep) Q E s:=by
 unfold setNext setsByText
 refine wpAny_bind (wpAny_setState_of S.ho S.hd S.fits ?_)
 dsimp only
 refine wpAny_bind (wpAny_bind (wpAny_askSetting (wpAny_pure ?_)))
 unfold ordS at some' none'
 by_cases c:bT prog w=true
 ·rw [if_pos (show (model prog w).w.params.followText "set-order" = true from c)]
  rw [if_pos c] at some' none'
  rw [if_neg (by simp)]
  refine wpAny_bind ?_
  unfold setWalk setsByText
  refine wpAny_bind (wpAny_setState_of S.ho S.hd S.fits ?_)
  dsimp only
  refine wpAny_bind (wpAny_bind (wpAny_askSetting (wpAny_pure ?_)))
  rw [if_pos (show (model prog w).w.params.followText "set-order" = true from c)]
  refine wpAny_bind (wpAny_askSetting (wpAny_pure (wpAny_pure ?_)))
  show Q (Option.map _ (pickOrder ((model prog w).w.params.setOrder a ep) es)[i]?) s
  cases e:(pickOrder ((model prog w).w.params.setOrder a ep) es)[i]? with
  | none=>exact none' e
  | some v=>exact some' v sl e (λ z=>by rw [c] at z; cases z)
 ·have cf:bT prog w=false:=by simpa using c
  rw [if_neg (show ¬ (model prog w).w.params.followText "set-order" = true from c)]
  rw [if_neg c] at some' none'
  split
  ·next dr =>
   have:(!t.plain && decide (es.size > 1))=true:=dr
   rw [S.pl] at this
   cases this
  ·refine wpAny_bind ?_
   show wpAny _ _ (ite (_=true) _ (pure PUnit.unit)) _ _ _
   rw [if_neg (by rw [S.le,cf]; simp)]
   refine wpAny_pure (wpAny_pure ?_)
   rw [hb cf]
   cases e:es[i]? with
   | none=>exact none' e
   | some v =>
    have hlt:i < t.place.size:=by
     have h1:=S.sz
     have:=(Array.getElem?_eq_some_iff.mp e).1
     omega
    have q:t.place[i]?=some t.place[i]:=Array.getElem?_eq_getElem hlt
    rw [q]
    exact some' v _ e (λ _=>tl4 S.ris q)
theorem vm2 {Q:Option Value->Shared->Prop} (S:SObj prog w s.heap a o es ep t) {sl i:Nat} (hi:SIt s.heap it a sl i es.size ep) (hb:bT prog w=false->SetTable.below t.place sl=i) (lt:i < es.size)
    (q:∀ h' e nx,(ordS prog w a ep es)[i]?=some e->SIt h' it a nx (i + 1) es.size ep->(bT prog w=false->SetTable.below t.place nx=i + 1)->Heap.SameBut it s.heap h'->Q (some e.2) { s with heap:=h' }):wpAny (model prog w) A (pyNext (.ref it)) Q E s:=by
 obtain ⟨oi,a1,a2,a3⟩:=id hi
 have ty:=hi.ty
 unfold pyNext
 refine wpAny_bind (wpAny_attempt (wpAny_callSpecial?_slot (name:=Str.ofString "__next__") ty slot_sit (wpAny_call_entry slot_sit ty vh1 ?a (wr1 _))))
 case a =>
  unfold Builtin.«set_iterator.__next__»
  refine wpAny_bind (m:=slotArgs "__next__" 0 _) (wpAny_pure ?_)
  refine wpAny_bind (wpAny_fieldsOf a1 a3 ?_)
  show wpAny _ _ (setEntries a >>= _) _ _ s
  refine wpAny_bind (wpAny_setEntries_of S.ho S.hd S.fits ?_)
  rw [if_neg (by simp)]
  show wpAny _ _ (setNext a sl i ep >>= _) _ _ s
  refine wpAny_bind (yx0 S hb (λ e nx e1 e2=>?_) λ e=>?_)
  ·show wpAny _ _ (setField (.ref it) 0 (rawInt nx) >>= _) _ _ s
   refine wpAny_bind (wpAny_setField a1 a3 (by simp) ?_)
   obtain ⟨o1,b1,b2,b3⟩:=sf2 a1 a2 a3 0 (rawInt nx)
   show wpAny _ _ (setField (.ref it) 1 (rawInt ((i:Int) + 1)) >>= _) _ _ _
   refine wpAny_bind (wpAny_setField b1 b3 (by simp) ?_)
   obtain ⟨o2,c1,c2,c3⟩:=sf2 b1 b2 b3 1 (rawInt ((i:Int) + 1))
   show wpAny _ _ (ret e.2) _ _ _
   exact wpAny_pure ⟨_,rfl,wpAny_pure (q _ e nx e1 ⟨o2,c1,c2,c3⟩ e2 ((Heap.SameBut.update ..).trans (Heap.SameBut.update ..)))⟩
  ·rw [Array.getElem?_eq_getElem (by rw [xc1]; exact lt)] at e
   cases e
theorem uc3 {Q:Option Value->Shared->Prop} (hh:A.handled=none) (S:SObj prog w s.heap a o es ep t) {sl:Nat} (hi:SIt s.heap it a sl es.size es.size ep) (hb:bT prog w=false->SetTable.below t.place sl=es.size)
    (q:∀ h',Heap.ExtBut it s.heap h'->Q none { s with heap:=h' }):wpAny (model prog w) A (pyNext (.ref it)) Q E s:=by
 obtain ⟨oi,a1,a2,a3⟩:=id hi
 have ty:=hi.ty
 unfold pyNext
 refine wpAny_bind (wpAny_attempt (wpAny_callSpecial?_slot (name:=Str.ofString "__next__") ty slot_sit (wpAny_call_entry slot_sit ty vh1 ?a (wr1 _))))
 case a =>
  unfold Builtin.«set_iterator.__next__»
  refine wpAny_bind (m:=slotArgs "__next__" 0 _) (wpAny_pure ?_)
  refine wpAny_bind (wpAny_fieldsOf a1 a3 ?_)
  show wpAny _ _ (setEntries a >>= _) _ _ s
  refine wpAny_bind (wpAny_setEntries_of S.ho S.hd S.fits ?_)
  rw [if_neg (by simp)]
  show wpAny _ _ (setNext a sl es.size ep >>= _) _ _ s
  refine wpAny_bind (yx0 S hb (λ e nx e1 e2=>?_) λ e=>?_)
  ·rw [getElem?_eq_none (by rw [xc1]; exact Nat.le_refl _)] at e1
   cases e1
  ·show wpAny _ _ (setField (.ref it) 2 .none >>= _) _ _ s; refine wpAny_bind (wpAny_setField a1 a3 (by simp) ?_)
   show wpAny _ _ (newExc (.type "StopIteration") [] >>= _) _ _ _; refine wpAny_bind ?_; simp only [newExc,newTuple]
   refine wpAny_bind (wpAny_newObj_type (wpAny_bind (m:=firstArgMember _ _) (wpAny_of_eq (a:=Value.none) (by first | rfl | (simp only [firstArgMember]; rfl)) (wpAny_newObj_type ?_ (by size_fits)))) (by size_fits))
   simp only [raiseNew]; refine wpAny_bind (wpAny_handled ?_); rw [show A.in1.handled=none from hh]
   refine wpAny_bind (wpAny_pure (wpAny_throw ?_)); refine wpAny_bind (wpAny_isInstance (T := "StopIteration") (b:=true) ⟨_,Heap.get?_push_size _ rfl,rfl⟩ isSubtype_stop ?_)
   exact wpAny_pure (q _ (((Heap.SameBut.update ..).extBut.push _).push _))
theorem wm2 {Q:Value->Shared->Prop} {sl i n:Nat} (hi:SIt s.heap it a sl i n ep) (h:Q (.ref it) s):wpAny (model prog w) A (pyIter (.ref it)) Q E s:=by
 have ty:=hi.ty
 refine wpAny_pyIter_slot ty wn1 (wpAny_call_entry wn1 ty zg2 ?_ (xu2 _))
 show wpAny _ _ (ret (.ref it)) _ _ s
 exact wpAny_pure ⟨_,rfl, "set_iterator",_,ty,slot_sit.lookup,h⟩
theorem ys2 {Q:Bool->Shared->Prop} (ty:s.TypeIs (.ref a) "set") (h:Q false s):wpAny (model prog w) A (Builtin.List.listLengthHint (.ref a)) Q E s:=by
 unfold Builtin.List.listLengthHint
 refine wpAny_bind (wpAny_specialOf ty PySem.F.slot_set_len.lookup ?_); generalize hid:("set.__len__" : String)=id0; wp_delta
 rw [show splitId id0=some ("set", "__len__") from by subst hid; decide +kernel]; subst hid
 refine wpAny_bind (wpAny_isInstance (T := "set") (b:=true) ty (by rw [isSubtype_type]; kernel_rfl) ?_)
 refine wpAny_ite_split (λ c=>absurd c (by decide)) (λ _=>?_); refine wpAny_ite_split (λ _=>?_) (λ c=>absurd (by decide +kernel) c)
 exact wpAny_bind (wpAny_typeOf ty (wpAny_pure h))
theorem xz1 (hh:A.handled=none) (I a:Addr) (ne:a ≠ I):Walks prog w A I [I,a] [I] es.size (λ i v=>∃ e,(ordS prog w a ep es)[i]?=some e /\ v=e.2)
    (λ i h=>∃ sl,SIt h I a sl i es.size ep /\ (bT prog w=false->SetTable.below t.place sl=i) /\ SObj prog w h a o es ep t) where
 sub:=λ b hb=>by simp at hb; simp [hb]
 frame:=λ _ _ _ z hk=>by
  obtain ⟨sl,z1,z2,z3⟩:=z
  exact ⟨sl,z1.keep λ o e=>hk I (by simp) o e,z2,z3.keep λ o e=>hk a (by simp) o e⟩
 item:=λ i s Q E hi z q=>by
  obtain ⟨sl,z1,z2,z3⟩:=z
  refine vm2 z3 z1 z2 hi λ h' e nx a1 a2 a3 a4=>?_
  exact q _ h' s.toks ⟨e,a1,rfl⟩ ⟨nx,a2,a3,z3.keep λ o e=>a4.extBut a o ne e⟩ λ b o hb e=>a4.extBut b o (λ y=>hb (by simp [y])) e
 done:=λ s Q E z q=>by
  obtain ⟨sl,z1,z2,z3⟩:=z
  exact uc3 hh z3 z1 z2 λ h' k=>q h' s.toks λ b o hb e=>k b o (λ y=>hb (by simp [y])) e
 self:=λ _ _ _ _ z q=>by
  obtain ⟨sl,z1,_⟩:=z
  exact wm2 z1 q
theorem ud3:KdlSrc prog w "set" a a es.size (λ i v=>∃ e,(ordS prog w a ep es)[i]?=some e /\ v=e.2) (λ h=>SObj prog w h a o es ep t) where
 type:=λ _ x=>⟨o,x.ho,x.ex.1⟩
 there:=λ _ x=>⟨Heap.lt_size x.ho,Heap.lt_size x.ho⟩
 keep:=λ _ _ x k=>x.keep λ o e=>k a (.inl rfl) o e
 notList:=by decide
 notTuple:=by decide
 hint:=λ _ _ _ _ x q=>ys2 ⟨o,x.ho,x.ex.1⟩ q
 iter:=λ _ s hh x=>by
  have hl:=Heap.lt_size x.ho
  exact ⟨_,_,(λ _ _ q=>um2 x q),xz1 hh _ a (Nat.ne_of_lt hl),⟨0,⟨_,Heap.get?_push_size _ rfl,rfl,rfl⟩,(λ _=>sl4 x.ris),x.keep λ o e=>Heap.get?_push_of_some _ e⟩⟩
theorem yf2 {acc:Array Value} (h:ItemsOf (λ i v=>∃ e,(ordS prog w a ep es)[i]?=some e /\ v=e.2) acc es.size):acc.toList=(ordS prog w a ep es).toList.map (·.2):=by
 obtain ⟨h1,h2⟩:=h
 have h3:=xc1 (prog:=prog) (w:=w) (a:=a) (ep:=ep) (es:=es)
 apply List.ext_getElem?
 intro i
 rw [getElem?_map,getElem?_toList,getElem?_toList]
 by_cases c:i < es.size
 ·obtain ⟨e,e1,e2⟩:=h2 i (acc[i]'(by omega)) (by simp)
  rw [e1,Array.getElem?_eq_getElem (by omega),e2]
  rfl
 ·rw [getElem?_eq_none (by omega),getElem?_eq_none (by omega)]
  rfl
theorem su2:∀ {h:Heap} {ys:List (T3 × Addr)},(∀ x ∈ ys,TK prog w h x.1 x.2)->T3s h (ys.map λ x=>Value.ref x.2) (ys.map (·.1))
 | _,[],_=>trivial
 | _,x :: ys,k=>⟨(k x (mem_cons_self ..)).t3,su2 λ y hy=>k y (mem_cons_of_mem _ hy)⟩
theorem zs1 {xs:List (T3 × Addr)} {hf:T3->Int} {Q:Value->Shared->Prop} (hh:A.handled=none) (S:SetG prog w hf s.heap a xs) (h64:xs.length < 64)
    (h:∀ (ys:List (T3 × Addr)) (p:Array Nat) (h1 h':Heap) (c tk:Nat),ys.Perm xs->p.Perm (List.toArray (List.range ys.length))->Ms.Up (ltI (ys.map (·.1))) p ys.length->(∀ b o,s.heap.get? b=some o->h1.get? b=some o)->(∀ b o,h1.get? b=some o->h'.get? b=some o) ->
     h'.get? h1.objs.size=some (seqObj "list" (outV (ys.map λ x=>Value.ref x.2) p).toArray c)->Q (.ref h1.objs.size) { s with heap:=h',toks:=tk }) :
    wpAny (model prog w) A (call (.builtin "sorted") [.ref a]) Q E s:=by
 obtain ⟨o,es,ep,t,S,_⟩:=S
 have zs:=S.size
 have hz:es.size<=sizeLine:=by rw [sizeLine_eq]; omega
 obtain ⟨ys,py,ey⟩:=yp2 (f:=ent hf) (wo1 (prog:=prog) (w:=w) (a:=a) (ep:=ep) (es:=es)) xs S.el
 refine Calls.call_function_entry kind_sorted plain_sorted entry_sorted (args_sorted1 _) ?_
 unfold Builtin.«sorted»
 refine wpAny_bind (m:=checkCount "sorted" 1 1 _) (wpAny_pure (wpAny_bind (kdu_collect (ud3 (o:=o) (t:=t)) hh S.obj hz λ h1 tk acc k1 ia=>?_)))
 rw [yf2 ia,ey,map_map,show ((λ x:Int × Value=>x.2) ∘ ent hf)=(λ x:T3 × Addr=>Value.ref x.2) from rfl]
 have l0:=py.length_eq
 have l1:(ys.map λ x=>Value.ref x.2).length=ys.length:=length_map _
 refine wpAny_bind (wpAny_newList ?_ (by rw [l1,l0,<- zs]; exact hz))
 have k2:∀ b o,s.heap.get? b=some o->(h1.push (seqObj "list" (ys.map λ x=>Value.ref x.2).toArray 0)).get? b=some o:=λ b o q=>Heap.get?_push_of_some _ (k1 b o q)
 have zo:(h1.push (seqObj "list" (ys.map λ x=>Value.ref x.2).toArray 0)).get? h1.objs.size=some (seqObj "list" (ys.map λ x=>Value.ref x.2).toArray 0):=Heap.get?_push_size _ rfl
 have tt:=T3s.kept (λ b o e _=>k2 b o e) (su2 (prog:=prog) (w:=w) (h:=s.heap) (ys:=ys) λ x hx=>S.ks x (py.mem_iff.mp hx))
 show wpAny _ _ _ _ _ { s with heap:=h1.push (seqObj "list" (ys.map λ x=>Value.ref x.2).toArray 0),toks:=tk }
 refine wpAny_bind (wpAny_holding (wpAny_call_entry slot_list_sort ⟨_,zo,rfl⟩ entry_list_sort (wc1 (s:={ s with heap:=h1.push (seqObj "list" (ys.map λ x=>Value.ref x.2).toArray 0),toks:=tk }) zo tt (by rw [l1,l0]; exact h64) λ p h' c a1 a2 a3 a4=>⟨_,rfl,?_⟩) (args_list_sort _)))
 rw [l1] at a1 a2
 exact wpAny_pure ⟨_,rfl,h ys p h1 h' c tk py a1 a2 k1 (λ b o q=>a3 b o (Nat.ne_of_lt (Heap.lt_size q)) (Heap.get?_push_of_some _ q)) a4⟩
end
abbrev vT (t:T3):List V:=[.int t.1,.int t.2.1,.int t.2.2]
def SB (ts:List T3):Prop:=∀ l:List T3,l.Nodup->(∀ x ∈ l,x ∈ ts)->l.length < 63
abbrev TSt:=L2.St->Hp->(List (T3 × Addr)->Hp->Prop)->Prop
def SE (X:Cx) (pins:List (Addr × Obj)) (σ:L2.St) (R:List (T3 × Addr)->Hp->Prop) (u:Value) (s':Shared):Prop :=
 ∃ a xs H',u=.ref a /\ Inv X pins σ H' s' /\ FpOk X pins H' a /\ SetG X.prog X.w (hT X.prog X.w) s'.heap a xs /\ (∀ x ∈ xs,H' x.2=some (.tup (vT x.1))) /\ xs.length < 63 /\ R xs H'
def PSt (X:Cx) (e:Expr) (t:TSt):Prop :=
 ∀ (pins:List (Addr × Obj)) (s:Shared) (σ:L2.St) (H:Hp) (R:List (T3 × Addr)->Hp->Prop),Inv X pins σ H s->t σ H R->wpAny (model X.prog X.w) X.A (eval e X.env) (SE X pins σ R) X.xe s
theorem yv2 {prog:Program} {w:World} {h:Heap}:∀ {us:List Value} {ts:List T3} {i:Nat} {v:Value},T3s h us ts->us[i]?=some v->i < ts.length /\ ∃ b,v=.ref b /\ TK prog w h (ts.getD i (0,0,0)) b
 | [],[],i,v,_,e=>by simp at e
 | [],_ :: _,_,_,z,_=>z.elim
 | _ :: _,[],_,_,z,_=>z.elim
 | u :: us,t :: ts,0,v,z,e=>by
  simp only [List.getElem?_cons_zero,Option.some.injEq] at e
  subst e
  obtain ⟨a,o,t1,t2,t3,n,rfl,e2⟩:=id z.1
  exact ⟨by simp,a,rfl,(show TK prog w h t a from IsT3.key z.1)⟩
 | u :: us,t :: ts,i + 1,v,z,e=>by
  simp only [getElem?_cons_succ] at e
  obtain ⟨h1,b,h2,h3⟩:=yv2 (prog:=prog) (w:=w) z.2 e
  exact ⟨by simp only [length_cons]; omega,b,h2,h3⟩
theorem tu2 {K:Fg} {H:Hp}:∀ {vs:List V} {ts:List T3} {us:List Value} {i:Nat} {b:Addr},V3s K H vs ts->Vals vs us->us[i]?=some (.ref b)->H b=some (.tup (vT (ts.getD i (0,0,0))))
 | [],[],_,i,b,_,.nil,e=>by simp at e
 | [],_ :: _,_,_,_,z,_,_=>z.elim
 | _ :: _,[],_,_,_,z,_,_=>z.elim
 | v :: vs,t :: ts,_,0,b,z,.cons r rs,e=>by
  simp only [List.getElem?_cons_zero,Option.some.injEq] at e
  subst e
  obtain ⟨⟨a,rfl,hq⟩,_⟩:=z
  cases r
  exact hq
 | v :: vs,t :: ts,_,i + 1,b,z,.cons r rs,e=>by
  simp only [getElem?_cons_succ] at e
  exact (show H b=some (.tup (vT (ts.getD i (0,0,0)))) from tu2 z.2 rs e)
section
variable {X:Cx} {e:Expr} {p p2 pos pos2:Pos}
def um4 (K:Fg) (ta:TA):TSt:=λ σ H R=>ta σ H λ xs H1=>∃ p vs ts,xs=[.ref p] /\ (SqL K H1 p vs \/ SqT K H1 p vs) /\ V3s K H1 vs ts /\ SB ts ∧
 ∀ ys:List (T3 × Addr),(ys.map (·.1)).Nodup->(∀ t,t ∈ ys.map (·.1) ↔ t ∈ ts)->(∀ y ∈ ys,H1 y.2=some (.tup (vT y.1)))->R ys H1
theorem tk3 {items:List Value} {ts:List T3} {ys:List (T3 × Addr)} {Pr:Nat->Value->Prop} (hl:items.length=ts.length) (g:Got Pr (λ i=>ts.getD i (0,0,0)) items.length ys) (t:T3):t ∈ ys.map (·.1) ↔ t ∈ ts:=by
 constructor
 ·intro h
  obtain ⟨y,hy,rfl⟩:=List.mem_map.mp h
  obtain ⟨j,h1,_,h2⟩:=g.1 y hy
  have h2:ts.getD j (0,0,0)=y.1:=h2
  rw [<- h2,getD_eq_getElem?_getD,getElem?_eq_getElem (by omega)]
  exact getElem_mem _
 ·intro h
  obtain ⟨j,hj,e⟩:=List.getElem_of_mem h
  have:ts.getD j (0,0,0) ∈ _:=g.2 j (by omega)
  rwa [getD_eq_getElem?_getD,getElem?_eq_getElem hj,Option.getD_some,e] at this
theorem sb2 {ta:TA} (hc:X.calm=true) (hu:X.A.units + 64 < cLine) (hg:Gl X "set") (hm:X.mg "set" = none) (ha:PA X [e] ta) (hs:starEach [e] X.env=[(false,eval e X.env)]:=by rfl) :
    PSt X (.Call (.Name "set" p) [e] [] pos) (um4 X.K ta):=by
 intro pins s σ H R I h
 refine Call_ (tt0 I hg hm wl4 (PyProof.Rows.callWith_type1 (thn (ha pos pins s σ H _ I h) λ us s1 ⟨vs,H1,I1,r1,q1⟩=>?_) hs rfl))
 obtain ⟨a,ws,ts,e1,hq,h3,hB,k⟩:=q1
 subst e1
 cases r1 with
 | cons r rr =>
  cases rr
  cases r
  have key:∀ {its:List Value},Vals ws its->(∀ l:List T3,l.Nodup->(∀ x ∈ l,∃ j,j < its.toArray.size /\ ts.getD j (0,0,0)=x)->l.length < 63) ∧
      (∀ i v,i < its.toArray.size->its.toArray[i]?=some v->∃ b,v=.ref b /\ TK X.prog X.w s1.heap (ts.getD i (0,0,0)) b) ∧
      ∀ (h':Heap) (tk:Nat) xs,KpH s1.heap h'->SetG X.prog X.w (hT X.prog X.w) h' s1.heap.objs.size xs->Got (λ i v=>its.toArray[i]?=some v) (λ i=>ts.getD i (0,0,0)) its.toArray.size xs->SE X pins σ R (.ref s1.heap.objs.size) { s1 with heap:=h',toks:=tk }:=λ {its} rv=>by
   have l1:=h3.len
   have l2:=rv.length
   have l3:its.toArray.size=its.length:=size_toArray
   have B:∀ l:List T3,l.Nodup->(∀ x ∈ l,∃ j,j < its.toArray.size /\ ts.getD j (0,0,0)=x)->l.length < 63:=λ l nd hl=>hB l nd λ x hx=>by
    obtain ⟨j,h1,h2⟩:=hl x hx
    rw [<- h2,getD_eq_getElem?_getD,getElem?_eq_getElem (by omega)]
    exact getElem_mem _
   refine ⟨B,λ i v lt e=>(yv2 (zp0 I1 h3 rv) (by simpa using e)).2,λ h' tk xs kp sg g=>?_⟩
   have sq:∀ x ∈ xs,H1 x.2=some (.tup (vT x.1)):=λ x hx=>?_
   ·exact ⟨_,xs,H1,rfl,I1.kept kp,I1.fpOk (Nat.le_refl _) (I1.hok.fresh (Nat.le_refl _)),sg,sq,g.len (Nat.le_refl _) sg.nd B,k xs sg.nd (tk3 (items:=its) (by omega) (by rw [<- l3]; exact g)) sq⟩
   obtain ⟨j,_,h2,h3'⟩:=g.1 x hx
   have h3':ts.getD j (0,0,0)=x.1:=h3'
   have:=tu2 h3 rv (i:=j) (b:=x.2) (by simpa using h2)
   rwa [h3'] at this
  rcases hq with hq | hq
  ·obtain ⟨its,rv,pl,hz⟩:=I1.list hq
   obtain ⟨k1,k2,k3⟩:=key rv
   exact wa1 (I1.ok.hd hc) (by omega) pl.isList k2 k1 k3
  ·obtain ⟨its,rv,pl,hz⟩:=I1.tuple hq
   obtain ⟨k1,k2,k3⟩:=key rv
   exact zz1 (I1.ok.hd hc) (by omega) pl k2 k1 k3
def vm4 (K:Fg) (ts:TSt):TE:=λ σ H Q=>ts σ H λ xs H1=>∀ (ys:List (T3 × Addr)),ys.Perm xs->∀ q:Array Nat,q.Perm (List.toArray (List.range ys.length))->Ms.Up (ltI (ys.map (·.1))) q ys.length->V3s K H1 (ys.map λ x=>V.ref x.2) (ys.map (·.1)) ->
 ∀ r,H1 r=none->Q (.ref r) (upd H1 r (.lst (q.toList.map λ i=>(ys.map λ x=>V.ref x.2).getD i .non)))
theorem uu2 {K:Fg} {H:Hp}:∀ {ys:List (T3 × Addr)},(∀ x ∈ ys,H x.2=some (.tup (vT x.1)))->V3s K H (ys.map λ x=>V.ref x.2) (ys.map (·.1))
 | [],_=>trivial
 | y :: ys,h=>⟨⟨_,rfl,h y (mem_cons_self ..)⟩,uu2 λ x hx=>h x (mem_cons_of_mem _ hx)⟩
theorem wx1:∀ (ys:List (T3 × Addr)),Vals (ys.map λ x=>V.ref x.2) (ys.map λ x=>Value.ref x.2)
 | []=>.nil
 | y :: ys=>.cons rfl (wx1 ys)
theorem sh3 {ts:TSt} (hc:X.calm=true) (hg:Gl X "sorted") (hm:X.mg "sorted" = none) (hp:PSt X e ts) (hs:starEach [e] X.env=[(false,eval e X.env)]:=by rfl):PE X (.Call (.Name "sorted" p) [e] [] pos) (vm4 X.K ts):=by
 intro pins s σ H Q I h
 refine Call_ (tt0 I hg hm sj0 (PyProof.Rows.callWith_builtin1 ?_ hs rfl))
 rw [hs]
 show wpAny _ _ (spliced ((false,eval e X.env) :: backTo pos (starEach [] X.env))) _ _ s
 refine Calls.spliced_cons ?_
 refine thn (hp pins s σ H _ I h) λ u s1 q=>?_
 obtain ⟨a,xs,H1,rfl,I1,fp,sg,sq,ln,k⟩:=q
 refine Calls.spliced_nil ?_
 refine zs1 (I1.ok.hd hc) sg (by omega) λ ys q h1 h' c tk py a1 a2 a3 a4 a5=>?_
 have I2:Inv X pins σ H1 { s1 with heap:=h1,toks:=tk }:=I1.kept a3
 have sz:q.toList.length=ys.length:=by have:=a1.size_eq; simpa using this
 have l0:=py.length_eq
 have lt':∀ i ∈ q.toList,i < (ys.map λ x=>V.ref x.2).length:=λ i hi=>by
  have e:i ∈ List.toArray (List.range ys.length):=a1.mem_iff.mp (by simpa using hi)
  rw [length_map]
  simpa using e
 refine ⟨.ref _,_,I2.laid (t':=tk) a4 (Nat.le_refl _) (show ObjOk X.prog X.w _ h' _ (.lst (q.toList.map λ i=>(ys.map λ x=>V.ref x.2).getD i .non)) from ⟨by rw [length_map,sz,sizeLine_eq]; omega,_,c,tl0 (wx1 ys) _ lt',a5⟩),rfl,?_⟩
 exact k ys py q a1 a2 (uu2 λ x hx=>sq x (py.mem_iff.mp hx)) _ (I2.hok.fresh (Nat.le_refl _))
end
abbrev TSt3:=St3->Mu->(List T3->Mu->Prop)->Prop
def RdSt (K:Fg) (tv:TSt) (t:TSt3):Prop:=∀ σ H R ρ μ R3,RSt K H ρ σ->RelM K μ H->t ρ μ R3->(∀ xs μ' H',R3 (xs.map (·.1)) μ'->(xs.map (·.1)).Nodup->(∀ x ∈ xs,H' x.2=some (.tup (vT x.1)))->Kp H H'->RelM K μ' H'->R xs H')->tv σ H R
def REs (X:Cx) (e:Expr) (t:TSt3):Prop:=∃ tv,PSt X e tv /\ RdSt X.K tv t
def xc3 (t:TA3):TSt3:=λ ρ μ R=>t ρ μ λ ds μ1=>∃ ts,(match ds with
 | [.ref p]=>μ1 p=some (.lst (ts.map encT))
 | [.tup l]=>l=ts.map encT
 | _=>False) /\ SB ts /\ ∀ ks:List T3,ks.Nodup->(∀ x,x ∈ ks ↔ x ∈ ts)->R ks μ1
def yc3 (t:TSt3):TE3:=λ ρ μ Q=>t ρ μ λ ks μ1=>∀ us:List T3,us.Perm ks->us.Pairwise le3->∀ r,μ1 r=none->Q (.ref r) (updM μ1 r (.lst (us.map encT)))
section
variable {X:Cx} {e:Expr} {p p2 pos pos2:Pos} {t:TE3}
theorem tz1 (he:RE X e t) (hm:X.mg "set" = none) (hu:X.A.units + 64 < cLine) (hc:X.calm=true:=by rfl) (hg:Gl X "set" := by rfl) (hs:starEach [e] X.env=[(false,eval e X.env)]:=by rfl):REs X (.Call (.Name "set" p) [e] [] pos) (xc3 (cons3 t nil3)):=by
 obtain ⟨va,pa,ra⟩:=xa0 he ua0 hs
 refine ⟨_,sb2 hc hu hg hm pa hs,λ σ H R ρ μ R3 s m h k=>ra σ H _ ρ μ _ s m h λ ds μ1 vs H1 h1 k1 r1 m1=>?_⟩
 obtain ⟨ts,hd,hB,q⟩:=h1
 cases r1 with
 | nil=>exact hd.elim
 | cons r1 r2 =>
  cases r2 with
  | cons _ _=>cases r1 <;> exact hd.elim
  | nil =>
   cases r1 with
   | ref a =>
    obtain ⟨us,hv,rv⟩:=m1 a _ hd
    exact ⟨a,us,ts,rfl,.inl (SqL.of hv),wm1 rv,hB,λ ys nd al sq=>k ys μ1 H1 (q _ nd al) nd sq k1 m1⟩
   | tup hq rv =>
    have hd:_=ts.map encT:=hd
    subst hd
    exact ⟨_,_,ts,rfl,.inr (SqT.of hq),wm1 rv,hB,λ ys nd al sq=>k ys μ1 H1 (q _ nd al) nd sq k1 m1⟩
   | _=>exact hd.elim
theorem ua2 {ts:TSt3} (he:REs X e ts) (hm:X.mg "sorted" = none) (hc:X.calm=true:=by rfl) (hg:Gl X "sorted" := by rfl) (hs:starEach [e] X.env=[(false,eval e X.env)]:=by rfl):RE X (.Call (.Name "sorted" p) [e] [] pos) (yc3 ts):=by
 obtain ⟨va,pa,ra⟩:=he
 refine ⟨_,sh3 hc hg hm pa hs,λ σ H Q ρ μ Q3 s m h k=>ra σ H _ ρ μ _ s m h λ xs μ1 H1 h1 nd1 sq1 k1 m1=>?_⟩
 intro ys py q a1 a2 v3 r hr
 have l1:(ys.map (·.1)).length=ys.length:=length_map _
 rw [<- l1] at a1 a2
 have lt':∀ i ∈ q.toList,i < (ys.map λ x=>V.ref x.2).length:=λ i hi=>by
  have e:i ∈ List.toArray (List.range (ys.map (·.1)).length):=a1.mem_iff.mp (by simpa using hi)
  rw [length_map] at e ⊢
  simpa using e
 exact k _ _ _ _ (h1 _ ((ys0 a1).trans (py.map _)) (yk1 a1 a2) r (m1.free hr)) (k1.trans (Kp.new hr)) (.ref r) (m1.newL hr (zk0 (xb1 v3) _ lt'))
end
section
variable {X:Cx} {o e:Expr} {es:List Expr} {to:TE3} {t:TA3} {apos cpos:Pos}
end
end Pv
namespace Pv
open PySem PySem.Spec PyProof.Rows L2
section
variable {prog:Program} {w:World} {A:Around} {E:Value->Shared->Prop} {s:Shared} {R:Result->Shared->Prop} {I l:Addr} {items:Array Value}
end
section
variable {X:Cx} {e:Expr} {te:TE3} {p p2 pos pos2:Pos}
theorem yo2:RC X (.type "str") strR:=by
 refine ⟨_,xi1,λ xs vs H Q μ Q3 m r h k=>?_⟩
 cases r with
 | nil=>exact False.elim h
 | cons r1 r2 =>
  cases r2 with
  | cons _ _=>cases r1 <;> exact False.elim h
  | nil =>
   cases r1 with
   | int i=>exact ⟨i,rfl,h.1,k _ _ _ _ h.2 (Kp.refl _) (.str _) m⟩
   | _=>exact False.elim h
variable {o:Expr} {es:List Expr} {to:TE3} {t:TA3} {apos cpos:Pos}
theorem xw2 {name:Str} {id:String} {r:V->List V->Hp->VK->Prop} {r3:Str->List D->Mu->VK3->Prop} (slot:Slot "str" name id) (hty:typeOf (.builtin id)=pure (.type "method_descriptor")) (hm:MtR X id r)
    (hrd:∀ z xs vs H Q μ Q3,RelM X.K μ H->RelDs X.K H xs vs->r3 z xs μ Q3->Ks X.K H Q3 Q->r (.str z) vs H Q) (ho:RE X o to) (ha:RA X (e :: es) t)
    (hbase:attributeBase o name X.env (eval o X.env)=eval o X.env)
    (hfew:((backTo cpos (starEach (e :: es) X.env)).all (λ x=>!x.1) && (backToKw cpos (keywordEach [] X.env)).all (λ x=>x.1.isSome)
     && decide ((e :: es).length + ([]:List Keyword).length + (if ([]:List Keyword).isEmpty then 0 else 1) < 30))=true)
    (hline:(apos.endLine == cpos.line)=true) (hs:starEach (e :: es) X.env=(false,eval e X.env) :: starEach es X.env) (hplain:(backTo cpos (starEach es X.env)).any (·.1)=false) :
    RE X (.Call (.Attribute o name apos) (e :: es) [] cpos) (smt3 r3 to t):=by
 obtain ⟨va,pa,ra⟩:=ho
 obtain ⟨vb,pb,rb⟩:=ha
 refine ⟨_,wi3 PySem.F.plainAttrs_str slot hty hm pa pb hbase hfew hline hs hplain,λ σ H Q ρ μ Q3 s m h k=>ra σ H _ ρ μ _ s m h λ d μ1 v H1 h1 k1 r1 m1=>?_⟩
 cases r1 with
 | str z=>exact ⟨rfl,rb σ H1 _ ρ μ1 _ (s.mono k1) m1 h1 λ xs μ2 ys H2 h2 k2 r2 m2=>hrd z xs ys H2 Q μ2 Q3 m2 r2 h2 (k.after (k1.trans k2))⟩
 | _=>exact False.elim h1
theorem xz0 {K:Fg} {H:Hp}:∀ (l:List Str),RelDs K H (l.map D.str) (l.map V.str)
 | []=>.nil
 | y :: l=>.cons (.str y) (xz0 l)
theorem uw0:∀ {ys:List Str} {us:List Value},Vals (ys.map V.str) us->StrsAre us ys
 | [],us,r=>by cases r; exact .nil
 | y :: ys,us,r=>by
  cases r with
  | cons r1 r2 =>
   obtain ⟨t,rfl⟩:=r1
   exact .cons y t (uw0 r2)
theorem zj3:MtR X "str.join" (λ x xs H Q=>∃ z p ys,x=.str z /\ xs=[.ref p] /\ SqL X.K H p (ys.map V.str) /\ (z.length<=16 /\ (ys.map (·.length)).sum + ys.length<=1048576) /\ Q (.str (Str.join z ys)) H):=by
 intro pins s σ H x xs v us Q I rx rv h
 obtain ⟨z,p,ys,rfl,rfl,hq,hz,q⟩:=h
 obtain ⟨t,rfl⟩:=rx
 obtain ⟨u,rfl,ru⟩:=rv.one
 cases ru
 obtain ⟨its,r,pl,hsz⟩:=I.list hq
 refine join_listW pl.isList (uw0 r) hz.1 hz.2 λ t' k=>?_
 refine ⟨.str (Str.join z ys),H,I.tok _,⟨t',?_⟩,q⟩
 show Value.str (Builtin.Str.glued z ys) t'=_
 rw [StrLaws.glued_eq_join]
theorem uk0:∀ (l:List (Str × Tok)),Vals ((l.map (·.1)).map V.str) (strValues l)
 | []=>.nil
 | (y,t) :: l=>.cons ⟨t,rfl⟩ (uk0 l)
theorem vy1 {prog:Program} {w:World} {A:Around} {E:Value->Shared->Prop} {s:Shared} {x y:Str} {t u:Tok} {Q:Value->Shared->Prop} (hy:(y.length == 0)=false) (hsz:x.length<=sizeLine)
    (hsz2:(Builtin.Str.partsBetween x (Builtin.Str.occurrences x y 0 x.length (x.length + 1)) y.length).length<=sizeLine)
    (hq:∀ l tk,l.map (·.1)=Txt.split x y->Q (.ref s.heap.objs.size) { s with heap:=s.heap.push { cls:=.type "list",data:=.seq (strValues l).toArray },toks:=tk }) :
    wpAny (model prog w) A (call (.builtin "str.split") [.str x t,.str y u]) Q E s:=by
 cases h1:(decide (x.length < y.length) || decide (Builtin.Str.strKind x < Builtin.Str.strKind y))
 ·cases hf:(Builtin.Str.occurrences x y 0 x.length (x.length + 1)).isEmpty
  ·refine call_meets F.slot_str_split (typeIs_str _ _ _) F.entry_str_split (F.args_str_split_2 _ _) (meets_str_split_sep x y t u h1 hy hf hsz hsz2) ?_
   show wants Q E _ { s with toks:=_,heap:=s.heap.push { cls:=.type "list",data:=.seq (strsFrom s.toks (Builtin.Str.partsBetween x (Builtin.Str.occurrences x y 0 x.length (x.length + 1)) y.length)).toArray } }
   rw [strsFrom_eq]
   exact hq (numbered s.toks _) _ ((numbered_texts _ _).trans ((if_neg (ne_true_of_eq_false h1)).trans (if_neg (ne_true_of_eq_false hf))).symm)
  ·exact call_meets F.slot_str_split (typeIs_str _ _ _) F.entry_str_split (F.args_str_split_2 _ _) (meets_str_split_not_found x y t u h1 hy hf)
     (hq [(x,t)] _ ((if_neg (ne_true_of_eq_false h1)).trans (if_pos hf)).symm)
 ·exact call_meets F.slot_str_split (typeIs_str _ _ _) F.entry_str_split (F.args_str_split_2 _ _) (meets_str_split_cannot_occur x y t u h1)
    (hq [(x,t)] _ (if_pos h1).symm)
theorem sp2:MtR X "str.split" (λ x xs H Q=>∃ z y,x=.str z /\ xs=[.str y] /\ ((y.length == 0)=false /\ z.length<=1000000) /\ ∀ r,H r=none->Q (.ref r) (upd H r (.lst ((Txt.split z y).map V.str)))):=by
 intro pins s σ H x xs v us Q I rx rv h
 obtain ⟨z,y,rfl,rfl,hz,q⟩:=h
 obtain ⟨t,rfl⟩:=rx
 obtain ⟨u,rfl,t',rfl⟩:=rv.one
 have hbig:1000010<=sizeLine:=by decide
 have hzl:z.length<=sizeLine:=by have:=hz.2; omega
 have hz2:=hz.2
 have hn:(Builtin.Str.partsBetween z (Builtin.Str.occurrences z y 0 z.length (z.length + 1)) y.length).length<=sizeLine:=by
  rw [len_partsBetween]
  have:=StrLaws.occ_length_le z y 0 z.length (z.length + 1)
  omega
 refine vy1 hz.1 hzl hn λ l tk e=>?_
 rw [<- e] at q
 refine ⟨.ref _,_,I.laid (t':=tk) (λ b o e=>Heap.get?_push_of_some _ e) (Nat.le_refl _) (show ObjOk X.prog X.w _ _ _ (.lst ((l.map (·.1)).map V.str)) from ⟨?_,strValues l,0,uk0 l,Heap.get?_push_size _ rfl⟩),rfl,q _ (I.hok.fresh (Nat.le_refl _))⟩
 rw [length_map,e]
 exact Nat.le_trans (split_le z y) (by omega)
theorem sn1 (ho:RE X o to) (ha:RA X (e :: es) t) (hbase:attributeBase o "split" X.env (eval o X.env)=eval o X.env:=by rfl)
    (hfew:((backTo cpos (starEach (e :: es) X.env)).all (λ x=>!x.1) && (backToKw cpos (keywordEach [] X.env)).all (λ x=>x.1.isSome)
     && decide ((e :: es).length + ([]:List Keyword).length + (if ([]:List Keyword).isEmpty then 0 else 1) < 30))=true:=by rfl)
    (hline:(apos.endLine == cpos.line)=true:=by rfl) (hs:starEach (e :: es) X.env=(false,eval e X.env) :: starEach es X.env:=by rfl) (hplain:(backTo cpos (starEach es X.env)).any (·.1)=false:=by rfl) :
    RE X (.Call (.Attribute o "split" apos) (e :: es) [] cpos) (smt3 splitR to t):=by
 refine xw2 PySem.F.slot_str_split PySem.F.type_str_split sp2 (λ z xs vs H Q μ Q3 m rx h k=>?_) ho ha hbase hfew hline hs hplain
 cases rx with
 | nil=>exact False.elim h
 | cons r1 r2 =>
  cases r2 with
  | cons _ _=>cases r1 <;> exact False.elim h
  | nil =>
   cases r1 with
   | str y=>exact ⟨z,y,rfl,rfl,h.1,λ r hr=>k _ _ _ _ (h.2 r (m.free hr)) (Kp.new hr) (.ref r) (m.newL hr (xz0 _))⟩
   | _=>exact False.elim h
theorem yb1 (ho:RE X o to) (ha:RA X (e :: es) t) (hbase:attributeBase o "join" X.env (eval o X.env)=eval o X.env:=by rfl)
    (hfew:((backTo cpos (starEach (e :: es) X.env)).all (λ x=>!x.1) && (backToKw cpos (keywordEach [] X.env)).all (λ x=>x.1.isSome)
     && decide ((e :: es).length + ([]:List Keyword).length + (if ([]:List Keyword).isEmpty then 0 else 1) < 30))=true:=by rfl)
    (hline:(apos.endLine == cpos.line)=true:=by rfl) (hs:starEach (e :: es) X.env=(false,eval e X.env) :: starEach es X.env:=by rfl) (hplain:(backTo cpos (starEach es X.env)).any (·.1)=false:=by rfl) :
    RE X (.Call (.Attribute o "join" apos) (e :: es) [] cpos) (smt3 joinR to t):=by
 refine xw2 PySem.F.slot_str_join PySem.F.type_str_join zj3 (λ z xs vs H Q μ Q3 m rx h k=>?_) ho ha hbase hfew hline hs hplain
 cases rx with
 | nil=>exact False.elim h
 | cons r1 r2 =>
  cases r2 with
  | cons _ _=>cases r1 <;> exact False.elim h
  | nil =>
   cases r1 with
   | ref p =>
    dsimp only [joinR] at h
    cases e0:μ p with
    | none=>rw [e0] at h; exact h.elim
    | some oo =>
     cases oo with
     | ins _ _=>rw [e0] at h; exact h.elim
     | dct _=>rw [e0] at h; exact h.elim
     | dcl _=>rw [e0] at h; exact h.elim
     | dck _=>rw [e0] at h; exact h.elim
     | lst l =>
      rw [e0] at h
      dsimp only at h
      cases e1:strs? l with
      | none=>rw [e1] at h; exact h.elim
      | some ys =>
       rw [e1] at h
       obtain ⟨ws,hv,rs⟩:=m p l e0
       have ev:=wp0 rs e1
       subst ev
       exact ⟨z,p,ys,rfl,rfl,SqL.of hv,h.1,k _ _ _ _ h.2 (Kp.refl _) (.str _) m⟩
   | _=>exact False.elim h
theorem vd4 {body:List Stmt} {h0:ExceptHandler} {hs:List ExceptHandler} {tb:TS} {pos:Pos} (hx:∀ e s,X.xe e s->False) (hb:PSs X body tb):PS X (.Try body (h0 :: hs) [] [] pos) tb:=by
 intro pins s σ H D I h
 refine wpAny_Try_except (wpAny_mono (hb pins s σ H D I h) (λ f s1 q=>?_) λ e s1 q=>(hx e s1 q).elim)
 cases f with
 | next=>exact wpAny_pure q
 | _=>exact q
theorem vv3 {body:List Stmt} {h0:ExceptHandler} {hs:List ExceptHandler} {tb:TS3} {pos:Pos} (hb:RSs X body tb) (hx:∀ e s,X.xe e s->False:=by intro _ _ h; exact h):RS X (.Try body (h0 :: hs) [] [] pos) tb:=by
 obtain ⟨vb,pb,rb⟩:=hb
 exact ⟨_,vd4 hx pb,rb⟩
end
open PySem.AutoSeq1 (wpAny_loadPart')
end Pv
namespace Pv
open PySem PySem.Spec PySem.W PyProof.Rows L2
section
variable {X:Cx} {o e:Expr} {es:List Expr} {to:TE3} {t:TA3} {apos cpos pos p2:Pos}
end
section
variable {X:Cx} {pins:List (Addr × Obj)} {σ:L2.St} {H:Hp} {s:Shared}
end
section
variable {prog:Program} {w:World} {A:Around} {E:Value->Shared->Prop} {s:Shared}
end
section
variable {prog:Program} {w:World} {A:Around} {E:Value->Shared->Prop} {s:Shared}
end
section
variable {X:Cx}
end
section
variable {X:Cx}
end
end Pv
namespace Pv
open PySem
abbrev ug1:D:=.ktp [.int 0,.int 1]
abbrev xi0:D:=.int 40
abbrev xg0:D:=.str "none"
abbrev sd0:D:=.ktp [.str "-",.str "|"]
def xnames:List Str:=["BadNote", "NoPicture", "NoRoom"]
def subX (cls c:Str):Option Bool:=if xnames.contains c then some (cls == c || cls == "PenError" || cls == "ValueError") else none
def okX (c:Str):Bool:=xnames.contains c
def xp3:List Str:=["picture", "stroke", "place"]
def sr3 (XE:XE3) (spx_q15:XE3->Sp3):TS3 :=
 (seq3 (for3 (is3 (v3 0)) (gn3 1) (drop3 (call3 (spx_q15 XE) (cons3 (v3 1) nil3)))) (for3 (ir23 (cons3 (c3 (.int 1)) (cons3 (call3 lenR (cons3 (v3 0) nil3)) nil3))) (gn3 2) (ifs3 (b3 (o3 ge3R (o3 ixR (v3 0) (o3 subR (v3 2) (c3 (.int 1)))) (o3 ixR (v3 0) (v3 2)))) (ux0 XE "NoPicture" (cons3 (c3 (.str "the strokes of a picture rise, each once")) nil3)) next3)))
def wk2:List Str:=["stroke"]
def xl2 (XE:XE3):TS3 :=
 (ifs3 (or3 (b3 (o3 neR (call3 lenR (cons3 (v3 0) nil3)) (c3 (.int 3)))) (b3 (o3 (inR true) (o3 ixR (v3 0) (c3 (.int 2))) (c3 ug1)))) (ux0 XE "NoPicture" (cons3 (c3 (.str "there is no such stroke")) nil3)) next3)
def uo3:List Str:=["stroke"]
def vr3:TS3 :=
 (seq3 (ifs3 (b3 (o3 eqR (o3 ixR (v3 0) (c3 (.int 2))) (c3 (.int 0)))) (ret3 (tup3 (cons3 (tup3 (cons3 (o3 ixR (v3 0) (c3 (.int 0))) (cons3 (o3 ixR (v3 0) (c3 (.int 1))) nil3))) (cons3 (tup3 (cons3 (o3 addR (o3 ixR (v3 0) (c3 (.int 0))) (c3 (.int 1))) (cons3 (o3 ixR (v3 0) (c3 (.int 1))) nil3))) nil3)))) next3) (ret3 (tup3 (cons3 (tup3 (cons3 (o3 ixR (v3 0) (c3 (.int 0))) (cons3 (o3 ixR (v3 0) (c3 (.int 1))) nil3))) (cons3 (tup3 (cons3 (o3 ixR (v3 0) (c3 (.int 0))) (cons3 (o3 addR (o3 ixR (v3 0) (c3 (.int 1))) (c3 (.int 1))) nil3))) nil3)))))
def sn3:List Str:=["strokes"]
def sq3:TS3 :=
 (ret3 (call3 tupR (cons3 (yc3 (xc3 (cons3 (v3 0) nil3))) nil3)))
def yo3:List Str:=["picture", "least", "greatest", "corner"]
def wi0 (sp_q18:Sp3):TS3 :=
 (ret3 (o3 addR (v3 3) (tup3 (cons3 (call3 mxR (cons3 (comp3 [none] (is3 (v3 2)) (gn3 0) tt3 (o3 ixR (v3 0) (c3 (.int 0)))) nil3)) (cons3 (call3 mxR (cons3 (comp3 [none] (is3 (v3 2)) (gn3 0) tt3 (o3 ixR (v3 0) (c3 (.int 1)))) nil3)) nil3)))))
def zg0 (sp_q18:Sp3):TS3 :=
 (seq3 (set3 3 (tup3 (cons3 (call3 mnR (cons3 (comp3 [none] (is3 (v3 1)) (gn3 0) tt3 (o3 ixR (v3 0) (c3 (.int 0)))) nil3)) (cons3 (call3 mnR (cons3 (comp3 [none] (is3 (v3 1)) (gn3 0) tt3 (o3 ixR (v3 0) (c3 (.int 1)))) nil3)) nil3)))) (wi0 sp_q18))
def wo0 (sp_q18:Sp3):TS3 :=
 (seq3 (set3 2 (comp3 [none] (is3 (v3 0)) (gn3 0) tt3 (o3 ixR (call3 sp_q18 (cons3 (v3 0) nil3)) (c3 (.int 1))))) (zg0 sp_q18))
def vo0 (sp_q18:Sp3):TS3 :=
 (seq3 (set3 1 (comp3 [none] (is3 (v3 0)) (gn3 0) tt3 (o3 ixR (call3 sp_q18 (cons3 (v3 0) nil3)) (c3 (.int 0))))) (wo0 sp_q18))
def yr3 (sp_q18:Sp3):TS3 :=
 (seq3 (ifs3 (b3 (o3 eqR (call3 lenR (cons3 (v3 0) nil3)) (c3 (.int 0)))) (ret3 (c3 .non)) next3) (vo0 sp_q18))
def vn3:List Str:=["picture", "box"]
def vz0 (XE:XE3) (spx_q14:XE3->Sp3) (sp_q17 sp_q22 sp_q28:Sp3):TS3 :=
 (ret3 (smt3 joinR (c3 (.str "\n")) (cons3 (o3 addR (lst3 (cons3 (call3 sp_q17 (cons3 (v3 1) nil3)) nil3)) (call3 sp_q28 (cons3 (v3 0) (cons3 (v3 1) nil3)))) nil3)))
def sl0 (XE:XE3) (spx_q14:XE3->Sp3) (sp_q17 sp_q22 sp_q28:Sp3):TS3 :=
 (seq3 (ifs3 (b3 (o3 ge3R (call3 mxR (cons3 (o3 subR (o3 ixR (v3 1) (c3 (.int 2))) (o3 ixR (v3 1) (c3 (.int 0)))) (cons3 (o3 subR (o3 ixR (v3 1) (c3 (.int 3))) (o3 ixR (v3 1) (c3 (.int 1)))) nil3))) (c3 xi0))) (ux0 XE "NoRoom" (cons3 (c3 (.str "the picture is too wide or too high")) nil3)) next3) (vz0 XE spx_q14 sp_q17 sp_q22 sp_q28))
def uz0 (XE:XE3) (spx_q14:XE3->Sp3) (sp_q17 sp_q22 sp_q28:Sp3):TS3 :=
 (seq3 (ifs3 (b3 (o3 (isNR false) (v3 1) (c3 .non))) (ret3 (c3 xg0)) next3) (sl0 XE spx_q14 sp_q17 sp_q22 sp_q28))
def tz0 (XE:XE3) (spx_q14:XE3->Sp3) (sp_q17 sp_q22 sp_q28:Sp3):TS3 :=
 (seq3 (set3 1 (call3 sp_q22 (cons3 (v3 0) nil3))) (uz0 XE spx_q14 sp_q17 sp_q22 sp_q28))
def uq3 (XE:XE3) (spx_q14:XE3->Sp3) (sp_q17 sp_q22 sp_q28:Sp3):TS3 :=
 (seq3 (drop3 (call3 (spx_q14 XE) (cons3 (v3 0) nil3))) (tz0 XE spx_q14 sp_q17 sp_q22 sp_q28))
def to3:List Str:=["box"]
def ur3:TS3 :=
 (ret3 (smt3 joinR (c3 (.str " ")) (cons3 (lst3 (cons3 (call3 strR (cons3 (o3 ixR (v3 0) (c3 (.int 0))) nil3)) (cons3 (call3 strR (cons3 (o3 ixR (v3 0) (c3 (.int 1))) nil3)) nil3))) nil3)))
def zn3:List Str:=["picture", "box", "signs", "width"]
def wq3 (sp_q27 sp_q29:Sp3):TS3 :=
 (seq3 (set3 2 (call3 sp_q29 (cons3 (v3 0) (cons3 (v3 1) nil3)))) (seq3 (set3 3 (o3 addR (o3 mulR (c3 (.int 2)) (o3 subR (o3 ixR (v3 1) (c3 (.int 2))) (o3 ixR (v3 1) (c3 (.int 0))))) (c3 (.int 1)))) (ret3 (comp3 [none,some 2,some 3] (ir3 (cons3 (o3 addR (o3 mulR (c3 (.int 2)) (o3 subR (o3 ixR (v3 1) (c3 (.int 3))) (o3 ixR (v3 1) (c3 (.int 1))))) (c3 (.int 1))) nil3)) (gn3 0) tt3 (call3 sp_q27 (cons3 (v3 1) (cons3 (v3 0) (cons3 (v3 2) nil3))))))))
def wn3:List Str:=["signs", "row", "width"]
def vq3:TS3 :=
 (ret3 (smt3 joinR (c3 (.str "")) (cons3 (comp3 [none,some 0,some 1] (ir3 (cons3 (v3 2) nil3)) (gn3 0) tt3 (gdf3 (v3 1) (cons3 (tup3 (cons3 (v3 2) (cons3 (v3 0) nil3))) (cons3 (c3 (.str ".")) nil3)))) nil3)))
def yn3:List Str:=["picture", "box", "signs", "stroke", "places", "place", "halfway"]
def zz0 (sp_q18:Sp3):TS3 :=
 (ret3 (v3 2))
def wz0 (sp_q18:Sp3):TS3 :=
 (seq3 (for3 (is3 (v3 0)) (gn3 3) (seq3 (set3 4 (comp3 [none,some 1] (is3 (call3 sp_q18 (cons3 (v3 3) nil3))) (gn3 0) tt3 (tup3 (cons3 (o3 mulR (c3 (.int 2)) (o3 subR (o3 ixR (v3 1) (c3 (.int 3))) (o3 ixR (v3 0) (c3 (.int 1))))) (cons3 (o3 mulR (c3 (.int 2)) (o3 subR (o3 ixR (v3 0) (c3 (.int 0))) (o3 ixR (v3 1) (c3 (.int 0))))) nil3))))) (seq3 (for3 (is3 (v3 4)) (gn3 5) (to0 (v3 2) (v3 5) (c3 (.str "+")))) (seq3 (set3 6 (tup3 (cons3 (o3 fdivR (o3 addR (o3 ixR (o3 ixR (v3 4) (c3 (.int 0))) (c3 (.int 0))) (o3 ixR (o3 ixR (v3 4) (c3 (.int 1))) (c3 (.int 0)))) (c3 (.int 2))) (cons3 (o3 fdivR (o3 addR (o3 ixR (o3 ixR (v3 4) (c3 (.int 0))) (c3 (.int 1))) (o3 ixR (o3 ixR (v3 4) (c3 (.int 1))) (c3 (.int 1)))) (c3 (.int 2))) nil3)))) (to0 (v3 2) (v3 6) (o3 ixR (c3 sd0) (o3 ixR (v3 3) (c3 (.int 2))))))))) (zz0 sp_q18))
def zq3 (sp_q18:Sp3):TS3 :=
 (seq3 (set3 2 dnl3) (wz0 sp_q18))
def tn3:List Str:=["text", "lines", "picture"]
def wq0 (XE:XE3) (spx_q16:XE3->Sp3) (sp_q19 sp_q23:Sp3):TS3 :=
 (ret3 (v3 2))
def vq0 (XE:XE3) (spx_q16:XE3->Sp3) (sp_q19 sp_q23:Sp3):TS3 :=
 (seq3 (ifs3 (not3 (b3 (call3 sp_q19 (cons3 (v3 0) (cons3 (v3 2) nil3))))) (ux0 XE "BadNote" (cons3 (c3 (.str "the text shows no picture")) nil3)) next3) (wq0 XE spx_q16 sp_q19 sp_q23))
def uq0 (XE:XE3) (spx_q16:XE3->Sp3) (sp_q19 sp_q23:Sp3):TS3 :=
 (seq3 (set3 2 (call3 sp_q23 (cons3 (sl3 slR (v3 1) (pt3 (c3 (.int 1))) np3) (cons3 (call3 (spx_q16 XE) (cons3 (o3 ixR (v3 1) (c3 (.int 0))) nil3)) nil3)))) (vq0 XE spx_q16 sp_q19 sp_q23))
def tq0 (XE:XE3) (spx_q16:XE3->Sp3) (sp_q19 sp_q23:Sp3):TS3 :=
 (seq3 (set3 1 (smt3 splitR (v3 0) (cons3 (c3 (.str "\n")) nil3))) (uq0 XE spx_q16 sp_q19 sp_q23))
def tq3 (XE:XE3) (spx_q16:XE3->Sp3) (sp_q19 sp_q23:Sp3):TS3 :=
 (seq3 (ifs3 (b3 (o3 eqR (v3 0) (c3 xg0))) (ret3 (tup3 nil3)) next3) (tq0 XE spx_q16 sp_q19 sp_q23))
def so3:List Str:=["line", "marks"]
def tr3 (XE:XE3) (sp_q21:Sp3):TS3 :=
 (seq3 (set3 1 (smt3 splitR (v3 0) (cons3 (c3 (.str " ")) nil3))) (seq3 (ifs3 (b3 (o3 neR (call3 lenR (cons3 (v3 1) nil3)) (c3 (.int 2)))) (ux0 XE "BadNote" (cons3 (c3 (.str "the first line has two numbers")) nil3)) next3) (ret3 (tup3 (cons3 (call3 sp_q21 (cons3 (o3 ixR (v3 1) (c3 (.int 0))) nil3)) (cons3 (call3 sp_q21 (cons3 (o3 ixR (v3 1) (c3 (.int 1))) nil3)) nil3))))))
def zo3:List Str:=["mark", "number"]
def wb3:TS3 :=
 (seq3 (set3 1 (call3 intR (cons3 (v3 0) nil3))) (ret3 (v3 1)))
def xo3:List Str:=["lines", "corner", "greatest_y", "strokes", "row", "column", "point"]
def sq0 (sp_q24 sp_q30:Sp3):TS3 :=
 (ret3 (call3 sp_q24 (cons3 (v3 3) nil3)))
def xr0 (sp_q24 sp_q30:Sp3):TS3 :=
 (seq3 (for3 (ir3 (cons3 (call3 lenR (cons3 (v3 0) nil3)) nil3)) (gn3 4) (for3 (ir3 (cons3 (call3 lenR (cons3 (o3 ixR (v3 0) (v3 4)) nil3)) nil3)) (gn3 5) (seq3 (set3 6 (tup3 (cons3 (o3 addR (o3 ixR (v3 1) (c3 (.int 0))) (o3 fdivR (v3 5) (c3 (.int 2)))) (cons3 (o3 subR (v3 2) (o3 fdivR (v3 4) (c3 (.int 2)))) nil3)))) (drop3 (mt3 extR (v3 3) (cons3 (call3 sp_q30 (cons3 (o3 sixR (o3 ixR (v3 0) (v3 4)) (v3 5)) (cons3 (v3 6) nil3))) nil3)))))) (sq0 sp_q24 sp_q30))
def vi0 (sp_q24 sp_q30:Sp3):TS3 :=
 (seq3 (set3 3 (lst3 nil3)) (xr0 sp_q24 sp_q30))
def xr3 (sp_q24 sp_q30:Sp3):TS3 :=
 (seq3 (set3 2 (o3 addR (o3 ixR (v3 1) (c3 (.int 1))) (o3 fdivR (call3 lenR (cons3 (v3 0) nil3)) (c3 (.int 2))))) (vi0 sp_q24 sp_q30))
def xn3:List Str:=["sign", "point"]
def yq3:TS3 :=
 (seq3 (ifs3 (b3 (o3 eqR (v3 0) (o3 ixR (c3 sd0) (c3 (.int 0))))) (ret3 (lst3 (cons3 (tup3 (cons3 (o3 ixR (v3 1) (c3 (.int 0))) (cons3 (o3 ixR (v3 1) (c3 (.int 1))) (cons3 (c3 (.int 0)) nil3)))) nil3))) next3) (seq3 (ifs3 (b3 (o3 eqR (v3 0) (o3 ixR (c3 sd0) (c3 (.int 1))))) (ret3 (lst3 (cons3 (tup3 (cons3 (o3 ixR (v3 1) (c3 (.int 0))) (cons3 (o3 subR (o3 ixR (v3 1) (c3 (.int 1))) (c3 (.int 1))) (cons3 (c3 (.int 1)) nil3)))) nil3))) next3) (ret3 (lst3 nil3))))
def vo3:List Str:=["text", "picture"]
def wr3 (spx_q26:XE3->Sp3):TS3 :=
 (ret3 (o3 eqR (call3 (spx_q26 NX) (cons3 (v3 1) nil3)) (v3 0)))
def N_q0:List Str:=["script", "k"]
def t_q0:TS3 :=
 (seq3 (ifs3 (b3 (o3 ltR (v3 1) (call3 lenR (cons3 (v3 0) nil3)))) (ret3 (o3 ixR (v3 0) (v3 1))) next3) (ret3 (c3 (.int 0))))
def yu2:List Str:=["found"]
def vb3:TS3 :=
 (ret3 (andV3 (call3 isiR (cons3 (v3 0) (cons3 (c3 (.ty "int")) nil3))) (notV3 (call3 isiR (cons3 (v3 0) (cons3 (c3 (.ty "bool")) nil3))))))
def wu2:List Str:=["script", "k", "cell"]
def tb3 (sp_q0:Sp3):TS3 :=
 (seq3 (set3 2 (call3 sp_q0 (cons3 (v3 0) (cons3 (v3 1) nil3)))) (seq3 (ifs3 (b3 (o3 ge3R (v3 2) (o3 powR (c3 (.int 10)) (c3 (.int 18))))) (ret3 (lst3 (cons3 (o3 subR (v3 2) (o3 powR (c3 (.int 10)) (c3 (.int 18)))) (cons3 (c3 (.bl true)) nil3)))) next3) (ret3 (lst3 (cons3 (o3 modR (v3 2) (c3 (.int 2147483647))) (cons3 (c3 (.bl false)) nil3))))))
def N_q1:List Str:=["state", "many", "found", "mixed"]
def t_q1:TS3 :=
 (seq3 (ifs3 (b3 (o3 ixR (v3 0) (c3 (.int 1)))) (seq3 (set3 2 (o3 modR (o3 ixR (v3 0) (c3 (.int 0))) (v3 1))) (seq3 (asg3 (o3 fdivR (o3 ixR (v3 0) (c3 (.int 0))) (v3 1)) (sub3 (v3 0) (c3 (.int 0)))) (ret3 (v3 2)))) next3) (seq3 (asg3 (o3 modR (o3 addR (o3 mulR (o3 ixR (v3 0) (c3 (.int 0))) (c3 (.int 48271))) (c3 (.int 29))) (c3 (.int 2147483647))) (sub3 (v3 0) (c3 (.int 0)))) (seq3 (set3 3 (o3 modR (o3 addR (o3 addR (o3 mulR (o3 ixR (v3 0) (c3 (.int 0))) (o3 ixR (v3 0) (c3 (.int 0)))) (o3 mulR (c3 (.int 39373)) (o3 ixR (v3 0) (c3 (.int 0))))) (c3 (.int 7))) (c3 (.int 2147483629)))) (seq3 (set3 3 (o3 modR (o3 addR (o3 mulR (v3 3) (v3 3)) (o3 mulR (c3 (.int 16807)) (v3 3))) (c3 (.int 2147483587)))) (ret3 (o3 modR (o3 fdivR (v3 3) (c3 (.int 8))) (v3 1)))))))
def N_q6:List Str:=["state", "most", "found", "x", "y", "wide", "k"]
def vh0 (sp_q1:Sp3):TS3 :=
 (ret3 (call3 tupR (cons3 (call3 xs0 (cons3 (v3 2) nil3)) nil3)))
def zn0 (sp_q1:Sp3):TS3 :=
 (seq3 (for3 (ir3 (cons3 (call3 sp_q1 (cons3 (v3 0) (cons3 (o3 addR (v3 1) (c3 (.int 1))) nil3))) nil3)) (gn3 6) (seq3 (ifs3 (b3 (o3 eqR (call3 sp_q1 (cons3 (v3 0) (cons3 (c3 (.int 3)) nil3))) (c3 (.int 0)))) (seq3 (set3 3 (o3 subR (call3 sp_q1 (cons3 (v3 0) (cons3 (v3 5) nil3))) (c3 (.int 2)))) (set3 4 (o3 subR (call3 sp_q1 (cons3 (v3 0) (cons3 (v3 5) nil3))) (c3 (.int 2))))) next3) (seq3 (tl3 (v3 2) (cons3 (v3 3) (cons3 (v3 4) (cons3 (call3 sp_q1 (cons3 (v3 0) (cons3 (c3 (.int 2)) nil3))) nil3))) (c3 (.bl true))) (seq3 (set3 3 (o3 addR (v3 3) (o3 ixR (lst3 (cons3 (c3 (.int 1)) (cons3 (c3 (.int 0)) (cons3 (un3 negR (c3 (.int 1))) (cons3 (c3 (.int 0)) nil3))))) (call3 sp_q1 (cons3 (v3 0) (cons3 (c3 (.int 4)) nil3)))))) (set3 4 (o3 addR (v3 4) (o3 ixR (lst3 (cons3 (c3 (.int 0)) (cons3 (c3 (.int 1)) (cons3 (c3 (.int 0)) (cons3 (un3 negR (c3 (.int 1))) nil3))))) (call3 sp_q1 (cons3 (v3 0) (cons3 (c3 (.int 4)) nil3)))))))))) (vh0 sp_q1))
def wn0 (sp_q1:Sp3):TS3 :=
 (seq3 (set3 5 (o3 addR (c3 (.int 1)) (call3 sp_q1 (cons3 (v3 0) (cons3 (c3 (.int 5)) nil3))))) (zn0 sp_q1))
def vf0 (sp_q1:Sp3):TS3 :=
 (seq3 (asg3 (tup3 (cons3 (c3 (.int 0)) (cons3 (c3 (.int 0)) nil3))) (gtup3 2 (gcons3 (gn3 3) (gcons3 (gn3 4) gnil3)))) (wn0 sp_q1))
def t_q6 (sp_q1:Sp3):TS3 :=
 (seq3 (set3 2 wk4) (vf0 sp_q1))
def N_q4:List Str:=["found", "due", "stroke"]
def t_q4 (sp_q13:Sp3):TS3 :=
 (seq3 (ifs3 (or3 (not3 (b3 (call3 isiR (cons3 (v3 0) (cons3 (c3 (.ty "tuple")) nil3))))) (b3 (o3 neR (v3 0) (v3 1)))) (ret3 (c3 (.bl false))) next3) (seq3 (for3 (is3 (v3 0)) (gn3 2) (ifs3 (or3 (not3 (b3 (call3 isiR (cons3 (v3 2) (cons3 (c3 (.ty "tuple")) nil3))))) (or3 (b3 (o3 neR (call3 lenR (cons3 (v3 2) nil3)) (c3 (.int 3)))) (not3 (b3 (call3 allR (cons3 (comp3 [none] (is3 (v3 2)) (gn3 0) tt3 (call3 sp_q13 (cons3 (v3 0) nil3))) nil3)))))) (ret3 (c3 (.bl false))) next3)) (ret3 (c3 (.bl true)))))
def N_q2:List Str:=["stroke", "x", "y", "way"]
def t_q2:TS3 :=
 (seq3 (asg3 (v3 0) (gtup3 3 (gcons3 (gn3 1) (gcons3 (gn3 2) (gcons3 (gn3 3) gnil3))))) (ret3 (tup3 (cons3 (tup3 (cons3 (v3 1) (cons3 (v3 2) nil3))) (cons3 (tup3 (cons3 (o3 subR (o3 addR (v3 1) (c3 (.int 1))) (v3 3)) (cons3 (o3 addR (v3 2) (v3 3)) nil3))) nil3)))))
def N_q3:List Str:=["one", "other", "low", "high"]
def t_q3:TS3 :=
 (seq3 (set3 2 (call3 minR (cons3 (v3 0) (cons3 (v3 1) nil3)))) (seq3 (set3 3 (call3 wq2 (cons3 (v3 0) (cons3 (v3 1) nil3)))) (ret3 (tup3 (cons3 (o3 ixR (v3 2) (c3 (.int 0))) (cons3 (o3 ixR (v3 2) (c3 (.int 1))) (cons3 (o3 subR (o3 ixR (v3 3) (c3 (.int 1))) (o3 ixR (v3 2) (c3 (.int 1)))) nil3)))))))
def yp3:List Str:=["picture", "mirror", "quarters", "x", "y", "found", "stroke", "ends", "a", "b", "k"]
def xs3 (sp_q2 sp_q3:Sp3):TS3 :=
 (seq3 (set3 5 (lst3 nil3)) (seq3 (for3 (is3 (v3 0)) (gn3 6) (seq3 (set3 7 (lst3 nil3)) (seq3 (for3 (is3 (call3 sp_q2 (cons3 (v3 6) nil3))) (gtup3 2 (gcons3 (gn3 8) (gcons3 (gn3 9) gnil3))) (seq3 (ifs3 (b3 (o3 eqR (v3 1) (c3 (.int 1)))) (set3 8 (o3 subR (c3 (.int 0)) (v3 8))) next3) (seq3 (for3 (ir3 (cons3 (o3 modR (v3 2) (c3 (.int 4))) nil3)) (gn3 10) (par3 8 9 (cons3 (o3 subR (c3 (.int 0)) (v3 9)) (cons3 (v3 8) nil3)))) (drop3 (mt3 appR (v3 7) (cons3 (tup3 (cons3 (o3 addR (v3 8) (v3 3)) (cons3 (o3 addR (v3 9) (v3 4)) nil3))) nil3)))))) (drop3 (mt3 appR (v3 5) (cons3 (call3 sp_q3 (cons3 (o3 ixR (v3 7) (c3 (.int 0))) (cons3 (o3 ixR (v3 7) (c3 (.int 1))) nil3))) nil3)))))) (ret3 (call3 tupR (cons3 (call3 xs0 (cons3 (v3 5) nil3)) nil3)))))
def N_q7:List Str:=["picture", "found", "stroke", "one", "other"]
def t_q7 (sp_q2:Sp3):TS3 :=
 (seq3 (set3 1 dnl3) (seq3 (for3 (is3 (v3 0)) (gn3 2) (seq3 (asg3 (call3 sp_q2 (cons3 (v3 2) nil3)) (gtup3 2 (gcons3 (gn3 3) (gcons3 (gn3 4) gnil3)))) (seq3 (to0 (v3 1) (v3 3) (o3 addR (gdf3 (v3 1) (cons3 (v3 3) (cons3 (c3 (.int 0)) nil3))) (c3 (.int 1)))) (to0 (v3 1) (v3 4) (o3 addR (gdf3 (v3 1) (cons3 (v3 4) (cons3 (c3 (.int 0)) nil3))) (c3 (.int 1))))))) (ret3 (v3 1))))
def N_q9:List Str:=["picture", "places", "wide", "tall", "lines", "row", "y", "line", "column", "x", "sign"]
def yr0 (sp_q7:Sp3):TS3 :=
 (ret3 (smt3 joinR (c3 (.str "\n")) (cons3 (v3 4) nil3)))
def ui0 (sp_q7:Sp3):TS3 :=
 (seq3 (for3 (ir3 (cons3 (o3 addR (o3 mulR (c3 (.int 2)) (o3 subR (o3 ixR (v3 3) (un3 negR (c3 (.int 1)))) (o3 ixR (v3 3) (c3 (.int 0))))) (c3 (.int 1))) nil3)) (gn3 5) (seq3 (set3 6 (o3 subR (o3 ixR (v3 3) (un3 negR (c3 (.int 1)))) (o3 fdivR (v3 5) (c3 (.int 2))))) (seq3 (set3 7 (c3 (.str ""))) (seq3 (for3 (ir3 (cons3 (o3 addR (o3 mulR (c3 (.int 2)) (o3 subR (o3 ixR (v3 2) (un3 negR (c3 (.int 1)))) (o3 ixR (v3 2) (c3 (.int 0))))) (c3 (.int 1))) nil3)) (gn3 8) (seq3 (set3 9 (o3 addR (o3 ixR (v3 2) (c3 (.int 0))) (o3 fdivR (v3 8) (c3 (.int 2))))) (seq3 (set3 10 (c3 (.str "."))) (seq3 (ifs3 (and3 (b3 (o3 eqR (o3 modR (v3 5) (c3 (.int 2))) (c3 (.int 0)))) (and3 (b3 (o3 eqR (o3 modR (v3 8) (c3 (.int 2))) (c3 (.int 0)))) (b3 (o3 (dinR false) (tup3 (cons3 (v3 9) (cons3 (v3 6) nil3))) (v3 1))))) (set3 10 (c3 (.str "+"))) next3) (seq3 (ifs3 (and3 (b3 (o3 eqR (o3 modR (v3 5) (c3 (.int 2))) (c3 (.int 0)))) (and3 (b3 (o3 eqR (o3 modR (v3 8) (c3 (.int 2))) (c3 (.int 1)))) (b3 (o3 (inR false) (tup3 (cons3 (v3 9) (cons3 (v3 6) (cons3 (c3 (.int 0)) nil3)))) (v3 0))))) (set3 10 (c3 (.str "-"))) next3) (seq3 (ifs3 (and3 (b3 (o3 eqR (o3 modR (v3 5) (c3 (.int 2))) (c3 (.int 1)))) (and3 (b3 (o3 eqR (o3 modR (v3 8) (c3 (.int 2))) (c3 (.int 0)))) (b3 (o3 (inR false) (tup3 (cons3 (v3 9) (cons3 (o3 subR (v3 6) (c3 (.int 1))) (cons3 (c3 (.int 1)) nil3)))) (v3 0))))) (set3 10 (c3 (.str "|"))) next3) (set3 7 (o3 addR (v3 7) (v3 10))))))))) (drop3 (mt3 appR (v3 4) (cons3 (v3 7) nil3))))))) (yr0 sp_q7))
def zr0 (sp_q7:Sp3):TS3 :=
 (seq3 (set3 4 (lst3 (cons3 (o3 addR (o3 addR (call3 strR (cons3 (o3 ixR (v3 2) (c3 (.int 0))) nil3)) (c3 (.str " "))) (call3 strR (cons3 (o3 ixR (v3 3) (c3 (.int 0))) nil3))) nil3))) (ui0 sp_q7))
def ti0 (sp_q7:Sp3):TS3 :=
 (seq3 (set3 3 (call3 xs1 (cons3 (comp3 [none] (isd3 (v3 1)) (gn3 0) tt3 (o3 ixR (v3 0) (c3 (.int 1)))) nil3))) (zr0 sp_q7))
def si0 (sp_q7:Sp3):TS3 :=
 (seq3 (set3 2 (call3 xs1 (cons3 (comp3 [none] (isd3 (v3 1)) (gn3 0) tt3 (o3 ixR (v3 0) (c3 (.int 0)))) nil3))) (ti0 sp_q7))
def xj0 (sp_q7:Sp3):TS3 :=
 (seq3 (ifs3 (b3 (o3 eqR (v3 0) (tup3 nil3))) (ret3 (c3 (.str "none"))) next3) (si0 sp_q7))
def t_q9 (sp_q7:Sp3):TS3 :=
 (seq3 (set3 1 (call3 sp_q7 (cons3 (v3 0) nil3))) (xj0 sp_q7))
def N_q5:List Str:=["e", "marks"]
def t_q5:TS3 :=
 (seq3 (set3 1 (lst3 (cons3 (isx3 (v3 0) (subX "NoWord")) (cons3 (isx3 (v3 0) (subX "NoRoom")) (cons3 (isx3 (v3 0) (subX "NoStep")) (cons3 (isx3 (v3 0) (subX "NoPicture")) nil3)))))) (ret3 (o3 addR (v3 1) (lst3 (cons3 (isx3 (v3 0) (subX "NoNumber")) (cons3 (isx3 (v3 0) (subX "BadNote")) (cons3 (isx3 (v3 0) (subX "ValueError")) nil3)))))))
def N_q8:List Str:=["marks", "which"]
def t_q8:TS3 :=
 (ret3 (o3 eqR (v3 0) (o3 addR (comp3 [none,some 1] (ir3 (cons3 (c3 (.int 6)) nil3)) (gn3 0) tt3 (o3 eqR (v3 0) (v3 1))) (lst3 (cons3 (c3 (.bl true)) nil3)))))
def zu2:List Str:=["picture", "found", "marks", "e"]
def ub3 (sp_q5:Sp3) (spx_q26:XE3->Sp3):TS3 :=
 (seq3 (set3 1 (c3 .non)) (seq3 (set3 2 (lst3 nil3)) (seq3 (try3 3 spx_q26 (td3 1) okX (cons3 (v3 0) nil3) (set3 2 (call3 sp_q5 (cons3 (v3 3) nil3)))) (ret3 (tup3 (cons3 (v3 1) (cons3 (v3 2) nil3)))))))
def wo3:List Str:=["script", "state", "picture", "far", "more", "places", "wide", "tall", "found", "marks"]
def xy1 (sp_q1 sp_q4 sp_q6 sp_q7 sp_q8 sp_q9 sp_q10 sp_q11 sp_q12:Sp3) (spx_q25:XE3->Sp3):TS3 :=
 (ret3 (call3 sp_q4 (cons3 (call3 (spx_q25 NX) (cons3 (v3 8) nil3)) (cons3 (v3 2) nil3))))
def sz0 (sp_q1 sp_q4 sp_q6 sp_q7 sp_q8 sp_q9 sp_q10 sp_q11 sp_q12:Sp3) (spx_q25:XE3->Sp3):TS3 :=
 (seq3 (ifs3 (or3 (b3 (o3 neR (v3 9) (lst3 nil3))) (or3 (not3 (b3 (call3 isiR (cons3 (v3 8) (cons3 (c3 (.ty "str")) nil3))))) (b3 (o3 neR (v3 8) (call3 sp_q9 (cons3 (v3 2) nil3)))))) (ret3 (c3 (.bl false))) next3) (xy1 sp_q1 sp_q4 sp_q6 sp_q7 sp_q8 sp_q9 sp_q10 sp_q11 sp_q12 spx_q25))
def th0 (sp_q1 sp_q4 sp_q6 sp_q7 sp_q8 sp_q9 sp_q10 sp_q11 sp_q12:Sp3) (spx_q25:XE3->Sp3):TS3 :=
 (seq3 (ifs3 (and3 (b3 (o3 neR (v3 2) (tup3 nil3))) (b3 (o3 gtR (call3 mxR (cons3 (o3 subR (call3 mxR (cons3 (v3 6) nil3)) (call3 mnR (cons3 (v3 6) nil3))) (cons3 (o3 subR (call3 mxR (cons3 (v3 7) nil3)) (call3 mnR (cons3 (v3 7) nil3))) nil3))) (c3 (.int 39))))) (ret3 (call3 sp_q8 (cons3 (v3 9) (cons3 (c3 (.int 1)) nil3)))) next3) (sz0 sp_q1 sp_q4 sp_q6 sp_q7 sp_q8 sp_q9 sp_q10 sp_q11 sp_q12 spx_q25))
def yl2 (sp_q1 sp_q4 sp_q6 sp_q7 sp_q8 sp_q9 sp_q10 sp_q11 sp_q12:Sp3) (spx_q25:XE3->Sp3):TS3 :=
 (seq3 (asg3 (call3 sp_q11 (cons3 (v3 2) nil3)) (gtup3 2 (gcons3 (gn3 8) (gcons3 (gn3 9) gnil3)))) (th0 sp_q1 sp_q4 sp_q6 sp_q7 sp_q8 sp_q9 sp_q10 sp_q11 sp_q12 spx_q25))
def xa1 (sp_q1 sp_q4 sp_q6 sp_q7 sp_q8 sp_q9 sp_q10 sp_q11 sp_q12:Sp3) (spx_q25:XE3->Sp3):TS3 :=
 (seq3 (set3 7 (comp3 [none] (isd3 (v3 5)) (gn3 0) tt3 (o3 ixR (v3 0) (c3 (.int 1))))) (yl2 sp_q1 sp_q4 sp_q6 sp_q7 sp_q8 sp_q9 sp_q10 sp_q11 sp_q12 spx_q25))
def ya1 (sp_q1 sp_q4 sp_q6 sp_q7 sp_q8 sp_q9 sp_q10 sp_q11 sp_q12:Sp3) (spx_q25:XE3->Sp3):TS3 :=
 (seq3 (set3 6 (comp3 [none] (isd3 (v3 5)) (gn3 0) tt3 (o3 ixR (v3 0) (c3 (.int 0))))) (xa1 sp_q1 sp_q4 sp_q6 sp_q7 sp_q8 sp_q9 sp_q10 sp_q11 sp_q12 spx_q25))
def xn1 (sp_q1 sp_q4 sp_q6 sp_q7 sp_q8 sp_q9 sp_q10 sp_q11 sp_q12:Sp3) (spx_q25:XE3->Sp3):TS3 :=
 (seq3 (set3 5 (call3 sp_q7 (cons3 (v3 2) nil3))) (ya1 sp_q1 sp_q4 sp_q6 sp_q7 sp_q8 sp_q9 sp_q10 sp_q11 sp_q12 spx_q25))
def yn1 (sp_q1 sp_q4 sp_q6 sp_q7 sp_q8 sp_q9 sp_q10 sp_q11 sp_q12:Sp3) (spx_q25:XE3->Sp3):TS3 :=
 (seq3 (set3 2 (call3 sp_q12 (cons3 (v3 2) (cons3 (c3 (.int 0)) (cons3 (c3 (.int 0)) (cons3 (o3 subR (call3 sp_q1 (cons3 (v3 1) (cons3 (o3 powR (c3 (.int 10)) (c3 (.int 19))) nil3))) (c3 (.int 9))) (cons3 (o3 subR (c3 (.int 9)) (call3 sp_q1 (cons3 (v3 1) (cons3 (o3 powR (c3 (.int 10)) (c3 (.int 19))) nil3)))) nil3))))))) (xn1 sp_q1 sp_q4 sp_q6 sp_q7 sp_q8 sp_q9 sp_q10 sp_q11 sp_q12 spx_q25))
def zl2 (sp_q1 sp_q4 sp_q6 sp_q7 sp_q8 sp_q9 sp_q10 sp_q11 sp_q12:Sp3) (spx_q25:XE3->Sp3):TS3 :=
 (seq3 (ifs3 (b3 (o3 eqR (call3 sp_q1 (cons3 (v3 1) (cons3 (c3 (.int 4)) nil3))) (c3 (.int 1)))) (seq3 (set3 3 (o3 addR (c3 (.int 36)) (call3 sp_q1 (cons3 (v3 1) (cons3 (c3 (.int 5)) nil3))))) (seq3 (set3 4 (o3 ixR (lst3 (cons3 (tup3 (cons3 (v3 3) (cons3 (c3 (.int 0)) (cons3 (c3 (.int 1)) nil3)))) (cons3 (tup3 (cons3 (c3 (.int 0)) (cons3 (v3 3) (cons3 (c3 (.int 0)) nil3)))) (cons3 (tup3 (cons3 (v3 3) (cons3 (v3 3) (cons3 (c3 (.int 0)) nil3)))) (cons3 (tup3 (cons3 (v3 3) (cons3 (c3 (.int 1)) (cons3 (c3 (.int 0)) nil3)))) nil3))))) (call3 sp_q1 (cons3 (v3 1) (cons3 (c3 (.int 4)) nil3))))) (set3 2 (call3 tupR (cons3 (yc3 (xc3 (cons3 (o3 addR (v3 2) (tup3 (cons3 (tup3 (cons3 (c3 (.int 0)) (cons3 (c3 (.int 0)) (cons3 (c3 (.int 0)) nil3)))) (cons3 (v3 4) nil3)))) nil3))) nil3))))) next3) (yn1 sp_q1 sp_q4 sp_q6 sp_q7 sp_q8 sp_q9 sp_q10 sp_q11 sp_q12 spx_q25))
def wl2 (sp_q1 sp_q4 sp_q6 sp_q7 sp_q8 sp_q9 sp_q10 sp_q11 sp_q12:Sp3) (spx_q25:XE3->Sp3):TS3 :=
 (seq3 (set3 2 (call3 sp_q6 (cons3 (v3 1) (cons3 (c3 (.int 12)) nil3)))) (zl2 sp_q1 sp_q4 sp_q6 sp_q7 sp_q8 sp_q9 sp_q10 sp_q11 sp_q12 spx_q25))
def zr3 (sp_q1 sp_q4 sp_q6 sp_q7 sp_q8 sp_q9 sp_q10 sp_q11 sp_q12:Sp3) (spx_q25:XE3->Sp3):TS3 :=
 (seq3 (set3 1 (call3 sp_q10 (cons3 (v3 0) (cons3 (c3 (.int 0)) nil3)))) (wl2 sp_q1 sp_q4 sp_q6 sp_q7 sp_q8 sp_q9 sp_q10 sp_q11 sp_q12 spx_q25))
end Pv
namespace Pv
open PySem PySem.Spec PyProof.Rows L2
section
variable {P:Program} {w:World} {K:Fg} {mg:Str->Option Value} {base:Heap}
theorem sc_q14:FnScope xp3 ["picture"] (wa0 wu1):=⟨rfl,rfl,rfl,by decide +kernel,rfl,by decide +kernel,by decide +kernel⟩
theorem ux3 {k:Nat} {f:Addr} {cdv:Value} {A:Around} {outer:List Env} {s:Shared} {H:Hp} {E:XK} {XE:XE3} (EX:EXok K mg XE E) {spx_q15:XE3->Sp3} {k_q15:Nat} (c_q15:CalX P w K mg base k_q15 "check_stroke" ["stroke"] spx_q15) (l_q15:k_q15<=k) {C_NoPicture:Addr} (O_NoPicture:OwnCls "NoPicture" C_NoPicture [.type "ValueError",.type "Exception",.type "BaseException",.type "object"] "ValueError.__new__" mg base) (z_len:mg "len" = none) (z_range:mg "range" = none) (hr:Room k (A.deeper (envOfC "check_picture" (wa0 wu1) s.heap.objs.size f cdv))) :
    RSs (cxOf (CXn P w) P w K mg base xp3 "check_picture" (wa0 wu1) f cdv A outer s H E) (zb0 wu1) (sr3 XE spx_q15) :=
 (ta0 (yh0 PassesOwn.leaving rfl (xh0 (ya0 0)) (sb0 (i:=1) sc_q14.nd) (sa0 (vn0 (zb1 EX (c_q15.mono l_q15) hr (xa0 (ya0 1) ua0))))) (sa0 (yh0 PassesOwn.leaving rfl (xa2 z_range za0 (xc0 vb1 z_len sm0 (xa0 (ya0 0) ua0))) (sb0 (i:=2) sc_q14.nd) (sa0 (wg0 (tc0 (sf3 (hu64 hr)) (wb0 q_ix (ya0 0) (yb0 ug0 (ya0 2) za0)) (wb0 q_ix (ya0 0) (ya0 2))) (sa0 (ym0 EX O_NoPicture excBase_ValueError (by decide) excBase_ValueError (xa0 se0 ua0))) vc0)))))
theorem tu3:FnScope wk2 ["stroke"] (wa0 zu1):=⟨rfl,rfl,rfl,by decide +kernel,rfl,by decide +kernel,by decide +kernel⟩
theorem vx3 {k:Nat} {f:Addr} {cdv:Value} {A:Around} {outer:List Env} {s:Shared} {H:Hp} {E:XK} {XE:XE3} (EX:EXok K mg XE E) {C_NoPicture:Addr} (O_NoPicture:OwnCls "NoPicture" C_NoPicture [.type "ValueError",.type "Exception",.type "BaseException",.type "object"] "ValueError.__new__" mg base) (z_len:mg "len" = none) (g_WAYS:Gd K mg "WAYS" ug1) (hr:Room k (A.deeper (envOfC "check_stroke" (wa0 zu1) s.heap.objs.size f cdv))) :
    RSs (cxOf (CXn P w) P w K mg base wk2 "check_stroke" (wa0 zu1) f cdv A outer s H E) (zb0 zu1) (xl2 XE) :=
 (sa0 (wg0 (yf1 (xv1 (tc0 (q_ne (hu64 hr)) (xc0 vb1 z_len sm0 (xa0 (ya0 0) ua0)) za0) (vn1 (tc0 (tf3 (hu65 hr)) (wb0 q_ix (ya0 0) za0) (re_g g_WAYS))))) (sa0 (ym0 EX O_NoPicture excBase_ValueError (by decide) excBase_ValueError (xa0 se0 ua0))) vc0))
theorem vu3:FnScope uo3 ["stroke"] (wa0 tt1):=⟨rfl,rfl,rfl,by decide +kernel,rfl,by decide +kernel,by decide +kernel⟩
theorem yx3 {k:Nat} {f:Addr} {cdv:Value} {A:Around} {outer:List Env} {s:Shared} {H:Hp} {E:XK} (hr:Room k (A.deeper (envOfC "ends_of" (wa0 tt1) s.heap.objs.size f cdv))) :
    RSs (cxOf CX0 P w K mg base uo3 "ends_of" (wa0 tt1) f cdv A outer s H E).nox (zb0 tt1) (vr3) :=
 (ta0 (wg0 (tc0 (q_eq (hu64 hr)) (wb0 q_ix (ya0 0) za0) za0) (sa0 (zc0 (wc0 (xa0 (wc0 (xa0 (wb0 q_ix (ya0 0) za0) (xa0 (wb0 q_ix (ya0 0) za0) ua0))) (xa0 (wc0 (xa0 (yb0 ze0 (wb0 q_ix (ya0 0) za0) za0) (xa0 (wb0 q_ix (ya0 0) za0) ua0))) ua0))))) vc0) (sa0 (zc0 (wc0 (xa0 (wc0 (xa0 (wb0 q_ix (ya0 0) za0) (xa0 (wb0 q_ix (ya0 0) za0) ua0))) (xa0 (wc0 (xa0 (wb0 q_ix (ya0 0) za0) (xa0 (yb0 ze0 (wb0 q_ix (ya0 0) za0) za0) ua0))) ua0))))))
theorem zu3:FnScope sn3 ["strokes"] (wa0 yt1):=⟨rfl,rfl,rfl,by decide +kernel,rfl,by decide +kernel,by decide +kernel⟩
theorem ww3 {k:Nat} {f:Addr} {cdv:Value} {A:Around} {outer:List Env} {s:Shared} {H:Hp} {E:XK} (z_set:mg "set" = none) (z_sorted:mg "sorted" = none) (z_tuple:mg "tuple" = none) (hr:Room k (A.deeper (envOfC "picture_with" (wa0 yt1) s.heap.objs.size f cdv))) :
    RSs (cxOf CX0 P w K mg base sn3 "picture_with" (wa0 yt1) f cdv A outer s H E).nox (zb0 yt1) (sq3) :=
 (sa0 (zc0 (wf0 wb1 z_tuple wk0 (xa0 (ua2 (tz1 (ya0 0) z_set (hu64 hr)) z_sorted) ua0))))
theorem sc_q22:FnScope yo3 ["picture"] (wa0 wt1):=⟨rfl,rfl,rfl,by decide +kernel,rfl,by decide +kernel,by decide +kernel⟩
theorem uw3 {k:Nat} {f:Addr} {cdv:Value} {A:Around} {outer:List Env} {s:Shared} {H:Hp} {E:XK} {sp_q18:Sp3} {k_q18:Nat} (c_q18:Cal P w K mg base k_q18 "ends_of" ["stroke"] sp_q18) (l_q18:k_q18<=k) (z_len:mg "len" = none) (z_max:mg "max" = none) (z_min:mg "min" = none) (hr:Room k (A.deeper (envOfC "picture_box" (wa0 wt1) s.heap.objs.size f cdv))) :
    RSs (cxOf CX0 P w K mg base yo3 "picture_box" (wa0 wt1) f cdv A outer s H E).nox (zb0 wt1) (yr3 sp_q18) :=
 (ta0 (wg0 (tc0 (q_eq (hu64 hr)) (xc0 vb1 z_len sm0 (xa0 (ya0 0) ua0)) za0) (sa0 (zc0 ta2)) vc0) (ta0 (tp0 (i:=1) sc_q22.nd (NN:=["stroke"]) (by decide +kernel) (by decide +kernel) (by decide +kernel) (xh0 (ya0 0)) (λ _ _ _ _ _=>(sb0 (i:=0) (show List.Nodup (["stroke"]:List Str) by decide +kernel))) (λ _ _ _ _ _=>te0) (λ _ _ _ _ _=>(wb0 q_ix (ub0 (c_q18.mono l_q18) hr (xa0 (ya0 0) ua0)) za0))) (ta0 (tp0 (i:=2) sc_q22.nd (NN:=["stroke"]) (by decide +kernel) (by decide +kernel) (by decide +kernel) (xh0 (ya0 0)) (λ _ _ _ _ _=>(sb0 (i:=0) (show List.Nodup (["stroke"]:List Str) by decide +kernel))) (λ _ _ _ _ _=>te0) (λ _ _ _ _ _=>(wb0 q_ix (ub0 (c_q18.mono l_q18) hr (xa0 (ya0 0) ua0)) za0))) (ta0 (yc0 (i:=3) sc_q22.nd (wc0 (xa0 (xc0 (q_mn rfl (hu64 hr)) z_min wi1 (xa0 (zl0 (NN:=["point"]) (by decide +kernel) (by decide +kernel) (by decide +kernel) (xh0 (ya0 1)) (λ _ _ _ _ _=>(sb0 (i:=0) (show List.Nodup (["point"]:List Str) by decide +kernel))) (λ _ _ _ _ _=>te0) (λ _ _ _ _ _=>(wb0 q_ix (ya0 0) za0))) ua0)) (xa0 (xc0 (q_mn rfl (hu64 hr)) z_min wi1 (xa0 (zl0 (NN:=["point"]) (by decide +kernel) (by decide +kernel) (by decide +kernel) (xh0 (ya0 1)) (λ _ _ _ _ _=>(sb0 (i:=0) (show List.Nodup (["point"]:List Str) by decide +kernel))) (λ _ _ _ _ _=>te0) (λ _ _ _ _ _=>(wb0 q_ix (ya0 0) za0))) ua0)) ua0)))) (sa0 (zc0 (yb0 ze0 (ya0 3) (wc0 (xa0 (xc0 (q_mx rfl) z_max wv0 (xa0 (zl0 (NN:=["point"]) (by decide +kernel) (by decide +kernel) (by decide +kernel) (xh0 (ya0 2)) (λ _ _ _ _ _=>(sb0 (i:=0) (show List.Nodup (["point"]:List Str) by decide +kernel))) (λ _ _ _ _ _=>te0) (λ _ _ _ _ _=>(wb0 q_ix (ya0 0) za0))) ua0)) (xa0 (xc0 (q_mx rfl) z_max wv0 (xa0 (zl0 (NN:=["point"]) (by decide +kernel) (by decide +kernel) (by decide +kernel) (xh0 (ya0 2)) (λ _ _ _ _ _=>(sb0 (i:=0) (show List.Nodup (["point"]:List Str) by decide +kernel))) (λ _ _ _ _ _=>te0) (λ _ _ _ _ _=>(wb0 q_ix (ya0 0) za0))) ua0)) ua0))))))))))
theorem sc_q26:FnScope vn3 ["picture"] (wa0 ss1):=⟨rfl,rfl,rfl,by decide +kernel,rfl,by decide +kernel,by decide +kernel⟩
theorem yw3 {k:Nat} {f:Addr} {cdv:Value} {A:Around} {outer:List Env} {s:Shared} {H:Hp} {E:XK} {XE:XE3} (EX:EXok K mg XE E) {spx_q14:XE3->Sp3} {k_q14:Nat} (c_q14:CalX P w K mg base k_q14 "check_picture" ["picture"] spx_q14) (l_q14:k_q14<=k) {sp_q17:Sp3} {k_q17:Nat} (c_q17:Cal P w K mg base k_q17 "corner_line" ["box"] sp_q17) (l_q17:k_q17<=k) {sp_q22:Sp3} {k_q22:Nat} (c_q22:Cal P w K mg base k_q22 "picture_box" ["picture"] sp_q22) (l_q22:k_q22<=k) {sp_q28:Sp3} {k_q28:Nat} (c_q28:Cal P w K mg base k_q28 "sign_lines" ["picture", "box"] sp_q28) (l_q28:k_q28<=k) {C_NoRoom:Addr} (O_NoRoom:OwnCls "NoRoom" C_NoRoom [.type "ValueError",.type "Exception",.type "BaseException",.type "object"] "ValueError.__new__" mg base) (z_max:mg "max" = none) (g_MOST_POINTS:Gd K mg "MOST_POINTS" xi0) (g_NO_STROKES:Gd K mg "NO_STROKES" xg0) (hr:Room k (A.deeper (envOfC "sheet_of" (wa0 ss1) s.heap.objs.size f cdv))) :
    RSs (cxOf (CXn P w) P w K mg base vn3 "sheet_of" (wa0 ss1) f cdv A outer s H E) (zb0 ss1) (uq3 XE spx_q14 sp_q17 sp_q22 sp_q28) :=
 (ta0 (vn0 (zb1 EX (c_q14.mono l_q14) hr (xa0 (ya0 0) ua0))) (ta0 (yc0 (i:=1) sc_q26.nd (ub0 (c_q22.mono l_q22) hr (xa0 (ya0 0) ua0))) (ta0 (wg0 (tc0 xs4 (ya0 1) ta2) (sa0 (zc0 (re_g g_NO_STROKES))) vc0) (ta0 (wg0 (tc0 (sf3 (hu64 hr)) (xc0 (q_mx rfl) z_max wv0 (xa0 (yb0 ug0 (wb0 q_ix (ya0 1) za0) (wb0 q_ix (ya0 1) za0)) (xa0 (yb0 ug0 (wb0 q_ix (ya0 1) za0) (wb0 q_ix (ya0 1) za0)) ua0))) (re_g g_MOST_POINTS)) (sa0 (ym0 EX O_NoRoom excBase_ValueError (by decide) excBase_ValueError (xa0 se0 ua0))) vc0) (sa0 (zc0 (yb1 se0 (xa0 (yb0 ze0 (zf0 (xa0 (ub0 (c_q17.mono l_q17) hr (xa0 (ya0 1) ua0)) ua0)) (ub0 (c_q28.mono l_q28) hr (xa0 (ya0 0) (xa0 (ya0 1) ua0)))) ua0))))))))
theorem uu3:FnScope to3 ["box"] (wa0 xu1):=⟨rfl,rfl,rfl,by decide +kernel,rfl,by decide +kernel,by decide +kernel⟩
theorem zx3 {k:Nat} {f:Addr} {cdv:Value} {A:Around} {outer:List Env} {s:Shared} {H:Hp} {E:XK} (z_str:mg "str" = none) (hr:Room k (A.deeper (envOfC "corner_line" (wa0 xu1) s.heap.objs.size f cdv))) :
    RSs (cxOf CX0 P w K mg base to3 "corner_line" (wa0 xu1) f cdv A outer s H E).nox (zb0 xu1) (ur3) :=
 (sa0 (zc0 (yb1 se0 (xa0 (zf0 (xa0 (wf0 yo2 z_str zi1 (xa0 (wb0 q_ix (ya0 0) za0) ua0)) (xa0 (wf0 yo2 z_str zi1 (xa0 (wb0 q_ix (ya0 0) za0) ua0)) ua0))) ua0))))
theorem sc_q28:FnScope zn3 ["picture", "box"] (wa0 us1):=⟨rfl,rfl,rfl,by decide +kernel,rfl,by decide +kernel,by decide +kernel⟩
theorem sv3 {k:Nat} {f:Addr} {cdv:Value} {A:Around} {outer:List Env} {s:Shared} {H:Hp} {E:XK} {sp_q27:Sp3} {k_q27:Nat} (c_q27:Cal P w K mg base k_q27 "sign_line" ["signs", "row", "width"] sp_q27) (l_q27:k_q27<=k) {sp_q29:Sp3} {k_q29:Nat} (c_q29:Cal P w K mg base k_q29 "signs_of" ["picture", "box"] sp_q29) (l_q29:k_q29<=k) (z_range:mg "range" = none) (hr:Room k (A.deeper (envOfC "sign_lines" (wa0 us1) s.heap.objs.size f cdv))) :
    RSs (cxOf CX0 P w K mg base zn3 "sign_lines" (wa0 us1) f cdv A outer s H E).nox (zb0 us1) (wq3 sp_q27 sp_q29) :=
 (ta0 (yc0 (i:=2) sc_q28.nd (ub0 (c_q29.mono l_q29) hr (xa0 (ya0 0) (xa0 (ya0 1) ua0)))) (ta0 (yc0 (i:=3) sc_q28.nd (yb0 ze0 (yb0 yt0 za0 (yb0 ug0 (wb0 q_ix (ya0 1) za0) (wb0 q_ix (ya0 1) za0))) za0)) (sa0 (zc0 (sp0 (NN:=["row", "signs", "width"]) (js:=[none,some 2,some 3]) rfl zd1 (xf0 z_range (yb0 ze0 (yb0 yt0 za0 (yb0 ug0 (wb0 q_ix (ya0 1) za0) (wb0 q_ix (ya0 1) za0))) za0)) (λ _ _ _ _ _=>(sb0 (i:=0) (show List.Nodup (["row", "signs", "width"]:List Str) by decide +kernel))) (λ _ _ _ _ _=>te0) (λ _ _ _ _ _=>(ub0 (c_q27.mono l_q27) hr (xa0 (ya0 1) (xa0 (ya0 0) (xa0 (ya0 2) ua0))))) (by intro _; rfl))))))
theorem yu3:FnScope wn3 ["signs", "row", "width"] (wa0 ts1):=⟨rfl,rfl,rfl,by decide +kernel,rfl,by decide +kernel,by decide +kernel⟩
theorem xw3 {k:Nat} {f:Addr} {cdv:Value} {A:Around} {outer:List Env} {s:Shared} {H:Hp} {E:XK} (z_range:mg "range" = none) (hr:Room k (A.deeper (envOfC "sign_line" (wa0 ts1) s.heap.objs.size f cdv))) :
    RSs (cxOf CX0 P w K mg base wn3 "sign_line" (wa0 ts1) f cdv A outer s H E).nox (zb0 ts1) (vq3) :=
 (sa0 (zc0 (yb1 se0 (xa0 (sp0 (NN:=["column", "signs", "row"]) (js:=[none,some 0,some 1]) rfl zd1 (xf0 z_range (ya0 2)) (λ _ _ _ _ _=>(sb0 (i:=0) (show List.Nodup (["column", "signs", "row"]:List Str) by decide +kernel))) (λ _ _ _ _ _=>te0) (λ _ _ _ _ _=>(yf3 (hu64 hr) (ya0 1) (xa0 (wc0 (xa0 (ya0 2) (xa0 (ya0 0) ua0))) (xa0 se0 ua0)))) (by intro _; rfl)) ua0))))
theorem sc_q29:FnScope yn3 ["picture", "box"] (wa0 vs1):=⟨rfl,rfl,rfl,by decide +kernel,rfl,by decide +kernel,by decide +kernel⟩
theorem tv3 {k:Nat} {f:Addr} {cdv:Value} {A:Around} {outer:List Env} {s:Shared} {H:Hp} {E:XK} {sp_q18:Sp3} {k_q18:Nat} (c_q18:Cal P w K mg base k_q18 "ends_of" ["stroke"] sp_q18) (l_q18:k_q18<=k) (g_STROKE_SIGNS:Gd K mg "STROKE_SIGNS" sd0) (hr:Room k (A.deeper (envOfC "signs_of" (wa0 vs1) s.heap.objs.size f cdv))) :
    RSs (cxOf CX0 P w K mg base yn3 "signs_of" (wa0 vs1) f cdv A outer s H E).nox (zb0 vs1) (zq3 sp_q18) :=
 (ta0 (yc0 (i:=2) sc_q29.nd yw2) (ta0 (yh0 PassesOwn.never rfl (xh0 (ya0 0)) (sb0 (i:=3) sc_q29.nd) (ta0 (un1 (i:=4) sc_q29.nd (NN:=["point", "box"]) (js:=[none,some 1]) rfl zd1 (xh0 (ub0 (c_q18.mono l_q18) hr (xa0 (ya0 3) ua0))) (λ _ _ _ _ _=>(sb0 (i:=0) (show List.Nodup (["point", "box"]:List Str) by decide +kernel))) (λ _ _ _ _ _=>te0) (λ _ _ _ _ _=>(wc0 (xa0 (yb0 yt0 za0 (yb0 ug0 (wb0 q_ix (ya0 1) za0) (wb0 q_ix (ya0 0) za0))) (xa0 (yb0 yt0 za0 (yb0 ug0 (wb0 q_ix (ya0 0) za0) (wb0 q_ix (ya0 1) za0))) ua0)))) (by intro _; rfl)) (ta0 (yh0 PassesOwn.never rfl (xh0 (ya0 4)) (sb0 (i:=5) sc_q29.nd) (sa0 (ta1 (hu64 hr) (ya0 2) (ya0 5) se0))) (ta0 (yc0 (i:=6) sc_q29.nd (wc0 (xa0 (yb0 wm0 (yb0 ze0 (wb0 q_ix (wb0 q_ix (ya0 4) za0) za0) (wb0 q_ix (wb0 q_ix (ya0 4) za0) za0)) za0) (xa0 (yb0 wm0 (yb0 ze0 (wb0 q_ix (wb0 q_ix (ya0 4) za0) za0) (wb0 q_ix (wb0 q_ix (ya0 4) za0) za0)) za0) ua0)))) (sa0 (ta1 (hu64 hr) (ya0 2) (ya0 6) (wb0 q_ix (re_g g_STROKE_SIGNS) (wb0 q_ix (ya0 3) za0)))))))) (sa0 (zc0 (ya0 2)))))
theorem sc_q25:FnScope tn3 ["text"] (wa0 xt1):=⟨rfl,rfl,rfl,by decide +kernel,rfl,by decide +kernel,by decide +kernel⟩
theorem zw3 {k:Nat} {f:Addr} {cdv:Value} {A:Around} {outer:List Env} {s:Shared} {H:Hp} {E:XK} {XE:XE3} (EX:EXok K mg XE E) {spx_q16:XE3->Sp3} {k_q16:Nat} (c_q16:CalX P w K mg base k_q16 "corner_in" ["line"] spx_q16) (l_q16:k_q16<=k) {sp_q19:Sp3} {k_q19:Nat} (c_q19:Cal P w K mg base k_q19 "is_sheet_of" ["text", "picture"] sp_q19) (l_q19:k_q19<=k) {sp_q23:Sp3} {k_q23:Nat} (c_q23:Cal P w K mg base k_q23 "picture_in" ["lines", "corner"] sp_q23) (l_q23:k_q23<=k) {C_BadNote:Addr} (O_BadNote:OwnCls "BadNote" C_BadNote [.type "ValueError",.type "Exception",.type "BaseException",.type "object"] "ValueError.__new__" mg base) (g_NO_STROKES:Gd K mg "NO_STROKES" xg0) (hr:Room k (A.deeper (envOfC "read_sheet" (wa0 xt1) s.heap.objs.size f cdv))) :
    RSs (cxOf (CXn P w) P w K mg base tn3 "read_sheet" (wa0 xt1) f cdv A outer s H E) (zb0 xt1) (tq3 XE spx_q16 sp_q19 sp_q23) :=
 (ta0 (wg0 (tc0 (q_eq (hu64 hr)) (ya0 0) (re_g g_NO_STROKES)) (sa0 (zc0 (wc0 ua0))) vc0) (ta0 (yc0 (i:=1) sc_q25.nd (sn1 (ya0 0) (xa0 se0 ua0))) (ta0 (yc0 (i:=2) sc_q25.nd (ub0 (c_q23.mono l_q23) hr (xa0 (sn2 q_sl (ya0 1) (se3 za0) xf3) (xa0 (zb1 EX (c_q16.mono l_q16) hr (xa0 (wb0 q_ix (ya0 1) za0) ua0)) ua0)))) (ta0 (wg0 (zf1 (zx0 (ub0 (c_q19.mono l_q19) hr (xa0 (ya0 0) (xa0 (ya0 2) ua0))))) (sa0 (ym0 EX O_BadNote excBase_ValueError (by decide) excBase_ValueError (xa0 se0 ua0))) vc0) (sa0 (zc0 (ya0 2)))))))
theorem sc_q16:FnScope so3 ["line"] (wa0 yu1):=⟨rfl,rfl,rfl,by decide +kernel,rfl,by decide +kernel,by decide +kernel⟩
theorem wx3 {k:Nat} {f:Addr} {cdv:Value} {A:Around} {outer:List Env} {s:Shared} {H:Hp} {E:XK} {XE:XE3} (EX:EXok K mg XE E) {sp_q21:Sp3} {k_q21:Nat} (c_q21:Cal P w K mg base k_q21 "number_in" ["mark"] sp_q21) (l_q21:k_q21<=k) {C_BadNote:Addr} (O_BadNote:OwnCls "BadNote" C_BadNote [.type "ValueError",.type "Exception",.type "BaseException",.type "object"] "ValueError.__new__" mg base) (z_len:mg "len" = none) (hr:Room k (A.deeper (envOfC "corner_in" (wa0 yu1) s.heap.objs.size f cdv))) :
    RSs (cxOf (CXn P w) P w K mg base so3 "corner_in" (wa0 yu1) f cdv A outer s H E) (zb0 yu1) (tr3 XE sp_q21) :=
 (ta0 (yc0 (i:=1) sc_q16.nd (sn1 (ya0 0) (xa0 se0 ua0))) (ta0 (wg0 (tc0 (q_ne (hu64 hr)) (xc0 vb1 z_len sm0 (xa0 (ya0 1) ua0)) za0) (sa0 (ym0 EX O_BadNote excBase_ValueError (by decide) excBase_ValueError (xa0 se0 ua0))) vc0) (sa0 (zc0 (wc0 (xa0 (ub0 (c_q21.mono l_q21) hr (xa0 (wb0 q_ix (ya0 1) za0) ua0)) (xa0 (ub0 (c_q21.mono l_q21) hr (xa0 (wb0 q_ix (ya0 1) za0) ua0)) ua0)))))))
theorem sc_q21:FnScope zo3 ["mark"] (wa0 vt1):=⟨rfl,rfl,rfl,by decide +kernel,rfl,by decide +kernel,by decide +kernel⟩
theorem tw3 {k:Nat} {f:Addr} {cdv:Value} {A:Around} {outer:List Env} {s:Shared} {H:Hp} {E:XK} (z_int:mg "int" = none) (hr:Room k (A.deeper (envOfC "number_in" (wa0 vt1) s.heap.objs.size f cdv))) :
    RSs (cxOf CX0 P w K mg base zo3 "number_in" (wa0 vt1) f cdv A outer s H E).nox (zb0 vt1) (wb3) :=
 (ta0 (we3 (sa0 (yc0 (i:=1) sc_q21.nd (wf0 ys4 z_int xa3 (xa0 (ya0 0) ua0))))) (sa0 (zc0 (ya0 1))))
theorem sc_q23:FnScope xo3 ["lines", "corner"] (wa0 zt1):=⟨rfl,rfl,rfl,by decide +kernel,rfl,by decide +kernel,by decide +kernel⟩
theorem vw3 {k:Nat} {f:Addr} {cdv:Value} {A:Around} {outer:List Env} {s:Shared} {H:Hp} {E:XK} {sp_q24:Sp3} {k_q24:Nat} (c_q24:Cal P w K mg base k_q24 "picture_with" ["strokes"] sp_q24) (l_q24:k_q24<=k) {sp_q30:Sp3} {k_q30:Nat} (c_q30:Cal P w K mg base k_q30 "strokes_shown" ["sign", "point"] sp_q30) (l_q30:k_q30<=k) (z_len:mg "len" = none) (z_range:mg "range" = none) (hr:Room k (A.deeper (envOfC "picture_in" (wa0 zt1) s.heap.objs.size f cdv))) :
    RSs (cxOf CX0 P w K mg base xo3 "picture_in" (wa0 zt1) f cdv A outer s H E).nox (zb0 zt1) (xr3 sp_q24 sp_q30) :=
 (ta0 (yc0 (i:=2) sc_q23.nd (yb0 ze0 (wb0 q_ix (ya0 1) za0) (yb0 wm0 (xc0 vb1 z_len sm0 (xa0 (ya0 0) ua0)) za0))) (ta0 (yc0 (i:=3) sc_q23.nd (zf0 ua0)) (ta0 (yh0 PassesOwn.never rfl (xf0 z_range (xc0 vb1 z_len sm0 (xa0 (ya0 0) ua0))) (sb0 (i:=4) sc_q23.nd) (sa0 (yh0 PassesOwn.never rfl (xf0 z_range (xc0 vb1 z_len sm0 (xa0 (wb0 q_ix (ya0 0) (ya0 4)) ua0))) (sb0 (i:=5) sc_q23.nd) (ta0 (yc0 (i:=6) sc_q23.nd (wc0 (xa0 (yb0 ze0 (wb0 q_ix (ya0 1) za0) (yb0 wm0 (ya0 5) za0)) (xa0 (yb0 ug0 (ya0 2) (yb0 wm0 (ya0 4) za0)) ua0)))) (sa0 (vn0 (sa2 (ya0 3) (xa0 (ub0 (c_q30.mono l_q30) hr (xa0 (wb0 tr4 (wb0 q_ix (ya0 0) (ya0 4)) (ya0 5)) (xa0 (ya0 6) ua0))) ua0)))))))) (sa0 (zc0 (ub0 (c_q24.mono l_q24) hr (xa0 (ya0 3) ua0)))))))
theorem xu3:FnScope xn3 ["sign", "point"] (wa0 ws1):=⟨rfl,rfl,rfl,by decide +kernel,rfl,by decide +kernel,by decide +kernel⟩
theorem uv3 {k:Nat} {f:Addr} {cdv:Value} {A:Around} {outer:List Env} {s:Shared} {H:Hp} {E:XK} (g_STROKE_SIGNS:Gd K mg "STROKE_SIGNS" sd0) (hr:Room k (A.deeper (envOfC "strokes_shown" (wa0 ws1) s.heap.objs.size f cdv))) :
    RSs (cxOf CX0 P w K mg base xn3 "strokes_shown" (wa0 ws1) f cdv A outer s H E).nox (zb0 ws1) (yq3) :=
 (ta0 (wg0 (tc0 (q_eq (hu64 hr)) (ya0 0) (wb0 q_ix (re_g g_STROKE_SIGNS) za0)) (sa0 (zc0 (zf0 (xa0 (wc0 (xa0 (wb0 q_ix (ya0 1) za0) (xa0 (wb0 q_ix (ya0 1) za0) (xa0 za0 ua0)))) ua0)))) vc0) (ta0 (wg0 (tc0 (q_eq (hu64 hr)) (ya0 0) (wb0 q_ix (re_g g_STROKE_SIGNS) za0)) (sa0 (zc0 (zf0 (xa0 (wc0 (xa0 (wb0 q_ix (ya0 1) za0) (xa0 (yb0 ug0 (wb0 q_ix (ya0 1) za0) za0) (xa0 za0 ua0)))) ua0)))) vc0) (sa0 (zc0 (zf0 ua0)))))
theorem wu3:FnScope vo3 ["text", "picture"] (wa0 ut1):=⟨rfl,rfl,rfl,by decide +kernel,rfl,by decide +kernel,by decide +kernel⟩
theorem xx3 {k:Nat} {f:Addr} {cdv:Value} {A:Around} {outer:List Env} {s:Shared} {H:Hp} {E:XK} {spx_q26:XE3->Sp3} {k_q26:Nat} (c_q26:CalX P w K mg base k_q26 "sheet_of" ["picture"] spx_q26) (l_q26:k_q26<=k) (hr:Room k (A.deeper (envOfC "is_sheet_of" (wa0 ut1) s.heap.objs.size f cdv))) :
    RSs (cxOf CX0 P w K mg base vo3 "is_sheet_of" (wa0 ut1) f cdv A outer s H E).nox (zb0 ut1) (wr3 spx_q26) :=
 (sa0 (vv3 (sa0 (zc0 (xb2 (q_eq (hu64 hr)) (uf1 (c_q26.mono l_q26) hr (xa0 (ya0 1) ua0)) (ya0 0))))))
theorem wo4:FnScope N_q0 ["script", "k"] (wa0 s_q0):=⟨rfl,rfl,rfl,by decide +kernel,rfl,by decide +kernel,by decide +kernel⟩
theorem tp4 {k:Nat} {f:Addr} {cdv:Value} {A:Around} {outer:List Env} {s:Shared} {H:Hp} {E:XK} (z_len:mg "len" = none) (hr:Room k (A.deeper (envOfC "_law_cell_at" (wa0 s_q0) s.heap.objs.size f cdv))) :
    RSs (cxOf CX0 P w K mg base N_q0 "_law_cell_at" (wa0 s_q0) f cdv A outer s H E).nox (zb0 s_q0) (t_q0) :=
 (ta0 (wg0 (tc0 q_lt (ya0 1) (xc0 vb1 z_len sm0 (xa0 (ya0 0) ua0))) (sa0 (zc0 (wb0 q_ix (ya0 0) (ya0 1)))) vc0) (sa0 (zc0 za0)))
theorem su3:FnScope yu2 ["found"] (wa0 vu1):=⟨rfl,rfl,rfl,by decide +kernel,rfl,by decide +kernel,by decide +kernel⟩
theorem tx3 {k:Nat} {f:Addr} {cdv:Value} {A:Around} {outer:List Env} {s:Shared} {H:Hp} {E:XK} (z_bool:mg "bool" = none) (z_int:mg "int" = none) (z_isinstance:mg "isinstance" = none) (hr:Room k (A.deeper (envOfC "_law_whole" (wa0 vu1) s.heap.objs.size f cdv))) :
    RSs (cxOf CX0 P w K mg base yu2 "_law_whole" (wa0 vu1) f cdv A outer s H E).nox (zb0 vu1) (vb3) :=
 (sa0 (zc0 (sy3 (xc0 ub2 z_isinstance ve0 (xa0 (ya0 0) (xa0 (va2 z_int xa3) ua0))) (vy3 (uy3 (xc0 ub2 z_isinstance ve0 (xa0 (ya0 0) (xa0 (va2 z_bool tm3) ua0))))))))
theorem sc_q10:FnScope wu2 ["script", "k"] (wa0 su1):=⟨rfl,rfl,rfl,by decide +kernel,rfl,by decide +kernel,by decide +kernel⟩
theorem yy3 {k:Nat} {f:Addr} {cdv:Value} {A:Around} {outer:List Env} {s:Shared} {H:Hp} {E:XK} {sp_q0:Sp3} {k_q0:Nat} (c_q0:Cal P w K mg base k_q0 "_law_cell_at" ["script", "k"] sp_q0) (l_q0:k_q0<=k) (hr:Room k (A.deeper (envOfC "_law_state" (wa0 su1) s.heap.objs.size f cdv))) :
    RSs (cxOf CX0 P w K mg base wu2 "_law_state" (wa0 su1) f cdv A outer s H E).nox (zb0 su1) (tb3 sp_q0) :=
 (ta0 (yc0 (i:=2) sc_q10.nd (ub0 (c_q0.mono l_q0) hr (xa0 (ya0 0) (xa0 (ya0 1) ua0)))) (ta0 (wg0 (tc0 (sf3 (hu64 hr)) (ya0 2) (yb0 wo2 za0 za0)) (sa0 (zc0 (zf0 (xa0 (yb0 ug0 (ya0 2) (yb0 wo2 za0 za0)) (xa0 tf1 ua0))))) vc0) (sa0 (zc0 (zf0 (xa0 (yb0 tn0 (ya0 2) za0) (xa0 tf1 ua0)))))))
theorem sc_q1:FnScope N_q1 ["state", "many"] (wa0 s_q1):=⟨rfl,rfl,rfl,by decide +kernel,rfl,by decide +kernel,by decide +kernel⟩
theorem up4 {k:Nat} {f:Addr} {cdv:Value} {A:Around} {outer:List Env} {s:Shared} {H:Hp} {E:XK} (hr:Room k (A.deeper (envOfC "_law_choice" (wa0 s_q1) s.heap.objs.size f cdv))) :
    RSs (cxOf CX0 P w K mg base N_q1 "_law_choice" (wa0 s_q1) f cdv A outer s H E).nox (zb0 s_q1) (t_q1) :=
 (ta0 (wg0 (zx0 (wb0 q_ix (ya0 0) za0)) (ta0 (yc0 (i:=2) sc_q1.nd (yb0 tn0 (wb0 q_ix (ya0 0) za0) (ya0 1))) (ta0 (wx0 (yb0 wm0 (wb0 q_ix (ya0 0) za0) (ya0 1)) (sv2 (ya0 0) za0)) (sa0 (zc0 (ya0 2))))) vc0) (ta0 (wx0 (yb0 tn0 (yb0 ze0 (yb0 yt0 (wb0 q_ix (ya0 0) za0) za0) za0) za0) (sv2 (ya0 0) za0)) (ta0 (yc0 (i:=3) sc_q1.nd (yb0 tn0 (yb0 ze0 (yb0 ze0 (yb0 yt0 (wb0 q_ix (ya0 0) za0) (wb0 q_ix (ya0 0) za0)) (yb0 yt0 za0 (wb0 q_ix (ya0 0) za0))) za0) za0)) (ta0 (yc0 (i:=3) sc_q1.nd (yb0 tn0 (yb0 ze0 (yb0 yt0 (ya0 3) (ya0 3)) (yb0 yt0 za0 (ya0 3))) za0)) (sa0 (zc0 (yb0 tn0 (yb0 wm0 (ya0 3) za0) (ya0 1))))))))
theorem sc_q6:FnScope N_q6 ["state", "most"] (wa0 s_q6):=⟨rfl,rfl,rfl,by decide +kernel,rfl,by decide +kernel,by decide +kernel⟩
theorem xp4 {k:Nat} {f:Addr} {cdv:Value} {A:Around} {outer:List Env} {s:Shared} {H:Hp} {E:XK} {sp_q1:Sp3} {k_q1:Nat} (c_q1:Cal P w K mg base k_q1 "_law_choice" ["state", "many"] sp_q1) (l_q1:k_q1<=k) (z_range:mg "range" = none) (z_sorted:mg "sorted" = none) (z_tuple:mg "tuple" = none) (hr:Room k (A.deeper (envOfC "_law_picture" (wa0 s_q6) s.heap.objs.size f cdv))) :
    RSs (cxOf CX0 P w K mg base N_q6 "_law_picture" (wa0 s_q6) f cdv A outer s H E).nox (zb0 s_q6) (t_q6 sp_q1) :=
 (ta0 (yc0 (i:=2) sc_q6.nd zf3) (ta0 (wx0 (wc0 (xa0 za0 (xa0 za0 ua0))) (wf1 rfl (yf0 (sb0 (i:=3) sc_q6.nd) (yf0 (sb0 (i:=4) sc_q6.nd) us0)))) (ta0 (yc0 (i:=5) sc_q6.nd (yb0 ze0 za0 (ub0 (c_q1.mono l_q1) hr (xa0 (ya0 0) (xa0 za0 ua0))))) (ta0 (yh0 PassesOwn.never rfl (xf0 z_range (ub0 (c_q1.mono l_q1) hr (xa0 (ya0 0) (xa0 (yb0 ze0 (ya0 1) za0) ua0)))) (sb0 (i:=6) sc_q6.nd) (ta0 (wg0 (tc0 (q_eq (hu64 hr)) (ub0 (c_q1.mono l_q1) hr (xa0 (ya0 0) (xa0 za0 ua0))) za0) (ta0 (yc0 (i:=3) sc_q6.nd (yb0 ug0 (ub0 (c_q1.mono l_q1) hr (xa0 (ya0 0) (xa0 (ya0 5) ua0))) za0)) (sa0 (yc0 (i:=4) sc_q6.nd (yb0 ug0 (ub0 (c_q1.mono l_q1) hr (xa0 (ya0 0) (xa0 (ya0 5) ua0))) za0)))) vc0) (ta0 (ue3 (hu64 hr) (ya0 2) (xa0 (ya0 3) (xa0 (ya0 4) (xa0 (ub0 (c_q1.mono l_q1) hr (xa0 (ya0 0) (xa0 za0 ua0))) ua0))) tf1) (ta0 (yc0 (i:=3) sc_q6.nd (yb0 ze0 (ya0 3) (wb0 q_ix (zf0 (xa0 za0 (xa0 za0 (xa0 (wa2 vb2 za0) (xa0 za0 ua0))))) (ub0 (c_q1.mono l_q1) hr (xa0 (ya0 0) (xa0 za0 ua0)))))) (sa0 (yc0 (i:=4) sc_q6.nd (yb0 ze0 (ya0 4) (wb0 q_ix (zf0 (xa0 za0 (xa0 za0 (xa0 za0 (xa0 (wa2 vb2 za0) ua0))))) (ub0 (c_q1.mono l_q1) hr (xa0 (ya0 0) (xa0 za0 ua0))))))))))) (sa0 (zc0 (wf0 wb1 z_tuple wk0 (xa0 (xc0 (sf1 rfl) z_sorted sj0 (xa0 (ya0 2) ua0)) ua0))))))))
theorem sc_q4:FnScope N_q4 ["found", "due"] (wa0 s_q4):=⟨rfl,rfl,rfl,by decide +kernel,rfl,by decide +kernel,by decide +kernel⟩
theorem zp4 {k:Nat} {f:Addr} {cdv:Value} {A:Around} {outer:List Env} {s:Shared} {H:Hp} {E:XK} {sp_q13:Sp3} {k_q13:Nat} (c_q13:Cal P w K mg base k_q13 "_law_whole" ["found"] sp_q13) (l_q13:k_q13<=k) (z_all:mg "all" = none) (z_isinstance:mg "isinstance" = none) (z_len:mg "len" = none) (z_tuple:mg "tuple" = none) (hr:Room k (A.deeper (envOfC "_law_is_picture" (wa0 s_q4) s.heap.objs.size f cdv))) :
    RSs (cxOf CX0 P w K mg base N_q4 "_law_is_picture" (wa0 s_q4) f cdv A outer s H E).nox (zb0 s_q4) (t_q4 sp_q13) :=
 (ta0 (wg0 (yf1 (xv1 (zf1 (zx0 (xc0 ub2 z_isinstance ve0 (xa0 (ya0 0) (xa0 (va2 z_tuple wk0) ua0))))) (vn1 (tc0 (q_ne (hu64 hr)) (ya0 0) (ya0 1))))) (sa0 (zc0 tf1)) vc0) (ta0 (yh0 PassesOwn.never rfl (xh0 (ya0 0)) (sb0 (i:=2) sc_q4.nd) (sa0 (wg0 (yf1 (xv1 (zf1 (zx0 (xc0 ub2 z_isinstance ve0 (xa0 (ya0 2) (xa0 (va2 z_tuple wk0) ua0))))) (xv1 (tc0 (q_ne (hu64 hr)) (xc0 vb1 z_len sm0 (xa0 (ya0 2) ua0)) za0) (vn1 (zf1 (zx0 (xc0 ws4 z_all vl4 (xa0 (zl0 (NN:=["part"]) (by decide +kernel) (by decide +kernel) (by decide +kernel) (xh0 (ya0 2)) (λ _ _ _ _ _=>(sb0 (i:=0) (show List.Nodup (["part"]:List Str) by decide +kernel))) (λ _ _ _ _ _=>te0) (λ _ _ _ _ _=>(ub0 (c_q13.mono l_q13) hr (xa0 (ya0 0) ua0)))) ua0)))))))) (sa0 (zc0 tf1)) vc0))) (sa0 (zc0 tf1))))
theorem sc_q2:FnScope N_q2 ["stroke"] (wa0 s_q2):=⟨rfl,rfl,rfl,by decide +kernel,rfl,by decide +kernel,by decide +kernel⟩
theorem vp4 {k:Nat} {f:Addr} {cdv:Value} {A:Around} {outer:List Env} {s:Shared} {H:Hp} {E:XK} (hr:Room k (A.deeper (envOfC "_law_ends" (wa0 s_q2) s.heap.objs.size f cdv))) :
    RSs (cxOf CX0 P w K mg base N_q2 "_law_ends" (wa0 s_q2) f cdv A outer s H E).nox (zb0 s_q2) (t_q2) :=
 (ta0 (wx0 (ya0 0) (wf1 rfl (yf0 (sb0 (i:=1) sc_q2.nd) (yf0 (sb0 (i:=2) sc_q2.nd) (yf0 (sb0 (i:=3) sc_q2.nd) us0))))) (sa0 (zc0 (wc0 (xa0 (wc0 (xa0 (ya0 1) (xa0 (ya0 2) ua0))) (xa0 (wc0 (xa0 (yb0 ug0 (yb0 ze0 (ya0 1) za0) (ya0 3)) (xa0 (yb0 ze0 (ya0 2) (ya0 3)) ua0))) ua0))))))
theorem sc_q3:FnScope N_q3 ["one", "other"] (wa0 s_q3):=⟨rfl,rfl,rfl,by decide +kernel,rfl,by decide +kernel,by decide +kernel⟩
theorem wp4 {k:Nat} {f:Addr} {cdv:Value} {A:Around} {outer:List Env} {s:Shared} {H:Hp} {E:XK} (z_max:mg "max" = none) (z_min:mg "min" = none) (hr:Room k (A.deeper (envOfC "_law_from_ends" (wa0 s_q3) s.heap.objs.size f cdv))) :
    RSs (cxOf CX0 P w K mg base N_q3 "_law_from_ends" (wa0 s_q3) f cdv A outer s H E).nox (zb0 s_q3) (t_q3) :=
 (ta0 (yc0 (i:=2) sc_q3.nd (xc0 (vc4 rfl (hu64 hr)) z_min wi1 (xa0 (ya0 0) (xa0 (ya0 1) ua0)))) (ta0 (yc0 (i:=3) sc_q3.nd (xc0 (uc4 rfl (hu64 hr)) z_max wv0 (xa0 (ya0 0) (xa0 (ya0 1) ua0)))) (sa0 (zc0 (wc0 (xa0 (wb0 q_ix (ya0 2) za0) (xa0 (wb0 q_ix (ya0 2) za0) (xa0 (yb0 ug0 (wb0 q_ix (ya0 3) za0) (wb0 q_ix (ya0 2) za0)) ua0))))))))
theorem sc_q12:FnScope yp3 ["picture", "mirror", "quarters", "x", "y"] (wa0 uu1):=⟨rfl,rfl,rfl,by decide +kernel,rfl,by decide +kernel,by decide +kernel⟩
theorem sx3 {k:Nat} {f:Addr} {cdv:Value} {A:Around} {outer:List Env} {s:Shared} {H:Hp} {E:XK} {sp_q2:Sp3} {k_q2:Nat} (c_q2:Cal P w K mg base k_q2 "_law_ends" ["stroke"] sp_q2) (l_q2:k_q2<=k) {sp_q3:Sp3} {k_q3:Nat} (c_q3:Cal P w K mg base k_q3 "_law_from_ends" ["one", "other"] sp_q3) (l_q3:k_q3<=k) (z_range:mg "range" = none) (z_sorted:mg "sorted" = none) (z_tuple:mg "tuple" = none) (hr:Room k (A.deeper (envOfC "_law_ways" (wa0 uu1) s.heap.objs.size f cdv))) :
    RSs (cxOf CX0 P w K mg base yp3 "_law_ways" (wa0 uu1) f cdv A outer s H E).nox (zb0 uu1) (xs3 sp_q2 sp_q3) :=
 (ta0 (yc0 (i:=5) sc_q12.nd (zf0 ua0)) (ta0 (yh0 PassesOwn.never rfl (xh0 (ya0 0)) (sb0 (i:=6) sc_q12.nd) (ta0 (yc0 (i:=7) sc_q12.nd (zf0 ua0)) (ta0 (yh0 PassesOwn.never rfl (xh0 (ub0 (c_q2.mono l_q2) hr (xa0 (ya0 6) ua0))) (wf1 rfl (yf0 (sb0 (i:=8) sc_q12.nd) (yf0 (sb0 (i:=9) sc_q12.nd) us0))) (ta0 (wg0 (tc0 (q_eq (hu64 hr)) (ya0 1) za0) (sa0 (yc0 (i:=8) sc_q12.nd (yb0 ug0 za0 (ya0 8)))) vc0) (ta0 (yh0 PassesOwn.never rfl (xf0 z_range (yb0 tn0 (ya0 2) za0)) (sb0 (i:=10) sc_q12.nd) (sa0 (zy3 (i:=8) (j:=9) sc_q12.nd (xa0 (yb0 ug0 za0 (ya0 9)) (xa0 (ya0 8) ua0))))) (sa0 (vn0 (xt0 (ya0 7) (xa0 (wc0 (xa0 (yb0 ze0 (ya0 8) (ya0 3)) (xa0 (yb0 ze0 (ya0 9) (ya0 4)) ua0))) ua0))))))) (sa0 (vn0 (xt0 (ya0 5) (xa0 (ub0 (c_q3.mono l_q3) hr (xa0 (wb0 q_ix (ya0 7) za0) (xa0 (wb0 q_ix (ya0 7) za0) ua0))) ua0))))))) (sa0 (zc0 (wf0 wb1 z_tuple wk0 (xa0 (xc0 (sf1 rfl) z_sorted sj0 (xa0 (ya0 5) ua0)) ua0))))))
theorem sc_q7:FnScope N_q7 ["picture"] (wa0 s_q7):=⟨rfl,rfl,rfl,by decide +kernel,rfl,by decide +kernel,by decide +kernel⟩
theorem so4 {k:Nat} {f:Addr} {cdv:Value} {A:Around} {outer:List Env} {s:Shared} {H:Hp} {E:XK} {sp_q2:Sp3} {k_q2:Nat} (c_q2:Cal P w K mg base k_q2 "_law_ends" ["stroke"] sp_q2) (l_q2:k_q2<=k) (hr:Room k (A.deeper (envOfC "_law_points" (wa0 s_q7) s.heap.objs.size f cdv))) :
    RSs (cxOf CX0 P w K mg base N_q7 "_law_points" (wa0 s_q7) f cdv A outer s H E).nox (zb0 s_q7) (t_q7 sp_q2) :=
 (ta0 (yc0 (i:=1) sc_q7.nd yw2) (ta0 (yh0 PassesOwn.never rfl (xh0 (ya0 0)) (sb0 (i:=2) sc_q7.nd) (ta0 (wx0 (ub0 (c_q2.mono l_q2) hr (xa0 (ya0 2) ua0)) (wf1 rfl (yf0 (sb0 (i:=3) sc_q7.nd) (yf0 (sb0 (i:=4) sc_q7.nd) us0)))) (ta0 (ta1 (hu64 hr) (ya0 1) (ya0 3) (yb0 ze0 (yf3 (hu64 hr) (ya0 1) (xa0 (ya0 3) (xa0 za0 ua0))) za0)) (sa0 (ta1 (hu64 hr) (ya0 1) (ya0 4) (yb0 ze0 (yf3 (hu64 hr) (ya0 1) (xa0 (ya0 4) (xa0 za0 ua0))) za0)))))) (sa0 (zc0 (ya0 1)))))
theorem sc_q9:FnScope N_q9 ["picture"] (wa0 s_q9):=⟨rfl,rfl,rfl,by decide +kernel,rfl,by decide +kernel,by decide +kernel⟩
theorem uo4 {k:Nat} {f:Addr} {cdv:Value} {A:Around} {outer:List Env} {s:Shared} {H:Hp} {E:XK} {sp_q7:Sp3} {k_q7:Nat} (c_q7:Cal P w K mg base k_q7 "_law_points" ["picture"] sp_q7) (l_q7:k_q7<=k) (z_range:mg "range" = none) (z_sorted:mg "sorted" = none) (z_str:mg "str" = none) (hr:Room k (A.deeper (envOfC "_law_sheet" (wa0 s_q9) s.heap.objs.size f cdv))) :
    RSs (cxOf CX0 P w K mg base N_q9 "_law_sheet" (wa0 s_q9) f cdv A outer s H E).nox (zb0 s_q9) (t_q9 sp_q7) :=
 (ta0 (yc0 (i:=1) sc_q9.nd (ub0 (c_q7.mono l_q7) hr (xa0 (ya0 0) ua0))) (ta0 (wg0 (tc0 (q_eq (hu64 hr)) (ya0 0) (wc0 ua0)) (sa0 (zc0 se0)) vc0) (ta0 (yc0 (i:=2) sc_q9.nd (xc0 wb2 z_sorted sj0 (xa0 (zl0 (NN:=["place"]) (by decide +kernel) (by decide +kernel) (by decide +kernel) (tn1 (ya0 1)) (λ _ _ _ _ _=>(sb0 (i:=0) (show List.Nodup (["place"]:List Str) by decide +kernel))) (λ _ _ _ _ _=>te0) (λ _ _ _ _ _=>(wb0 q_ix (ya0 0) za0))) ua0))) (ta0 (yc0 (i:=3) sc_q9.nd (xc0 wb2 z_sorted sj0 (xa0 (zl0 (NN:=["place"]) (by decide +kernel) (by decide +kernel) (by decide +kernel) (tn1 (ya0 1)) (λ _ _ _ _ _=>(sb0 (i:=0) (show List.Nodup (["place"]:List Str) by decide +kernel))) (λ _ _ _ _ _=>te0) (λ _ _ _ _ _=>(wb0 q_ix (ya0 0) za0))) ua0))) (ta0 (yc0 (i:=4) sc_q9.nd (zf0 (xa0 (yb0 ze0 (yb0 ze0 (wf0 yo2 z_str zi1 (xa0 (wb0 q_ix (ya0 2) za0) ua0)) se0) (wf0 yo2 z_str zi1 (xa0 (wb0 q_ix (ya0 3) za0) ua0))) ua0))) (ta0 (yh0 PassesOwn.never rfl (xf0 z_range (yb0 ze0 (yb0 yt0 za0 (yb0 ug0 (wb0 q_ix (ya0 3) (wa2 vb2 za0)) (wb0 q_ix (ya0 3) za0))) za0)) (sb0 (i:=5) sc_q9.nd) (ta0 (yc0 (i:=6) sc_q9.nd (yb0 ug0 (wb0 q_ix (ya0 3) (wa2 vb2 za0)) (yb0 wm0 (ya0 5) za0))) (ta0 (yc0 (i:=7) sc_q9.nd se0) (ta0 (yh0 PassesOwn.never rfl (xf0 z_range (yb0 ze0 (yb0 yt0 za0 (yb0 ug0 (wb0 q_ix (ya0 2) (wa2 vb2 za0)) (wb0 q_ix (ya0 2) za0))) za0)) (sb0 (i:=8) sc_q9.nd) (ta0 (yc0 (i:=9) sc_q9.nd (yb0 ze0 (wb0 q_ix (ya0 2) za0) (yb0 wm0 (ya0 8) za0))) (ta0 (yc0 (i:=10) sc_q9.nd se0) (ta0 (wg0 (yf1 (zs0 (tc0 (q_eq (hu64 hr)) (yb0 tn0 (ya0 5) za0) za0) (zs0 (tc0 (q_eq (hu64 hr)) (yb0 tn0 (ya0 8) za0) za0) (ua1 (tc0 (sc4 (hu64 hr)) (wc0 (xa0 (ya0 9) (xa0 (ya0 6) ua0))) (ya0 1)))))) (sa0 (yc0 (i:=10) sc_q9.nd se0)) vc0) (ta0 (wg0 (yf1 (zs0 (tc0 (q_eq (hu64 hr)) (yb0 tn0 (ya0 5) za0) za0) (zs0 (tc0 (q_eq (hu64 hr)) (yb0 tn0 (ya0 8) za0) za0) (ua1 (tc0 (q_in (hu65 hr)) (wc0 (xa0 (ya0 9) (xa0 (ya0 6) (xa0 za0 ua0)))) (ya0 0)))))) (sa0 (yc0 (i:=10) sc_q9.nd se0)) vc0) (ta0 (wg0 (yf1 (zs0 (tc0 (q_eq (hu64 hr)) (yb0 tn0 (ya0 5) za0) za0) (zs0 (tc0 (q_eq (hu64 hr)) (yb0 tn0 (ya0 8) za0) za0) (ua1 (tc0 (q_in (hu65 hr)) (wc0 (xa0 (ya0 9) (xa0 (yb0 ug0 (ya0 6) za0) (xa0 za0 ua0)))) (ya0 0)))))) (sa0 (yc0 (i:=10) sc_q9.nd se0)) vc0) (sa0 (yc0 (i:=7) sc_q9.nd (yb0 ze0 (ya0 7) (ya0 10)))))))))) (sa0 (vn0 (xt0 (ya0 4) (xa0 (ya0 7) ua0)))))))) (sa0 (zc0 (yb1 se0 (xa0 (ya0 4) ua0))))))))))
theorem sc_q5:FnScope N_q5 ["e"] (wa0 s_q5):=⟨rfl,rfl,rfl,by decide +kernel,rfl,by decide +kernel,by decide +kernel⟩
theorem yp4 {k:Nat} {f:Addr} {cdv:Value} {A:Around} {outer:List Env} {s:Shared} {H:Hp} {E:XK} {C_BadNote:Addr} (m_BadNote:mg "BadNote" = some (.ref C_BadNote)) (x_BadNote:∀ c C b,subX "BadNote" c=some b->nsIn K mainGlobals c=some (some (.ref C))->ExcK K C /\ kitOne K (.ref C) (.ref C_BadNote)=some b) {C_NoNumber:Addr} (m_NoNumber:mg "NoNumber" = some (.ref C_NoNumber)) (x_NoNumber:∀ c C b,subX "NoNumber" c=some b->nsIn K mainGlobals c=some (some (.ref C))->ExcK K C /\ kitOne K (.ref C) (.ref C_NoNumber)=some b) {C_NoPicture:Addr} (m_NoPicture:mg "NoPicture" = some (.ref C_NoPicture)) (x_NoPicture:∀ c C b,subX "NoPicture" c=some b->nsIn K mainGlobals c=some (some (.ref C))->ExcK K C /\ kitOne K (.ref C) (.ref C_NoPicture)=some b) {C_NoRoom:Addr} (m_NoRoom:mg "NoRoom" = some (.ref C_NoRoom)) (x_NoRoom:∀ c C b,subX "NoRoom" c=some b->nsIn K mainGlobals c=some (some (.ref C))->ExcK K C /\ kitOne K (.ref C) (.ref C_NoRoom)=some b) {C_NoStep:Addr} (m_NoStep:mg "NoStep" = some (.ref C_NoStep)) (x_NoStep:∀ c C b,subX "NoStep" c=some b->nsIn K mainGlobals c=some (some (.ref C))->ExcK K C /\ kitOne K (.ref C) (.ref C_NoStep)=some b) {C_NoWord:Addr} (m_NoWord:mg "NoWord" = some (.ref C_NoWord)) (x_NoWord:∀ c C b,subX "NoWord" c=some b->nsIn K mainGlobals c=some (some (.ref C))->ExcK K C /\ kitOne K (.ref C) (.ref C_NoWord)=some b) (x_ValueError:∀ c C b,subX "ValueError" c=some b->nsIn K mainGlobals c=some (some (.ref C))->ExcK K C /\ kitOne K (.ref C) (.type "ValueError")=some b) (z_ValueError:mg "ValueError" = none) (z_isinstance:mg "isinstance" = none) (hr:RoomM k (A.deeper (envOfC "_law_marks" (wa0 s_q5) s.heap.objs.size f cdv))) :
    RSs (cxM CX0 P w K mg base N_q5 "_law_marks" (wa0 s_q5) f cdv A outer s H E).nox (zb0 s_q5) (t_q5) :=
 (ta0 (yc0 (i:=1) sc_q5.nd (zf0 (xa0 (ss0 (ya0 0) (sx0 rfl m_NoWord) (λ _ h=>h) x_NoWord z_isinstance) (xa0 (ss0 (ya0 0) (sx0 rfl m_NoRoom) (λ _ h=>h) x_NoRoom z_isinstance) (xa0 (ss0 (ya0 0) (sx0 rfl m_NoStep) (λ _ h=>h) x_NoStep z_isinstance) (xa0 (ss0 (ya0 0) (sx0 rfl m_NoPicture) (λ _ h=>h) x_NoPicture z_isinstance) ua0)))))) (sa0 (zc0 (yb0 ze0 (ya0 1) (zf0 (xa0 (ss0 (ya0 0) (sx0 rfl m_NoNumber) (λ _ h=>h) x_NoNumber z_isinstance) (xa0 (ss0 (ya0 0) (sx0 rfl m_BadNote) (λ _ h=>h) x_BadNote z_isinstance) (xa0 (ss0 (ya0 0) (xd2 rfl z_ValueError sd1 (show RelV (.ty "ValueError") (.type "ValueError") from rfl)) (λ _ h=>h) x_ValueError z_isinstance) ua0))))))))
theorem zo4:FnScope N_q8 ["marks", "which"] (wa0 s_q8):=⟨rfl,rfl,rfl,by decide +kernel,rfl,by decide +kernel,by decide +kernel⟩
theorem to4 {k:Nat} {f:Addr} {cdv:Value} {A:Around} {outer:List Env} {s:Shared} {H:Hp} {E:XK} (z_range:mg "range" = none) (hr:Room k (A.deeper (envOfC "_law_refused" (wa0 s_q8) s.heap.objs.size f cdv))) :
    RSs (cxOf CX0 P w K mg base N_q8 "_law_refused" (wa0 s_q8) f cdv A outer s H E).nox (zb0 s_q8) (t_q8) :=
 (sa0 (zc0 (xb2 (q_eq (hu64 hr)) (ya0 0) (yb0 ze0 (sp0 (NN:=["k", "which"]) (js:=[none,some 1]) rfl zd1 (xf0 z_range za0) (λ _ _ _ _ _=>(sb0 (i:=0) (show List.Nodup (["k", "which"]:List Str) by decide +kernel))) (λ _ _ _ _ _=>te0) (λ _ _ _ _ _=>(xb2 (q_eq (hu64 hr)) (ya0 0) (ya0 1))) (by intro _; rfl)) (zf0 (xa0 tf1 ua0))))))
theorem sc_q11:FnScope zu2 ["picture"] (wa0 tu1):=⟨rfl,rfl,rfl,by decide +kernel,rfl,by decide +kernel,by decide +kernel⟩
theorem xy3 {k:Nat} {f:Addr} {cdv:Value} {A:Around} {outer:List Env} {s:Shared} {H:Hp} {E:XK} {sp_q5:Sp3} {k_q5:Nat} (c_q5:CalM P w K mg base k_q5 "_law_marks" ["e"] sp_q5) (l_q5:k_q5<=k) {spx_q26:XE3->Sp3} {k_q26:Nat} (c_q26:CalX P w K mg base k_q26 "sheet_of" ["picture"] spx_q26) (l_q26:k_q26<=k) {C_PenError:Addr} (m_PenError:mg "PenError" = some (.ref C_PenError)) (k2_PenError:kitCls K (.ref C_PenError) (.type "BaseException")=some true) (k3:kitCls K (.type "type") (.type "tuple")=some false) (ok_PenError:∀ c,okX c=true->∃ C,nsIn K mainGlobals c=some (some (.ref C)) /\ mg c=some (.ref C) /\ kitCls K (.ref C) (.ref C_PenError)=some true) (hr:Room k (A.deeper (envOfC "_law_told" (wa0 tu1) s.heap.objs.size f cdv))) :
    RSs (cxOf CX0 P w K mg base zu2 "_law_told" (wa0 tu1) f cdv A outer s H E).nox (zb0 tu1) (ub3 sp_q5 spx_q26) :=
 (ta0 (yc0 (i:=1) sc_q11.nd ta2) (ta0 (yc0 (i:=2) sc_q11.nd (zf0 ua0)) (ta0 (ve3 (i:=3) (j:=1) (c_q26.mono l_q26) hr (xa0 (ya0 0) ua0) (λ _=>(sa0 (yc0 (i:=2) sc_q11.nd (xo2 (c_q5.mono l_q5) (RoomM.of hr _) (xa0 (ya0 3) ua0))))) sc_q11.nd m_PenError k2_PenError k3 ok_PenError) (sa0 (zc0 (wc0 (xa0 (ya0 1) (xa0 (ya0 2) ua0))))))))
theorem sc_q20:FnScope wo3 ["script"] (wa0 yw0):=⟨rfl,rfl,rfl,by decide +kernel,rfl,by decide +kernel,by decide +kernel⟩
theorem sw3 {k:Nat} {f:Addr} {cdv:Value} {A:Around} {outer:List Env} {s:Shared} {H:Hp} {E:XK} {sp_q1:Sp3} {k_q1:Nat} (c_q1:Cal P w K mg base k_q1 "_law_choice" ["state", "many"] sp_q1) (l_q1:k_q1<=k) {sp_q4:Sp3} {k_q4:Nat} (c_q4:Cal P w K mg base k_q4 "_law_is_picture" ["found", "due"] sp_q4) (l_q4:k_q4<=k) {sp_q6:Sp3} {k_q6:Nat} (c_q6:Cal P w K mg base k_q6 "_law_picture" ["state", "most"] sp_q6) (l_q6:k_q6<=k) {sp_q7:Sp3} {k_q7:Nat} (c_q7:Cal P w K mg base k_q7 "_law_points" ["picture"] sp_q7) (l_q7:k_q7<=k) {sp_q8:Sp3} {k_q8:Nat} (c_q8:Cal P w K mg base k_q8 "_law_refused" ["marks", "which"] sp_q8) (l_q8:k_q8<=k) {sp_q9:Sp3} {k_q9:Nat} (c_q9:Cal P w K mg base k_q9 "_law_sheet" ["picture"] sp_q9) (l_q9:k_q9<=k) {sp_q10:Sp3} {k_q10:Nat} (c_q10:Cal P w K mg base k_q10 "_law_state" ["script", "k"] sp_q10) (l_q10:k_q10<=k) {sp_q11:Sp3} {k_q11:Nat} (c_q11:Cal P w K mg base k_q11 "_law_told" ["picture"] sp_q11) (l_q11:k_q11<=k) {sp_q12:Sp3} {k_q12:Nat} (c_q12:Cal P w K mg base k_q12 "_law_ways" ["picture", "mirror", "quarters", "x", "y"] sp_q12) (l_q12:k_q12<=k) {spx_q25:XE3->Sp3} {k_q25:Nat} (c_q25:CalX P w K mg base k_q25 "read_sheet" ["text"] spx_q25) (l_q25:k_q25<=k) (z_isinstance:mg "isinstance" = none) (z_max:mg "max" = none) (z_min:mg "min" = none) (z_set:mg "set" = none) (z_sorted:mg "sorted" = none) (z_str:mg "str" = none) (z_tuple:mg "tuple" = none) (hr:Room k (A.deeper (envOfC "law" (wa0 yw0) s.heap.objs.size f cdv))) :
    RSs (cxOf CX0 P w K mg base wo3 "law" (wa0 yw0) f cdv A outer s H E).nox (zb0 yw0) (zr3 sp_q1 sp_q4 sp_q6 sp_q7 sp_q8 sp_q9 sp_q10 sp_q11 sp_q12 spx_q25) :=
 (ta0 (yc0 (i:=1) sc_q20.nd (ub0 (c_q10.mono l_q10) hr (xa0 (ya0 0) (xa0 za0 ua0)))) (ta0 (yc0 (i:=2) sc_q20.nd (ub0 (c_q6.mono l_q6) hr (xa0 (ya0 1) (xa0 za0 ua0)))) (ta0 (wg0 (tc0 (q_eq (hu64 hr)) (ub0 (c_q1.mono l_q1) hr (xa0 (ya0 1) (xa0 za0 ua0))) za0) (ta0 (yc0 (i:=3) sc_q20.nd (yb0 ze0 za0 (ub0 (c_q1.mono l_q1) hr (xa0 (ya0 1) (xa0 za0 ua0))))) (ta0 (yc0 (i:=4) sc_q20.nd (wb0 q_ix (zf0 (xa0 (wc0 (xa0 (ya0 3) (xa0 za0 (xa0 za0 ua0)))) (xa0 (wc0 (xa0 za0 (xa0 (ya0 3) (xa0 za0 ua0)))) (xa0 (wc0 (xa0 (ya0 3) (xa0 (ya0 3) (xa0 za0 ua0)))) (xa0 (wc0 (xa0 (ya0 3) (xa0 za0 (xa0 za0 ua0)))) ua0))))) (ub0 (c_q1.mono l_q1) hr (xa0 (ya0 1) (xa0 za0 ua0))))) (sa0 (yc0 (i:=2) sc_q20.nd (wf0 wb1 z_tuple wk0 (xa0 (ua2 (tz1 (yb0 ze0 (ya0 2) (wc0 (xa0 (wc0 (xa0 za0 (xa0 za0 (xa0 za0 ua0)))) (xa0 (ya0 4) ua0)))) z_set (hu64 hr)) z_sorted) ua0)))))) vc0) (ta0 (yc0 (i:=2) sc_q20.nd (ub0 (c_q12.mono l_q12) hr (xa0 (ya0 2) (xa0 za0 (xa0 za0 (xa0 (yb0 ug0 (ub0 (c_q1.mono l_q1) hr (xa0 (ya0 1) (xa0 (yb0 wo2 za0 za0) ua0))) za0) (xa0 (yb0 ug0 za0 (ub0 (c_q1.mono l_q1) hr (xa0 (ya0 1) (xa0 (yb0 wo2 za0 za0) ua0)))) ua0))))))) (ta0 (yc0 (i:=5) sc_q20.nd (ub0 (c_q7.mono l_q7) hr (xa0 (ya0 2) ua0))) (ta0 (tp0 (i:=6) sc_q20.nd (NN:=["place"]) (by decide +kernel) (by decide +kernel) (by decide +kernel) (tn1 (ya0 5)) (λ _ _ _ _ _=>(sb0 (i:=0) (show List.Nodup (["place"]:List Str) by decide +kernel))) (λ _ _ _ _ _=>te0) (λ _ _ _ _ _=>(wb0 q_ix (ya0 0) za0))) (ta0 (tp0 (i:=7) sc_q20.nd (NN:=["place"]) (by decide +kernel) (by decide +kernel) (by decide +kernel) (tn1 (ya0 5)) (λ _ _ _ _ _=>(sb0 (i:=0) (show List.Nodup (["place"]:List Str) by decide +kernel))) (λ _ _ _ _ _=>te0) (λ _ _ _ _ _=>(wb0 q_ix (ya0 0) za0))) (ta0 (wx0 (ub0 (c_q11.mono l_q11) hr (xa0 (ya0 2) ua0)) (wf1 rfl (yf0 (sb0 (i:=8) sc_q20.nd) (yf0 (sb0 (i:=9) sc_q20.nd) us0)))) (ta0 (wg0 (yf1 (zs0 (tc0 (q_ne (hu64 hr)) (ya0 2) (wc0 ua0)) (ua1 (tc0 q_gt (xc0 (q_mx rfl) z_max wv0 (xa0 (yb0 ug0 (xc0 (q_mx rfl) z_max wv0 (xa0 (ya0 6) ua0)) (xc0 (q_mn rfl (hu64 hr)) z_min wi1 (xa0 (ya0 6) ua0))) (xa0 (yb0 ug0 (xc0 (q_mx rfl) z_max wv0 (xa0 (ya0 7) ua0)) (xc0 (q_mn rfl (hu64 hr)) z_min wi1 (xa0 (ya0 7) ua0))) ua0))) za0)))) (sa0 (zc0 (ub0 (c_q8.mono l_q8) hr (xa0 (ya0 9) (xa0 za0 ua0))))) vc0) (ta0 (wg0 (yf1 (xv1 (tc0 (q_ne (hu64 hr)) (ya0 9) (zf0 ua0)) (xv1 (zf1 (zx0 (xc0 ub2 z_isinstance ve0 (xa0 (ya0 8) (xa0 (va2 z_str zi1) ua0))))) (vn1 (tc0 (q_ne (hu64 hr)) (ya0 8) (ub0 (c_q9.mono l_q9) hr (xa0 (ya0 2) ua0))))))) (sa0 (zc0 tf1)) vc0) (sa0 (zc0 (ub0 (c_q4.mono l_q4) hr (xa0 (uf1 (c_q25.mono l_q25) hr (xa0 (ya0 8) ua0)) (xa0 (ya0 2) ua0)))))))))))))))
end
end Pv
namespace Mw
abbrev Pen:=Int × Int × Int
def cs (h:Int):Int:=if h=0 then 1 else if h=2 then -1 else 0
def sn (h:Int):Int:=if h=1 then 1 else if h=3 then -1 else 0
def led (p q:Pen):Pen:=(p.1 + q.1 * cs p.2.2 - q.2.1 * sn p.2.2,p.2.1 + q.1 * sn p.2.2 + q.2.1 * cs p.2.2,(p.2.2 + q.2.2) % 4)
def st:Pen:=(0,0,0)
def pw (p:Pen):Nat->Pen
 | 0=>st
 | n + 1=>led (pw p n) p
def rep (p:Pen) (n:Int):Pen:=if p.2.2=0 then (p.1 * n,p.2.1 * n,0) else pw p (n % 4).toNat
inductive Dd where
 | go (n:Int) | jump (n:Int) | turn (n:Int) | times (n:Int) (w:List Dd)
def G:Int:=99999999999999999999
mutual
def sk:Dd->Int
 | .go n=>n
 | .times n w=>n * sks w
 | _=>0
def sks:List Dd->Int
 | []=>0
 | d :: r=>sk d + sks r
end
mutual
def dn:Dd->Int
 | .times n w=>n * dns w
 | _=>1
def dns:List Dd->Int
 | []=>0
 | d :: r=>dn d + dns r
end
mutual
def pd:Dd->Pen
 | .go n=>(n,0,0)
 | .jump n=>(n,0,0)
 | .turn n=>(0,0,n % 4)
 | .times n w=>rep (pb w) n
def pb:List Dd->Pen
 | []=>st
 | d :: r=>led (pd d) (pb r)
end
end Mw
namespace Mw
def ab (x:Int):Int:=if x < 0 then -x else x
def pm (p:Pen):Int:=max (ab p.1) (ab p.2.1)
end Mw
namespace Pv
abbrev Pt:=Int × Int
def e0 (s:T3):Pt:=(s.1,s.2.1)
def e1 (s:T3):Pt:=(s.1 + 1 - s.2.2,s.2.1 + s.2.2)
def has (p:Pt) (s:T3):Bool:=decide (e0 s=p) || decide (e1 s=p)
def tch (a b:T3):Prop:=∃ p,has p a=true /\ has p b=true
inductive Conn (ts:List T3) (a:T3):T3->Prop
 | refl:Conn ts a a
 | step {b c:T3}:Conn ts a b->c ∈ ts->tch b c->Conn ts a c
end Pv
namespace Pv
open PySem Mw
theorem kn_go_jump:((("go" : Str)=("jump" : Str))=False):=eq_false (by decide)
theorem kn_go_turn:((("go" : Str)=("turn" : Str))=False):=eq_false (by decide)
theorem kn_go_times:((("go" : Str)=("times" : Str))=False):=eq_false (by decide)
theorem kn_jump_go:((("jump" : Str)=("go" : Str))=False):=eq_false (by decide)
theorem kn_jump_turn:((("jump" : Str)=("turn" : Str))=False):=eq_false (by decide)
theorem kn_jump_times:((("jump" : Str)=("times" : Str))=False):=eq_false (by decide)
theorem kn_turn_go:((("turn" : Str)=("go" : Str))=False):=eq_false (by decide)
theorem kn_turn_jump:((("turn" : Str)=("jump" : Str))=False):=eq_false (by decide)
theorem kn_turn_times:((("turn" : Str)=("times" : Str))=False):=eq_false (by decide)
theorem kn_times_go:((("times" : Str)=("go" : Str))=False):=eq_false (by decide)
theorem kn_times_jump:((("times" : Str)=("jump" : Str))=False):=eq_false (by decide)
theorem kn_times_turn:((("times" : Str)=("turn" : Str))=False):=eq_false (by decide)
theorem kp_go:(["go", "jump", "turn"]:List Str).contains "go" = true:=by decide
theorem kp_jump:(["go", "jump", "turn"]:List Str).contains "jump" = true:=by decide
theorem kp_turn:(["go", "jump", "turn"]:List Str).contains "turn" = true:=by decide
theorem kp_times:(["go", "jump", "turn"]:List Str).contains "times" = false:=by decide
theorem kz_go:(["go", "times"]:List Str).contains "go" = true:=by decide
theorem kz_jump:(["go", "times"]:List Str).contains "jump" = false:=by decide
theorem kz_turn:(["go", "times"]:List Str).contains "turn" = false:=by decide
theorem kz_times:(["go", "times"]:List Str).contains "times" = true:=by decide
theorem cst0:((0:Nat):Int)=0:=rfl
theorem cst1:((1:Nat):Int)=1:=rfl
theorem cst2:((2:Nat):Int)=2:=rfl
theorem cst3:((3:Nat):Int)=3:=rfl
local macro_rules | `(tactic| simp_arith [$xs,*] $[$l]?)=>`(tactic| simp only [$xs,*,Pv.seq3,Pv.next3,Pv.never3,Pv.brk3,Pv.cnt3,Pv.drop3,Pv.ret3,Pv.retN3,Pv.ifs3,Pv.gn3,Pv.gnil3,Pv.gcons3,Pv.gtup3,Pv.set3,Pv.asg3,Pv.par3,Pv.sub3,Pv.for3,Pv.is3,Pv.ir3,Pv.ir23,Pv.v3,Pv.c3,Pv.o3,Pv.un3,Pv.b3,Pv.and3,Pv.or3,Pv.not3,Pv.andV3,Pv.orV3,Pv.notV3,Pv.if3,Pv.nil3,Pv.cons3,Pv.tup3,Pv.lst3,Pv.call3,Pv.mt3,Pv.comp3,Pv.tt3,Pv.getI,set_cons_zero,set_cons_succ,Pv.int2,Pv.int20,Pv.subR,Pv.mulR,Pv.intR,Pv.sl3,Pv.np3,Pv.pt3,Pv.slR,Pv.modR,Pv.fdivR,Pv.powR,Pv.ltR,Pv.leR,Pv.gtR,Pv.geR,Pv.negR,Pv.addR,Pv.eqR_ii,Pv.eqR_ss,Pv.eqR_bb,Pv.eqR_is,Pv.neR_ii,Pv.neR_ss,Pv.neR_bb,Pv.inR,Pv.ixR,Pv.lenR,Pv.absR,Pv.tupR,Pv.sumR,Pv.tyN,Pv.isIn,Pv.isiR,Pv.appR,Pv.extR,Pv.smt3,Pv.joinR,Pv.splitR,Pv.startsR,Pv.pop3,Pv.lrev3,Pv.strR,Pv.start3,map_cons,map_nil,cons_append,nil_append,length_cons,length_nil,List.replicate,Pv.atI0,Pv.atI1,Pv.atI2,Nat.reduceAdd,Nat.reduceSub,Nat.zero_add,reduceIte,Pv.strs?,Bool.not_true,Bool.not_false,Bool.false_eq_true,if_false,if_true,decide_eq_true_eq,Bool.not_eq_true',decide_eq_false_iff_not,Pv.ixN0,Pv.ixN1,Pv.ixN2,true_and,and_true,Pv.cst0,Pv.cst1,Pv.cst2,Pv.cst3,Int.reduceEq,Option.bind_none,Option.bind_some,Pv.kn_go_jump,Pv.kn_go_turn,Pv.kn_go_times,Pv.kn_jump_go,Pv.kn_jump_turn,Pv.kn_jump_times,Pv.kn_turn_go,Pv.kn_turn_jump,Pv.kn_turn_times,Pv.kn_times_go,Pv.kn_times_jump,Pv.kn_times_turn,Pv.kp_go,Pv.kp_jump,Pv.kp_turn,Pv.kp_times,Pv.kz_go,Pv.kz_jump,Pv.kz_turn,Pv.kz_times] $[$l]?)
def wy (s:T3):Prop:=s.2.2=0 \/ s.2.2=1
def gx (s:T3):Int:=s.1 + 1 - s.2.2
def gy (s:T3):Int:=s.2.1 + s.2.2
def encQ (p:Int × Int):D:=.tup [.int p.1,.int p.2]
def decT (d:D):T3:=(t3? d).getD (0,0,0)
theorem z2:2<=sizeLine:=by decide
theorem z3:3<=sizeLine:=by decide
def sr0:Sp3:=λ ds μ Q=>∃ s,ds=[encT s] /\ wy s /\ Q (.tup [encQ (s.1,s.2.1),encQ (gx s,gy s)]) μ
theorem ua4 (ds:List D) (μ:Mu) (Q:VK3) (h:sr0 ds μ Q):vr3 { nx:=λ _ μ'=>Q .non μ',rt:=Q } (start3 uo3 ds) μ:=by
 obtain ⟨⟨x,y,w⟩,rfl,hw,q⟩:=h
 rcases hw with e | e
 ·dsimp only at e; subst e
  simp only [gx,gy,Int.sub_zero,Int.add_zero] at q
  exact ⟨z2,z2,z2,q⟩
 ·dsimp only at e; subst e
  simp only [gx,gy,Int.add_sub_cancel] at q
  exact ⟨z2,z2,z2,q⟩
def tj1 (XE:XE3):Sp3:=λ ds μ Q=>∃ s,ds=[encT s] /\ wy s /\ Q .non μ
theorem xb4 (XE:XE3) (ds:List D) (μ:Mu) (Q:VK3) (h:tj1 XE ds μ Q):xl2 XE { nx:=λ _ μ'=>Q .non μ',rt:=Q } (start3 wk2 ds) μ:=by
 obtain ⟨⟨x,y,w⟩,rfl,hw,q⟩:=h
 rcases hw with e | e
 ·dsimp only at e; subst e
  simp_arith [xl2,wk2,encT,ug1]
  simp [inD,datM,dat,dats,PyData.eqv,PyData.depth,PyData.depthAll]
  exact q
 ·dsimp only at e; subst e
  simp_arith [xl2,wk2,encT,ug1]
  simp [inD,datM,dat,dats,PyData.eqv,PyData.depth,PyData.depthAll]
  exact q
def Lt (a b:T3):Prop:=lt3 a b=true
def Pc (ts:List T3):Prop:=ts.Pairwise Lt /\ (∀ t ∈ ts,wy t) /\ ts.length < 60
theorem tj2 {ts:List T3} {i:Int} (h0:0<=i) (h1:i < ts.length):∃ h:i.toNat < ts.length,atI (ts.map encT) i=some (encT ts[i.toNat]):=by
 have h2:i.toNat < ts.length:=by omega
 refine ⟨h2,?_⟩
 unfold atI ixN
 rw [if_pos h0,if_pos (by rw [length_map]; omega)]
 simp [getElem?_eq_getElem h2]
def zn1 (XE:XE3):Sp3:=λ ds μ Q=>∃ ts,ds=[.tup (ts.map encT)] /\ Pc ts /\ Q .non μ
theorem yb4 (XE:XE3) (ds:List D) (μ:Mu) (Q:VK3) (h:zn1 XE ds μ Q):sr3 XE tj1 { nx:=λ _ μ'=>Q .non μ',rt:=Q } (start3 xp3 ds) μ:=by
 obtain ⟨ts,rfl,⟨h1,h2,h3⟩,q⟩:=h
 refine wh0 (λ l ρ μ'=>μ'=μ /\ ∃ (us:List T3) (dd:Option D),l=us.map encT /\ (∀ t ∈ us,wy t) /\ ρ=[some (.tup (ts.map encT)),dd,none]) ?_ (λ _ _ _ _=>trivial) ?_ ?_
 ·exact ⟨rfl,ts,none,rfl,h2,rfl⟩
 ·rintro ρ μ' ⟨rfl,us,dd,e,_,rfl⟩
  simp_arith [cst0]
  refine ⟨⟨by decide,by decide,by rw [length_map]; omega,by rw [length_map]; omega⟩,?_⟩
  refine wh0 (λ l ρ ν=>ν=μ' /\ ∃ (k:Nat) (pp:Option D),l=rngD (1 + (k:Int)) (ts.length - 1 - k) /\ ρ=[some (.tup (ts.map encT)),dd,pp]) ?_ (λ _ _ _ _=>trivial) ?_ ?_
  ·refine ⟨rfl,0,none,?_,rfl⟩
   rw [length_map,show ((ts.length:Int) - 1).toNat=ts.length - 1 - 0 by omega]
   simp
  ·rintro ρ μ2 ⟨rfl,k,pp,_,rfl⟩
   exact q
  ·rintro x rest ρ μ2 ⟨rfl,k,pp,e,rfl⟩
   cases n:ts.length - 1 - k with
   | zero=>rw [n] at e; simp [rngD] at e
   | succ m =>
    rw [n,zm0] at e
    simp only [List.cons.injEq] at e
    obtain ⟨rfl,rfl⟩:=e
    obtain ⟨b1,e1⟩:=tj2 (ts:=ts) (i:=1 + (k:Int) - 1) (by omega) (by omega)
    obtain ⟨b2,e2⟩:=tj2 (ts:=ts) (i:=1 + (k:Int)) (by omega) (by omega)
    have lt:lt3 ts[(1 + (k:Int) - 1).toNat] ts[(1 + (k:Int)).toNat]=true:=List.pairwise_iff_getElem.mp h1 _ _ b1 b2 (by omega)
    simp_arith [e1,e2,encT,ge3R,lt]
    refine ⟨k + 1,_,?_,rfl⟩
    rw [show ts.length - 1 - (k + 1)=m by omega]
    congr 1
 ·rintro x rest ρ μ' ⟨rfl,us,dd,e,hw,rfl⟩
  cases us with
  | nil=>cases e
  | cons t us =>
   rw [map_cons] at e
   injection e with e1 e2
   subst e1 e2
   exact ⟨t,rfl,hw t (mem_cons_self ..),rfl,us,_,rfl,λ s hs=>hw s (mem_cons_of_mem _ hs),rfl⟩
def mnP (p q:Int × Int):Int × Int:=if ltP q.1 q.2 p.1 p.2=true then q else p
def mxP (p q:Int × Int):Int × Int:=if ltP p.1 p.2 q.1 q.2=true then q else p
theorem xh4 (p q:Int × Int) (μ:Mu) (K:VK3):minR [.tup [.int p.1,.int p.2],.tup [.int q.1,.int q.2]] μ K=K (encQ (mnP p q)) μ:=by
 unfold mnP
 show K (if ltP q.1 q.2 p.1 p.2 then .tup [.int q.1,.int q.2] else .tup [.int p.1,.int p.2]) μ=_
 split <;> rfl
theorem zh4 (p q:Int × Int) (μ:Mu) (K:VK3):wq2 [.tup [.int p.1,.int p.2],.tup [.int q.1,.int q.2]] μ K=K (encQ (mxP p q)) μ:=by
 unfold mxP
 show K (if ltP p.1 p.2 q.1 q.2 then .tup [.int q.1,.int q.2] else .tup [.int p.1,.int p.2]) μ=_
 split <;> rfl
theorem sn4 {p:Addr} {ts:List T3} {μ:Mu} {Q:VK3} (h:μ p=some (.lst (ts.map encT))) (h64:ts.length < 64) (k:∀ us:List T3,us.Perm ts->us.Pairwise le3->∀ r,μ r=none->Q (.ref r) (updM μ r (.lst (us.map encT)))):xs0 [.ref p] μ Q:=by
 refine Or.inl ?_
 unfold srtR
 simp only [h,zy1]
 exact ⟨h64,k⟩
theorem xo4 {p:Addr} {kvs:List (T3 × D)} {μ:Mu} {Q:VK3} (h:μ p=some (.dct kvs)) (h64:kvs.length < 64) (k:∀ us:List T3,us.Perm (kvs.map (·.1))->us.Pairwise le3->∀ r,μ r=none->Q (.ref r) (updM μ r (.lst (us.map encT)))):xs0 [.ref p] μ Q:=by
 refine Or.inr ?_
 unfold vl2
 simp only [h]
 exact ⟨h64,k⟩
theorem uk2 {p:Addr} {l:List D} {μ:Mu} {Q:VK3} (h:μ p=some (.lst l)) (k:Q (.tup l) μ):tupR [.ref p] μ Q:=by
 unfold tupR
 simp only [h]
 exact k
theorem zl {ts:List T3} (h:ts.length < 60):(ts.map encT).length<=sizeLine:=by
 have:(100:Nat) < sizeLine:=by decide
 rw [length_map]
 omega
def spLe:Sp3:=λ ds μ Q=>∃ s,ds=[encT s] /\ Q (.tup [encQ (s.1,s.2.1),encQ (gx s,gy s)]) μ
theorem tq4 (ds:List D) (μ:Mu) (Q:VK3) (h:spLe ds μ Q):t_q2 { nx:=λ _ μ'=>Q .non μ',rt:=Q } (start3 N_q2 ds) μ:=by
 obtain ⟨s,rfl,q⟩:=h
 simp_arith [t_q2,N_q2,encT]
 exact ⟨z2,z2,z2,q⟩
def mv (x y:Int) (s:T3):T3:=(s.1 + x,s.2.1 + y,s.2.2)
def uy1:Sp3:=λ ds μ Q=>∃ (ns:List Int) (k:Int),ds=[.fls (ns.map D.int),.int k] /\ 0<=k /\ ∀ i,Q (.int i) μ
theorem xr4 (ds:List D) (μ:Mu) (Q:VK3) (h:uy1 ds μ Q):t_q0 { nx:=λ _ μ'=>Q .non μ',rt:=Q } (start3 N_q0 ds) μ:=by
 obtain ⟨ns,k,rfl,hk,q⟩:=h
 simp_arith [t_q0,N_q0]
 split
 ·next h1 =>
  obtain ⟨d,hd,e⟩:=ta3 (l:=ns.map D.int) hk h1
  obtain ⟨i,_,rfl⟩:=List.mem_map.mp hd
  simp only [e]
  exact q i
 ·exact q 0
def sg0:Sp3:=λ ds μ Q=>∃ (ns:List Int) (k:Int),ds=[.fls (ns.map D.int),.int k] /\ 0<=k /\ ∀ a b p,0<=a->μ p=none->Q (.ref p) (updM μ p (.lst [.int a,.bl b]))
theorem ub4 (ds:List D) (μ:Mu) (Q:VK3) (h:sg0 ds μ Q):tb3 uy1 { nx:=λ _ μ'=>Q .non μ',rt:=Q } (start3 wu2 ds) μ:=by
 obtain ⟨ns,k,rfl,hk,q⟩:=h
 simp_arith [tb3,wu2]
 refine ⟨ns,k,rfl,hk,λ i=>?_⟩
 simp_arith [ge3R]
 refine ⟨⟨by decide,by decide,by decide⟩,?_⟩
 have e:((10:Int) ^ (18:Int).toNat)=1000000000000000000:=by decide
 simp only [e]
 split
 ·next h1=>exact ⟨⟨by decide,by decide,by decide⟩,by decide,λ p hp=>q _ _ p (by omega) hp⟩
 ·exact ⟨by decide,by decide,λ p hp=>q _ _ p (Int.emod_nonneg _ (by decide)) hp⟩
def zd0:Sp3:=λ ds μ Q=>∃ (p:Addr) (m a:Int) (b:Bool) (rest:List D),ds=[.ref p,.int m] /\ 0 < m /\ m < 2 ^ 120 /\ μ p=some (.lst (.int a :: .bl b :: rest)) /\ 0<=a ∧
 ∀ r a',0<=r->r < m->0<=a'->Q (.int r) (updM μ p (.lst (.int a' :: .bl b :: rest)))
theorem sq4 (ds:List D) (μ:Mu) (Q:VK3) (h:zd0 ds μ Q):t_q1 { nx:=λ _ μ'=>Q .non μ',rt:=Q } (start3 N_q1 ds) μ:=by
 obtain ⟨p,m,a,b,rest,rfl,h1,h2,h3,h4,q⟩:=h
 simp_arith [t_q1,N_q1,h3]
 split
 ·refine ⟨h1,⟨h1,h2⟩,?_⟩
  exact q _ _ (Int.emod_nonneg _ (by omega)) (Int.emod_lt_of_pos _ h1) (Int.ediv_nonneg h4 (by omega))
 ·refine ⟨.inl (.inr (by decide)),by decide,?_⟩
  simp_arith [va0]
  have n1:=Int.emod_nonneg (a * 48271 + 29) (show (2147483647:Int) ≠ 0 by decide)
  have n2:=Int.emod_lt_of_pos (a * 48271 + 29) (show (0:Int) < 2147483647 by decide)
  generalize (a * 48271 + 29) % 2147483647=c at n1 n2 ⊢
  refine ⟨.inl (.inl (by omega)),.inl (.inl (by decide)),by decide,?_⟩
  have n3:=Int.emod_nonneg (c * c + 39373 * c + 7) (show (2147483629:Int) ≠ 0 by decide)
  have n4:=Int.emod_lt_of_pos (c * c + 39373 * c + 7) (show (0:Int) < 2147483629 by decide)
  generalize (c * c + 39373 * c + 7) % 2147483629=e at n3 n4 ⊢
  refine ⟨.inl (.inl (by omega)),.inl (.inl (by decide)),by decide,⟨by decide,by decide⟩,h1,?_⟩
  exact q _ _ (Int.emod_nonneg _ (by omega)) (Int.emod_lt_of_pos _ h1) n1
def sm (t:T3):Prop:=(-60<=t.1 /\ t.1<=60) /\ -60<=t.2.1 /\ t.2.1<=60
def WPic (z d:Addr) (most wide:Int) (c:Nat):List D->St3->Mu->Prop:=λ l ρ μ'=>∃ (kvs:List (T3 × D)) (x y a:Int) (b:Bool) (kk:Option D),l.length + kvs.length<=c /\ ((l.length:Int) + x<=c + 3 /\ l.length - x<=c + 3 /\ l.length + y<=c + 3 /\ l.length - y<=c + 3) ∧
 ρ=[some (.ref z),some (.int most),some (.ref d),some (.int x),some (.int y),some (.int wide),kk] /\ μ' z=some (.lst [.int a,.bl b]) /\ 0<=a /\ μ' d=some (.dct kvs) /\ (kvs.map (·.1)).Nodup /\ ∀ t ∈ kvs.map (·.1),wy t /\ sm t
def ur0:Sp3:=λ ds μ Q=>∃ (z:Addr) (most a:Int) (b:Bool),ds=[.ref z,.int most] /\ μ z=some (.lst [.int a,.bl b]) /\ 0<=a /\ 0<=most /\ most < 50 /\ ∀ (us:List T3) (a':Int) (b':Bool) μ',Pc us->(∀ t ∈ us,sm t)->(us.length:Int)<=most->0<=a'->μ' z=some (.lst [.int a',.bl b'])->Q (.tup (us.map encT)) μ'
theorem tb2 {kvs:List (T3 × D)} {t:T3} {v:D} (hn:(kvs.map (·.1)).Nodup):((putT kvs t v).map (·.1)).Nodup /\ (putT kvs t v).length<=kvs.length + 1 /\ ∀ s ∈ (putT kvs t v).map (·.1),s=t \/ s ∈ kvs.map (·.1):=by
 unfold putT
 split
 ·have e:(kvs.map λ kv=>if kv.1=t then (kv.1,v) else kv).map (·.1)=kvs.map (·.1):=by
    rw [map_map]
    apply map_congr_left
    intro kv _
    show (if kv.1=t then (kv.1,v) else kv).1=kv.1
    split <;> rfl
  rw [e]
  exact ⟨hn,by rw [length_map]; omega,λ s hs=>.inr hs⟩
 ·next c =>
  have ht:t ∉ kvs.map (·.1):=λ hm=>by
   obtain ⟨kv,h1,h2⟩:=List.mem_map.mp hm
   exact c (List.any_eq_true.mpr ⟨kv,h1,decide_eq_true h2⟩)
  rw [map_append,length_append]
  refine ⟨?_,by simp,λ s hs=>?_⟩
  ·rw [List.nodup_append]
   refine ⟨hn,by simp,λ a ha b hb=>?_⟩
   have:b=t:=by simpa using hb
   subst this
   intro z
   subst z
   exact ht ha
  ·rcases List.mem_append.mp hs with h | h
   ·exact .inr h
   ·exact .inl (by simpa using h)
theorem vi3 {ks us:List T3} (hn:ks.Nodup) (hw:∀ t ∈ ks,wy t) (hl:ks.length < 60) (a1:us.Perm ks) (a2:us.Pairwise le3):Pc us:=by
 have hn':us.Nodup:=a1.nodup_iff.mpr hn
 refine ⟨?_,λ t ht=>hw t (a1.mem_iff.mp ht),by rw [a1.length_eq]; exact hl⟩
 have both:us.Pairwise λ a b=>le3 a b /\ a ≠ b:=List.Pairwise.and a2 hn'
 refine both.imp λ {a b} h=>?_
 obtain ⟨x1,x2,x3⟩:=a
 obtain ⟨y1,y2,y3⟩:=b
 obtain ⟨h1,h2⟩:=h
 unfold le3 at h1
 unfold Lt
 simp only [ne_eq,Prod.mk.injEq] at h2
 simp only [lt3,Bool.or_eq_false_iff,Bool.and_eq_false_iff,decide_eq_false_iff_not,beq_eq_false_iff_ne,ne_eq] at h1
 simp only [lt3,Bool.or_eq_true,Bool.and_eq_true,decide_eq_true_eq,beq_iff_eq]
 omega
theorem zq1 {a b c d:Int} (h:(-1<=a /\ a<=1) /\ (-1<=b /\ b<=1) /\ (-1<=c /\ c<=1) /\ -1<=d /\ d<=1):∀ x ∈ ([D.int a,.int b,.int c,.int d]:List D),∃ i:Int,x=.int i /\ -1<=i /\ i<=1:=by
 intro x hx
 simp only [mem_cons,not_mem_nil,or_false] at hx
 rcases hx with rfl | rfl | rfl | rfl <;> exact ⟨_,rfl,by omega⟩
theorem yg0 {p:Addr} {l:List D} {i:Int} {d:D} {μ:Mu} {K:VK3} (h:μ p=some (.lst l)) (e:atI l i=some d) (k:K d μ):ixR (.ref p) (.int i) μ K:=by
 unfold ixR
 simp only [h,e]
 exact k
theorem va3 {l:List D} (h:∀ d ∈ l,∃ i:Int,d=.int i /\ -1<=i /\ i<=1) {i:Int} (h0:0<=i) (h1:i < l.length):∃ x:Int,atI l i=some (.int x) /\ -1<=x /\ x<=1:=by
 obtain ⟨dv,hd,e⟩:=ta3 h0 h1
 obtain ⟨x,rfl,hx⟩:=h dv hd
 exact ⟨x,e,hx⟩
theorem zq4 (ds:List D) (μ:Mu) (Q:VK3) (h:ur0 ds μ Q):t_q6 zd0 { nx:=λ _ μ'=>Q .non μ',rt:=Q } (start3 N_q6 ds) μ:=by
 obtain ⟨z,most,a,b,rfl,hm,ha,m0,m1,q⟩:=h
 intro d hd
 have hzd:z ≠ d:=ud0 hm hd
 show vf0 zd0 { nx:=λ _ μ'=>Q .non μ',rt:=Q } [some (.ref z),some (.int most),some (.ref d),none,none,none,none] (updM μ d (.dct []))
 simp_arith [vf0]
 refine ⟨z2,?_⟩
 refine ⟨z,5,a,b,[],rfl,by decide,by decide,by rw [xb0 hzd]; exact hm,ha,λ w0 a1 w1 w2 a1n=>?_⟩
 refine ⟨z,most + 1,a1,b,[],rfl,by omega,by omega,va0,a1n,λ c a2 c0 c1 a2n=>⟨⟨by omega,by omega⟩,?_⟩⟩
 refine wh0 (WPic z d most (1 + w0) c.toNat) ?_ (λ _ _ _ _=>trivial) ?_ ?_
 ·refine ⟨[],0,0,a2,b,none,?_,?_,rfl,va0,a2n,?_,nodup_nil,λ t ht=>by simp at ht⟩
  ·simp [rngD]
  ·have lr:(rngD 0 c.toNat).length=c.toNat:=by simp [rngD]
   rw [lr]; omega
  ·rw [xb0 (Ne.symm hzd),xb0 (Ne.symm hzd),va0]
 ·rintro ρ μ' ⟨kvs,x,y,a3,b3,kk,el,_,rfl,ez,a3n,ed,hn,hw⟩
  rw [length_nil,Nat.zero_add] at el
  refine xo4 ed (by omega) λ us e1 e2 r hr=>uk2 va0 (q us a3 b3 _ (vi3 hn (λ t ht=>(hw t ht).1) (by rw [length_map]; omega) e1 e2) (λ t ht=>(hw t (e1.mem_iff.mp ht)).2) (by rw [e1.length_eq,length_map]; omega) a3n (by rw [xb0 (ud0 ez hr)]; exact ez))
 ·rintro dd rest ρ μ' ⟨kvs,x,y,a3,b3,kk,el,xb,rfl,ez,a3n,ed,hn,hw⟩
  rw [length_cons] at el xb
  have main:∀ (x y a4:Int) (ν:Mu),((rest.length:Int) + 1 + x<=c.toNat + 3 /\ rest.length + 1 - x<=c.toNat + 3 /\ rest.length + 1 + y<=c.toNat + 3 /\ rest.length + 1 - y<=c.toNat + 3)->ν z=some (.lst [.int a4,.bl b3])->0<=a4->ν d=some (.dct kvs)->(seq3 (tl3 (v3 2) (cons3 (v3 3) (cons3 (v3 4) (cons3 (call3 zd0 (cons3 (v3 0) (cons3 (c3 (.int 2)) nil3))) nil3))) (c3 (.bl true))) (seq3 (set3 3 (o3 addR (v3 3) (o3 ixR (lst3 (cons3 (c3 (.int 1)) (cons3 (c3 (.int 0)) (cons3 (un3 negR (c3 (.int 1))) (cons3 (c3 (.int 0)) nil3))))) (call3 zd0 (cons3 (v3 0) (cons3 (c3 (.int 4)) nil3)))))) (set3 4 (o3 addR (v3 4) (o3 ixR (lst3 (cons3 (c3 (.int 0)) (cons3 (c3 (.int 1)) (cons3 (c3 (.int 0)) (cons3 (un3 negR (c3 (.int 1))) nil3))))) (call3 zd0 (cons3 (v3 0) (cons3 (c3 (.int 4)) nil3)))))))) { nx:=WPic z d most (1 + w0) c.toNat rest,rt:=Q,bk:=λ ρ μ=>vh0 zd0 { nx:=λ _ μ'=>Q .non μ',rt:=Q } ρ μ,ct:=WPic z d most (1 + w0) c.toNat rest } [some (.ref z),some (.int most),some (.ref d),some (.int x),some (.int y),some (.int (1 + w0)),some dd] ν:=λ x y a4 ν xb ez a4n ed=>by
   refine ⟨z,2,a4,b3,[],rfl,by decide,by decide,ez,a4n,λ w a5 w3 w4 a5n=>?_⟩
   have ed2:updM ν z (.lst [.int a5,.bl b3]) d=some (.dct kvs):=by rw [xb0 (Ne.symm hzd)]; exact ed
   conv=>whnf
   rw [ed2]
   refine ⟨by omega,?_⟩
   obtain ⟨k1,k2,k3⟩:=tb2 (t:=(x,y,w)) (v:=.bl true) hn
   refine ⟨Z0,λ p hp=>?_⟩
   have hzp:z ≠ p:=ud0 (by rw [xb0 hzd]; exact va0) hp
   have hdp:d ≠ p:=ud0 va0 hp
   refine ⟨z,4,a5,b3,[],rfl,by decide,by decide,by rw [xb0 hzp,xb0 hzd]; exact va0,a5n,λ i a6 i0 i1 a6n=>?_⟩
   obtain ⟨dx,e5,x5⟩:=va3 (l:=[D.int 1,.int 0,.int (-1),.int 0]) (zq1 (by decide)) i0 (by simp only [length_cons,length_nil]; omega)
   refine yg0 (by rw [xb0 (Ne.symm hzp),va0]) e5 ?_
   refine ⟨Z0,λ p2 hp2=>?_⟩
   have hzp2:z ≠ p2:=ud0 va0 hp2
   have hdp2:d ≠ p2:=ud0 (by rw [xb0 (Ne.symm hzd),xb0 hdp]; exact va0) hp2
   refine ⟨z,4,a6,b3,[],rfl,by decide,by decide,by rw [xb0 hzp2]; exact va0,a6n,λ j a7 j0 j1 a7n=>?_⟩
   obtain ⟨dy,e6,x6⟩:=va3 (l:=[D.int 0,.int 1,.int 0,.int (-1)]) (zq1 (by decide)) j0 (by simp only [length_cons,length_nil]; omega)
   refine yg0 (by rw [xb0 (Ne.symm hzp2),va0]) e6 ?_
   refine ⟨putT kvs (x,y,w) (.bl true),x + dx,y + dy,a7,b3,some dd,by omega,by omega,rfl,va0,a7n,?_,k1,λ t ht=>?_⟩
   ·rw [xb0 (Ne.symm hzd),xb0 hdp2,xb0 (Ne.symm hzd),xb0 hdp,va0]
   ·rcases k3 t ht with rfl | h
    ·refine ⟨?_,⟨?_,?_⟩,?_,?_⟩
     ·show w=0 \/ w=1
      omega
     all_goals (dsimp only; omega)
    ·exact hw t h
  refine ⟨z,3,a3,b3,[],rfl,by decide,by decide,ez,a3n,λ r a4 r0 r1 a4n=>?_⟩
  have ed1:updM μ' z (.lst [.int a4,.bl b3]) d=some (.dct kvs):=by rw [xb0 (Ne.symm hzd)]; exact ed
  by_cases c3:r=0
  ·subst c3
   refine ⟨z,1 + w0,a4,b3,[],rfl,by omega,by omega,va0,a4n,λ x2 a5 x0 x1 a5n=>?_⟩
   refine ⟨z,1 + w0,a5,b3,[],rfl,by omega,by omega,va0,a5n,λ y2 a6 y0 y1 a6n=>?_⟩
   exact main _ _ a6 _ (by omega) va0 a6n (by rw [xb0 (Ne.symm hzd),xb0 (Ne.symm hzd)]; exact ed1)
  ·have er:(decide (r=0))=false:=decide_eq_false c3
   simp_arith [cst0]
   simp only [c3,if_false]
   exact main x y a4 _ (by omega) va0 a4n ed1
def pT (s:T3):PyData:=.tuple [.int s.1,.int s.2.1,.int s.2.2]
theorem uh1:∀ L:List T3,dats (L.map encT)=some (L.map pT)
 | []=>rfl
 | t :: r=>by simp only [map_cons,dats,encT,dat,uh1 r,pT]
theorem yh2:∀ L:List T3,PyData.depthAll (L.map pT)<=2
 | []=>by simp [PyData.depthAll]
 | t :: r=>by
  have:=yh2 r
  simp only [map_cons,PyData.depthAll,pT,PyData.depth]
  omega
theorem um0 (L:List T3):(PyData.tuple (L.map pT)).depth<=64:=by
 have:=yh2 L
 simp only [PyData.depth]
 omega
theorem vq2 {a b:T3} (h:le3 a b) (k:le3 b a):a=b:=by
 obtain ⟨x1,x2,x3⟩:=a
 obtain ⟨y1,y2,y3⟩:=b
 simp only [le3,lt3,Bool.or_eq_false_iff,Bool.and_eq_false_iff,decide_eq_false_iff_not,beq_eq_false_iff_ne,ne_eq] at h k
 simp only [Prod.mk.injEq]
 omega
theorem uniq {us vs:List T3} (a1:us.Perm vs) (a2:us.Pairwise le3) (a3:vs.Pairwise le3):us=vs:=List.Perm.eq_of_pairwise (λ a b _ _ h k=>vq2 h k) a2 a3 a1
theorem wf4 {ts:List T3} (h:Pc ts):ts.Nodup:=h.1.imp λ {a b} h e=>by
 subst e
 simp [Lt,lt3] at h
theorem xk4 (s t:T3):PyData.eqv (pT s) (pT t)=decide (s=t):=by
 obtain ⟨a,b,c⟩:=s
 obtain ⟨d,e,f⟩:=t
 have q:∀ x y:Int,(x == y)=decide (x=y):=λ x y=>by by_cases h:x=y <;> simp [h]
 simp [pT,PyData.eqv,PyData.eqvAll,Bool.and_assoc,q]
theorem sy2:∀ L M:List T3,PyData.eqvAll (L.map pT) (M.map pT)=decide (L=M)
 | [],[]=>by simp [PyData.eqvAll]
 | [],_ :: _=>by simp [PyData.eqvAll]
 | _ :: _,[]=>by simp [PyData.eqvAll]
 | s :: L,t :: M=>by
  simp only [map_cons,PyData.eqvAll,sy2 L M,xk4]
  simp
end Pv
namespace Mt
open PySem Mw
abbrev cp (x:Str):List Nat:=x.cps.toList
theorem tj0 {x y:Str} (h:cp x=cp y):x=y:=Str.ext' (Array.toList_inj.mp h)
theorem zo0 (x y:Str):cp (x ++ y)=cp x ++ cp y:=by
 show (x.cps ++ y.cps).toList=_
 simp
theorem uj0 (x:Str):x.length=(cp x).length:=by simp [Str.length,cp]
def jn:List (List Nat)->List Nat
 | []=>[]
 | [a]=>a
 | a :: b :: r=>a ++ 32 :: jn (b :: r)
theorem ym3:cp (" " : Str)=[32]:=by decide +kernel
theorem su0:∀ l:List Str,cp (Str.join " " l)=jn (l.map cp)
 | []=>rfl
 | [a]=>rfl
 | a :: b :: r=>by
  show cp (a ++ " " ++ Str.join " " (b :: r))=_
  rw [zo0,zo0,ym3,su0 (b :: r)]
  simp [jn]
theorem tz2:∀ {a b x y:List Nat},32 ∉ a->32 ∉ b->a ++ 32 :: x=b ++ 32 :: y->a=b /\ x=y
 | [],[],x,y,_,_,h=>by simpa using h
 | [],c :: b,x,y,_,hb,h=>by
  simp at h
  exact absurd (by simp [h.1]) hb
 | c :: a,[],x,y,ha,_,h=>by
  simp at h
  exact absurd (by simp [h.1]) ha
 | c :: a,d :: b,x,y,ha,hb,h=>by
  simp only [cons_append,List.cons.injEq] at h
  obtain ⟨e1,e2⟩:=tz2 (a:=a) (b:=b) (λ m=>ha (mem_cons_of_mem _ m)) (λ m=>hb (mem_cons_of_mem _ m)) h.2
  exact ⟨by rw [h.1,e1],e2⟩
theorem yx2 {a:List Nat} {b:List Nat} {r:List (List Nat)}:32 ∈ a ++ 32 :: jn (b :: r):=by simp
theorem xy2:∀ {a b:List (List Nat)},a ≠ []->b ≠ []->(∀ t ∈ a,32 ∉ t)->(∀ t ∈ b,32 ∉ t)->jn a=jn b->a=b
 | [],_,h,_,_,_,_=>absurd rfl h
 | _,[],_,h,_,_,_=>absurd rfl h
 | [x],[y],_,_,_,_,h=>by simpa [jn] using h
 | [x],y :: z :: r,_,_,ha,_,h=>by
  have:(32:Nat) ∈ x:=by
   have h':x=y ++ 32 :: jn (z :: r):=h
   rw [h']; exact yx2
  exact absurd this (ha x (by simp))
 | x :: y :: r,[z],_,_,_,hb,h=>by
  have:(32:Nat) ∈ z:=by
   have h':x ++ 32 :: jn (y :: r)=z:=h
   rw [<- h']; exact yx2
  exact absurd this (hb z (by simp))
 | x :: y :: r,x' :: y' :: r',_,_,ha,hb,h=>by
  have h':x ++ 32 :: jn (y :: r)=x' ++ 32 :: jn (y' :: r'):=h
  obtain ⟨e1,e2⟩:=tz2 (ha x (by simp)) (hb x' (by simp)) h'
  have:=xy2 (a:=y :: r) (b:=y' :: r') (by simp) (by simp) (λ t ht=>ha t (mem_cons_of_mem _ ht)) (λ t ht=>hb t (mem_cons_of_mem _ ht)) e2
  rw [e1,this]
theorem yo4:(" " : Str)=⟨#[32]⟩:=tj0 ym3
theorem ys1 {l:List Str} (h:l ≠ []) (hf:∀ t ∈ l,32 ∉ cp t):Txt.split (Str.join " " l) " " = l:=by
 have e1:=StrLaws.join_split (Str.join " " l) " "
 have e2:=StrLaws.split_free (Str.join " " l) 32
 rw [<- yo4] at e2
 have e3:=PyProof.Rows.split_pos (Str.join " " l) " "
 generalize Txt.split (Str.join " " l) " " = m at e1 e2 e3
 have e4:=congrArg cp e1
 rw [su0,su0] at e4
 have hm:m ≠ []:=by intro e; rw [e] at e3; simp at e3
 have:=xy2 (a:=m.map cp) (b:=l.map cp) (by simpa using hm) (by simpa using h) (by simpa using e2) (by simpa using hf) e4
 have inj:∀ {a b:List Str},a.map cp=b.map cp->a=b:=λ {a}=>by
  induction a with
  | nil=>intro b h; cases b with | nil=>rfl | cons _ _=>cases h
  | cons x r ih =>
   intro b h
   cases b with
   | nil=>cases h
   | cons y s =>
    simp only [map_cons,List.cons.injEq] at h
    rw [tj0 h.1,ih h.2]
 exact inj this
def nsT (n:Int):Str:=Str.ofString (toString n)
def dg (m:Nat):List Nat:=(Nat.toDigits 10 m).map Char.toNat
theorem sd2 {n:Int} (h:0<=n):cp (nsT n)=dg n.toNat:=by
 obtain ⟨m,rfl⟩:=Int.eq_ofNat_of_zero_le h
 exact PySem.W.KIN.signs_num m
theorem zg1 {n:Int} (h:n < 0):cp (nsT n)=45 :: dg n.natAbs:=by
 cases n with
 | ofNat m=>exact absurd h (by simp)
 | negSucc m =>
  unfold nsT cp
  rw [PyProof.Rows.signs_ofString]
  show ("-" ++ Nat.repr (m + 1)).toList.map Char.toNat=_
  simp [dg,Nat.toList_repr]
theorem uy0 (m:Nat):NumText.AllDigits (dg m):=by
 intro c hc
 obtain ⟨ch,hch,e⟩:=List.mem_map.mp hc
 have r:=PyProof.Rows.digit_range (Nat.isDigit_of_mem_toDigits (by decide) (by decide) hch)
 rw [<- e]
 exact r
theorem zz2 (m:Nat):1<=(dg m).length:=by
 unfold dg
 rw [length_map]
 exact PyProof.Rows.tDigits_len_ge 10 m
theorem sk4 {k m:Nat} (hk:1<=k) (h:m < 10 ^ k):(dg m).length<=k:=by
 unfold dg
 rw [length_map]
 exact PyProof.Rows.digits10_le hk h
theorem yz2 (m:Nat):NumText.digitsVal (dg m)=m:=PySem.W.KIN.val_back m
theorem yo0 {n:Int} (h : -G<=n /\ n<=G):(cp (nsT n)).length<=21:=by
 unfold G at h
 by_cases h0:0<=n
 ·rw [sd2 h0]
  exact Nat.le_trans (sk4 (k:=20) (by decide) (by omega)) (by decide)
 ·rw [zg1 (by omega)]
  rw [length_cons]
  exact Nat.succ_le_succ (sk4 (k:=20) (by decide) (by omega))
theorem yj3 (n:Int):32 ∉ cp (nsT n):=by
 by_cases h0:0<=n
 ·rw [sd2 h0]
  intro h
  have:=uy0 _ _ h
  omega
 ·rw [zg1 (by omega)]
  intro h
  rcases List.mem_cons.mp h with h | h
  ·cases h
  ·have:=uy0 _ _ h
   omega
theorem ug4 (n:Int):1<=(cp (nsT n)).length:=by
 by_cases h0:0<=n
 ·rw [sd2 h0]; exact zz2 _
 ·rw [zg1 (by omega)]; simp
theorem up2 {n:Int} (h : -G<=n /\ n<=G):PySem.intText? (nsT n)=some n:=by
 have hl:=yo0 h
 rw [<- uj0] at hl
 by_cases h0:0<=n
 ·have hc:=sd2 h0
  have e:=intText_digits (x:=nsT n) (by show NumText.AllDigits (cp (nsT n)); rw [hc]; exact uy0 _) (by show cp (nsT n) ≠ []; intro e; have:=ug4 n; rw [e] at this; simp at this) (Nat.le_trans hl (by decide))
  rw [e]
  show some ((NumText.digitsVal (cp (nsT n)):Nat):Int)=_
  rw [hc,yz2,Int.toNat_of_nonneg h0]
 ·have hc:=zg1 (n:=n) (by omega)
  have e:=intText_neg (x:=nsT n) hc (uy0 _) (by intro e; have:=zz2 n.natAbs; rw [e] at this; simp at this) (Nat.le_trans hl (by decide))
  rw [e,yz2]
  congr 1
  omega
theorem xp1 {n:Int} (h : -G<=n /\ n<=G):n.natAbs.log2 < 1920:=by
 unfold G at h
 by_cases h0:n.natAbs=0
 ·rw [h0]; decide
 ·have:n.natAbs < 2 ^ 70:=by omega
  exact Nat.lt_trans ((Nat.log2_lt h0).mpr this) (by decide)
end Mt
namespace Pv
open PySem Mw
local macro_rules | `(tactic| simp_arith [$xs,*] $[$l]?)=>`(tactic| simp only [$xs,*,Pv.seq3,Pv.next3,Pv.never3,Pv.brk3,Pv.cnt3,Pv.drop3,Pv.ret3,Pv.retN3,Pv.ifs3,Pv.gn3,Pv.gnil3,Pv.gcons3,Pv.gtup3,Pv.set3,Pv.asg3,Pv.par3,Pv.sub3,Pv.for3,Pv.is3,Pv.ir3,Pv.ir23,Pv.v3,Pv.c3,Pv.o3,Pv.un3,Pv.b3,Pv.and3,Pv.or3,Pv.not3,Pv.andV3,Pv.orV3,Pv.notV3,Pv.if3,Pv.nil3,Pv.cons3,Pv.tup3,Pv.lst3,Pv.call3,Pv.mt3,Pv.comp3,Pv.tt3,Pv.getI,set_cons_zero,set_cons_succ,Pv.int2,Pv.int20,Pv.subR,Pv.mulR,Pv.intR,Pv.sl3,Pv.np3,Pv.pt3,Pv.slR,Pv.modR,Pv.fdivR,Pv.powR,Pv.ltR,Pv.leR,Pv.gtR,Pv.geR,Pv.negR,Pv.addR,Pv.eqR_ii,Pv.eqR_ss,Pv.eqR_bb,Pv.eqR_is,Pv.neR_ii,Pv.neR_ss,Pv.neR_bb,Pv.inR,Pv.ixR,Pv.lenR,Pv.absR,Pv.tupR,Pv.sumR,Pv.tyN,Pv.isIn,Pv.isiR,Pv.appR,Pv.extR,Pv.smt3,Pv.joinR,Pv.splitR,Pv.startsR,Pv.pop3,Pv.lrev3,Pv.strR,Pv.start3,map_cons,map_nil,cons_append,nil_append,length_cons,length_nil,List.replicate,Pv.atI0,Pv.atI1,Pv.atI2,Nat.reduceAdd,Nat.reduceSub,Nat.zero_add,reduceIte,Pv.strs?,Bool.not_true,Bool.not_false,Bool.false_eq_true,if_false,if_true,decide_eq_true_eq,Bool.not_eq_true',decide_eq_false_iff_not,Pv.ixN0,Pv.ixN1,Pv.ixN2,true_and,and_true,Pv.cst0,Pv.cst1,Pv.cst2,Pv.cst3,Int.reduceEq,Option.bind_none,Option.bind_some,Pv.kn_go_jump,Pv.kn_go_turn,Pv.kn_go_times,Pv.kn_jump_go,Pv.kn_jump_turn,Pv.kn_jump_times,Pv.kn_turn_go,Pv.kn_turn_jump,Pv.kn_turn_times,Pv.kn_times_go,Pv.kn_times_jump,Pv.kn_times_turn,Pv.kp_go,Pv.kp_jump,Pv.kp_turn,Pv.kp_times,Pv.kz_go,Pv.kz_jump,Pv.kz_turn,Pv.kz_times] $[$l]?)
open Mt
def jm:List (List Nat)->List Nat
 | []=>[]
 | [a]=>a
 | a :: b :: r=>a ++ 10 :: jm (b :: r)
theorem yl4:cp ("\n" : Str)=[10]:=by decide +kernel
theorem tm0:∀ l:List Str,cp (Str.join "\n" l)=jm (l.map cp)
 | []=>rfl
 | [a]=>rfl
 | a :: b :: r=>by
  show cp (a ++ "\n" ++ Str.join "\n" (b :: r))=_
  rw [zo0,zo0,yl4,tm0 (b :: r)]
  simp [jm]
theorem yk3 {a:List Nat} {r:List (List Nat)} (h:r ≠ []):jm (a :: r)=a ++ 10 :: jm r:=by
 cases r with
 | nil=>exact absurd rfl h
 | cons b r=>rfl
theorem uz2:∀ {a b x y:List Nat},10 ∉ a->10 ∉ b->a ++ 10 :: x=b ++ 10 :: y->a=b /\ x=y
 | [],[],x,y,_,_,h=>by simpa using h
 | [],c :: b,x,y,_,hb,h=>by
  simp at h
  exact absurd (by simp [h.1]) hb
 | c :: a,[],x,y,ha,_,h=>by
  simp at h
  exact absurd (by simp [h.1]) ha
 | c :: a,d :: b,x,y,ha,hb,h=>by
  simp only [cons_append,List.cons.injEq] at h
  obtain ⟨e1,e2⟩:=uz2 (a:=a) (b:=b) (λ m=>ha (mem_cons_of_mem _ m)) (λ m=>hb (mem_cons_of_mem _ m)) h.2
  exact ⟨by rw [h.1,e1],e2⟩
theorem zx2 {a:List Nat} {b:List Nat} {r:List (List Nat)}:10 ∈ a ++ 10 :: jm (b :: r):=by simp
theorem zy2:∀ {a b:List (List Nat)},a ≠ []->b ≠ []->(∀ t ∈ a,10 ∉ t)->(∀ t ∈ b,10 ∉ t)->jm a=jm b->a=b
 | [],_,h,_,_,_,_=>absurd rfl h
 | _,[],_,h,_,_,_=>absurd rfl h
 | [x],[y],_,_,_,_,h=>by simpa [jm] using h
 | [x],y :: z :: r,_,_,ha,_,h=>by
  have:(10:Nat) ∈ x:=by
   have h':x=y ++ 10 :: jm (z :: r):=h
   rw [h']; exact zx2
  exact absurd this (ha x (by simp))
 | x :: y :: r,[z],_,_,_,hb,h=>by
  have:(10:Nat) ∈ z:=by
   have h':x ++ 10 :: jm (y :: r)=z:=h
   rw [<- h']; exact zx2
  exact absurd this (hb z (by simp))
 | x :: y :: r,x' :: y' :: r',_,_,ha,hb,h=>by
  have h':x ++ 10 :: jm (y :: r)=x' ++ 10 :: jm (y' :: r'):=h
  obtain ⟨e1,e2⟩:=uz2 (ha x (by simp)) (hb x' (by simp)) h'
  have:=zy2 (a:=y :: r) (b:=y' :: r') (by simp) (by simp) (λ t ht=>ha t (mem_cons_of_mem _ ht)) (λ t ht=>hb t (mem_cons_of_mem _ ht)) e2
  rw [e1,this]
theorem tt4:("\n" : Str)=⟨#[10]⟩:=tj0 yl4
theorem sj1 {l:List Str} (h:l ≠ []) (hf:∀ t ∈ l,10 ∉ cp t):Txt.split (Str.join "\n" l) "\n" = l:=by
 have e1:=StrLaws.join_split (Str.join "\n" l) "\n"
 have e2:=StrLaws.split_free (Str.join "\n" l) 10
 rw [<- tt4] at e2
 have e3:=PyProof.Rows.split_pos (Str.join "\n" l) "\n"
 generalize Txt.split (Str.join "\n" l) "\n" = m at e1 e2 e3
 have e4:=congrArg cp e1
 rw [tm0,tm0] at e4
 have hm:m ≠ []:=by intro e; rw [e] at e3; simp at e3
 have:=zy2 (a:=m.map cp) (b:=l.map cp) (by simpa using hm) (by simpa using h) (by simpa using e2) (by simpa using hf) e4
 have inj:∀ {a b:List Str},a.map cp=b.map cp->a=b:=λ {a}=>by
  induction a with
  | nil=>intro b h; cases b with | nil=>rfl | cons _ _=>cases h
  | cons x r ih =>
   intro b h
   cases b with
   | nil=>cases h
   | cons y s =>
    simp only [map_cons,List.cons.injEq] at h
    rw [tj0 h.1,ih h.2]
 exact inj this
theorem uq1:∀ l:List Str,cp (Str.join "" l)=(l.map cp).flatten
 | []=>rfl
 | [a]=>by simp only [map_cons,map_nil,flatten_cons,List.flatten_nil,append_nil]; rfl
 | a :: b :: r=>by
  show cp (a ++ "" ++ Str.join "" (b :: r))=_
  have e:cp ("" : Str)=[]:=by decide +kernel
  rw [zo0,zo0,e,uq1 (b :: r)]
  simp
def sD (l:List Str):List D:=l.map D.str
theorem uv2 (a:List Str):(sD a).length=a.length:=by simp [sD]
theorem wy1:∀ l,strs? (sD l)=some l
 | []=>rfl
 | t :: r=>by
  have:=wy1 r
  simp only [sD] at this
  simp only [sD,map_cons,strs?,this]
theorem jo_l {z:Str} {p:Addr} {l:List Str} {μ:Mu} {K:VK3} (h1:μ p=some (.lst (sD l))) (hz:z.length<=16) (hl:(l.map (·.length)).sum + l.length<=1048576) (k:K (.str (Str.join z l)) μ):joinR z [.ref p] μ K:=by
 simp only [joinR,h1,wy1]
 exact ⟨⟨hz,hl⟩,k⟩
structure Bx (ts:List T3) (x0 y0 x1 y1:Int):Prop where
 a0:∃ s ∈ ts,s.1=x0
 l0:∀ s ∈ ts,x0<=s.1
 b0:∃ s ∈ ts,s.2.1=y0
 m0:∀ s ∈ ts,y0<=s.2.1
 a1:∃ s ∈ ts,gx s=x1
 l1:∀ s ∈ ts,gx s<=x1
 b1:∃ s ∈ ts,gy s=y1
 m1:∀ s ∈ ts,gy s<=y1
theorem Bx.one {ts:List T3} {x0 y0 x1 y1 u0 v0 u1 v1:Int} (h:Bx ts x0 y0 x1 y1) (k:Bx ts u0 v0 u1 v1):x0=u0 /\ y0=v0 /\ x1=u1 /\ y1=v1:=by
 obtain ⟨⟨s1,a1,b1⟩,l0,⟨s2,a2,b2⟩,m0,⟨s3,a3,b3⟩,l1,⟨s4,a4,b4⟩,m1⟩:=h
 obtain ⟨⟨t1,c1,d1⟩,n0,⟨t2,c2,d2⟩,o0,⟨t3,c3',d3⟩,n1,⟨t4,c4,d4⟩,o1⟩:=k
 have:=l0 t1 c1; have:=n0 s1 a1; have:=m0 t2 c2; have:=o0 s2 a2
 have:=l1 t3 c3'; have:=n1 s3 a3; have:=m1 t4 c4; have:=o1 s4 a4
 exact ⟨by omega,by omega,by omega,by omega⟩
def zm2:Sp3:=λ ds μ Q=>∃ ts:List T3,ds=[.tup (ts.map encT)] /\ (∀ t ∈ ts,wy t) /\ ts.length < 60 /\ (ts=[]->Q .non μ) /\ (ts ≠ []->∀ x0 y0 x1 y1 μ',Bx ts x0 y0 x1 y1->Ext μ μ'->Q (.tup [.int x0,.int y0,.int x1,.int y1]) μ')
theorem tq1 {i:Nat} {w:Nat} {ρ:St3} {p:Addr} {L:List Pt} {g:Pt->Int} {μ:Mu} {K:VK3} (hi:(i=0 /\ g=λ q=>q.1) \/ (i=1 /\ g=λ q=>q.2)) (hv:getI ρ w=some (.ref p)) (h:μ p=some (.lst (L.map encQ))) (hl:L.length < 1000)
    (k:∀ r μ',Ext μ μ'->μ' r=some (.lst ((L.map g).map D.int))->K (.ref r) μ'):comp3 [none] (is3 (v3 w)) (gn3 0) tt3 (o3 ixR (v3 0) (c3 (.int (i:Int)))) ρ μ K:=by
 have hz:(1000:Nat) < sizeLine:=by decide
 unfold comp3 is3 v3
 rw [hv]
 dsimp only
 rw [h]
 intro r hr
 refine zh0 (rest:=[]) (λ d=>.int (match d with | .tup [.int a,.int b]=>g (a,b) | _=>0)) hr (by rw [length_map]; omega) (λ μ' e=>e _ _ h) ?_ ?_
 ·intro x hx μ' R ex kk
  obtain ⟨q,_,rfl⟩:=List.mem_map.mp hx
  rcases hi with ⟨rfl,rfl⟩ | ⟨rfl,rfl⟩ <;> exact kk μ' (Ext.refl _)
 ·intro μ' ex e
  have el:(L.map encQ).map (λ d=>D.int (match d with | .tup [.int a,.int b]=>g (a,b) | _=>0))=(L.map g).map D.int:=by
   rw [map_map,map_map]; rfl
  rw [el] at e
  exact k r μ' ex e
theorem ya4 (ds:List D) (μ:Mu) (Q:VK3) (h:zm2 ds μ Q):yr3 sr0 { nx:=λ _ μ'=>Q .non μ',rt:=Q } (start3 yo3 ds) μ:=by
 obtain ⟨ts,rfl,hw,hl,q0,q1⟩:=h
 have hz:(1000:Nat) < sizeLine:=by decide
 show if decide (((ts.map encT).length:Int)=0)=true then _ else _
 by_cases c:ts=[]
 ·rw [decide_eq_true (by rw [c]; rfl),if_pos rfl]
  exact q0 c
 have hpos:=List.length_pos_iff.mpr c
 rw [decide_eq_false (by rw [length_map]; omega),if_neg (by decide)]
 have cq:∀ (f:T3->Pt) (i:Int) (K:VK3) (μ:Mu),(∀ s ∈ ts,∀ μ' R,R (encQ (f s)) μ'->(o3 ixR (call3 sr0 (cons3 (v3 0) nil3)) (c3 (.int i))) [some (encT s)] μ' R)->(∀ r μ',Ext μ μ'->μ' r=some (.lst ((ts.map f).map encQ))->K (.ref r) μ')->∀ r,μ r=none->vm3 (λ _=>True) r (gn3 0) tt3 (o3 ixR (call3 sr0 (cons3 (v3 0) nil3)) (c3 (.int i))) K (ts.map encT) [none] (updM μ r (.lst [])):=by
  intro f i K μ hf k r hr
  refine zh0 (rest:=[]) (λ d=>encQ (f (decT d))) hr (zl hl) (λ _ _=>trivial) ?_ ?_
  ·intro x hx μ' R ex kk
   obtain ⟨s,hs,rfl⟩:=List.mem_map.mp hx
   exact hf s hs μ' R (kk μ' (Ext.refl _))
  ·intro μ' ex e
   have el:(ts.map encT).map (λ d=>encQ (f (decT d)))=(ts.map f).map encQ:=by rw [map_map,map_map]; rfl
   rw [el] at e
   exact k r μ' ex e
 refine cq e0 0 _ μ (λ s hs μ' R kk=>⟨s,rfl,hw s hs,kk⟩) λ r1 μ1 ex1 er1=>?_
 refine cq e1 1 _ μ1 (λ s hs μ' R kk=>⟨s,rfl,hw s hs,kk⟩) λ r2 μ2 ex2 er2=>?_
 have er1':=ex2 _ _ er1
 show zg0 sr0 _ [some (.tup (ts.map encT)),some (.ref r1),some (.ref r2),none] μ2
 have l60:(ts.map e0).length < 1000:=by rw [length_map]; omega
 have l61:(ts.map e1).length < 1000:=by rw [length_map]; omega
 unfold zg0
 dsimp only [seq3,set3,tup3,cons3,call3]
 refine tq1 (i:=0) (.inl ⟨rfl,rfl⟩) rfl er1' l60 λ r3 μ3 ex3 er3=>?_
 try dsimp only [nil3]
 refine xq2 er3 ⟨by simp only [length_map]; exact hpos,λ x0 a1 b1=>?_⟩
 refine tq1 (i:=1) (.inr ⟨rfl,rfl⟩) rfl (ex3 _ _ er1') l60 λ r4 μ4 ex4 er4=>?_
 try dsimp only [nil3]
 refine xq2 er4 ⟨by simp only [length_map]; exact hpos,λ y0 a2 b2=>⟨z2,?_⟩⟩
 have er2':=ex4 _ _ (ex3 _ _ er2)
 unfold wi0
 dsimp only [ret3,o3,seq3,set3,tup3,cons3,call3]
 refine tq1 (i:=0) (.inl ⟨rfl,rfl⟩) rfl er2' l61 λ r5 μ5 ex5 er5=>?_
 try dsimp only [nil3]
 refine tp2 er5 ⟨by simp only [length_map]; exact hpos,λ x1 a3 b3=>?_⟩
 refine tq1 (i:=1) (.inr ⟨rfl,rfl⟩) rfl (ex5 _ _ er2') l61 λ r6 μ6 ex6 er6=>?_
 try dsimp only [nil3]
 refine tp2 er6 ⟨by simp only [length_map]; exact hpos,λ y1 a4 b4=>⟨z2,Z0,?_⟩⟩
 refine q1 c x0 y0 x1 y1 μ6 ?_ (ex1.trans (ex2.trans (ex3.trans (ex4.trans (ex5.trans ex6)))))
 simp only [map_map,List.mem_map,Function.comp] at a1 a2 a3 a4 b1 b2 b3 b4
 obtain ⟨s1,h1,rfl⟩:=a1
 obtain ⟨s2,h2,rfl⟩:=a2
 obtain ⟨s3,h3,rfl⟩:=a3
 obtain ⟨s4,h4,rfl⟩:=a4
 exact ⟨⟨s1,h1,rfl⟩,λ s hs=>b1 _ ⟨s,hs,rfl⟩,⟨s2,h2,rfl⟩,λ s hs=>b2 _ ⟨s,hs,rfl⟩,⟨s3,h3,rfl⟩,λ s hs=>b3 _ ⟨s,hs,rfl⟩,⟨s4,h4,rfl⟩,λ s hs=>b4 _ ⟨s,hs,rfl⟩⟩
local macro_rules | `(tactic| simp_arith [$xs,*] $[$l]?)=>`(tactic| simp only [$xs,*,Pv.seq3,Pv.next3,Pv.never3,Pv.brk3,Pv.cnt3,Pv.drop3,Pv.ret3,Pv.retN3,Pv.ifs3,Pv.gn3,Pv.gnil3,Pv.gcons3,Pv.gtup3,Pv.set3,Pv.asg3,Pv.par3,Pv.sub3,Pv.for3,Pv.is3,Pv.ir3,Pv.ir23,Pv.v3,Pv.c3,Pv.o3,Pv.un3,Pv.b3,Pv.and3,Pv.or3,Pv.not3,Pv.andV3,Pv.orV3,Pv.notV3,Pv.if3,Pv.nil3,Pv.cons3,Pv.tup3,Pv.lst3,Pv.call3,Pv.mt3,Pv.comp3,Pv.tt3,Pv.getI,set_cons_zero,set_cons_succ,Pv.int2,Pv.int20,Pv.subR,Pv.mulR,Pv.intR,Pv.sl3,Pv.np3,Pv.pt3,Pv.slR,Pv.modR,Pv.fdivR,Pv.powR,Pv.ltR,Pv.leR,Pv.gtR,Pv.geR,Pv.negR,Pv.addR,Pv.eqR_ii,Pv.eqR_ss,Pv.eqR_bb,Pv.eqR_is,Pv.neR_ii,Pv.neR_ss,Pv.neR_bb,Pv.inR,Pv.ixR,Pv.lenR,Pv.absR,Pv.tupR,Pv.sumR,Pv.tyN,Pv.isIn,Pv.isiR,Pv.appR,Pv.extR,Pv.smt3,Pv.joinR,Pv.splitR,Pv.startsR,Pv.pop3,Pv.lrev3,Pv.strR,Pv.start3,map_cons,map_nil,cons_append,nil_append,length_cons,length_nil,List.replicate,Pv.atI0,Pv.atI1,Pv.atI2,Nat.reduceAdd,Nat.reduceSub,Nat.zero_add,reduceIte,Pv.strs?,Bool.not_true,Bool.not_false,Bool.false_eq_true,if_false,if_true,decide_eq_true_eq,Bool.not_eq_true',decide_eq_false_iff_not,Pv.ixN0,Pv.ixN1,Pv.ixN2,true_and,and_true,Pv.cst0,Pv.cst1,Pv.cst2,Pv.cst3,Int.reduceEq,Option.bind_none,Option.bind_some,Pv.kn_go_jump,Pv.kn_go_turn,Pv.kn_go_times,Pv.kn_jump_go,Pv.kn_jump_turn,Pv.kn_jump_times,Pv.kn_turn_go,Pv.kn_turn_jump,Pv.kn_turn_times,Pv.kn_times_go,Pv.kn_times_jump,Pv.kn_times_turn,Pv.kp_go,Pv.kp_jump,Pv.kp_turn,Pv.kp_times,Pv.kz_go,Pv.kz_jump,Pv.kz_turn,Pv.kz_times] $[$l]?)
open Mt
def sgc (ts:List T3) (x0 y1 r c:Int):Nat :=
 if r % 2=0 /\ c % 2=0 /\ ts.any (has (x0 + c / 2,y1 - r / 2))=true then 43
 else if r % 2=0 /\ c % 2=1 /\ (x0 + c / 2,y1 - r / 2,0) ∈ ts then 45
 else if r % 2=1 /\ c % 2=0 /\ (x0 + c / 2,y1 - r / 2 - 1,1) ∈ ts then 124 else 46
def sgo (n:Nat):Option D:=if n=46 then none else some (.str ⟨#[n]⟩)
def SgOk (ts:List T3) (x0 y1:Int) (kvs:List (List Int × D)):Prop:=∀ r c:Int,valL kvs [r,c]=sgo (sgc ts x0 y1 r c)
theorem zj1 (k:List Int) (v:D) (k':List Int):∀ kvs,valL (putL kvs k v) k'=if k=k' then some v else valL kvs k':=by
 intro kvs
 unfold putL
 by_cases h:(kvs.any λ kv=>decide (kv.1=k))=true
 ·rw [if_pos h]
  unfold valL
  by_cases c:k=k'
  ·subst c
   rw [if_pos rfl]
   induction kvs with
   | nil=>simp at h
   | cons a r ih =>
    rw [map_cons,find?_cons]
    by_cases ca:a.1=k
    ·simp [ca]
    ·simp only [ca,if_false,decide_false]
     refine ih ?_
     rw [any_cons] at h
     simpa [ca] using h
  ·rw [if_neg c]
   clear h
   induction kvs with
   | nil=>rfl
   | cons a r ih =>
    rw [map_cons,find?_cons,find?_cons]
    by_cases ca:a.1=k
    ·have c2:¬ a.1=k':=λ z=>c (ca.symm.trans z)
     simp only [ca,if_true,c,c2,decide_false]
     simpa [ca,c] using ih
    ·simp only [ca,if_false]
     by_cases c2:a.1=k'
     ·simp [c2]
     ·simp only [c2,decide_false]
      exact ih
 ·rw [if_neg h]
  unfold valL
  rw [List.find?_append]
  have hn:kvs.find? (λ kv=>decide (kv.1=k))=none:=by
   rw [List.find?_eq_none]
   intro x hx hc
   exact h (List.any_eq_true.mpr ⟨x,hx,hc⟩)
  by_cases c:k=k'
  ·subst c
   rw [hn,if_pos rfl]
   simp
  ·rw [if_neg c]
   simp [c]
theorem ub1 (kvs:List (List Int × D)) (k:List Int) (v:D):(putL kvs k v).length<=kvs.length + 1:=by
 unfold putL
 split
 ·rw [length_map]; omega
 ·simp
def plc (x0 y1:Int) (p:Pt):List Int:=[2 * (y1 - p.2),2 * (p.1 - x0)]
def hlf (x0 y1:Int) (s:T3):List Int:=[(2 * (y1 - (e0 s).2) + 2 * (y1 - (e1 s).2)) / 2,(2 * ((e0 s).1 - x0) + 2 * ((e1 s).1 - x0)) / 2]
def sgS (s:T3):D:=if s.2.2=0 then .str "-" else .str "|"
theorem pls:(D.str "+")=.str ⟨#[43]⟩:=by have:("+" : Str)=⟨#[43]⟩:=tj0 (by decide +kernel); rw [this]
theorem mns:("-" : Str)=⟨#[45]⟩:=tj0 (by decide +kernel)
theorem brs:("|" : Str)=⟨#[124]⟩:=tj0 (by decide +kernel)
theorem dots:("." : Str)=⟨#[46]⟩:=tj0 (by decide +kernel)
theorem ite3 {A A' B B' C C':Prop} [Decidable A] [Decidable A'] [Decidable B] [Decidable B'] [Decidable C] [Decidable C'] (ha:A ↔ A') (hb:B ↔ B') (hc:C ↔ C'):(if A then 43 else if B then 45 else if C then 124 else 46:Nat)=if A' then 43 else if B' then 45 else if C' then 124 else 46:=by simp only [ha,hb,hc]
theorem wd3 {js:List T3} {x0 y1:Int} {kvs:List (List Int × D)} {s:T3} (hw:wy s) (h:SgOk js x0 y1 kvs):SgOk (js ++ [s]) x0 y1 (putL (putL (putL kvs (plc x0 y1 (e0 s)) (.str "+")) (plc x0 y1 (e1 s)) (.str "+")) (hlf x0 y1 s) (sgS s)):=by
 intro r c
 rw [zj1,zj1,zj1,h r c]
 obtain ⟨x,y,w⟩:=s
 have hany:∀ p,(js ++ [(x,y,w)]).any (has p)=(js.any (has p) || has p (x,y,w)):=λ p=>by rw [List.any_append]; simp
 have hmem:∀ q,q ∈ js ++ [(x,y,w)] ↔ q ∈ js \/ q=(x,y,w):=λ q=>by rw [mem_append,mem_singleton]
 unfold sgc
 simp only [hany,hmem,Bool.or_eq_true]
 have hh:has (x0 + c / 2,y1 - r / 2) (x,y,w)=true ↔ (x=x0 + c / 2 /\ y=y1 - r / 2) \/ (x + 1 - w=x0 + c / 2 /\ y + w=y1 - r / 2):=by
  unfold has e0 e1
  simp only [Bool.or_eq_true,decide_eq_true_eq,Prod.mk.injEq]
 simp only [hh,plc,hlf,e0,e1,List.cons.injEq,and_true,Prod.mk.injEq]
 have hw':w=0 \/ w=1:=hw
 by_cases k3:(2 * (y1 - y) + 2 * (y1 - (y + w))) / 2=r /\ (2 * (x - x0) + 2 * (x + 1 - w - x0)) / 2=c
 ·rw [if_pos k3]
  rcases hw' with rfl | rfl
  ·rw [if_neg (by omega),if_pos (by omega)]
   unfold sgS sgo
   rw [if_pos rfl,if_neg (by decide),mns]
  ·rw [if_neg (by omega),if_neg (by omega),if_pos (by omega)]
   unfold sgS sgo
   rw [if_neg (show ¬ (1:Int)=0 by decide),if_neg (by decide),brs]
 ·rw [if_neg k3]
  by_cases k2:2 * (y1 - (y + w))=r /\ 2 * (x + 1 - w - x0)=c
  ·rw [if_pos k2,if_pos (by omega)]
   unfold sgo
   rw [if_neg (by decide),pls]
  ·rw [if_neg k2]
   by_cases k1:2 * (y1 - y)=r /\ 2 * (x - x0)=c
   ·rw [if_pos k1,if_pos (by omega)]
    unfold sgo
    rw [if_neg (by decide),pls]
   ·rw [if_neg k1]
    congr 1
    refine ite3 ⟨λ z=>⟨z.1,z.2.1,.inl z.2.2⟩,λ z=>⟨z.1,z.2.1,z.2.2.resolve_right ?_⟩⟩ ⟨λ z=>⟨z.1,z.2.1,.inl z.2.2⟩,λ z=>⟨z.1,z.2.1,z.2.2.resolve_right ?_⟩⟩ ⟨λ z=>⟨z.1,z.2.1,.inl z.2.2⟩,λ z=>⟨z.1,z.2.1,z.2.2.resolve_right ?_⟩⟩
    ·have:=z.1; have:=z.2.1; omega
    ·have:=z.1; have:=z.2.1; omega
    ·have:=z.1; have:=z.2.1; omega
def encB (x0 y0 x1 y1:Int):D:=.tup [.int x0,.int y0,.int x1,.int y1]
def spSg:Sp3:=λ ds μ Q=>∃ (ts:List T3) (x0 y0 x1 y1:Int),ds=[.tup (ts.map encT),encB x0 y0 x1 y1] /\ (∀ t ∈ ts,wy t) /\ ts.length < 60 /\ ∀ d kvs μ',Ext μ μ'->μ' d=some (.dcl kvs)->SgOk ts x0 y1 kvs->Q (.ref d) μ'
def plD (l:List Int):D:=.tup (l.map .int)
theorem ix2 {w:Nat} {ρ:St3} {p:Addr} {l:List D} {i j:Int} {d1 d2:D} {μ:Mu} {K:VK3} (hv:getI ρ w=some (.ref p)) (h:μ p=some (.lst l)) (e1:atI l i=some d1) (e2:∀ K:VK3,K d2 μ->ixR d1 (.int j) μ K) (k:K d2 μ):o3 ixR (o3 ixR (v3 w) (c3 (.int i))) (c3 (.int j)) ρ μ K:=by
 unfold o3 v3 c3
 rw [hv]
 exact yg0 h e1 (e2 _ k)
theorem hf_l {ρ:St3} {r:Addr} {a0 b0 a1 b1:Int} {μ:Mu} {K:VK3} (hv:getI ρ 4=some (.ref r)) (h:μ r=some (.lst [.tup [.int a0,.int b0],.tup [.int a1,.int b1]])) (k:K (.tup [.int ((a0 + a1) / 2),.int ((b0 + b1) / 2)]) μ) :
    (tup3 (cons3 (o3 fdivR (o3 addR (o3 ixR (o3 ixR (v3 4) (c3 (.int 0))) (c3 (.int 0))) (o3 ixR (o3 ixR (v3 4) (c3 (.int 1))) (c3 (.int 0)))) (c3 (.int 2))) (cons3 (o3 fdivR (o3 addR (o3 ixR (o3 ixR (v3 4) (c3 (.int 0))) (c3 (.int 1))) (o3 ixR (o3 ixR (v3 4) (c3 (.int 1))) (c3 (.int 1)))) (c3 (.int 2))) nil3))) ρ μ K:=by
 have d2:(0:Int) < 2 /\ (2:Int) < 2 ^ 120:=⟨by decide,by decide⟩
 have i00:∀ K:VK3,K (.int a0) μ->(o3 ixR (o3 ixR (v3 4) (c3 (.int 0))) (c3 (.int 0))) ρ μ K:=λ K k=>ix2 hv h rfl (λ K k=>k) k
 have i10:∀ K:VK3,K (.int a1) μ->(o3 ixR (o3 ixR (v3 4) (c3 (.int 1))) (c3 (.int 0))) ρ μ K:=λ K k=>ix2 hv h rfl (λ K k=>k) k
 have i01:∀ K:VK3,K (.int b0) μ->(o3 ixR (o3 ixR (v3 4) (c3 (.int 0))) (c3 (.int 1))) ρ μ K:=λ K k=>ix2 hv h rfl (λ K k=>k) k
 have i11:∀ K:VK3,K (.int b1) μ->(o3 ixR (o3 ixR (v3 4) (c3 (.int 1))) (c3 (.int 1))) ρ μ K:=λ K k=>ix2 hv h rfl (λ K k=>k) k
 generalize o3 ixR (o3 ixR (v3 4) (c3 (.int 0))) (c3 (.int 0))=t00 at i00 ⊢
 generalize o3 ixR (o3 ixR (v3 4) (c3 (.int 1))) (c3 (.int 0))=t10 at i10 ⊢
 generalize o3 ixR (o3 ixR (v3 4) (c3 (.int 0))) (c3 (.int 1))=t01 at i01 ⊢
 generalize o3 ixR (o3 ixR (v3 4) (c3 (.int 1))) (c3 (.int 1))=t11 at i11 ⊢
 exact i00 _ (i10 _ ⟨d2,i01 _ (i11 _ ⟨d2,z2,k⟩)⟩)
theorem hf_s {rest:TS3} {D':Ends3} {ρ:St3} {r:Addr} {a0 b0 a1 b1:Int} {μ:Mu} (hv:getI ρ 4=some (.ref r)) (h:μ r=some (.lst [.tup [.int a0,.int b0],.tup [.int a1,.int b1]])) (k:rest D' (ρ.set 6 (some (.tup [.int ((a0 + a1) / 2),.int ((b0 + b1) / 2)]))) μ) :
    (seq3 (set3 6 (tup3 (cons3 (o3 fdivR (o3 addR (o3 ixR (o3 ixR (v3 4) (c3 (.int 0))) (c3 (.int 0))) (o3 ixR (o3 ixR (v3 4) (c3 (.int 1))) (c3 (.int 0)))) (c3 (.int 2))) (cons3 (o3 fdivR (o3 addR (o3 ixR (o3 ixR (v3 4) (c3 (.int 0))) (c3 (.int 1))) (o3 ixR (o3 ixR (v3 4) (c3 (.int 1))) (c3 (.int 1)))) (c3 (.int 2))) nil3)))) rest) D' ρ μ:=by
 unfold seq3 set3
 exact hf_l hv h k
theorem dp_l {w u:Nat} {tv:TE3} {D':Ends3} {ρ:St3} {d:Addr} {kvs:List (List Int × D)} {k:List Int} {v:D} {μ:Mu} (hd:getI ρ w=some (.ref d)) (hk:getI ρ u=some (plD k)) (hm:μ d=some (.dcl kvs)) (hl:kvs.length < 90000) (hv:∀ K:VK3,K v μ->tv ρ μ K) (kk:D'.nx ρ (updM μ d (.dcl (putL kvs k v)))):to0 (v3 w) (v3 u) tv D' ρ μ:=by
 have hi:∀ k:List Int,ints? (k.map D.int)=some k:=λ k=>by
  induction k with
  | nil=>rfl
  | cons a r ih=>simp only [map_cons,ints?,ih]
 unfold to0 v3
 refine hv _ ?_
 rw [hd,hk]
 simp only [plD,keyI,hi,hm]
 exact ⟨hl,kk⟩
theorem zz3 (ds:List D) (μ:Mu) (Q:VK3) (h:spSg ds μ Q):zq3 sr0 { nx:=λ _ μ'=>Q .non μ',rt:=Q } (start3 yn3 ds) μ:=by
 obtain ⟨ts,x0,y0,x1,y1,rfl,hw,hl,q⟩:=h
 have hz:(1000:Nat) < sizeLine:=by decide
 intro d hd
 refine wh0 (λ l ρ μ'=>∃ (js ks:List T3) (kvs:List (List Int × D)) (y3 y4 y5 y6:Option D),l=ks.map encT /\ js ++ ks=ts /\ ρ=[some (.tup (ts.map encT)),some (encB x0 y0 x1 y1),some (.ref d),y3,y4,y5,y6] /\ Ext μ μ' /\ μ' d=some (.dcl kvs) /\ SgOk js x0 y1 kvs /\ kvs.length<=3 * js.length) ?_ (λ _ _ _ _=>trivial) ?_ ?_
 ·refine ⟨[],ts,[],none,none,none,none,rfl,rfl,rfl,Ext.new hd,va0,λ r c=>?_,Nat.le_refl _⟩
  show none=sgo _
  simp [sgc,sgo]
 ·rintro ρ μ' ⟨js,ks,kvs,y3,y4,y5,y6,e,ej,rfl,ex,ed,ok,_⟩
  cases ks with
  | cons _ _=>cases e
  | nil =>
   rw [append_nil] at ej
   subst ej
   exact q d kvs μ' ex ed ok
 ·rintro x rest ρ μ' ⟨js,ks,kvs,y3,y4,y5,y6,e,ej,rfl,ex,ed,ok,kl⟩
  cases ks with
  | nil=>cases e
  | cons s ks =>
   rw [map_cons] at e
   injection e with e1' e2'
   subst e1' e2'
   have hs:s ∈ ts:=by rw [<- ej]; simp
   have lj:js.length < 60:=by rw [<- ej,length_append] at hl; omega
   refine ⟨s,rfl,hw s hs,λ r hr=>?_⟩
   refine zh0 (rest:=[some (encB x0 y0 x1 y1)]) (λ d=>plD (plc x0 y1 (match d with | .tup [.int a,.int b]=>(a,b) | _=>(0,0)))) hr (show 2<=sizeLine by decide) (λ _ _=>trivial) ?_ ?_
   ·intro x hx μ2 R ex2 kk
    have hxx:∃ p:Pt,x=encQ p:=by
     rcases List.mem_cons.mp hx with rfl | hx
     ·exact ⟨_,rfl⟩
     ·rw [mem_singleton] at hx; exact ⟨_,hx⟩
    obtain ⟨p,rfl⟩:=hxx
    exact ⟨.inl (.inl (by decide)),.inl (.inl (by decide)),z2,kk μ2 (Ext.refl _)⟩
   ·intro μ2 ex2 er
    have er':μ2 r=some (.lst [plD (plc x0 y1 (e0 s)),plD (plc x0 y1 (e1 s))]):=er
    have ed2:=ex2 _ _ ed
    have nrd:r ≠ d:=ud0 ed hr |>.symm
    conv=>whnf
    rw [er']
    have hP:plc x0 y1 (e0 s)=plc x0 y1 (e0 s):=rfl
    generalize h0:plc x0 y1 (e0 s)=P0
    generalize h1:plc x0 y1 (e1 s)=P1
    rw [h0,h1] at er'
    refine wh0 (λ l ρ μ3=>∃ y5,ρ=[some (.tup (ts.map encT)),some (encB x0 y0 x1 y1),some (.ref d),some (encT s),some (.ref r),y5,y6] /\ Ext μ μ3 /\ μ3 r=some (.lst [plD P0,plD P1]) /\ ((l=[plD P0,plD P1] /\ μ3 d=some (.dcl kvs)) \/ (l=[plD P1] /\ μ3 d=some (.dcl (putL kvs P0 (.str "+")))) \/ (l=[] /\ μ3 d=some (.dcl (putL (putL kvs P0 (.str "+")) P1 (.str "+")))))) ?_ ?_ ?_ ?_
    ·exact ⟨_,rfl,ex.trans ex2,er',.inl ⟨rfl,ed2⟩⟩
    ·rintro l ρ μ3 ⟨_,_,_,h,_⟩
     exact h
    ·rintro ρ μ3 ⟨y5,rfl,ex3,er3,h | h | ⟨_,ed3⟩⟩
     ·cases h.1
     ·cases h.1
     ·have l1:=ub1 kvs P0 (.str "+")
      have l2:=ub1 (putL kvs P0 (.str "+")) P1 (.str "+")
      subst h0 h1
      dsimp only
      refine hf_s rfl er3 ?_
      have okn:=wd3 (hw s hs) ok
      refine dp_l (k:=hlf x0 y1 s) (v:=sgS s) rfl rfl ed3 (by omega) (λ K k=>?_) ?_
      ·obtain ⟨x,y,w⟩:=s
       rcases hw _ hs with e | e <;> dsimp only at e <;> subst e <;> exact k
      ·refine ⟨js ++ [s],ks,_,_,_,_,_,rfl,by rw [<- ej]; simp,rfl,λ c o hc=>?_,va0,okn,?_⟩
       ·rw [xb0 (ud0 hc hd)]; exact ex3 c o hc
       ·have l3:=ub1 (putL (putL kvs (plc x0 y1 (e0 s)) (.str "+")) (plc x0 y1 (e1 s)) (.str "+")) (hlf x0 y1 s) (sgS s)
        rw [length_append]
        simp only [length_cons,length_nil]
        omega
    ·rintro x rest ρ μ3 ⟨y5,rfl,ex3,er3,h⟩
     have l1:=ub1 kvs P0 (.str "+")
     have nx:∀ o,Ext μ (updM μ3 d o) /\ updM μ3 d o r=some (.lst [plD P0,plD P1]):=λ o=>⟨λ c o' hc=>by rw [xb0 (ud0 hc hd)]; exact ex3 c o' hc,by rw [xb0 nrd]; exact er3⟩
     rcases h with ⟨e,ed3⟩ | ⟨e,ed3⟩ | ⟨e,_⟩
     ·injection e with e3 e4
      subst e3 e4
      exact dp_l (k:=P0) (v:=.str "+") rfl rfl ed3 (by omega) (λ K k=>k) ⟨_,rfl,(nx _).1,(nx _).2,.inr (.inl ⟨rfl,va0⟩)⟩
     ·injection e with e3 e4
      subst e3 e4
      exact dp_l (k:=P1) (v:=.str "+") rfl rfl ed3 (by omega) (λ K k=>k) ⟨_,rfl,(nx _).1,(nx _).2,.inr (.inr ⟨rfl,va0⟩)⟩
     ·cases e
def rowS (ts:List T3) (x0 y1 r:Int) (w:Nat):Str:=⟨((List.range w).map λ c:Nat=>sgc ts x0 y1 r c).toArray⟩
def vd0 (ts:List T3) (x0 y1:Int) (w h:Nat):List Str:=(List.range (2 * h + 1)).map λ r:Nat=>rowS ts x0 y1 r (2 * w + 1)
theorem xn2 (ts:List T3) (x0 y1 r:Int) (w:Nat):Str.join "" ((List.range w).map λ c:Nat=>(⟨#[sgc ts x0 y1 r c]⟩:Str))=rowS ts x0 y1 r w:=by
 refine tj0 ?_
 rw [uq1,map_map]
 show _=((List.range w).map λ c:Nat=>sgc ts x0 y1 r c).toArray.toList
 simp only [List.toList_toArray]
 induction List.range w with
 | nil=>rfl
 | cons a l ih=>rw [map_cons,flatten_cons,map_cons,ih]; rfl
theorem gd_l {d:Addr} {kvs:List (List Int × D)} {ts:List T3} {x0 y1 r i:Int} {μ:Mu} {K:VK3} (hd:μ d=some (.dcl kvs)) (ok:SgOk ts x0 y1 kvs) (k:K (.str ⟨#[sgc ts x0 y1 r i]⟩) μ):gdf3 (v3 1) (cons3 (tup3 (cons3 (v3 2) (cons3 (v3 0) nil3))) (cons3 (c3 (.str ".")) nil3)) [some (.int i),some (.ref d),some (.int r)] μ K:=by
 have e:=ok r i
 conv=>whnf
 rw [hd]
 refine ⟨z2,?_⟩
 show (match (some [r,i]:Option (List Int)),μ d with
       | some k,some (.dcl kvs)=>(match valL kvs k with
        | some v=>K v μ
        | none=>K (.str ".") μ)
       | _,_=>False)
 rw [hd]
 dsimp only
 rw [e]
 unfold sgo
 by_cases c:sgc ts x0 y1 r i=46
 ·rw [if_pos c]
  rw [c] at k
  dsimp only
  rw [dots]
  exact k
 ·rw [if_neg c]
  exact k
def spSl:Sp3:=λ ds μ Q=>∃ (d:Addr) (kvs:List (List Int × D)) (r:Int) (w:Nat) (ts:List T3) (x0 y1:Int),ds=[.ref d,.int r,.int w] /\ μ d=some (.dcl kvs) /\ SgOk ts x0 y1 kvs /\ w<=200 /\ ∀ μ',Ext μ μ'->Q (.str (rowS ts x0 y1 r w)) μ'
theorem vz3 (ds:List D) (μ:Mu) (Q:VK3) (h:spSl ds μ Q):vq3 { nx:=λ _ μ'=>Q .non μ',rt:=Q } (start3 wn3 ds) μ:=by
 obtain ⟨d,kvs,r,w,ts,x0,y1,rfl,hd,ok,hw,q⟩:=h
 have hz:(1000:Nat) < sizeLine:=by decide
 have lw:(rngD 0 ((w:Int)).toNat).length=w:=by simp [rngD]
 refine ⟨⟨by omega,by omega⟩,λ p hp=>?_⟩
 refine zh0 (rest:=[some (.ref d),some (.int r)]) (λ dd=>.str ⟨#[sgc ts x0 y1 r (match dd with | .int i=>i | _=>0)]⟩) hp (by rw [lw]; omega) (λ _ _=>trivial) ?_ ?_
 ·intro x hx μ' R ex kk
  obtain ⟨i,_,rfl⟩:=List.mem_map.mp hx
  exact gd_l (ex _ _ hd) ok (kk μ' (Ext.refl _))
 ·intro μ' ex e
  have el:(rngD 0 ((w:Int)).toNat).map (λ dd=>D.str ⟨#[sgc ts x0 y1 r (match dd with | .int i=>i | _=>0)]⟩)=sD ((List.range w).map λ c:Nat=>(⟨#[sgc ts x0 y1 r c]⟩:Str)):=by
   unfold rngD sD
   rw [map_map,map_map,Int.toNat_natCast]
   apply map_congr_left
   intro i _
   show D.str ⟨#[sgc ts x0 y1 r (0 + (i:Int))]⟩=_
   rw [Int.zero_add]; rfl
  rw [el] at e
  dsimp only [nil3]
  refine jo_l e (by decide +kernel) ?_ ?_
  ·have:((List.range w).map λ c:Nat=>(⟨#[sgc ts x0 y1 r c]⟩:Str)).map (·.length)=(List.range w).map λ _=>1:=by rw [map_map]; rfl
   rw [this,length_map,length_range,List.map_const',List.sum_replicate_nat]
   simp; omega
  ·rw [xn2]
   exact q μ' ex
def tl2:Sp3:=λ ds μ Q=>∃ (ts:List T3) (x0 y0 x1 y1:Int) (w h:Nat),ds=[.tup (ts.map encT),encB x0 y0 x1 y1] /\ (∀ t ∈ ts,wy t) /\ ts.length < 60 /\ x1 - x0=w /\ y1 - y0=h /\ w<=60 /\ h<=60 /\ ∀ p μ',Ext μ μ'->μ' p=some (.lst (sD (vd0 ts x0 y1 w h)))->Q (.ref p) μ'
theorem wz3 (ds:List D) (μ:Mu) (Q:VK3) (h:tl2 ds μ Q):wq3 spSl spSg { nx:=λ _ μ'=>Q .non μ',rt:=Q } (start3 zn3 ds) μ:=by
 obtain ⟨ts,x0,y0,x1,y1,w,h,rfl,hw,hl,ew,eh,w6,h6,q⟩:=h
 have hz:(1000:Nat) < sizeLine:=by decide
 refine ⟨ts,x0,y0,x1,y1,rfl,hw,hl,λ d kvs μ1 ex1 ed ok=>?_⟩
 have e2:(2 * (y1 - y0) + 1).toNat=2 * h + 1:=by omega
 have e3:2 * (x1 - x0) + 1=((2 * w + 1:Nat):Int):=by omega
 have lw:(rngD 0 (2 * (y1 - y0) + 1).toNat).length=2 * h + 1:=by rw [e2]; simp [rngD]
 refine ⟨.inl (.inl (by decide)),.inl (.inl (by decide)),⟨by omega,by omega⟩,λ p hp=>?_⟩
 refine zh0 (rest:=[some (.ref d),some (.int (2 * (x1 - x0) + 1))]) (λ dd=>.str (rowS ts x0 y1 (match dd with | .int i=>i | _=>0) (2 * w + 1))) hp (by rw [lw]; omega) (λ _ _=>trivial) ?_ ?_
 ·intro x hx μ' R ex kk
  obtain ⟨i,_,rfl⟩:=List.mem_map.mp hx
  refine ⟨d,kvs,0 + (i:Int),2 * w + 1,ts,x0,y1,?_,ex _ _ ed,ok,by omega,λ μ2 ex2=>kk μ2 ex2⟩
  rw [<- e3]
 ·intro μ' ex e
  refine q p μ' (ex1.trans ex) ?_
  rw [e,e2]
  unfold rngD sD vd0
  rw [map_map,map_map]
  congr 2
  apply map_congr_left
  intro i _
  show D.str (rowS ts x0 y1 (0 + (i:Int)) (2 * w + 1))=_
  rw [Int.zero_add]; rfl
def cnl (x0 y0:Int):Str:=Str.join " " [nsT x0,nsT y0]
def gd (n:Int):Prop:=-G<=n /\ n<=G
def spCl:Sp3:=λ ds μ Q=>∃ x0 y0 x1 y1:Int,ds=[encB x0 y0 x1 y1] /\ gd x0 /\ gd y0 /\ ∀ μ',Ext μ μ'->Q (.str (cnl x0 y0)) μ'
theorem wd1 {x0 y0:Int} (h:gd x0) (k:gd y0):(cnl x0 y0).length<=43:=by
 unfold cnl
 rw [uj0,su0]
 show (cp (nsT x0) ++ 32 :: cp (nsT y0)).length<=43
 have:=yo0 h
 have:=yo0 k
 rw [length_append,length_cons]
 omega
theorem ta4 (ds:List D) (μ:Mu) (Q:VK3) (h:spCl ds μ Q):ur3 { nx:=λ _ μ'=>Q .non μ',rt:=Q } (start3 to3 ds) μ:=by
 obtain ⟨x0,y0,x1,y1,rfl,gx0,gy0,q⟩:=h
 refine ⟨xp1 gx0,xp1 gy0,z2,λ p hp=>?_⟩
 dsimp only [nil3]
 refine jo_l (l:=[nsT x0,nsT y0]) va0 (by decide +kernel) ?_ (q _ (Ext.new hp))
 have:=yo0 gx0
 have:=yo0 gy0
 simp only [map_cons,map_nil,List.sum_cons,List.sum_nil,length_cons,length_nil]
 rw [uj0,uj0]
 omega
def xl0 (ts:List T3) (x0 y0 y1:Int) (w h:Nat):Str:=Str.join "\n" (cnl x0 y0 :: vd0 ts x0 y1 w h)
theorem yl0 (ts:List T3) (x0 y1 r:Int) (w:Nat):(rowS ts x0 y1 r w).length=w:=by simp [rowS,Str.length]
theorem sa1 (ts:List T3) (x0 y1:Int) (w h:Nat):((vd0 ts x0 y1 w h).map (·.length)).sum=(2 * h + 1) * (2 * w + 1):=by
 unfold vd0
 rw [map_map]
 have:((λ x:Str=>x.length) ∘ λ r:Nat=>rowS ts x0 y1 r (2 * w + 1))=λ _=>2 * w + 1:=by funext r; exact yl0 ..
 rw [this,List.map_const',List.sum_replicate_nat,length_range]
def gds (ts:List T3):Prop:=∀ s ∈ ts,gd s.1 /\ gd s.2.1
def ul2 (XE:XE3):Sp3:=λ ds μ Q=>∃ ts:List T3,ds=[.tup (ts.map encT)] /\ Pc ts /\ gds ts /\ (ts=[]->∀ μ',Ext μ μ'->Q (.str "none") μ') /\ (ts ≠ []->∀ x0 y0 x1 y1 μ',Bx ts x0 y0 x1 y1->Ext μ μ'->((40<=x1 - x0 \/ 40<=y1 - y0)->XE "NoRoom" μ') /\ (∀ w h:Nat,x1 - x0=w->y1 - y0=h->w < 40->h < 40->Q (.str (xl0 ts x0 y0 y1 w h)) μ'))
theorem uz3 (XE:XE3) (ds:List D) (μ:Mu) (Q:VK3) (h:ul2 XE ds μ Q):uq3 XE zn1 spCl zm2 tl2 { nx:=λ _ μ'=>Q .non μ',rt:=Q } (start3 vn3 ds) μ:=by
 obtain ⟨ts,rfl,hP,hg,q0,q1⟩:=h
 have hz:(1048576:Nat) < sizeLine:=by decide
 refine ⟨ts,rfl,hP,?_⟩
 refine ⟨ts,rfl,hP.2.1,hP.2.2,λ c=>q0 c μ (Ext.refl _),λ c x0 y0 x1 y1 μ1 bx ex1=>?_⟩
 obtain ⟨qx,qs⟩:=q1 c x0 y0 x1 y1 μ1 bx ex1
 have sx:x0<=x1:=by
  obtain ⟨s,hs,e⟩:=bx.a0
  have:=bx.l1 s hs
  have hw:=hP.2.1 s hs
  unfold gx at this
  rcases hw with e2 | e2 <;> rw [e2] at this <;> omega
 have sy:y0<=y1:=by
  obtain ⟨s,hs,e⟩:=bx.b0
  have:=bx.m1 s hs
  have hw:=hP.2.1 s hs
  unfold gy at this
  rcases hw with e2 | e2 <;> rw [e2] at this <;> omega
 show sl0 XE zn1 spCl zm2 tl2 _ [some (.tup (ts.map encT)),some (encB x0 y0 x1 y1)] μ1
 have M:∀ m:Int,m=(if y1 - y0 > x1 - x0 then y1 - y0 else x1 - x0)->(m ≥ 40 ↔ (40<=x1 - x0 \/ 40<=y1 - y0)):=λ m e=>by
  rw [e]; split <;> omega
 have M':=M _ rfl
 show if decide ((40:Int)<=(if y1 - y0 > x1 - x0 then y1 - y0 else x1 - x0))=true then _ else _
 generalize (if y1 - y0 > x1 - x0 then y1 - y0 else x1 - x0)=m at M'
 by_cases cm:(40:Int)<=m
 ·rw [decide_eq_true cm,if_pos rfl]
  exact ⟨by decide,qx (M'.mp cm)⟩
 ·rw [decide_eq_false cm,if_neg (by decide)]
  have nb:=λ z=>cm (M'.mpr z)
  have ew:x1 - x0=((x1 - x0).toNat:Int):=by omega
  have eh:y1 - y0=((y1 - y0).toNat:Int):=by omega
  have q9:=qs _ _ ew eh (by omega) (by omega)
  have bg:gd x0 /\ gd y0:=by
   obtain ⟨s,hs,rfl⟩:=bx.a0
   obtain ⟨s',hs',rfl⟩:=bx.b0
   exact ⟨(hg s hs).1,(hg s' hs').2⟩
  refine ⟨x0,y0,x1,y1,rfl,bg.1,bg.2,λ μ2 ex2=>⟨Z1,λ p hp=>?_⟩⟩
  refine ⟨ts,x0,y0,x1,y1,_,_,rfl,hP.2.1,hP.2.2,ew,eh,by omega,by omega,λ p2 μ3 ex3 e3=>?_⟩
  have e1:μ3 p=some (.lst [.str (cnl x0 y0)]):=ex3 _ _ va0
  have rs:=sa1 ts x0 y1 (x1 - x0).toNat (y1 - y0).toNat
  have rl:(vd0 ts x0 y1 (x1 - x0).toNat (y1 - y0).toNat).length=2 * (y1 - y0).toNat + 1:=by simp [vd0]
  have hc:=wd1 bg.1 bg.2
  have hm:(2 * (y1 - y0).toNat + 1) * (2 * (x1 - x0).toNat + 1)<=79 * 79:=Nat.mul_le_mul (by omega) (by omega)
  show addR (.ref p) (.ref p2) μ3 (λ d μ1=>_)
  simp only [addR,e1,e3]
  refine ⟨by rw [uv2,rl]; simp only [length_cons,length_nil]; omega,λ p4 hp4=>?_⟩
  dsimp only [nil3]
  refine jo_l (l:=cnl x0 y0 :: vd0 ts x0 y1 (x1 - x0).toNat (y1 - y0).toNat) va0 (by decide +kernel) ?_ ?_
  ·simp only [map_cons,List.sum_cons,length_cons]
   rw [rs,rl]
   omega
  ·obtain ⟨_,qq⟩:=q1 c x0 y0 x1 y1 _ bx (ex1.trans (ex2.trans ((Ext.new hp).trans (ex3.trans (Ext.new hp4)))))
   exact qq _ _ ew eh (by omega) (by omega)
theorem forR {S:Mu->Prop} {g:TG3} {tb:TS3} {D':Ends3} (V:Nat->St3->Mu->Prop) {n:Nat} {ρ:St3} {μ:Mu} (hS:∀ μ,S μ) (h0:V 0 ρ μ) (hn:∀ ρ μ,V n ρ μ->D'.nx ρ μ)
    (hs:∀ i ρ μ,i < n->V i ρ μ->g (.int (i:Int)) ρ μ λ ρ1 μ1=>tb { D' with nx:=V (i + 1),ct:=V (i + 1),bk:=D'.nx } ρ1 μ1):vw1 S g tb D' (rngD 0 n) ρ μ:=by
 have main:∀ k i ρ μ,i + k=n->V i ρ μ->vw1 S g tb D' (rngD (i:Int) k) ρ μ:=by
  intro k
  induction k with
  | zero =>
   intro i ρ μ e v
   have e':i=n:=e
   rw [e'] at v
   exact ⟨hS μ,hn _ _ v⟩
  | succ k ih =>
   intro i ρ μ e v
   rw [zm0]
   exact ⟨hS μ,V (i + 1),λ ρ' μ' v'=>ih (i + 1) ρ' μ' (by omega) v',hs i ρ μ (by omega) v⟩
 exact main n 0 ρ μ (Nat.zero_add n) h0
theorem wa3 {α:Type} {l:List α} {i:Nat} {v:α} (h:l[i]?=some v):atI l (i:Int)=some v:=by
 have hl:i < l.length:=(List.getElem?_eq_some_iff.mp h).1
 unfold atI ixN
 rw [if_pos (by omega),if_pos (by omega),Int.toNat_natCast]
 exact h
def Bw (ts:List T3) (x0 y0 y1:Int) (w h:Nat):Prop:=∃ x1,Bx ts x0 y0 x1 y1 /\ x1 - x0=w /\ y1 - y0=h /\ w < 40 /\ h < 40
local macro_rules | `(tactic| simp_arith [$xs,*] $[$l]?)=>`(tactic| simp only [$xs,*,Pv.seq3,Pv.next3,Pv.never3,Pv.brk3,Pv.cnt3,Pv.drop3,Pv.ret3,Pv.retN3,Pv.ifs3,Pv.gn3,Pv.gnil3,Pv.gcons3,Pv.gtup3,Pv.set3,Pv.asg3,Pv.par3,Pv.sub3,Pv.for3,Pv.is3,Pv.ir3,Pv.ir23,Pv.v3,Pv.c3,Pv.o3,Pv.un3,Pv.b3,Pv.and3,Pv.or3,Pv.not3,Pv.andV3,Pv.orV3,Pv.notV3,Pv.if3,Pv.nil3,Pv.cons3,Pv.tup3,Pv.lst3,Pv.call3,Pv.mt3,Pv.comp3,Pv.tt3,Pv.getI,set_cons_zero,set_cons_succ,Pv.int2,Pv.int20,Pv.subR,Pv.mulR,Pv.intR,Pv.sl3,Pv.np3,Pv.pt3,Pv.slR,Pv.modR,Pv.fdivR,Pv.powR,Pv.ltR,Pv.leR,Pv.gtR,Pv.geR,Pv.negR,Pv.addR,Pv.eqR_ii,Pv.eqR_ss,Pv.eqR_bb,Pv.eqR_is,Pv.neR_ii,Pv.neR_ss,Pv.neR_bb,Pv.inR,Pv.ixR,Pv.lenR,Pv.absR,Pv.tupR,Pv.sumR,Pv.tyN,Pv.isIn,Pv.isiR,Pv.appR,Pv.extR,Pv.smt3,Pv.joinR,Pv.splitR,Pv.startsR,Pv.pop3,Pv.lrev3,Pv.strR,Pv.start3,map_cons,map_nil,cons_append,nil_append,length_cons,length_nil,List.replicate,Pv.atI0,Pv.atI1,Pv.atI2,Nat.reduceAdd,Nat.reduceSub,Nat.zero_add,reduceIte,Pv.strs?,Bool.not_true,Bool.not_false,Bool.false_eq_true,if_false,if_true,decide_eq_true_eq,Bool.not_eq_true',decide_eq_false_iff_not,Pv.ixN0,Pv.ixN1,Pv.ixN2,true_and,and_true,Pv.cst0,Pv.cst1,Pv.cst2,Pv.cst3,Int.reduceEq,Option.bind_none,Option.bind_some,Pv.kn_go_jump,Pv.kn_go_turn,Pv.kn_go_times,Pv.kn_jump_go,Pv.kn_jump_turn,Pv.kn_jump_times,Pv.kn_turn_go,Pv.kn_turn_jump,Pv.kn_turn_times,Pv.kn_times_go,Pv.kn_times_jump,Pv.kn_times_turn,Pv.kp_go,Pv.kp_jump,Pv.kp_turn,Pv.kp_times,Pv.kz_go,Pv.kz_jump,Pv.kz_turn,Pv.kz_times] $[$l]?)
def ptk (p:Pt):List Int:=[p.1,p.2]
theorem xk3 (p:Pt):keyI (encQ p)=some (ptk p):=rfl
theorem tb1 {p q:Pt} (h:ptk p=ptk q):p=q:=by
 unfold ptk at h
 injection h with h1 h2
 injection h2 with h2 _
 exact Prod.ext h1 h2
theorem Ext.upd {μ0 μ:Mu} {p:Addr} {o:MO} (e:Ext μ0 μ) (h:μ0 p=none):Ext μ0 (updM μ p o):=λ a u q=>by
 rw [xb0 (ud0 q h)]; exact e a u q
def pmk (ks:List Pt) (f:Pt->D):List (List Int × D):=ks.map λ p=>(ptk p,f p)
theorem zc2 {ks:List Pt} {f g:Pt->D} (h:∀ p ∈ ks,f p=g p):pmk ks f=pmk ks g:=map_congr_left λ t ht=>by rw [h t ht]
theorem wk1 {f:Pt->D} {p:Pt}:∀ {ks:List Pt},p ∈ ks->valL (pmk ks f) (ptk p)=some (f p)
 | x :: r,h=>by
  unfold valL pmk
  rw [map_cons,find?_cons]
  by_cases c:x=p
  ·subst c; simp
  ·have c1:¬ ptk x=ptk p:=λ z=>c (tb1 z)
   simp only [c1,decide_false]
   exact wk1 (f:=f) ((List.mem_cons.mp h).resolve_left (Ne.symm c))
theorem zw2 {f:Pt->D} {p:Pt} {ks:List Pt} (h:p ∉ ks):valL (pmk ks f) (ptk p)=none:=by
 unfold valL
 rw [List.find?_eq_none.mpr]; rfl
 intro x hx z
 obtain ⟨y,hy,rfl⟩:=List.mem_map.mp hx
 have:=tb1 (of_decide_eq_true z)
 subst this
 exact h hy
def addk (ks:List Pt) (p:Pt):List Pt:=if p ∈ ks then ks else ks ++ [p]
theorem wh3 {f:Pt->D} {p:Pt} {v:D} {ks:List Pt}:putL (pmk ks f) (ptk p) v=pmk (addk ks p) (λ x=>if x=p then v else f x):=by
 unfold putL addk
 by_cases h:p ∈ ks
 ·rw [if_pos h,if_pos]
  ·unfold pmk
   rw [map_map]
   apply map_congr_left
   intro x _
   show (if ptk x=ptk p then (ptk x,v) else (ptk x,f x))=_
   by_cases c:x=p
   ·subst c; rw [if_pos rfl]; simp
   ·rw [if_neg (λ z=>c (tb1 z))]; dsimp only; rw [if_neg c]
  ·exact List.any_eq_true.mpr ⟨(ptk p,f p),List.mem_map.mpr ⟨p,h,rfl⟩,decide_eq_true rfl⟩
 ·rw [if_neg h,if_neg]
  ·unfold pmk
   rw [map_append]
   congr 1
   ·apply map_congr_left
    intro x hx
    dsimp only
    rw [if_neg (λ z=>h (by rw [<- z]; exact hx))]
   ·simp
  ·intro z
   obtain ⟨x,hx,e⟩:=List.any_eq_true.mp z
   obtain ⟨y,hy,rfl⟩:=List.mem_map.mp hx
   have:=tb1 (of_decide_eq_true e)
   subst this
   exact h hy
structure PtI (μ0 μ:Mu) (d:Addr) (L ks:List Pt):Prop where
 ex:Ext μ0 μ
 fr:μ0 d=none
 dc:μ d=some (.dcl (pmk ks λ p=>.int (L.count p:Nat)))
 nd:ks.Nodup
 me:∀ p,p ∈ ks ↔ p ∈ L
 le:ks.length<=L.length
theorem PtI.put {μ0 μ:Mu} {d:Addr} {L ks:List Pt} {p:Pt} {i:Nat} {y0 y2 y3 y4:Option D} {D':Ends3} (I:PtI μ0 μ d L ks) (hl:L.length < 500) (hv:getI [y0,some (.ref d),y2,y3,y4] i=some (encQ p))
    (k:∀ μ' ks',PtI μ0 μ' d (L ++ [p]) ks'->D'.nx [y0,some (.ref d),y2,y3,y4] μ') :
    to0 (v3 1) (v3 i) (o3 addR (gdf3 (v3 1) (cons3 (v3 i) (cons3 (c3 (.int 0)) nil3))) (c3 (.int 1))) D' [y0,some (.ref d),y2,y3,y4] μ:=by
 have hz:(1000:Nat) < sizeLine:=by decide
 have hln:=I.le
 have fin:(to0 (v3 1) (v3 i) (c3 (.int ((L.count p:Nat) + 1)))) D' [y0,some (.ref d),y2,y3,y4] μ:=by
  unfold to0 v3 c3
  simp only [hv,getI,xk3,I.dc]
  refine ⟨by unfold pmk; rw [length_map]; omega,k _ (addk ks p) ⟨I.ex.upd I.fr,I.fr,?_,?_,?_,?_⟩⟩
  ·rw [va0,wh3]
   congr 2
   refine zc2 λ x _=>?_
   by_cases c:x=p
   ·subst c; rw [if_pos rfl,List.count_append]; simp
   ·rw [if_neg c,List.count_append]
    have:List.count x [p]=0:=List.count_eq_zero.mpr (by simpa using c)
    rw [this]; rfl
  ·unfold addk
   split
   ·exact I.nd
   ·next h =>
    rw [List.nodup_append]
    exact ⟨I.nd,by simp,λ a ha b hb e=>by rw [mem_singleton] at hb; subst hb; subst e; exact h ha⟩
  ·intro x
   rw [mem_append,mem_singleton,<- I.me]
   unfold addk
   split
   ·next h=>exact ⟨.inl,λ z=>z.elim id λ e=>by rw [e]; exact h⟩
   ·rw [mem_append,mem_singleton]
  ·rw [length_append]
   unfold addk
   split
   ·omega
   ·rw [length_append]; simp only [length_cons,length_nil]; omega
 have hg:∀ R:VK3,R (.int (L.count p:Nat)) μ->gdf3 (v3 1) (cons3 (v3 i) (cons3 (c3 (.int 0)) nil3)) [y0,some (.ref d),y2,y3,y4] μ R:=λ R r=>by
  unfold gdf3 v3 cons3 c3 nil3
  simp only [hv,getI,I.dc,xk3]
  by_cases c:p ∈ ks
  ·simp only [wk1 c]; exact r
  ·simp only [zw2 c]
   have e:L.count p=0:=List.count_eq_zero.mpr λ z=>c ((I.me p).mpr z)
   rw [e] at r
   exact r
 unfold to0 at fin ⊢
 unfold o3
 refine hg _ ?_
 exact fin
def wj0 (ts:List T3):List Pt:=ts.flatMap λ s=>[e0 s,e1 s]
theorem tw1 (ts:List T3) (s:T3):wj0 (ts ++ [s])=wj0 ts ++ [e0 s] ++ [e1 s]:=by unfold wj0; rw [List.flatMap_append]; simp
theorem wu0 (ts:List T3):(wj0 ts).length=2 * ts.length:=by
 induction ts with
 | nil=>rfl
 | cons s r ih=>unfold wj0 at ih ⊢; rw [List.flatMap_cons,length_append,ih]; simp; omega
def xm0:Sp3:=λ ds μ Q=>∃ ts:List T3,ds=[.tup (ts.map encT)] /\ ts.length < 60 /\ ∀ d ks μ',PtI μ μ' d (wj0 ts) ks->Q (.ref d) μ'
theorem yq4 (ds:List D) (μ:Mu) (Q:VK3) (h:xm0 ds μ Q):t_q7 spLe { nx:=λ _ μ'=>Q .non μ',rt:=Q } (start3 N_q7 ds) μ:=by
 obtain ⟨ts,rfl,hl,q⟩:=h
 intro d hd
 refine wh0 (λ l ρ μ'=>∃ (js ks:List T3) (gs:List Pt) (y2 y3 y4:Option D),l=ks.map encT /\ js ++ ks=ts /\ ρ=[some (.tup (ts.map encT)),some (.ref d),y2,y3,y4] /\ PtI μ μ' d (wj0 js) gs) ?_ (λ _ _ _ _=>trivial) ?_ ?_
 ·exact ⟨[],ts,[],none,none,none,rfl,rfl,rfl,Ext.new hd,hd,va0,nodup_nil,λ p=>Iff.rfl,Nat.le_refl _⟩
 ·rintro ρ μ' ⟨js,ks,gs,y2,y3,y4,e,ej,rfl,I⟩
  cases ks with
  | cons _ _=>cases e
  | nil =>
   rw [append_nil] at ej
   subst ej
   exact q d gs μ' I
 ·rintro x rest ρ μ' ⟨js,ks,gs,y2,y3,y4,e,ej,rfl,I⟩
  cases ks with
  | nil=>cases e
  | cons s ks =>
   rw [map_cons] at e
   injection e with e1 e2
   subst e1 e2
   have lj:js.length<=ts.length:=by rw [<- ej,length_append]; omega
   have le:=wu0 js
   refine ⟨s,rfl,?_⟩
   dsimp only [gtup3,gcons3,gn3,gnil3]
   refine ⟨rfl,?_⟩
   show to0 (v3 1) (v3 3) (o3 addR (gdf3 (v3 1) (cons3 (v3 3) (cons3 (c3 (.int 0)) nil3))) (c3 (.int 1))) _ [some (.tup (ts.map encT)),some (.ref d),some (encT s),some (encQ (e0 s)),some (encQ (e1 s))] μ'
   refine I.put (p:=e0 s) (i:=3) (by omega) rfl λ μ1 gs1 I1=>?_
   refine I1.put (p:=e1 s) (i:=4) (by rw [length_append]; simp only [length_cons,length_nil]; omega) rfl λ μ2 gs2 I2=>?_
   rw [<- tw1] at I2
   exact ⟨js ++ [s],ks,gs2,_,_,_,rfl,by rw [<- ej]; simp,rfl,I2⟩
local macro_rules | `(tactic| simp_arith [$xs,*] $[$l]?)=>`(tactic| simp only [$xs,*,Pv.seq3,Pv.next3,Pv.never3,Pv.brk3,Pv.cnt3,Pv.drop3,Pv.ret3,Pv.retN3,Pv.ifs3,Pv.gn3,Pv.gnil3,Pv.gcons3,Pv.gtup3,Pv.set3,Pv.asg3,Pv.par3,Pv.sub3,Pv.for3,Pv.is3,Pv.ir3,Pv.ir23,Pv.v3,Pv.c3,Pv.o3,Pv.un3,Pv.b3,Pv.and3,Pv.or3,Pv.not3,Pv.andV3,Pv.orV3,Pv.notV3,Pv.if3,Pv.nil3,Pv.cons3,Pv.tup3,Pv.lst3,Pv.call3,Pv.mt3,Pv.comp3,Pv.tt3,Pv.getI,set_cons_zero,set_cons_succ,Pv.int2,Pv.int20,Pv.subR,Pv.mulR,Pv.intR,Pv.sl3,Pv.np3,Pv.pt3,Pv.slR,Pv.modR,Pv.fdivR,Pv.powR,Pv.ltR,Pv.leR,Pv.gtR,Pv.geR,Pv.negR,Pv.addR,Pv.eqR_ii,Pv.eqR_ss,Pv.eqR_bb,Pv.eqR_is,Pv.neR_ii,Pv.neR_ss,Pv.neR_bb,Pv.inR,Pv.ixR,Pv.lenR,Pv.absR,Pv.tupR,Pv.sumR,Pv.tyN,Pv.isIn,Pv.isiR,Pv.appR,Pv.extR,Pv.smt3,Pv.joinR,Pv.splitR,Pv.startsR,Pv.pop3,Pv.lrev3,Pv.strR,Pv.start3,map_cons,map_nil,cons_append,nil_append,length_cons,length_nil,List.replicate,Pv.atI0,Pv.atI1,Pv.atI2,Nat.reduceAdd,Nat.reduceSub,Nat.zero_add,reduceIte,Pv.strs?,Bool.not_true,Bool.not_false,Bool.false_eq_true,if_false,if_true,decide_eq_true_eq,Bool.not_eq_true',decide_eq_false_iff_not,Pv.ixN0,Pv.ixN1,Pv.ixN2,true_and,and_true,Pv.cst0,Pv.cst1,Pv.cst2,Pv.cst3,Int.reduceEq,Option.bind_none,Option.bind_some,Pv.kn_go_jump,Pv.kn_go_turn,Pv.kn_go_times,Pv.kn_jump_go,Pv.kn_jump_turn,Pv.kn_jump_times,Pv.kn_turn_go,Pv.kn_turn_jump,Pv.kn_turn_times,Pv.kn_times_go,Pv.kn_times_jump,Pv.kn_times_turn,Pv.kp_go,Pv.kp_jump,Pv.kp_turn,Pv.kp_times,Pv.kz_go,Pv.kz_jump,Pv.kz_turn,Pv.kz_times] $[$l]?)
open Mt
theorem eq_nil (ts:List T3) (μ:Mu) (K:VK3):eqR (.tup (ts.map encT)) (.tup []) μ K=K (.bl (decide (ts=[]))) μ:=by
 have dd:datM μ (.tup (ts.map encT))=some (.tuple (ts.map pT)):=by simp only [datM,dat,uh1]
 rw [yg2 rfl dd (show datM μ (.tup [])=some (.tuple []) from rfl) (um0 ts) (by decide)]
 cases ts <;> simp [PyData.eqv,PyData.eqvAll]
theorem yv4 {i:Nat} {ts:List T3} {ρ:St3} {μ:Mu} {K:Bool->Mu->Prop} (hv:getI ρ i=some (.tup (ts.map encT))) (k:K (decide (ts=[])) μ):b3 (o3 eqR (v3 i) (tup3 nil3)) ρ μ K:=by
 unfold b3 o3 v3 tup3 nil3
 rw [hv]
 refine ⟨Nat.zero_le _,?_⟩
 dsimp only
 rw [eq_nil]
 exact k
theorem if_n {c:TT3} {t rest:TS3} {D':Ends3} {ρ:St3} {μ:Mu} {b:Bool} (hc:∀ K:Bool->Mu->Prop,K b μ->c ρ μ K) (h1:b=true->t { D' with nx:=rest D' } ρ μ) (h2:b=false->rest D' ρ μ):seq3 (ifs3 c t next3) rest D' ρ μ:=by
 refine hc _ ?_
 cases b with
 | true=>exact h1 rfl
 | false=>exact h2 rfl
theorem yx1 {c d:TT3} {b1 b2:Bool} {ρ:St3} {μ:Mu} {K:Bool->Mu->Prop} (h1:∀ K:Bool->Mu->Prop,K b1 μ->c ρ μ K) (h2:∀ K:Bool->Mu->Prop,K b2 μ->d ρ μ K) (k:K (b1 && b2) μ):and3 c d ρ μ K:=by
 refine h1 _ ?_
 cases b1 with
 | true=>exact h2 _ k
 | false=>exact k
theorem xr1 {i w:Nat} {ρ:St3} {d:Addr} {ks:List Pt} {f:Pt->D} {g:Pt->Int} {μ:Mu} {K:VK3} (hi:(i=0 /\ g=λ q=>q.1) \/ (i=1 /\ g=λ q=>q.2)) (hv:getI ρ w=some (.ref d)) (h:μ d=some (.dcl (pmk ks f))) (hl:ks.length < 1000)
    (k:∀ r μ',Ext μ μ'->μ' r=some (.lst ((ks.map g).map D.int))->K (.ref r) μ'):comp3 [none] (isd3 (v3 w)) (gn3 0) tt3 (o3 ixR (v3 0) (c3 (.int (i:Int)))) ρ μ K:=by
 have hz:(1000:Nat) < sizeLine:=by decide
 have ek:(pmk ks f).map (λ kv=>tupI kv.1)=ks.map encQ:=by unfold pmk; rw [map_map]; rfl
 unfold comp3 isd3 v3
 rw [hv]
 dsimp only
 rw [h]
 intro r hr
 rw [ek]
 refine zh0 (rest:=[]) (λ d=>.int (match d with | .tup [.int a,.int b]=>g (a,b) | _=>0)) hr (by rw [length_map]; omega) (λ μ' e=>e _ _ h) ?_ ?_
 ·intro x hx μ' R ex kk
  obtain ⟨q,_,rfl⟩:=List.mem_map.mp hx
  rcases hi with ⟨rfl,rfl⟩ | ⟨rfl,rfl⟩ <;> exact kk μ' (Ext.refl _)
 ·intro μ' ex e
  have el:(ks.map encQ).map (λ d=>D.int (match d with | .tup [.int a,.int b]=>g (a,b) | _=>0))=(ks.map g).map D.int:=by
   rw [map_map,map_map]; rfl
  rw [el] at e
  exact k r μ' ex e
theorem ul4 {ts:List T3} {ks:List Pt} (hw:∀ t ∈ ts,wy t) (me:∀ p,p ∈ ks ↔ p ∈ wj0 ts) {x0 y0 x1 y1:Int} (a0:x0 ∈ ks.map λ q=>q.1) (l0:∀ v ∈ ks.map λ q=>q.1,x0<=v) (b0:y0 ∈ ks.map λ q=>q.2) (m0:∀ v ∈ ks.map λ q=>q.2,y0<=v)
    (a1:x1 ∈ ks.map λ q=>q.1) (l1:∀ v ∈ ks.map λ q=>q.1,v<=x1) (b1:y1 ∈ ks.map λ q=>q.2) (m1:∀ v ∈ ks.map λ q=>q.2,v<=y1):Bx ts x0 y0 x1 y1:=by
 have i0:∀ s ∈ ts,e0 s ∈ ks:=λ s hs=>(me _).mpr (List.mem_flatMap.mpr ⟨s,hs,by simp⟩)
 have i1:∀ s ∈ ts,e1 s ∈ ks:=λ s hs=>(me _).mpr (List.mem_flatMap.mpr ⟨s,hs,by simp⟩)
 have p0:∀ s ∈ ts,x0<=s.1:=λ s hs=>l0 _ (List.mem_map.mpr ⟨e0 s,i0 s hs,rfl⟩)
 have p1:∀ s ∈ ts,y0<=s.2.1:=λ s hs=>m0 _ (List.mem_map.mpr ⟨e0 s,i0 s hs,rfl⟩)
 have p2:∀ s ∈ ts,gx s<=x1:=λ s hs=>l1 _ (List.mem_map.mpr ⟨e1 s,i1 s hs,rfl⟩)
 have p3:∀ s ∈ ts,gy s<=y1:=λ s hs=>m1 _ (List.mem_map.mpr ⟨e1 s,i1 s hs,rfl⟩)
 have o:∀ p ∈ ks,∃ s ∈ ts,p=e0 s \/ p=e1 s:=λ p hp=>by
  obtain ⟨s,hs,h⟩:=List.mem_flatMap.mp ((me p).mp hp)
  exact ⟨s,hs,by simpa using h⟩
 have fin:∀ s ∈ ts,s.1<=gx s /\ s.2.1<=gy s:=λ s hs=>by
  unfold gx gy
  rcases hw s hs with e | e <;> rw [e] <;> constructor <;> omega
 refine ⟨?_,p0,?_,p1,?_,p2,?_,p3⟩
 ·obtain ⟨p,hp,rfl⟩:=List.mem_map.mp a0
  obtain ⟨s,hs,rfl | rfl⟩:=o p hp
  ·exact ⟨s,hs,rfl⟩
  ·have:=p0 s hs; have:=(fin s hs).1
   exact ⟨s,hs,Int.le_antisymm this (p0 s hs)⟩
 ·obtain ⟨p,hp,rfl⟩:=List.mem_map.mp b0
  obtain ⟨s,hs,rfl | rfl⟩:=o p hp
  ·exact ⟨s,hs,rfl⟩
  ·exact ⟨s,hs,Int.le_antisymm (fin s hs).2 (p1 s hs)⟩
 ·obtain ⟨p,hp,rfl⟩:=List.mem_map.mp a1
  obtain ⟨s,hs,rfl | rfl⟩:=o p hp
  ·exact ⟨s,hs,Int.le_antisymm (p2 s hs) (fin s hs).1⟩
  ·exact ⟨s,hs,rfl⟩
 ·obtain ⟨p,hp,rfl⟩:=List.mem_map.mp b1
  obtain ⟨s,hs,rfl | rfl⟩:=o p hp
  ·exact ⟨s,hs,Int.le_antisymm (p3 s hs) (fin s hs).2⟩
  ·exact ⟨s,hs,rfl⟩
theorem up1:∀ nsT:List Int,ints? (nsT.map D.int)=some nsT
 | []=>rfl
 | a :: r=>by simp only [map_cons,ints?,up1 r]
theorem wv2 {p:Addr} {nsT:List Int} {μ:Mu} {K:VK3} (h:μ p=some (.lst (nsT.map D.int))) (hl:nsT.length < 64) (k:∀ ms:List Int,ms.Perm nsT->ms.Pairwise (· <= ·)->∀ r,μ r=none->K (.ref r) (updM μ r (.lst (ms.map D.int)))):xs1 [.ref p] μ K:=by
 simp only [xs1,h,up1]
 exact ⟨hl,k⟩
theorem zv2 {ms:List Int} (hp:ms.Pairwise (· <= ·)) (hn:ms ≠ []):∃ a b,atI (ms.map D.int) 0=some (.int a) /\ atI (ms.map D.int) (-1)=some (.int b) /\ a ∈ ms /\ b ∈ ms /\ (∀ v ∈ ms,a<=v) /\ ∀ v ∈ ms,v<=b:=by
 refine ⟨ms.head hn,ms.getLast hn,?_,?_,List.head_mem hn,List.getLast_mem hn,?_,?_⟩
 ·cases ms with
  | nil=>exact absurd rfl hn
  | cons a r=>exact atI0
 ·have e:ms.map D.int=ms.dropLast.map D.int ++ [D.int (ms.getLast hn)]:=by
    rw [<- List.map_singleton,<- map_append,List.dropLast_concat_getLast]
  rw [e]
  exact L2.atI_last _ _
 ·cases ms with
  | nil=>exact absurd rfl hn
  | cons a r =>
   intro v hv
   rcases List.mem_cons.mp hv with rfl | hv
   ·exact Int.le_refl _
   ·exact List.rel_of_pairwise_cons hp hv
 ·intro v hv
  have e:=List.dropLast_concat_getLast hn
  rw [<- e] at hp hv
  rcases List.mem_append.mp hv with hv | hv
  ·exact (List.pairwise_append.mp hp).2.2 v hv _ (by simp)
  ·rw [List.mem_singleton.mp hv]; exact Int.le_refl _
theorem in_T {t:T3} {us:List T3} {μ:Mu} {K:VK3} (k:K (.bl (decide (t ∈ us))) μ):inR false (encT t) (.tup (us.map encT)) μ K:=by
 have e:∀ us:List T3,((us.map pT).any λ e=>PyData.eqv e (pT t))=decide (t ∈ us):=λ us=>by
  rw [Bool.eq_iff_iff,List.any_eq_true,decide_eq_true_eq]
  constructor
  ·rintro ⟨x,hx,e⟩
   obtain ⟨u,hu,rfl⟩:=List.mem_map.mp hx
   obtain ⟨a,b,c⟩:=u
   obtain ⟨a',b',c'⟩:=t
   simp [pT,PyData.eqv,PyData.eqvAll] at e
   obtain ⟨rfl,rfl,rfl⟩:=e
   exact hu
  ·intro h
   refine ⟨pT t,List.mem_map.mpr ⟨t,h,rfl⟩,?_⟩
   simp [pT,PyData.eqv,PyData.eqvAll]
 have d1:(pT t).depth<=64:=by simp [pT,PyData.depth,PyData.depthAll]
 show inD false (encT t) (.tup (us.map encT)) μ K
 unfold inD
 simp only [show datM μ (encT t)=some (pT t) from rfl,show datM μ (.tup (us.map encT))=some (.tuple (us.map pT)) by simp only [datM,dat,uh1]]
 refine ⟨⟨d1,um0 us⟩,?_⟩
 have:=e us
 simp only [this]
 exact k
theorem vd3 {c:TT3} {z s:Str} {rest:TS3} {D':Ends3} {b:Bool} {o0 o1 o2 o3' o4 o5 o6 o7 o8 o9:Option D} {μ:Mu} (hc:∀ K:Bool->Mu->Prop,K b μ->c [o0,o1,o2,o3',o4,o5,o6,o7,o8,o9,some (.str z)] μ K) (k:rest D' [o0,o1,o2,o3',o4,o5,o6,o7,o8,o9,some (.str (if b=true then s else z))] μ) :
    seq3 (ifs3 c (set3 10 (c3 (.str s))) next3) rest D' [o0,o1,o2,o3',o4,o5,o6,o7,o8,o9,some (.str z)] μ :=
 if_n hc (λ e=>by rw [if_pos e] at k; exact k) (λ e=>by rw [if_neg (by rw [e]; decide)] at k; exact k)
theorem md_l {i:Nat} {n j:Int} {ρ:St3} {μ:Mu} {K:Bool->Mu->Prop} (hv:getI ρ i=some (.int n)) (k:K (decide (n % 2=j)) μ):b3 (o3 eqR (o3 modR (v3 i) (c3 (.int 2))) (c3 (.int j))) ρ μ K:=by
 unfold b3 o3 v3
 rw [hv]
 exact ⟨(by decide:(0:Int) < 2),k⟩
theorem sc3 (ts:List T3) (x0 y1 r c:Int):(if (decide (r % 2=1) && (decide (c % 2=0) && decide ((x0 + c / 2,y1 - r / 2 - 1,1) ∈ ts)))=true then ("|" : Str) else if (decide (r % 2=0) && (decide (c % 2=1) && decide ((x0 + c / 2,y1 - r / 2,0) ∈ ts)))=true then "-" else if (decide (r % 2=0) && (decide (c % 2=0) && decide ((x0 + c / 2,y1 - r / 2) ∈ wj0 ts)))=true then "+" else ".")=⟨#[sgc ts x0 y1 r c]⟩:=by
 have en:(x0 + c / 2,y1 - r / 2) ∈ wj0 ts ↔ ts.any (has (x0 + c / 2,y1 - r / 2))=true:=by
  rw [List.any_eq_true]
  unfold wj0
  rw [List.mem_flatMap]
  constructor
  ·rintro ⟨s,hs,h⟩
   refine ⟨s,hs,?_⟩
   unfold has
   simp at h
   rcases h with h | h <;> simp [h]
  ·rintro ⟨s,hs,h⟩
   refine ⟨s,hs,?_⟩
   unfold has at h
   simp at h
   rcases h with h | h <;> simp [h]
 have p1:("+" : Str)=⟨#[43]⟩:=tj0 (by decide +kernel)
 unfold sgc
 rw [mns,brs,dots,p1]
 simp only [Bool.and_eq_true,decide_eq_true_eq,en]
 by_cases a:r % 2=0
 ·have a':¬ r % 2=1:=by omega
  by_cases b:c % 2=0
  ·have b':¬ c % 2=1:=by omega
   simp only [a,b,true_and]
   by_cases u:ts.any (has (x0 + c / 2,y1 - r / 2))=true <;> simp [u]
  ·have b':c % 2=1:=by omega
   simp only [a,b',true_and]
   by_cases u:(x0 + c / 2,y1 - r / 2,0) ∈ ts <;> simp [u]
 ·have a':r % 2=1:=by omega
  by_cases b:c % 2=0
  ·simp only [a',b,true_and]
   by_cases u:(x0 + c / 2,y1 - r / 2 - 1,1) ∈ ts <;> simp [u]
  ·have b':c % 2=1:=by omega
   simp [a',b']
theorem sm2 (ts:List T3) (x0 y1 r:Int) (c:Nat):rowS ts x0 y1 r (c + 1)=rowS ts x0 y1 r c ++ ⟨#[sgc ts x0 y1 r c]⟩:=by
 apply tj0
 rw [zo0]
 unfold rowS
 simp [cp,range_succ]
theorem wm4 {ts:List T3} {ks:List Pt} {f:Pt->D} {ρ:St3} {μ:Mu} {d:Addr} {K:Bool->Mu->Prop} {p:Pt} (h9:getI ρ 9=some (.int p.1)) (h6:getI ρ 6=some (.int p.2)) (h1:getI ρ 1=some (.ref d)) (hd:μ d=some (.dcl (pmk ks f))) (me:∀ p,p ∈ ks ↔ p ∈ wj0 ts) (k:K (decide (p ∈ wj0 ts)) μ):b3 (o3 (dinR false) (tup3 (cons3 (v3 9) (cons3 (v3 6) nil3))) (v3 1)) ρ μ K:=by
 have e:∀ K:VK3,dinR false (encQ p) (.ref d) μ K=K (.bl (decide (p ∈ wj0 ts))) μ:=λ K=>by
  simp only [dinR,xk3,hd]
  by_cases c:p ∈ ks
  ·rw [wk1 c,decide_eq_true ((me p).mp c)]; rfl
  ·rw [zw2 c,decide_eq_false (λ z=>c ((me p).mpr z))]; rfl
 unfold b3 o3 tup3 cons3 v3 nil3
 rw [h9,h6,h1]
 refine ⟨z2,?_⟩
 have e':∀ K:VK3,dinR false (.tup [.int p.1,.int p.2]) (.ref d) μ K=K (.bl (decide (p ∈ wj0 ts))) μ:=e
 dsimp only
 rw [e']
 exact k
theorem ys3 {ts:List T3} {ρ:St3} {μ:Mu} {ty:TE3} {K:Bool->Mu->Prop} {x y j:Int} (h9:getI ρ 9=some (.int x)) (hy:∀ K:VK3,K (.int y) μ->ty ρ μ K) (h0:getI ρ 0=some (.tup (ts.map encT))) (k:K (decide ((x,y,j) ∈ ts)) μ):b3 (o3 (inR false) (tup3 (cons3 (v3 9) (cons3 ty (cons3 (c3 (.int j)) nil3)))) (v3 0)) ρ μ K:=by
 unfold b3 o3 tup3 cons3 v3 nil3
 rw [h9,h0]
 refine hy _ ⟨z3,?_⟩
 exact in_T (t:=(x,y,j)) k
theorem wv4 {i j:Nat} {p:Addr} {l:List D} {x:D} {ρ:St3} {μ:Mu} {D':Ends3} (hi:getI ρ i=some (.ref p)) (hj:getI ρ j=some x) (h:μ p=some (.lst l)) (k:l.length < sizeLine /\ D'.nx ρ (updM μ p (.lst (l ++ [x])))):drop3 (mt3 appR (v3 i) (cons3 (v3 j) nil3)) D' ρ μ:=by
 unfold drop3 mt3 cons3 v3 nil3
 rw [hi]
 dsimp only
 rw [h]
 dsimp only
 rw [hj]
 simp only [appR,h]
 exact k
theorem sd3 {i:Nat} {d:D} {rest:TS3} {D':Ends3} {ρ:St3} {μ:Mu} (k:rest D' (ρ.set i (some d)) μ):seq3 (set3 i (c3 d)) rest D' ρ μ:=k
def uo0:Sp3:=λ ds μ Q=>∃ ts:List T3,ds=[.tup (ts.map encT)] /\ (∀ t ∈ ts,wy t) /\ gds ts /\ ts.length < 30 /\ (ts=[]->∀ μ',Ext μ μ'->Q (.str "none") μ') /\ (ts ≠ []->∃ (x0 y0 y1:Int) (w h:Nat),Bw ts x0 y0 y1 w h /\ ∀ μ',Ext μ μ'->Q (.str (xl0 ts x0 y0 y1 w h)) μ')
theorem sp4 (ds:List D) (μ:Mu) (Q:VK3) (h:uo0 ds μ Q):t_q9 xm0 { nx:=λ _ μ'=>Q .non μ',rt:=Q } (start3 N_q9 ds) μ:=by
 obtain ⟨ts,rfl,hw,hg,hl,q0,q1⟩:=h
 have hz:(1048576:Nat) < sizeLine:=by decide
 have d2:(0:Int) < 2 /\ (2:Int) < 2 ^ 120:=⟨by decide,by decide⟩
 refine ⟨ts,rfl,by omega,λ d ks μ1 I=>?_⟩
 show xj0 xm0 _ [some (.tup (ts.map encT)),some (.ref d),none,none,none,none,none,none,none,none,none] μ1
 refine if_n (λ K k=>yv4 rfl k) (λ e=>q0 (of_decide_eq_true e) μ1 I.ex) λ e=>?_
 have hn:ts ≠ []:=of_decide_eq_false e
 obtain ⟨x0,y0,y1,w,h,⟨x1,bx,ew,eh,w4,h4⟩,q⟩:=q1 hn
 have kl:ks.length < 60:=by have:=I.le; rw [wu0] at this; omega
 have kn:ks ≠ []:=λ e=>by
  obtain ⟨s,hs⟩:=List.exists_mem_of_ne_nil _ hn
  have:e0 s ∈ ks:=(I.me _).mpr (List.mem_flatMap.mpr ⟨s,hs,by simp⟩)
  rw [e] at this; cases this
 unfold si0
 dsimp only [seq3,set3,call3,cons3]
 refine xr1 (i:=0) (.inl ⟨rfl,rfl⟩) rfl I.dc (by omega) λ r1 μ2 ex2 er1=>?_
 dsimp only [nil3]
 refine wv2 er1 (by rw [length_map]; omega) λ ms pm sm a ha=>?_
 have ea:updM μ2 a (.lst (ms.map D.int)) a=some (.lst (ms.map D.int)):=va0
 have ex3:Ext μ2 (updM μ2 a (.lst (ms.map D.int))):=Ext.new ha
 generalize updM μ2 a (.lst (ms.map D.int))=μ3 at ea ex3
 have ed3:=ex3 _ _ (ex2 _ _ I.dc)
 unfold ti0
 dsimp only [seq3,set3,call3,cons3]
 refine xr1 (i:=1) (.inr ⟨rfl,rfl⟩) rfl ed3 (by omega) λ r2 μ4 ex4 er2=>?_
 dsimp only [nil3]
 refine wv2 er2 (by rw [length_map]; omega) λ ns' pn sn b hb=>?_
 have eb:updM μ4 b (.lst (ns'.map D.int)) b=some (.lst (ns'.map D.int)):=va0
 have ex5:Ext μ4 (updM μ4 b (.lst (ns'.map D.int))):=Ext.new hb
 generalize updM μ4 b (.lst (ns'.map D.int))=μ5 at eb ex5
 have ed5:=ex5 _ _ (ex4 _ _ ed3)
 have ea5:=ex5 _ _ (ex4 _ _ ea)
 obtain ⟨u0,u1,f0,f1,u0m,u1m,u0l,u1l⟩:=zv2 sm (λ e=>kn (by rw [e] at pm; simpa using pm.symm.eq_nil))
 obtain ⟨v0,v1,g0,g1,v0m,v1m,v0l,v1l⟩:=zv2 sn (λ e=>kn (by rw [e] at pn; simpa using pn.symm.eq_nil))
 obtain ⟨rfl,rfl,rfl,rfl⟩:=bx.one (ul4 hw I.me (pm.mem_iff.mp u0m) (λ v hv=>u0l v (pm.mem_iff.mpr hv)) (pn.mem_iff.mp v0m) (λ v hv=>v0l v (pn.mem_iff.mpr hv)) (pm.mem_iff.mp u1m) (λ v hv=>u1l v (pm.mem_iff.mpr hv)) (pn.mem_iff.mp v1m) (λ v hv=>v1l v (pn.mem_iff.mpr hv)))
 have bg:gd x0 /\ gd y0:=by
  obtain ⟨s,hs,rfl⟩:=bx.a0
  obtain ⟨s',hs',rfl⟩:=bx.b0
  exact ⟨(hg s hs).1,(hg s' hs').2⟩
 have n0:=yo0 bg.1
 have n1:=yo0 bg.2
 rw [<- uj0] at n0 n1
 have E5:Ext μ μ5:=I.ex.trans (ex2.trans (ex3.trans (ex4.trans ex5)))
 show ixR (.ref a) (.int 0) μ5 (λ d μ1=>_)
 refine yg0 ea5 f0 ⟨xp1 bg.1,?_⟩
 refine ⟨by show (nsT x0).length + (" " : Str).length<=sizeLine; have:(" " : Str).length=1:=by decide +kernel
            omega,?_⟩
 show ixR (.ref b) (.int 0) μ5 (λ d μ1=>_)
 refine yg0 eb g0 ⟨xp1 bg.2,?_⟩
 refine ⟨by show (nsT x0 ++ " ").length + (nsT y0).length<=sizeLine; rw [uj0 (nsT x0 ++ " "),zo0,length_append,ym3,<- uj0]; simp only [length_cons,length_nil]; omega,Z1,λ pl hpl=>?_⟩
 have epl:updM μ5 pl (.lst [.str (cnl x0 y0)]) pl=some (.lst [.str (cnl x0 y0)]):=va0
 have E6:Ext μ5 (updM μ5 pl (.lst [.str (cnl x0 y0)])):=Ext.new hpl
 show ui0 xm0 _ [some (.tup (ts.map encT)),some (.ref d),some (.ref a),some (.ref b),some (.ref pl),none,none,none,none,none,none] (updM μ5 pl (.lst [.str (cnl x0 y0)]))
 generalize updM μ5 pl (.lst [.str (cnl x0 y0)])=μ6 at epl E6
 show ixR (.ref b) (.int (-1)) μ6 (λ d μ1=>_)
 refine yg0 (E6 _ _ eb) g1 ?_
 show ixR (.ref b) (.int 0) μ6 (λ d μ1=>_)
 refine yg0 (E6 _ _ eb) g0 ⟨.inl (.inl (by decide)),⟨by omega,by omega⟩,?_⟩
 have e2:(2 * (y1 - y0) + 1).toNat=2 * h + 1:=by omega
 have e3:(2 * (x1 - x0) + 1).toNat=2 * w + 1:=by omega
 rw [e2]
 refine forR (λ r ρ μ'=>∃ y5 y6 y7 y8 y9 y10,ρ=[some (.tup (ts.map encT)),some (.ref d),some (.ref a),some (.ref b),some (.ref pl),y5,y6,y7,y8,y9,y10] /\ Ext μ5 μ' /\ μ' pl=some (.lst (sD (cnl x0 y0 :: (List.range r).map λ r:Nat=>rowS ts x0 y1 r (2 * w + 1))))) (λ _=>trivial) ⟨_,_,_,_,_,_,rfl,E6,epl⟩ ?_ ?_
 ·rintro ρ μ' ⟨y5,y6,y7,y8,y9,y10,rfl,ex,el⟩
  have rs:=sa1 ts x0 y1 w h
  have rl:(vd0 ts x0 y1 w h).length=2 * h + 1:=by simp [vd0]
  have hc:=wd1 bg.1 bg.2
  have hm:(2 * h + 1) * (2 * w + 1)<=79 * 79:=Nat.mul_le_mul (by omega) (by omega)
  refine jo_l (l:=cnl x0 y0 :: vd0 ts x0 y1 w h) el (by decide +kernel) ?_ (q μ' (E5.trans ex))
  have f:((cnl x0 y0 :: vd0 ts x0 y1 w h).map (·.length)).sum=(cnl x0 y0).length + ((vd0 ts x0 y1 w h).map (·.length)).sum:=rfl
  rw [f,rs,length_cons (a:=cnl x0 y0),rl]
  omega
 ·rintro r ρ μ' hr ⟨y5,y6,y7,y8,y9,y10,rfl,ex,el⟩
  show ixR (.ref b) (.int (-1)) μ' (λ d μ1=>_)
  refine yg0 (ex _ _ eb) g1 ⟨d2,?_⟩
  show ixR (.ref a) (.int (-1)) μ' (λ d μ1=>_)
  refine yg0 (ex _ _ ea5) f1 ?_
  show ixR (.ref a) (.int 0) μ' (λ d μ1=>_)
  refine yg0 (ex _ _ ea5) f0 ⟨.inl (.inl (by decide)),⟨by omega,by omega⟩,?_⟩
  rw [e3]
  refine forR (λ c ρ μ2=>μ2=μ' /\ ∃ y8 y9 y10,ρ=[some (.tup (ts.map encT)),some (.ref d),some (.ref a),some (.ref b),some (.ref pl),some (.int (r:Int)),some (.int (y1 - (r:Int) / 2)),some (.str (rowS ts x0 y1 r c)),y8,y9,y10]) (λ _=>trivial) ⟨rfl,_,_,_,rfl⟩ ?_ ?_
  ·rintro ρ μ2 ⟨rfl,y8,y9,y10,rfl⟩
   dsimp only
   refine wv4 rfl rfl el ⟨by rw [uv2]; simp; omega,_,_,_,_,_,_,rfl,ex.upd hpl,?_⟩
   rw [va0,range_succ]
   simp [sD]
  ·rintro c ρ μ2 hc ⟨rfl,y8,y9,y10,rfl⟩
   show ixR (.ref a) (.int 0) μ2 (λ d μ1=>_)
   refine yg0 (ex _ _ ea5) f0 ⟨d2,?_⟩
   dsimp only [List.set]
   refine sd3 ?_
   dsimp only [List.set]
   refine vd3 (b:=decide ((r:Int) % 2=0) && (decide ((c:Int) % 2=0) && decide ((x0 + (c:Int) / 2,y1 - (r:Int) / 2) ∈ wj0 ts))) (by
    intro K k
    exact yx1 (λ K k=>md_l rfl k) (λ K k=>yx1 (λ K k=>md_l rfl k) (λ K k=>wm4 (p:=(x0 + (c:Int) / 2,y1 - (r:Int) / 2)) rfl rfl rfl (ex _ _ ed5) I.me k) k) k) ?_
   refine vd3 (b:=decide ((r:Int) % 2=0) && (decide ((c:Int) % 2=1) && decide ((x0 + (c:Int) / 2,y1 - (r:Int) / 2,0) ∈ ts))) (by
    intro K k
    exact yx1 (λ K k=>md_l rfl k) (λ K k=>yx1 (λ K k=>md_l rfl k) (λ K k=>ys3 (x:=x0 + (c:Int) / 2) (y:=y1 - (r:Int) / 2) rfl (λ K k=>k) rfl k) k) k) ?_
   refine vd3 (b:=decide ((r:Int) % 2=1) && (decide ((c:Int) % 2=0) && decide ((x0 + (c:Int) / 2,y1 - (r:Int) / 2 - 1,1) ∈ ts))) (by
    intro K k
    exact yx1 (λ K k=>md_l rfl k) (λ K k=>yx1 (λ K k=>md_l rfl k) (λ K k=>ys3 (x:=x0 + (c:Int) / 2) (y:=y1 - (r:Int) / 2 - 1) rfl (λ K k=>k) rfl k) k) k) ?_
   rw [sc3]
   refine ⟨?_,rfl,some (.int (c:Int)),some (.int (x0 + (c:Int) / 2)),some (.str ⟨#[sgc ts x0 y1 r c]⟩),?_⟩
   ·show (rowS ts x0 y1 r c).length + 1<=sizeLine
    rw [yl0]; omega
   ·rw [sm2]; rfl
local macro_rules | `(tactic| simp_arith [$xs,*] $[$l]?)=>`(tactic| simp only [$xs,*,Pv.seq3,Pv.next3,Pv.never3,Pv.brk3,Pv.cnt3,Pv.drop3,Pv.ret3,Pv.retN3,Pv.ifs3,Pv.gn3,Pv.gnil3,Pv.gcons3,Pv.gtup3,Pv.set3,Pv.asg3,Pv.par3,Pv.sub3,Pv.for3,Pv.is3,Pv.ir3,Pv.ir23,Pv.v3,Pv.c3,Pv.o3,Pv.un3,Pv.b3,Pv.and3,Pv.or3,Pv.not3,Pv.andV3,Pv.orV3,Pv.notV3,Pv.if3,Pv.nil3,Pv.cons3,Pv.tup3,Pv.lst3,Pv.call3,Pv.mt3,Pv.comp3,Pv.tt3,Pv.getI,set_cons_zero,set_cons_succ,Pv.int2,Pv.int20,Pv.subR,Pv.mulR,Pv.intR,Pv.sl3,Pv.np3,Pv.pt3,Pv.slR,Pv.modR,Pv.fdivR,Pv.powR,Pv.ltR,Pv.leR,Pv.gtR,Pv.geR,Pv.negR,Pv.addR,Pv.eqR_ii,Pv.eqR_ss,Pv.eqR_bb,Pv.eqR_is,Pv.neR_ii,Pv.neR_ss,Pv.neR_bb,Pv.inR,Pv.ixR,Pv.lenR,Pv.absR,Pv.tupR,Pv.sumR,Pv.tyN,Pv.isIn,Pv.isiR,Pv.appR,Pv.extR,Pv.smt3,Pv.joinR,Pv.splitR,Pv.startsR,Pv.pop3,Pv.lrev3,Pv.strR,Pv.start3,map_cons,map_nil,cons_append,nil_append,length_cons,length_nil,List.replicate,Pv.atI0,Pv.atI1,Pv.atI2,Nat.reduceAdd,Nat.reduceSub,Nat.zero_add,reduceIte,Pv.strs?,Bool.not_true,Bool.not_false,Bool.false_eq_true,if_false,if_true,decide_eq_true_eq,Bool.not_eq_true',decide_eq_false_iff_not,Pv.ixN0,Pv.ixN1,Pv.ixN2,true_and,and_true,Pv.cst0,Pv.cst1,Pv.cst2,Pv.cst3,Int.reduceEq,Option.bind_none,Option.bind_some,Pv.kn_go_jump,Pv.kn_go_turn,Pv.kn_go_times,Pv.kn_jump_go,Pv.kn_jump_turn,Pv.kn_jump_times,Pv.kn_turn_go,Pv.kn_turn_jump,Pv.kn_turn_times,Pv.kn_times_go,Pv.kn_times_jump,Pv.kn_times_turn,Pv.kp_go,Pv.kp_jump,Pv.kp_turn,Pv.kp_times,Pv.kz_go,Pv.kz_jump,Pv.kz_turn,Pv.kz_times] $[$l]?)
open Mt
def spNi:Sp3:=λ ds μ Q=>∃ n:Int,ds=[.str (nsT n)] /\ gd n /\ Q (.int n) μ
theorem za4 (ds:List D) (μ:Mu) (Q:VK3) (h:spNi ds μ Q):wb3 { nx:=λ _ μ'=>Q .non μ',rt:=Q } (start3 zo3 ds) μ:=by
 obtain ⟨n,rfl,hn,q⟩:=h
 have hr:=up2 hn
 have hl:=yo0 hn
 have hi:∀ K:VK3,intR [.str (nsT n)] μ K=((nsT n).length<=640 /\ K (.int n) μ):=λ K=>by simp only [intR,hr]
 unfold wb3 seq3 set3 call3 cons3 v3 nil3
 show intR [.str (nsT n)] μ (λ d μ1=>_)
 rw [hi]
 exact ⟨by rw [uj0]; omega,q⟩
def zc3 (XE:XE3):Sp3:=λ ds μ Q=>∃ x0 y0:Int,ds=[.str (cnl x0 y0)] /\ gd x0 /\ gd y0 /\ ∀ μ',Ext μ μ'->Q (encQ (x0,y0)) μ'
theorem sa4 (XE:XE3) (ds:List D) (μ:Mu) (Q:VK3) (h:zc3 XE ds μ Q):tr3 XE spNi { nx:=λ _ μ'=>Q .non μ',rt:=Q } (start3 so3 ds) μ:=by
 obtain ⟨x0,y0,rfl,g0,g1,q⟩:=h
 have hs:Txt.split (cnl x0 y0) " " = [nsT x0,nsT y0]:=ys1 (by simp) λ t ht=>by
  simp only [mem_cons,not_mem_nil,or_false] at ht
  rcases ht with rfl | rfl <;> exact yj3 _
 have hl:=wd1 g0 g1
 refine ⟨⟨by decide,by omega⟩,λ p hp=>?_⟩
 rw [hs]
 have e1:updM μ p (.lst ([nsT x0,nsT y0].map D.str)) p=some (.lst [.str (nsT x0),.str (nsT y0)]):=va0
 generalize hμ:updM μ p (.lst ([nsT x0,nsT y0].map D.str))=μ1 at e1
 have ex:Ext μ μ1:=by rw [<- hμ]; exact Ext.new hp
 conv=>whnf
 rw [e1]
 show ixR (.ref p) (.int 0) μ1 (λ d μ1=>_)
 refine yg0 e1 rfl ⟨x0,rfl,g0,?_⟩
 show ixR (.ref p) (.int 1) μ1 (λ d μ1=>_)
 exact yg0 e1 rfl ⟨y0,rfl,g1,z2,q μ1 ex⟩
def shw (n:Nat) (p:Pt):List T3:=if n=45 then [(p.1,p.2,0)] else if n=124 then [(p.1,p.2 - 1,1)] else []
def xm2:Sp3:=λ ds μ Q=>∃ (n:Nat) (p:Pt),ds=[.str ⟨#[n]⟩,encQ p] /\ ∀ r μ',Ext μ μ'->μ r=none->μ' r=some (.lst ((shw n p).map encT))->Q (.ref r) μ'
theorem vo1 (n m:Nat):((⟨#[n]⟩:Str)=⟨#[m]⟩) ↔ n=m:=⟨λ h=>by have:=congrArg cp h; simpa [cp] using this,λ h=>by rw [h]⟩
theorem yz3 (ds:List D) (μ:Mu) (Q:VK3) (h:xm2 ds μ Q):yq3 { nx:=λ _ μ'=>Q .non μ',rt:=Q } (start3 xn3 ds) μ:=by
 obtain ⟨n,p,rfl,q⟩:=h
 unfold shw at q
 show if decide ((⟨#[n]⟩:Str) = "-")=true then _ else _
 by_cases c1:n=45
 ·rw [decide_eq_true (by rw [mns]; exact (vo1 _ _).mpr c1),if_pos rfl]
  rw [if_pos c1] at q
  exact ⟨z3,Z1,λ r hr=>q r _ (Ext.new hr) hr va0⟩
 ·rw [decide_eq_false (λ h=>c1 ((vo1 _ _).mp (by rw [mns] at h; exact h))),if_neg (by decide)]
  rw [if_neg c1] at q
  show if decide ((⟨#[n]⟩:Str) = "|")=true then _ else _
  by_cases c2:n=124
  ·rw [decide_eq_true (by rw [brs]; exact (vo1 _ _).mpr c2),if_pos rfl]
   rw [if_pos c2] at q
   exact ⟨z3,Z1,λ r hr=>q r _ (Ext.new hr) hr va0⟩
  ·rw [decide_eq_false (λ h=>c2 ((vo1 _ _).mp (by rw [brs] at h; exact h))),if_neg (by decide)]
   rw [if_neg c2] at q
   exact ⟨Nat.zero_le _,λ r hr=>q r _ (Ext.new hr) hr va0⟩
def IsPic (L us:List T3):Prop:=us.Nodup /\ us.Pairwise le3 /\ ∀ x,x ∈ us ↔ x ∈ L
theorem IsPic.one {L us vs:List T3} (h:IsPic L us) (k:IsPic L vs):us=vs :=
 uniq ((List.perm_ext_iff_of_nodup h.1 k.1).mpr λ x=>(h.2.2 x).trans (k.2.2 x).symm) h.2.1 k.2.1
def spPw:Sp3:=λ ds μ Q=>∃ (g:Addr) (L ts:List T3),ds=[.ref g] /\ μ g=some (.lst (L.map encT)) /\ (∀ x ∈ L,x ∈ ts) /\ ts.length < 60 /\ ∀ (us:List T3) μ',Ext μ μ'->IsPic L us->Q (.tup (us.map encT)) μ'
theorem sz3 (ds:List D) (μ:Mu) (Q:VK3) (h:spPw ds μ Q):sq3 { nx:=λ _ μ'=>Q .non μ',rt:=Q } (start3 sn3 ds) μ:=by
 obtain ⟨g,L,ts,rfl,hg,hs,hl,q⟩:=h
 refine ⟨L,hg,λ l nd hl'=>?_,λ ks nd mk us pm up r hr=>?_⟩
 ·have:=List.Nodup.length_le_of_subset nd λ x hx=>hs x (hl' x hx)
  omega
 ·exact uk2 va0 (q us _ (Ext.new hr) ⟨pm.nodup_iff.mpr nd,up,λ x=>(pm.mem_iff).trans (mk x)⟩)
def colL (ts:List T3) (x0 y1 r:Int) (n:Nat):List T3:=(List.range n).flatMap λ c:Nat=>shw (sgc ts x0 y1 r c) (x0 + (c:Int) / 2,y1 - r / 2)
def allL (ts:List T3) (x0 y1:Int) (w n:Nat):List T3:=(List.range n).flatMap λ r:Nat=>colL ts x0 y1 r (2 * w + 1)
theorem yr1 (ts:List T3) (x0 y1 r:Int) (n:Nat):colL ts x0 y1 r (n + 1)=colL ts x0 y1 r n ++ shw (sgc ts x0 y1 r n) (x0 + (n:Int) / 2,y1 - r / 2):=by unfold colL; rw [range_succ,List.flatMap_append]; simp
theorem ur1 (ts:List T3) (x0 y1:Int) (w n:Nat):allL ts x0 y1 w (n + 1)=allL ts x0 y1 w n ++ colL ts x0 y1 n (2 * w + 1):=by unfold allL; rw [range_succ,List.flatMap_append]; simp
theorem xd3 {ts:List T3} {x0 y1 r c:Int} {s:T3} (h:s ∈ shw (sgc ts x0 y1 r c) (x0 + c / 2,y1 - r / 2)):s ∈ ts:=by
 unfold shw sgc at h
 by_cases a:r % 2=0 /\ c % 2=0 /\ ts.any (has (x0 + c / 2,y1 - r / 2))=true
 ·rw [if_pos a] at h; simp at h
 ·rw [if_neg a] at h
  by_cases b:r % 2=0 /\ c % 2=1 /\ (x0 + c / 2,y1 - r / 2,0) ∈ ts
  ·rw [if_pos b] at h
   simp at h
   rw [h]; exact b.2.2
  ·rw [if_neg b] at h
   by_cases d:r % 2=1 /\ c % 2=0 /\ (x0 + c / 2,y1 - r / 2 - 1,1) ∈ ts
   ·rw [if_pos d] at h
    simp at h
    rw [h]; exact d.2.2
   ·rw [if_neg d] at h; simp at h
theorem yz1 (n:Nat) (p:Pt):(shw n p).length<=1:=by unfold shw; split <;> (try split) <;> simp
theorem sl1 (ts:List T3) (x0 y1 r:Int):∀ n,(colL ts x0 y1 r n).length<=n
 | 0=>by simp [colL]
 | n + 1=>by rw [yr1,length_append]; have:=sl1 ts x0 y1 r n; have:=yz1 (sgc ts x0 y1 r n) (x0 + (n:Int) / 2,y1 - r / 2); omega
theorem yk2 (ts:List T3) (x0 y1:Int) (w:Nat):∀ n,(allL ts x0 y1 w n).length<=n * (2 * w + 1)
 | 0=>by simp [allL]
 | n + 1=>by rw [ur1,length_append]; have:=yk2 ts x0 y1 w n; have:=sl1 ts x0 y1 n (2 * w + 1); have e:(n + 1) * (2 * w + 1)=n * (2 * w + 1) + (2 * w + 1):=Nat.succ_mul _ _; omega
theorem xk2 {ts:List T3} {x0 y0 x1 y1:Int} {w h:Nat} (hw:∀ t ∈ ts,wy t) (bx:Bx ts x0 y0 x1 y1) (ew:x1 - x0=w) (eh:y1 - y0=h) (s:T3):s ∈ allL ts x0 y1 w (2 * h + 1) ↔ s ∈ ts:=by
 constructor
 ·intro hs
  obtain ⟨r,_,hs⟩:=List.mem_flatMap.mp hs
  obtain ⟨c,_,hs⟩:=List.mem_flatMap.mp hs
  exact xd3 hs
 ·intro hs
  obtain ⟨x,y,k⟩:=s
  have a0:=bx.l0 _ hs
  have a1:=bx.m0 _ hs
  have a2:=bx.l1 _ hs
  have a3:=bx.m1 _ hs
  simp only [gx,gy] at a0 a1 a2 a3
  rcases hw _ hs with e | e <;> dsimp only at e <;> subst e
  ·refine List.mem_flatMap.mpr ⟨(2 * (y1 - y)).toNat,List.mem_range.mpr (by omega),List.mem_flatMap.mpr ⟨(2 * (x - x0) + 1).toNat,List.mem_range.mpr (by omega),?_⟩⟩
   have e1:(((2 * (y1 - y)).toNat:Nat):Int)=2 * (y1 - y):=by omega
   have e2:(((2 * (x - x0) + 1).toNat:Nat):Int)=2 * (x - x0) + 1:=by omega
   rw [e1,e2]
   have e3:x0 + (2 * (x - x0) + 1) / 2=x:=by omega
   have e4:y1 - 2 * (y1 - y) / 2=y:=by omega
   have sg:sgc ts x0 y1 (2 * (y1 - y)) (2 * (x - x0) + 1)=45:=by
    unfold sgc
    rw [e3,e4,if_neg (by omega),if_pos ⟨by omega,by omega,hs⟩]
   rw [sg,e3,e4]
   simp [shw]
  ·refine List.mem_flatMap.mpr ⟨(2 * (y1 - y) - 1).toNat,List.mem_range.mpr (by omega),List.mem_flatMap.mpr ⟨(2 * (x - x0)).toNat,List.mem_range.mpr (by omega),?_⟩⟩
   have e1:(((2 * (y1 - y) - 1).toNat:Nat):Int)=2 * (y1 - y) - 1:=by omega
   have e2:(((2 * (x - x0)).toNat:Nat):Int)=2 * (x - x0):=by omega
   rw [e1,e2]
   have e3:x0 + 2 * (x - x0) / 2=x:=by omega
   have e4:y1 - (2 * (y1 - y) - 1) / 2=y + 1:=by omega
   have e5:y + 1 - 1=y:=by omega
   have sg:sgc ts x0 y1 (2 * (y1 - y) - 1) (2 * (x - x0))=124:=by
    unfold sgc
    rw [e3,e4,if_neg (by omega),if_neg (by omega),e5,if_pos ⟨by omega,by omega,hs⟩]
   rw [sg,e3,e4]
   simp [shw]
theorem su4 {p q:Addr} {l m:List D} {μ:Mu} {Q:VK3} (h1:μ p=some (.lst l)) (h2:μ q=some (.lst m)) (hl:l.length + m.length<=sizeLine) (k:Q .non (updM μ p (.lst (l ++ m)))):extR (.ref p) [.ref q] μ Q:=by
 simp only [extR,h1,h2]
 exact ⟨hl,k⟩
theorem tm2 (ts:List T3) (x0 y1:Int) (w h:Nat):(sD (vd0 ts x0 y1 w h)).length=2 * h + 1:=by simp [vd0,sD]
theorem tv2 (ts:List T3) (x0 y1:Int) (w h:Nat) {i:Nat} (hi:i < 2 * h + 1):(sD (vd0 ts x0 y1 w h))[i]?=some (.str (rowS ts x0 y1 i (2 * w + 1))):=by
 simp [vd0,sD,hi]
theorem wt3 (ts:List T3) (x0 y1 r:Int) {n i:Nat} (hi:i < n):(rowS ts x0 y1 r n).cps.toList[i]?=some (sgc ts x0 y1 r i):=by
 simp [rowS,hi]
def spPi:Sp3:=λ ds μ Q=>∃ (q:Addr) (ts:List T3) (x0 y0 x1 y1:Int) (w h:Nat),ds=[.ref q,encQ (x0,y0)] /\ μ q=some (.lst (sD (vd0 ts x0 y1 w h))) /\ Pc ts /\ Bx ts x0 y0 x1 y1 /\ x1 - x0=w /\ y1 - y0=h /\ w < 40 /\ h < 40 /\ ∀ μ',Ext μ μ'->Q (.tup (ts.map encT)) μ'
theorem xa4 (ds:List D) (μ:Mu) (Q:VK3) (h:spPi ds μ Q):xr3 spPw xm2 { nx:=λ _ μ'=>Q .non μ',rt:=Q } (start3 xo3 ds) μ:=by
 obtain ⟨q,ts,x0,y0,x1,y1,w,h,rfl,hq,hP,bx,ew,eh,w4,h4,k⟩:=h
 have hz:(1048576:Nat) < sizeLine:=by decide
 have d2:(0:Int) < 2 /\ (2:Int) < 2 ^ 120:=⟨by decide,by decide⟩
 have ln:=tm2 ts x0 y1 w h
 have ey:y0 + ((sD (vd0 ts x0 y1 w h)).length:Int) / 2=y1:=by rw [ln]; omega
 have mx:∀ r n:Nat,r<=2 * h + 1->(allL ts x0 y1 w r).length<=79 * 79:=λ r _ hr=>Nat.le_trans (yk2 ts x0 y1 w r) (Nat.mul_le_mul (by omega) (by omega))
 conv=>whnf
 rw [hq]
 refine ⟨d2,?_⟩
 show vi0 spPw xm2 _ [some (.ref q),some (encQ (x0,y0)),some (.int (y0 + ((sD (vd0 ts x0 y1 w h)).length:Int) / 2)),none,none,none,none] μ
 rw [ey]
 refine ⟨Nat.zero_le _,λ g hg=>?_⟩
 have hq1:updM μ g (.lst []) q=some (.lst (sD (vd0 ts x0 y1 w h))):=Ext.new hg _ _ hq
 have hg1:updM μ g (.lst []) g=some (.lst []):=va0
 have ex1:Ext μ (updM μ g (.lst [])):=Ext.new hg
 generalize updM μ g (.lst [])=μ1 at hq1 hg1 ex1
 conv=>whnf
 rw [hq1]
 refine ⟨⟨by rw [ln]; omega,by rw [ln]; omega⟩,?_⟩
 rw [Int.toNat_natCast,ln]
 refine forR (λ r ρ μ'=>∃ y4 y5 y6,ρ=[some (.ref q),some (encQ (x0,y0)),some (.int y1),some (.ref g),y4,y5,y6] /\ Ext μ μ' /\ μ' q=some (.lst (sD (vd0 ts x0 y1 w h))) /\ μ' g=some (.lst ((allL ts x0 y1 w r).map encT))) (λ _=>trivial) ⟨_,_,_,rfl,ex1,hq1,hg1⟩ ?_ ?_
 ·rintro ρ μ' ⟨y4,y5,y6,rfl,ex,_,eg⟩
  refine ⟨g,_,ts,rfl,eg,λ x hx=>(xk2 hP.2.1 bx ew eh x).mp hx,hP.2.2,λ us μ2 ex2 ip=>?_⟩
  have:us=ts:=ip.one ⟨?_,?_,λ x=>(xk2 hP.2.1 bx ew eh x).symm⟩
  ·rw [this]; exact k μ2 (ex.trans ex2)
  ·exact wf4 hP
  ·exact hP.1.imp λ {a b} h=>by unfold Lt at h; unfold le3; simp [lt3] at h ⊢; omega
 ·rintro r ρ μ' hr ⟨y4,y5,y6,rfl,ex,eq,eg⟩
  show ixR (.ref q) (.int (r:Int)) μ' (λ d μ1=>_)
  refine yg0 eq (wa3 (tv2 ts x0 y1 w h hr)) ?_
  refine ⟨?_,⟨?_,?_⟩,?_⟩
  ·rw [yl0]; omega
  ·show -(2 ^ 62)<=((rowS ts x0 y1 r (2 * w + 1)).length:Int)
   rw [yl0]; omega
  ·show ((rowS ts x0 y1 r (2 * w + 1)).length:Int) < 2 ^ 62
   rw [yl0]; omega
  rw [yl0,Int.toNat_natCast]
  refine forR (λ c ρ μ'=>∃ y5 y6,ρ=[some (.ref q),some (encQ (x0,y0)),some (.int y1),some (.ref g),some (.int (r:Int)),y5,y6] /\ Ext μ μ' /\ μ' q=some (.lst (sD (vd0 ts x0 y1 w h))) /\ μ' g=some (.lst ((allL ts x0 y1 w r ++ colL ts x0 y1 r c).map encT))) (λ _=>trivial) ⟨_,_,rfl,ex,eq,by rw [eg]; simp [colL]⟩ ?_ ?_
  ·rintro ρ μ' ⟨y5,y6,rfl,ex,eq,eg⟩
   exact ⟨_,_,_,rfl,ex,eq,by rw [ur1]; exact eg⟩
  ·rintro c ρ μ' hc ⟨y5,y6,rfl,ex,eq,eg⟩
   refine ⟨d2,d2,z2,?_⟩
   conv=>whnf
   rw [eg]
   show ixR (.ref q) (.int (r:Int)) μ' (λ d μ1=>_)
   refine yg0 eq (wa3 (tv2 ts x0 y1 w h hr)) ?_
   refine ⟨?_,_,L2.atI_nat (wt3 ts x0 y1 r hc),?_⟩
   ·rw [yl0]; omega
   refine ⟨_,(x0 + (c:Int) / 2,y1 - (r:Int) / 2),rfl,λ p μ2 ex2 hp ep=>?_⟩
   have l1:=mx r 0 (by omega)
   have l2:=sl1 ts x0 y1 r c
   have l3:=yz1 (sgc ts x0 y1 r c) (x0 + (c:Int) / 2,y1 - (r:Int) / 2)
   dsimp only [nil3]
   refine su4 (ex2 _ _ eg) ep (by simp only [length_map,length_append]; omega) ?_
   refine ⟨_,_,rfl,λ a o ha=>?_,?_,?_⟩
   ·have nq:a ≠ g:=λ e=>by rw [e,hg] at ha; cases ha
    rw [xb0 nq]
    exact ex2 _ _ (ex _ _ ha)
   ·have nq:q ≠ g:=λ e=>by rw [e,hg] at hq; cases hq
    rw [xb0 nq]
    exact ex2 _ _ eq
   ·rw [va0,yr1,<- append_assoc]
    simp only [map_append]
theorem uo1 (n:Int):10 ∉ cp (nsT n):=by
 by_cases h0:0<=n
 ·rw [sd2 h0]
  intro h
  have:=uy0 _ _ h
  omega
 ·rw [zg1 (by omega)]
  intro h
  rcases List.mem_cons.mp h with h | h
  ·cases h
  ·have:=uy0 _ _ h
   omega
theorem xt2 (x0 y0:Int):10 ∉ cp (cnl x0 y0):=by
 unfold cnl
 rw [su0]
 show 10 ∉ cp (nsT x0) ++ 32 :: cp (nsT y0)
 intro h
 rcases List.mem_append.mp h with h | h
 ·exact uo1 _ h
 ·rcases List.mem_cons.mp h with h | h
  ·cases h
  ·exact uo1 _ h
theorem yn2 (ts:List T3) (x0 y1 r:Int) (w:Nat):10 ∉ cp (rowS ts x0 y1 r w):=by
 intro h
 simp only [cp,rowS,List.mem_map] at h
 obtain ⟨c,_,e⟩:=h
 unfold sgc at e
 split at e
 ·cases e
 ·split at e
  ·cases e
  ·split at e <;> cases e
theorem zd3 (ts:List T3) (x0 y0 y1:Int) (w h:Nat):∀ t ∈ cnl x0 y0 :: vd0 ts x0 y1 w h,10 ∉ cp t:=by
 intro t ht
 rcases List.mem_cons.mp ht with rfl | ht
 ·exact xt2 _ _
 ·obtain ⟨r,_,rfl⟩:=List.mem_map.mp ht
  exact yn2 _ _ _ _ _
theorem yy2:∀ l:List Str,(jm (l.map cp)).length<=(l.map (·.length)).sum + l.length
 | []=>Nat.le_refl _
 | [a]=>by simp [jm,uj0]
 | a :: b :: r=>by
  have:=yy2 (b :: r)
  have e:((a :: b :: r).map (·.length)).sum=(cp a).length + ((b :: r).map (·.length)).sum:=by rw [<- uj0]; rfl
  show (cp a ++ 10 :: jm ((b :: r).map cp)).length<=_
  rw [length_append,length_cons,e,length_cons (a:=a)]
  omega
theorem vt3 {ts:List T3} {x0 y0 y1:Int} {w h:Nat} (g0:gd x0) (g1:gd y0) (w4:w < 40) (h4:h < 40):(xl0 ts x0 y0 y1 w h).length<=10000:=by
 unfold xl0
 rw [uj0,tm0]
 have a:=yy2 (cnl x0 y0 :: vd0 ts x0 y1 w h)
 have b:=sa1 ts x0 y1 w h
 have c:=wd1 g0 g1
 have d:(2 * h + 1) * (2 * w + 1)<=79 * 79:=Nat.mul_le_mul (by omega) (by omega)
 have e:(vd0 ts x0 y1 w h).length=2 * h + 1:=by simp [vd0]
 have f:((cnl x0 y0 :: vd0 ts x0 y1 w h).map (·.length)).sum=(cnl x0 y0).length + ((vd0 ts x0 y1 w h).map (·.length)).sum:=rfl
 rw [f,b,length_cons (a:=cnl x0 y0),e] at a
 omega
theorem yd3 (ts:List T3) (x0 y0 y1:Int) (w h:Nat):xl0 ts x0 y0 y1 w h ≠ "none" := λ e=>by
 have:cp (xl0 ts x0 y0 y1 w h)=cp "none" := by rw [e]
 unfold xl0 at this
 rw [tm0,map_cons,yk3 (by simp [vd0])] at this
 have m:10 ∈ cp ("none" : Str):=by rw [<- this]; simp
 exact absurd m (by decide +kernel)
def wc3:Sp3:=λ ds μ Q=>∃ (ts:List T3) (x0 y0 y1:Int) (w h:Nat),ds=[.str (xl0 ts x0 y0 y1 w h),.tup (ts.map encT)] /\ Pc ts /\ gds ts /\ ts ≠ [] /\ Bw ts x0 y0 y1 w h /\ ∀ μ',Ext μ μ'->Q (.bl true) μ'
theorem va4 (ds:List D) (μ:Mu) (Q:VK3) (h:wc3 ds μ Q):wr3 ul2 { nx:=λ _ μ'=>Q .non μ',rt:=Q } (start3 vo3 ds) μ:=by
 obtain ⟨ts,x0,y0,y1,w,h,rfl,hP,hg,hn,⟨x1,bx,ew,eh,w4,h4⟩,q⟩:=h
 refine ⟨ts,rfl,hP,hg,λ c=>absurd c hn,λ _ u0 v0 u1 v1 μ' bx' ex=>?_⟩
 obtain ⟨rfl,rfl,rfl,rfl⟩:=bx.one bx'
 refine ⟨λ c=>by exfalso; omega,λ w' h' e1 e2 _ _=>?_⟩
 have f1:w'=w:=by omega
 have f2:h'=h:=by omega
 subst f1 f2
 show Q (.bl (decide (_=_))) μ'
 rw [decide_eq_true rfl]
 exact q μ' ex
def wr0 (XE:XE3):Sp3:=λ ds μ Q=>∃ (ts:List T3) (z:Str),ds=[.str z] /\ Pc ts /\ gds ts /\ ((ts=[] /\ z = "none") \/ (ts ≠ [] /\ ∃ (x0 y0 y1:Int) (w h:Nat),Bw ts x0 y0 y1 w h /\ z=xl0 ts x0 y0 y1 w h)) /\ ∀ μ',Ext μ μ'->Q (.tup (ts.map encT)) μ'
theorem tz3 (XE:XE3) (ds:List D) (μ:Mu) (Q:VK3) (h:wr0 XE ds μ Q):tq3 XE zc3 wc3 spPi { nx:=λ _ μ'=>Q .non μ',rt:=Q } (start3 tn3 ds) μ:=by
 obtain ⟨ts,z,rfl,hP,hg,h,q⟩:=h
 rcases h with ⟨rfl,rfl⟩ | ⟨hn,x0,y0,y1,w,h,bw,rfl⟩
 ·exact ⟨Nat.zero_le _,q μ (Ext.refl _)⟩
 ·have hz:(1048576:Nat) < sizeLine:=by decide
  have bw':=bw
  obtain ⟨x1,bx,ew,eh,w4,h4⟩:=bw
  have bg:gd x0 /\ gd y0:=by
   obtain ⟨s,hs,rfl⟩:=bx.a0
   obtain ⟨s',hs',rfl⟩:=bx.b0
   exact ⟨(hg s hs).1,(hg s' hs').2⟩
  have sl:=vt3 (ts:=ts) (y1:=y1) bg.1 bg.2 w4 h4
  show if decide (xl0 ts x0 y0 y1 w h = "none")=true then _ else _
  rw [decide_eq_false (yd3 _ _ _ _ _ _),if_neg (by decide)]
  refine ⟨⟨by decide +kernel,by omega⟩,λ p hp=>?_⟩
  have sp:(Txt.split (xl0 ts x0 y0 y1 w h) "\n").map D.str=.str (cnl x0 y0) :: sD (vd0 ts x0 y1 w h):=by
   unfold xl0
   rw [sj1 (by simp) (zd3 _ _ _ _ _ _)]
   rfl
  rw [sp]
  have e1:updM μ p (.lst (.str (cnl x0 y0) :: sD (vd0 ts x0 y1 w h))) p=some (.lst (.str (cnl x0 y0) :: sD (vd0 ts x0 y1 w h))):=va0
  have ex1:Ext μ (updM μ p (.lst (.str (cnl x0 y0) :: sD (vd0 ts x0 y1 w h)))):=Ext.new hp
  generalize updM μ p (.lst (.str (cnl x0 y0) :: sD (vd0 ts x0 y1 w h)))=μ1 at e1 ex1
  conv=>whnf
  rw [e1]
  intro r hr
  have ct:cut3 (D.str (cnl x0 y0) :: sD (vd0 ts x0 y1 w h)) (some 1) none=sD (vd0 ts x0 y1 w h):=by
   unfold cut3 sIx3
   simp
  rw [ct]
  have e2:updM μ1 r (.lst (sD (vd0 ts x0 y1 w h))) r=some (.lst (sD (vd0 ts x0 y1 w h))):=va0
  have ex2:Ext μ1 (updM μ1 r (.lst (sD (vd0 ts x0 y1 w h)))):=Ext.new hr
  have e3:=ex2 _ _ e1
  generalize updM μ1 r (.lst (sD (vd0 ts x0 y1 w h)))=μ2 at e2 ex2 e3
  show ixR (.ref p) (.int 0) μ2 (λ d μ1=>_)
  refine yg0 e3 atI0 ⟨x0,y0,rfl,bg.1,bg.2,λ μ3 ex3=>?_⟩
  refine ⟨r,ts,x0,y0,x1,y1,w,h,rfl,ex3 _ _ e2,hP,bx,ew,eh,w4,h4,λ μ4 ex4=>?_⟩
  refine ⟨ts,x0,y0,y1,w,h,rfl,hP,hg,hn,bw',λ μ5 ex5=>?_⟩
  exact q μ5 (ex1.trans (ex2.trans (ex3.trans (ex4.trans ex5))))
local macro_rules | `(tactic| simp_arith [$xs,*] $[$l]?)=>`(tactic| simp only [$xs,*,Pv.seq3,Pv.next3,Pv.never3,Pv.brk3,Pv.cnt3,Pv.drop3,Pv.ret3,Pv.retN3,Pv.ifs3,Pv.gn3,Pv.gnil3,Pv.gcons3,Pv.gtup3,Pv.set3,Pv.asg3,Pv.par3,Pv.sub3,Pv.for3,Pv.is3,Pv.ir3,Pv.ir23,Pv.v3,Pv.c3,Pv.o3,Pv.un3,Pv.b3,Pv.and3,Pv.or3,Pv.not3,Pv.andV3,Pv.orV3,Pv.notV3,Pv.if3,Pv.nil3,Pv.cons3,Pv.tup3,Pv.lst3,Pv.call3,Pv.mt3,Pv.comp3,Pv.tt3,Pv.getI,set_cons_zero,set_cons_succ,Pv.int2,Pv.int20,Pv.subR,Pv.mulR,Pv.intR,Pv.sl3,Pv.np3,Pv.pt3,Pv.slR,Pv.modR,Pv.fdivR,Pv.powR,Pv.ltR,Pv.leR,Pv.gtR,Pv.geR,Pv.negR,Pv.addR,Pv.eqR_ii,Pv.eqR_ss,Pv.eqR_bb,Pv.eqR_is,Pv.neR_ii,Pv.neR_ss,Pv.neR_bb,Pv.inR,Pv.ixR,Pv.lenR,Pv.absR,Pv.tupR,Pv.sumR,Pv.tyN,Pv.isIn,Pv.isiR,Pv.appR,Pv.extR,Pv.smt3,Pv.joinR,Pv.splitR,Pv.startsR,Pv.pop3,Pv.lrev3,Pv.strR,Pv.start3,map_cons,map_nil,cons_append,nil_append,length_cons,length_nil,List.replicate,Pv.atI0,Pv.atI1,Pv.atI2,Nat.reduceAdd,Nat.reduceSub,Nat.zero_add,reduceIte,Pv.strs?,Bool.not_true,Bool.not_false,Bool.false_eq_true,if_false,if_true,decide_eq_true_eq,Bool.not_eq_true',decide_eq_false_iff_not,Pv.ixN0,Pv.ixN1,Pv.ixN2,true_and,and_true,Pv.cst0,Pv.cst1,Pv.cst2,Pv.cst3,Int.reduceEq,Option.bind_none,Option.bind_some,Pv.kn_go_jump,Pv.kn_go_turn,Pv.kn_go_times,Pv.kn_jump_go,Pv.kn_jump_turn,Pv.kn_jump_times,Pv.kn_turn_go,Pv.kn_turn_jump,Pv.kn_turn_times,Pv.kn_times_go,Pv.kn_times_jump,Pv.kn_times_turn,Pv.kp_go,Pv.kp_jump,Pv.kp_turn,Pv.kp_times,Pv.kz_go,Pv.kz_jump,Pv.kz_turn,Pv.kz_times] $[$l]?)
def lfe (p q:Int × Int):T3:=((mnP p q).1,(mnP p q).2,(mxP p q).2 - (mnP p q).2)
def spFe:Sp3:=λ ds μ Q=>∃ p q,ds=[encQ p,encQ q] /\ Q (encT (lfe p q)) μ
theorem uq4 (ds:List D) (μ:Mu) (Q:VK3) (h:spFe ds μ Q):t_q3 { nx:=λ _ μ'=>Q .non μ',rt:=Q } (start3 N_q3 ds) μ:=by
 obtain ⟨p,q,rfl,k⟩:=h
 simp_arith [t_q3,N_q3,encQ,xh4,zh4]
 exact ⟨z3,k⟩
def rotN:Nat->Int × Int->Int × Int
 | 0,p=>p
 | n + 1,p=>rotN n (0 - p.2,p.1)
def wpt (m n x y:Int) (p:Int × Int):Int × Int:=((rotN (n % 4).toNat (if m=1 then 0 - p.1 else p.1,p.2)).1 + x,(rotN (n % 4).toNat (if m=1 then 0 - p.1 else p.1,p.2)).2 + y)
def lawS (m n x y:Int) (s:T3):T3:=lfe (wpt m n x y (s.1,s.2.1)) (wpt m n x y (gx s,gy s))
theorem sz1 (n:Nat) (p:Int × Int):rotN (n + 1) p=(0 - (rotN n p).2,(rotN n p).1):=by
 induction n generalizing p with
 | zero=>rfl
 | succ n ih=>rw [show rotN (n + 1 + 1) p=rotN (n + 1) (0 - p.2,p.1) from rfl,ih]; rfl
def yj0:Sp3:=λ ds μ Q=>∃ (ts:List T3) (m n x y:Int),ds=[.tup (ts.map encT),.int m,.int n,.int x,.int y] /\ ts.length < 60 /\ ∀ (us:List T3) μ',Ext μ μ'->us.Perm (ts.map (lawS m n x y))->us.Pairwise le3->Q (.tup (us.map encT)) μ'
def WEnd (ts:List T3) (m n x y:Int) (f e:Addr) (s:T3) (full:List (Int × Int)) (μ1:Mu):List D->St3->Mu->Prop:=λ l ρ μ'=>∃ (qs rs:List (Int × Int)) (aa bb kk:Option D),l=qs.map encQ ∧
 ρ=[some (.tup (ts.map encT)),some (.int m),some (.int n),some (.int x),some (.int y),some (.ref f),some (encT s),some (.ref e),aa,bb,kk] /\ Ext μ1 μ' /\ μ' e=some (.lst (rs.map encQ)) /\ rs ++ qs.map (wpt m n x y)=full
def vv4 (ts:List T3) (m n x y:Int) (f:Addr) (μ:Mu):List D->St3->Mu->Prop:=λ l ρ μ'=>∃ (us vs:List T3) (ss ee aa bb kk:Option D),l=us.map encT ∧
 ρ=[some (.tup (ts.map encT)),some (.int m),some (.int n),some (.int x),some (.int y),some (.ref f),ss,ee,aa,bb,kk] /\ Ext μ μ' /\ μ' f=some (.lst (vs.map encT)) /\ vs ++ us.map (lawS m n x y)=ts.map (lawS m n x y)
def WRot (ρ0:St3) (μ0:Mu) (c:Nat) (a b:Int):List D->St3->Mu->Prop:=λ l ρ μ'=>μ'=μ0 /\ ∃ (i:Nat) (kk:Option D),l=rngD (i:Int) (c - i) /\ i<=c /\ ρ=((ρ0.set 8 (some (.int (rotN i (a,b)).1))).set 9 (some (.int (rotN i (a,b)).2))).set 10 kk
theorem wg2 {ts:List T3} {m n x y:Int} {f e:Addr} {s:T3} {full:List (Int × Int)} {μ1:Mu} {D':Ends3} (he:μ1 e=none) (hl:full.length<=2) (a b:Int) (rest:List D) (ρ:St3) (μ':Mu)
    (W:WEnd ts m n x y f e s full μ1 (encQ (a,b) :: rest) ρ μ') :
    gtup3 2 (gcons3 (gn3 8) (gcons3 (gn3 9) gnil3)) (encQ (a,b)) ρ μ' λ ρ1 μ2=>(seq3 (ifs3 (b3 (o3 eqR (v3 1) (c3 (.int 1)))) (set3 8 (o3 subR (c3 (.int 0)) (v3 8))) next3) (seq3 (for3 (ir3 (cons3 (o3 modR (v3 2) (c3 (.int 4))) nil3)) (gn3 10) (par3 8 9 (cons3 (o3 subR (c3 (.int 0)) (v3 9)) (cons3 (v3 8) nil3)))) (drop3 (mt3 appR (v3 7) (cons3 (tup3 (cons3 (o3 addR (v3 8) (v3 3)) (cons3 (o3 addR (v3 9) (v3 4)) nil3))) nil3))))) { D' with nx:=WEnd ts m n x y f e s full μ1 rest,ct:=WEnd ts m n x y f e s full μ1 rest,bk:=D'.nx } ρ1 μ2:=by
 obtain ⟨qs,rs,aa,bb,kk,el,rfl,ex,em,ef⟩:=W
 cases qs with
 | nil=>cases el
 | cons q qs =>
  rw [map_cons] at el
  injection el with e1 e2
  have eq:q=(a,b):=by
   obtain ⟨q1,q2⟩:=q
   injection e1 with e3
   injection e3 with e4 e5
   injection e4 with e4
   injection e5 with e5 e6
   injection e5 with e5
   exact Prod.ext e4.symm e5.symm
  subst eq e2
  have main:∀ a':Int,a'=(if m=1 then 0 - a else a)->(seq3 (for3 (ir3 (cons3 (o3 modR (v3 2) (c3 (.int 4))) nil3)) (gn3 10) (par3 8 9 (cons3 (o3 subR (c3 (.int 0)) (v3 9)) (cons3 (v3 8) nil3)))) (drop3 (mt3 appR (v3 7) (cons3 (tup3 (cons3 (o3 addR (v3 8) (v3 3)) (cons3 (o3 addR (v3 9) (v3 4)) nil3))) nil3)))) { D' with nx:=WEnd ts m n x y f e s full μ1 (qs.map encQ),ct:=WEnd ts m n x y f e s full μ1 (qs.map encQ),bk:=D'.nx } [some (.tup (ts.map encT)),some (.int m),some (.int n),some (.int x),some (.int y),some (.ref f),some (encT s),some (.ref e),some (.int a'),some (.int b),kk] μ':=λ a' ha=>by
   refine ⟨(show (0:Int) < 4 by decide),⟨by have:=Int.emod_nonneg n (show (4:Int) ≠ 0 by decide); omega,by have:=Int.emod_lt_of_pos n (show (0:Int) < 4 by decide); omega⟩,?_⟩
   refine wh0 (WRot [some (.tup (ts.map encT)),some (.int m),some (.int n),some (.int x),some (.int y),some (.ref f),some (encT s),some (.ref e),some (.int a'),some (.int b),kk] μ' (n % 4).toNat a' b) ?_ (λ _ _ _ _=>trivial) ?_ ?_
   ·exact ⟨rfl,0,kk,rfl,Nat.zero_le _,rfl⟩
   ·rintro ρ μ2 ⟨rfl,i,k2,el,hi,rfl⟩
    have ei:i=(n % 4).toNat:=by
     cases c:(n % 4).toNat - i with
     | zero=>omega
     | succ c'=>rw [c,zm0] at el; cases el
    conv=>whnf
    rw [em]
    refine ⟨z2,?_⟩
    conv=>whnf
    rw [em]
    refine ⟨?_,?_⟩
    ·rw [length_map]
     have h1:=congrArg List.length ef
     simp only [length_append,length_map,length_cons] at h1
     have:(10:Nat) < sizeLine:=by decide
     omega
    ·refine ⟨qs,rs ++ [wpt m n x y (a,b)],_,_,_,rfl,rfl,λ c o hc=>?_,?_,by rw [<- ef]; simp⟩
     ·rw [xb0 (ud0 hc he)]; exact ex c o hc
     ·rw [va0,map_append]
      subst ei
      unfold wpt
      rw [<- ha]
      rfl
   ·rintro d r ρ μ2 ⟨rfl,i,k2,el,hi,rfl⟩
    cases c:(n % 4).toNat - i with
    | zero=>rw [c] at el; simp [rngD] at el
    | succ c' =>
     rw [c,zm0] at el
     injection el with e3 e4
     subst e3 e4
     refine ⟨rfl,i + 1,some (.int (i:Int)),?_,by omega,?_⟩
     ·rw [show (n % 4).toNat - (i + 1)=c' by omega]; congr 1
     ·rw [sz1]; rfl
  simp_arith [encQ]
  by_cases c:m=1
  ·rw [if_pos c]
   exact main (0 - a) (by rw [if_pos c])
  ·rw [if_neg c]
   exact main a (by rw [if_neg c])
theorem wb4 (ds:List D) (μ:Mu) (Q:VK3) (h:yj0 ds μ Q):xs3 spLe spFe { nx:=λ _ μ'=>Q .non μ',rt:=Q } (start3 yp3 ds) μ:=by
 obtain ⟨ts,m,n,x,y,rfl,hl,q⟩:=h
 have hz:(100:Nat) < sizeLine:=by decide
 refine ⟨(show 0<=sizeLine by decide),λ f hf=>?_⟩
 refine wh0 (vv4 ts m n x y f μ) ?_ (λ _ _ _ _=>trivial) ?_ ?_
 ·exact ⟨ts,[],none,none,none,none,none,rfl,rfl,Ext.new hf,va0,rfl⟩
 ·rintro ρ μ' ⟨us,vs,ss,ee,aa,bb,kk,el,rfl,ex,ev,eq⟩
  cases us with
  | cons _ _=>cases el
  | nil =>
   rw [map_nil,append_nil] at eq
   rw [eq] at ev
   exact sn4 ev (by rw [length_map]; omega) λ us a1 a2 r hr=>uk2 va0 (q us _ (ex.trans (Ext.new hr)) a1 a2)
 ·rintro d rest ρ μ' ⟨us,vs,ss,ee,aa,bb,kk,el,rfl,ex,ev,eq⟩
  cases us with
  | nil=>cases el
  | cons s us =>
   rw [map_cons] at el
   injection el with e1 e2
   subst e1 e2
   refine ⟨(show 0<=sizeLine by decide),λ e he=>⟨s,rfl,?_⟩⟩
   refine wh0 (WEnd ts m n x y f e s [wpt m n x y (s.1,s.2.1),wpt m n x y (gx s,gy s)] μ') ?_ (λ _ _ _ _=>trivial) ?_ ?_
   ·exact ⟨[(s.1,s.2.1),(gx s,gy s)],[],aa,bb,kk,rfl,rfl,Ext.new he,va0,rfl⟩
   ·rintro ρ2 μ2 ⟨qs,rs,a2,b2,k2,el,rfl,ex2,em,ef⟩
    cases qs with
    | cons _ _=>cases el
    | nil =>
     rw [map_nil,append_nil] at ef
     subst ef
     have ev2:=ex2 _ _ ev
     conv=>whnf
     rw [ev2]
     conv=>whnf
     rw [em]
     conv=>whnf
     rw [em]
     refine ⟨_,_,rfl,?_⟩
     conv=>whnf
     rw [ev2]
     refine ⟨?_,us,vs ++ [lawS m n x y s],_,_,_,_,_,rfl,rfl,λ c o hc=>?_,?_,by rw [<- eq]; simp⟩
     ·rw [length_map]
      have h1:=congrArg List.length eq
      simp only [length_append,length_map,length_cons] at h1
      omega
     ·rw [xb0 (ud0 hc hf)]; exact ex2 _ _ (ex c o hc)
     ·rw [va0,map_append]; rfl
   ·rintro d2 r2 ρ2 μ2 W
    obtain ⟨qs,rs,a2,b2,k2,el,e3⟩:=id W
    cases qs with
    | nil=>cases el
    | cons p qs =>
     rw [map_cons] at el
     injection el with e4 e5
     subst e4
     obtain ⟨p1,p2⟩:=p
     exact wg2 (full:=[wpt m n x y (s.1,s.2.1),wpt m n x y (gx s,gy s)]) he (Nat.le_refl 2) p1 p2 r2 ρ2 μ2 W
theorem th4 {x y:Int} {s:T3} (h:wy s):lawS 0 0 x y s=mv x y s:=by
 obtain ⟨a,b,w⟩:=s
 rcases h with h | h <;> dsimp only at h <;> subst h <;> refine Prod.ext ?_ (Prod.ext ?_ ?_) <;> simp [lawS,lfe,wpt,rotN,mnP,mxP,ltP,mv,gx,gy] <;> (repeat' split) <;> first | omega | (exfalso; have z:=of_decide_eq_true ‹decide _=true›; omega)
local macro_rules | `(tactic| simp_arith [$xs,*] $[$l]?)=>`(tactic| simp only [$xs,*,Pv.seq3,Pv.next3,Pv.never3,Pv.brk3,Pv.cnt3,Pv.drop3,Pv.ret3,Pv.retN3,Pv.ifs3,Pv.gn3,Pv.gnil3,Pv.gcons3,Pv.gtup3,Pv.set3,Pv.asg3,Pv.par3,Pv.sub3,Pv.for3,Pv.is3,Pv.ir3,Pv.ir23,Pv.v3,Pv.c3,Pv.o3,Pv.un3,Pv.b3,Pv.and3,Pv.or3,Pv.not3,Pv.andV3,Pv.orV3,Pv.notV3,Pv.if3,Pv.nil3,Pv.cons3,Pv.tup3,Pv.lst3,Pv.call3,Pv.mt3,Pv.comp3,Pv.tt3,Pv.getI,set_cons_zero,set_cons_succ,Pv.int2,Pv.int20,Pv.subR,Pv.mulR,Pv.intR,Pv.sl3,Pv.np3,Pv.pt3,Pv.slR,Pv.modR,Pv.fdivR,Pv.powR,Pv.ltR,Pv.leR,Pv.gtR,Pv.geR,Pv.negR,Pv.addR,Pv.eqR_ii,Pv.eqR_ss,Pv.eqR_bb,Pv.eqR_is,Pv.neR_ii,Pv.neR_ss,Pv.neR_bb,Pv.inR,Pv.ixR,Pv.lenR,Pv.absR,Pv.tupR,Pv.sumR,Pv.tyN,Pv.isIn,Pv.isiR,Pv.appR,Pv.extR,Pv.smt3,Pv.joinR,Pv.splitR,Pv.startsR,Pv.pop3,Pv.lrev3,Pv.strR,Pv.start3,map_cons,map_nil,cons_append,nil_append,length_cons,length_nil,List.replicate,Pv.atI0,Pv.atI1,Pv.atI2,Nat.reduceAdd,Nat.reduceSub,Nat.zero_add,reduceIte,Pv.strs?,Bool.not_true,Bool.not_false,Bool.false_eq_true,if_false,if_true,decide_eq_true_eq,Bool.not_eq_true',decide_eq_false_iff_not,Pv.ixN0,Pv.ixN1,Pv.ixN2,true_and,and_true,Pv.cst0,Pv.cst1,Pv.cst2,Pv.cst3,Int.reduceEq,Option.bind_none,Option.bind_some,Pv.kn_go_jump,Pv.kn_go_turn,Pv.kn_go_times,Pv.kn_jump_go,Pv.kn_jump_turn,Pv.kn_jump_times,Pv.kn_turn_go,Pv.kn_turn_jump,Pv.kn_turn_times,Pv.kn_times_go,Pv.kn_times_jump,Pv.kn_times_turn,Pv.kp_go,Pv.kp_jump,Pv.kp_turn,Pv.kp_times,Pv.kz_go,Pv.kz_jump,Pv.kz_turn,Pv.kz_times] $[$l]?)
def xk1:Sp3:=λ ds μ Q=>∃ i:Int,ds=[.int i] /\ Q (.bl true) μ
theorem zb4 (ds:List D) (μ:Mu) (Q:VK3) (h:xk1 ds μ Q):vb3 { nx:=λ _ μ'=>Q .non μ',rt:=Q } (start3 yu2 ds) μ:=by
 obtain ⟨i,rfl,q⟩:=h
 simp_arith [vb3,yu2]
 exact q
theorem xv4:∀ L:List T3,PyData.eqvAll (L.map pT) (L.map pT)=true:=λ L=>by rw [sy2]; simp
def tr0:Sp3:=λ ds μ Q=>∃ us:List T3,ds=[.tup (us.map encT),.tup (us.map encT)] /\ us.length < 64 /\ ∀ μ',Ext μ μ'->Q (.bl true) μ'
theorem vq4 (ds:List D) (μ:Mu) (Q:VK3) (h:tr0 ds μ Q):t_q4 xk1 { nx:=λ _ μ'=>Q .non μ',rt:=Q } (start3 N_q4 ds) μ:=by
 obtain ⟨us,rfl,hl,q⟩:=h
 have dd:datM μ (.tup (us.map encT))=some (.tuple (us.map pT)):=by simp only [datM,dat,uh1]
 have ee:∀ K:VK3,neR (.tup (us.map encT)) (.tup (us.map encT)) μ K=K (.bl false) μ:=λ K=>by
  rw [tk1 rfl dd dd (um0 us) (um0 us)]
  simp [PyData.eqv,xv4]
 simp_arith [t_q4,N_q4,ee]
 refine wh0 (λ l ρ μ'=>Ext μ μ' /\ ∃ (vs:List T3) (sd:Option D),l=vs.map encT /\ ρ=[some (.tup (us.map encT)),some (.tup (us.map encT)),sd]) ?_ (λ _ _ _ _=>trivial) ?_ ?_
 ·exact ⟨Ext.refl _,us,none,rfl,rfl⟩
 ·rintro ρ μ' ⟨ex,vs,sd,_,rfl⟩
  exact q μ' ex
 ·rintro d r ρ μ' ⟨ex,vs,sd,el,rfl⟩
  cases vs with
  | nil=>cases el
  | cons t vs =>
   rw [map_cons] at el
   injection el with e1 e2
   subst e1 e2
   simp_arith [encT]
   intro p hp
   refine zh0 (rest:=[]) (λ _=>.bl true) hp (show 3<=sizeLine by decide) (λ _ _=>trivial) ?_ ?_
   ·intro x hx μ2 R e3 k
    simp only [mem_cons,not_mem_nil,or_false] at hx
    rcases hx with rfl | rfl | rfl <;> exact ⟨_,rfl,k _ (Ext.refl _)⟩
   ·intro μ2 e3 e4
    simp only [map_cons,map_nil] at e4
    simp_arith [Pv.allR,e4,Pv.bls?]
    simp
    exact ⟨ex.trans e3,vs,rfl⟩
def BL1:List D:=[.bl false,.bl true,.bl false,.bl false,.bl false,.bl false,.bl true]
theorem sx10:subX "NoWord" "NoRoom" = some false:=by decide
theorem sx11:subX "NoRoom" "NoRoom" = some true:=by decide
theorem sx12:subX "NoStep" "NoRoom" = some false:=by decide
theorem sx13:subX "NoPicture" "NoRoom" = some false:=by decide
theorem sx14:subX "NoNumber" "NoRoom" = some false:=by decide
theorem sx15:subX "BadNote" "NoRoom" = some false:=by decide
theorem sx16:subX "ValueError" "NoRoom" = some true:=by decide
def spMk:Sp3:=λ ds μ Q=>ds=[.exc "NoRoom"] /\ ∀ p μ',Ext μ μ'->μ' p=some (.lst BL1)->Q (.ref p) μ'
theorem wq4 (ds:List D) (μ:Mu) (Q:VK3) (h:spMk ds μ Q):t_q5 { nx:=λ _ μ'=>Q .non μ',rt:=Q } (start3 N_q5 ds) μ:=by
 obtain ⟨rfl,q⟩:=h
 simp_arith [t_q5,N_q5,isx3,sx10,sx11,sx12,sx13,sx14,sx15,sx16]
 refine ⟨by decide,λ p hp=>⟨by decide,λ r hr=>?_⟩⟩
 have hpr:p ≠ r:=ud0 va0 hr
 simp_arith [xb0 hpr,va0]
 refine ⟨by decide,λ t ht=>q t _ (λ c o hc=>?_) va0⟩
 have z1:updM μ p (.lst [.bl false,.bl true,.bl false,.bl false]) c=some o:=by rw [xb0 (ud0 hc hp)]; exact hc
 have z2:=(Ext.new (o:=.lst [.bl false,.bl false,.bl true]) hr) c o z1
 rw [xb0 (ud0 z2 ht)]; exact z2
def vr0:Sp3:=λ ds μ Q=>∃ (p:Addr),ds=[.ref p,.int 1] /\ μ p=some (.lst BL1) /\ ∀ μ',Ext μ μ'->Q (.bl true) μ'
theorem xq4 (ds:List D) (μ:Mu) (Q:VK3) (h:vr0 ds μ Q):t_q8 { nx:=λ _ μ'=>Q .non μ',rt:=Q } (start3 N_q8 ds) μ:=by
 obtain ⟨p,rfl,ep,q⟩:=h
 simp_arith [t_q8,N_q8]
 refine ⟨by decide,λ r hr=>?_⟩
 have hl:(rngD 0 (6:Int).toNat).length<=sizeLine:=by decide
 refine zh0 (λ x=>match x with | .int i=>.bl (decide (i=1)) | _=>.non) hr hl (λ _ _=>trivial) ?_ ?_
 ·intro x hx μ' R ex k
  obtain ⟨i,_,rfl⟩:=List.mem_map.mp hx
  simp_arith [cst0]
  exact k _ (Ext.refl _)
 ·intro μ1 e1 y1
  have y2:μ1 r=some (.lst [.bl false,.bl true,.bl false,.bl false,.bl false,.bl false]):=by rw [y1]; rfl
  refine ⟨by decide,λ t ht=>?_⟩
  have hrt:r ≠ t:=ud0 y2 ht
  simp_arith [xb0 hrt,y2,va0]
  refine ⟨by decide,λ z hz=>?_⟩
  have e2:Ext μ (updM (updM μ1 t (.lst [.bl true])) z (.lst BL1)):=e1.trans ((Ext.new ht).trans (Ext.new hz))
  have d1:datM (updM (updM μ1 t (.lst [.bl true])) z (.lst BL1)) (.ref p)=some (.list [.bool false,.bool true,.bool false,.bool false,.bool false,.bool false,.bool true]):=by
   have:=e2 p _ ep
   simp only [datM,this]; rfl
  have d2:datM (updM (updM μ1 t (.lst [.bl true])) z (.lst BL1)) (.ref z)=some (.list [.bool false,.bool true,.bool false,.bool false,.bool false,.bool false,.bool true]):=by simp only [datM,va0]; rfl
  have dp:(PyData.list [.bool false,.bool true,.bool false,.bool false,.bool false,.bool false,.bool true]).depth<=64:=by decide
  show eqR (.ref p) (.ref z) (updM (updM μ1 t (.lst [.bl true])) z (.lst BL1)) Q
  rw [yg2 rfl d1 d2 dp dp]
  have ev:PyData.eqv (.list [.bool false,.bool true,.bool false,.bool false,.bool false,.bool false,.bool true]) (.list [.bool false,.bool true,.bool false,.bool false,.bool false,.bool false,.bool true])=true:=by decide
  rw [ev]
  exact q _ e2
theorem sk0 {cls c:Str} {b:Bool} (h:subX cls c=some b):c ∈ xnames:=by
 unfold subX at h
 split at h
 ·next e=>simpa using e
 ·cases h
local macro_rules | `(tactic| simp_arith [$xs,*] $[$l]?)=>`(tactic| simp only [$xs,*,Pv.seq3,Pv.next3,Pv.never3,Pv.brk3,Pv.cnt3,Pv.drop3,Pv.ret3,Pv.retN3,Pv.ifs3,Pv.gn3,Pv.gnil3,Pv.gcons3,Pv.gtup3,Pv.set3,Pv.asg3,Pv.par3,Pv.sub3,Pv.for3,Pv.is3,Pv.ir3,Pv.ir23,Pv.v3,Pv.c3,Pv.o3,Pv.un3,Pv.b3,Pv.and3,Pv.or3,Pv.not3,Pv.andV3,Pv.orV3,Pv.notV3,Pv.if3,Pv.nil3,Pv.cons3,Pv.tup3,Pv.lst3,Pv.call3,Pv.mt3,Pv.comp3,Pv.tt3,Pv.getI,set_cons_zero,set_cons_succ,Pv.int2,Pv.int20,Pv.subR,Pv.mulR,Pv.intR,Pv.sl3,Pv.np3,Pv.pt3,Pv.slR,Pv.modR,Pv.fdivR,Pv.powR,Pv.ltR,Pv.leR,Pv.gtR,Pv.geR,Pv.negR,Pv.addR,Pv.eqR_ii,Pv.eqR_ss,Pv.eqR_bb,Pv.eqR_is,Pv.neR_ii,Pv.neR_ss,Pv.neR_bb,Pv.inR,Pv.ixR,Pv.lenR,Pv.absR,Pv.tupR,Pv.sumR,Pv.tyN,Pv.isIn,Pv.isiR,Pv.appR,Pv.extR,Pv.smt3,Pv.joinR,Pv.splitR,Pv.startsR,Pv.pop3,Pv.lrev3,Pv.strR,Pv.start3,map_cons,map_nil,cons_append,nil_append,length_cons,length_nil,List.replicate,Pv.atI0,Pv.atI1,Pv.atI2,Nat.reduceAdd,Nat.reduceSub,Nat.zero_add,reduceIte,Pv.strs?,Bool.not_true,Bool.not_false,Bool.false_eq_true,if_false,if_true,decide_eq_true_eq,Bool.not_eq_true',decide_eq_false_iff_not,Pv.ixN0,Pv.ixN1,Pv.ixN2,true_and,and_true,Pv.cst0,Pv.cst1,Pv.cst2,Pv.cst3,Int.reduceEq,Option.bind_none,Option.bind_some,Pv.kn_go_jump,Pv.kn_go_turn,Pv.kn_go_times,Pv.kn_jump_go,Pv.kn_jump_turn,Pv.kn_jump_times,Pv.kn_turn_go,Pv.kn_turn_jump,Pv.kn_turn_times,Pv.kn_times_go,Pv.kn_times_jump,Pv.kn_times_turn,Pv.kp_go,Pv.kp_jump,Pv.kp_turn,Pv.kp_times,Pv.kz_go,Pv.kz_jump,Pv.kz_turn,Pv.kz_times] $[$l]?)
open Mt
def zj0:Sp3:=λ ds μ Q=>∃ ts:List T3,ds=[.tup (ts.map encT)] /\ Pc ts /\ gds ts /\ (ts=[]->∀ p μ',Ext μ μ'->μ' p=some (.lst [])->Q (.tup [.str "none",.ref p]) μ') ∧
 (ts ≠ []->∀ x0 y0 x1 y1,Bx ts x0 y0 x1 y1->((40<=x1 - x0 \/ 40<=y1 - y0)->∀ p μ',Ext μ μ'->μ' p=some (.lst BL1)->Q (.tup [.non,.ref p]) μ') /\ (∀ w h:Nat,x1 - x0=w->y1 - y0=h->w < 40->h < 40->∀ p μ',Ext μ μ'->μ' p=some (.lst [])->Q (.tup [.str (xl0 ts x0 y0 y1 w h),.ref p]) μ'))
theorem vb4 (ds:List D) (μ:Mu) (Q:VK3) (h:zj0 ds μ Q):ub3 spMk ul2 { nx:=λ _ μ'=>Q .non μ',rt:=Q } (start3 zu2 ds) μ:=by
 obtain ⟨ts,rfl,hP,hg,q0,q1⟩:=h
 simp_arith [ub3,zu2,try3,td3]
 refine ⟨by decide,λ p hp=>⟨ts,rfl,hP,hg,λ c μ' ex=>⟨z2,q0 c p μ' ((Ext.new hp).trans ex) (ex _ _ va0)⟩,λ c x0 y0 x1 y1 μ' bx ex=>?_⟩⟩
 obtain ⟨a,b⟩:=q1 c x0 y0 x1 y1 bx
 refine ⟨λ wd=>⟨by decide,rfl,λ r μ2 ex2 er=>⟨z2,a wd r μ2 ((Ext.new hp).trans (ex.trans ex2)) er⟩⟩,λ w h e1 e2 l1 l2=>⟨z2,b w h e1 e2 l1 l2 p μ' ((Ext.new hp).trans ex) (ex _ _ va0)⟩⟩
def ym2:Sp3:=λ ds μ Q=>∃ nsT:List Int,ds=[.fls (nsT.map D.int)] /\ nsT.length<=63 /\ ∀ μ',Q (.bl true) μ'
theorem if_m {c:TT3} {t rest:TS3} {D':Ends3} {ρ:St3} {μ:Mu} (hc:∀ K:Bool->Mu->Prop,(∀ μ',K false μ')->c ρ μ K) (h2:∀ μ',rest D' ρ μ'):seq3 (ifs3 c t next3) rest D' ρ μ:=hc _ λ μ'=>h2 μ'
theorem t_ne {i:Nat} {p:Addr} {ρ:St3} {μ:Mu} {K:Bool->Mu->Prop} (hv:getI ρ i=some (.ref p)) (h:μ p=some (.lst [])) (k:∀ μ',K false μ'):b3 (o3 neR (v3 i) (lst3 nil3)) ρ μ K:=by
 unfold b3 o3 v3 lst3 nil3
 rw [hv]
 refine ⟨Nat.zero_le _,λ q hq=>?_⟩
 have h1:updM μ q (.lst []) p=some (.lst []):=Ext.new hq _ _ h
 have h2:updM μ q (.lst []) q=some (.lst []):=va0
 dsimp only
 generalize updM μ q (.lst [])=μ1 at h1 h2
 have d1:datM μ1 (.ref p)=some (.list []):=by simp only [datM,h1,dats]
 have d2:datM μ1 (.ref q)=some (.list []):=by simp only [datM,h2,dats]
 rw [tk1 rfl d1 d2 (by decide) (by decide)]
 exact k _
theorem zm4 {i:Nat} {z:Str} {ρ:St3} {μ:Mu} {K:Bool->Mu->Prop} (hv:getI ρ i=some (.str z)) (k:K false μ):not3 (b3 (call3 isiR (cons3 (v3 i) (cons3 (c3 (.ty "str")) nil3)))) ρ μ K:=by
 have e:isIn "str" "str" = some true:=by decide
 unfold not3 b3 call3 cons3 v3 nil3 c3
 rw [hv]
 simp only [isiR,tyN,e]
 exact k
def ShO (us:List T3) (z:Str):Prop:=(us=[] /\ z = "none") \/ (us ≠ [] /\ ∃ (x0 y0 y1:Int) (w h:Nat),Bw us x0 y0 y1 w h /\ z=xl0 us x0 y0 y1 w h)
theorem t_sh {us:List T3} {z:Str} {ρ:St3} {μ:Mu} {K:Bool->Mu->Prop} (h8:getI ρ 8=some (.str z)) (h2:getI ρ 2=some (.tup (us.map encT))) (hP:Pc us) (hg:gds us) (hl:us.length < 30) (hz:ShO us z) (k:∀ μ',K false μ'):b3 (o3 neR (v3 8) (call3 uo0 (cons3 (v3 2) nil3))) ρ μ K:=by
 unfold b3 o3 call3 cons3 v3 nil3
 rw [h8,h2]
 have e:∀ μ',K (!decide (z=z)) μ':=λ μ'=>by rw [decide_eq_true rfl]; exact k μ'
 refine ⟨us,rfl,hP.2.1,hg,hl,λ c μ' _=>?_,λ c=>?_⟩
 ·rcases hz with ⟨_,rfl⟩ | ⟨c',_⟩
  ·exact e μ'
  ·exact absurd c c'
 ·rcases hz with ⟨c',_⟩ | ⟨_,x0,y0,y1,w,h,bw,rfl⟩
  ·exact absurd c' c
  ·exact ⟨x0,y0,y1,w,h,bw,λ μ' _=>e μ'⟩
theorem sh4 {us:List T3} {z:Str} {p:Addr} {o0 o1 o3' o4 o5 o6 o7:Option D} {μ:Mu} {Q:VK3} (q:∀ μ',Q (.bl true) μ') (hP:Pc us) (hg:gds us) (hl:us.length < 30) (hz:ShO us z) (hp:μ p=some (.lst [])) :
    sz0 zd0 tr0 ur0 xm0 vr0 uo0 sg0 zj0 yj0 wr0 { nx:=λ _ μ'=>Q .non μ',rt:=Q } [o0,o1,some (.tup (us.map encT)),o3',o4,o5,o6,o7,some (.str z),some (.ref p)] μ:=by
 unfold sz0
 refine if_m (by
  intro K k
  unfold or3
  refine t_ne rfl hp λ μ1=>?_
  rw [if_neg (by decide)]
  refine zm4 rfl ?_
  rw [if_neg (by decide)]
  exact t_sh rfl rfl hP hg hl hz λ μ2=>k μ2) λ μ1=>?_
 exact ⟨us,z,rfl,hP,hg,hz,λ μ2 _=>⟨us,rfl,by omega,λ μ3 _=>q μ3⟩⟩
theorem t_nn {i:Nat} {ts:List T3} {ρ:St3} {μ:Mu} {K:Bool->Mu->Prop} (hv:getI ρ i=some (.tup (ts.map encT))) (k:K (!decide (ts=[])) μ):b3 (o3 neR (v3 i) (tup3 nil3)) ρ μ K:=by
 have dd:datM μ (.tup (ts.map encT))=some (.tuple (ts.map pT)):=by simp only [datM,dat,uh1]
 have e:PyData.eqv (.tuple (ts.map pT)) (.tuple [])=decide (ts=[]):=by cases ts <;> simp [PyData.eqv,PyData.eqvAll]
 unfold b3 o3 v3 tup3 nil3
 rw [hv]
 refine ⟨Nat.zero_le _,?_⟩
 dsimp only
 rw [tk1 rfl dd (show datM μ (.tup [])=some (.tuple []) from rfl) (um0 ts) (by decide),e]
 exact k
theorem zs3 {us:List T3} {ks:List Pt} {a b:Addr} {ρ:St3} {μ:Mu} {K:Bool->Mu->Prop} (h6:getI ρ 6=some (.ref a)) (h7:getI ρ 7=some (.ref b)) (ea:μ a=some (.lst ((ks.map λ q=>q.1).map D.int))) (eb:μ b=some (.lst ((ks.map λ q=>q.2).map D.int))) (kn:0 < ks.length) (hw:∀ t ∈ us,wy t) (me:∀ p,p ∈ ks ↔ p ∈ wj0 us)
    (k:∀ x0 y0 x1 y1,Bx us x0 y0 x1 y1->∀ m:Int,(39 < m ↔ (40<=x1 - x0 \/ 40<=y1 - y0))->K (decide (39 < m)) μ):b3 (o3 gtR (call3 mxR (cons3 (o3 subR (call3 mxR (cons3 (v3 6) nil3)) (call3 mnR (cons3 (v3 6) nil3))) (cons3 (o3 subR (call3 mxR (cons3 (v3 7) nil3)) (call3 mnR (cons3 (v3 7) nil3))) nil3))) (c3 (.int 39))) ρ μ K:=by
 unfold b3 o3 call3 cons3 v3 nil3 c3
 simp only [h6,h7]
 refine tp2 ea ⟨by rw [length_map]; exact kn,λ x1 a1 l1=>?_⟩
 refine xq2 ea ⟨by rw [length_map]; exact kn,λ x0 a0 l0=>?_⟩
 dsimp only [subR,int20]
 refine tp2 eb ⟨by rw [length_map]; exact kn,λ y1 b1 m1=>?_⟩
 refine xq2 eb ⟨by rw [length_map]; exact kn,λ y0 b0 m0=>?_⟩
 dsimp only
 rw [tg4]
 exact k x0 y0 x1 y1 (ul4 hw me a0 l0 b0 m0 a1 l1 b1 m1) _ (by split <;> omega)
theorem zu4 {us:List T3} {o0 o1 o3' o4:Option D} {μ:Mu} {Q:VK3} (q:∀ μ',Q (.bl true) μ') (hP:Pc us) (hg:gds us) (hl:us.length < 30) :
    xn1 zd0 tr0 ur0 xm0 vr0 uo0 sg0 zj0 yj0 wr0 { nx:=λ _ μ'=>Q .non μ',rt:=Q } [o0,o1,some (.tup (us.map encT)),o3',o4,none,none,none,none,none] μ:=by
 refine ⟨us,rfl,by omega,λ d ks μ1 I=>?_⟩
 have kl:ks.length < 60:=by have:=I.le; rw [wu0] at this; omega
 show ya1 zd0 tr0 ur0 xm0 vr0 uo0 sg0 zj0 yj0 wr0 _ [o0,o1,some (.tup (us.map encT)),o3',o4,some (.ref d),none,none,none,none] μ1
 unfold ya1
 dsimp only [seq3,set3]
 refine xr1 (i:=0) (.inl ⟨rfl,rfl⟩) rfl I.dc (by omega) λ a μ2 ex2 ea=>?_
 show xa1 zd0 tr0 ur0 xm0 vr0 uo0 sg0 zj0 yj0 wr0 _ [o0,o1,some (.tup (us.map encT)),o3',o4,some (.ref d),some (.ref a),none,none,none] μ2
 unfold xa1
 dsimp only [seq3,set3]
 refine xr1 (i:=1) (.inr ⟨rfl,rfl⟩) rfl (ex2 _ _ I.dc) (by omega) λ b μ3 ex3 eb=>?_
 have ea3:=ex3 _ _ ea
 refine ⟨us,rfl,hP,hg,λ c p μ4 ex4 e4=>?_,λ c x0 y0 x1 y1 bx=>⟨λ wd p μ4 ex4 e4=>?_,λ w h ew eh w4 h4 p μ4 ex4 e4=>?_⟩⟩
 ·refine ⟨rfl,?_⟩
  show th0 zd0 tr0 ur0 xm0 vr0 uo0 sg0 zj0 yj0 wr0 _ [o0,o1,some (.tup (us.map encT)),o3',o4,some (.ref d),some (.ref a),some (.ref b),some (.str "none"),some (.ref p)] μ4
  unfold th0
  refine if_n (b:=false) (by
   intro K k
   unfold and3
   refine t_nn rfl ?_
   rw [decide_eq_true c]
   exact k) (λ e=>nomatch e) λ _=>?_
  exact sh4 q hP hg hl (.inl ⟨c,rfl⟩) e4
 all_goals
  have kn:0 < ks.length:=by
   obtain ⟨s,hs⟩:=List.exists_mem_of_ne_nil _ c
   have:e0 s ∈ ks:=(I.me _).mpr (List.mem_flatMap.mpr ⟨s,hs,by simp⟩)
   exact List.length_pos_of_mem this
 ·refine ⟨rfl,?_⟩
  show th0 zd0 tr0 ur0 xm0 vr0 uo0 sg0 zj0 yj0 wr0 _ [o0,o1,some (.tup (us.map encT)),o3',o4,some (.ref d),some (.ref a),some (.ref b),some .non,some (.ref p)] μ4
  unfold th0
  refine if_n (b:=true) (by
   intro K k
   unfold and3
   refine t_nn rfl ?_
   rw [decide_eq_false c]
   refine zs3 rfl rfl (ex4 _ _ ea3) (ex4 _ _ eb) kn hP.2.1 I.me λ u0 v0 u1 v1 bx' m hm=>?_
   obtain ⟨rfl,rfl,rfl,rfl⟩:=bx.one bx'
   rw [decide_eq_true (hm.mpr wd)]
   exact k) (λ _=>?_) (λ e=>nomatch e)
  exact ⟨p,rfl,e4,λ μ5 _=>q μ5⟩
 ·refine ⟨rfl,?_⟩
  show th0 zd0 tr0 ur0 xm0 vr0 uo0 sg0 zj0 yj0 wr0 _ [o0,o1,some (.tup (us.map encT)),o3',o4,some (.ref d),some (.ref a),some (.ref b),some (.str (xl0 us x0 y0 y1 w h)),some (.ref p)] μ4
  unfold th0
  refine if_n (b:=false) (by
   intro K k
   unfold and3
   refine t_nn rfl ?_
   rw [decide_eq_false c]
   refine zs3 rfl rfl (ex4 _ _ ea3) (ex4 _ _ eb) kn hP.2.1 I.me λ u0 v0 u1 v1 bx' m hm=>?_
   obtain ⟨rfl,rfl,rfl,rfl⟩:=bx.one bx'
   rw [decide_eq_false (λ z=>by have:=hm.mp z; omega)]
   exact k) (λ e=>nomatch e) λ _=>?_
  exact sh4 q hP hg hl (.inr ⟨c,x0,y0,y1,w,h,⟨x1,bx,ew,eh,w4,h4⟩,rfl⟩) e4
theorem xi4 {vs:List T3} {z:Addr} {a:Int} {b:Bool} {o0 o3' o4:Option D} {μ:Mu} {Q:VK3} (q:∀ μ',Q (.bl true) μ') (hP:Pc vs) (hs:∀ t ∈ vs,sm t) (hl:vs.length < 30) (hz:μ z=some (.lst [.int a,.bl b])) (ha:0<=a) :
    yn1 zd0 tr0 ur0 xm0 vr0 uo0 sg0 zj0 yj0 wr0 { nx:=λ _ μ'=>Q .non μ',rt:=Q } [o0,some (.ref z),some (.tup (vs.map encT)),o3',o4,none,none,none,none,none] μ:=by
 refine ⟨⟨by decide,by decide,by decide⟩,z,_,a,b,[],rfl,by decide,by decide,hz,ha,λ x a1 x0 x1 a1n=>?_⟩
 refine ⟨⟨by decide,by decide,by decide⟩,z,_,a1,b,[],rfl,by decide,by decide,va0,a1n,λ y a2 y0 y1 a2n=>?_⟩
 have t19:(10:Int) ^ (19:Int).toNat=10000000000000000000:=by decide
 rw [t19] at x1 y1
 refine ⟨vs,0,0,x - 9,9 - y,rfl,by omega,λ us μ2 ex2 pm su=>?_⟩
 have em:vs.map (lawS 0 0 (x - 9) (9 - y))=vs.map (mv (x - 9) (9 - y)):=map_congr_left λ s h=>th4 (hP.2.1 s h)
 rw [em] at pm
 have nd:(vs.map (mv (x - 9) (9 - y))).Nodup:=by
  rw [List.nodup_iff_pairwise_ne,List.pairwise_map]
  refine (List.nodup_iff_pairwise_ne.mp (wf4 hP)).imp λ {s t} h e=>h ?_
  unfold mv at e
  simp only [Prod.mk.injEq] at e
  exact Prod.ext (by omega) (Prod.ext (by omega) e.2.2)
 have hP':Pc us:=vi3 nd (λ t ht=>by
  obtain ⟨s,h,rfl⟩:=List.mem_map.mp ht
  exact hP.2.1 s h) (by rw [length_map]; omega) pm su
 refine zu4 q hP' (λ t ht=>?_) (by rw [pm.length_eq,length_map]; exact hl)
 obtain ⟨s,h,rfl⟩:=List.mem_map.mp (pm.mem_iff.mp ht)
 have:=hs s h
 unfold sm at this
 unfold gd G mv
 dsimp only
 omega
theorem at4 {f j:Int} (hf:36<=f /\ f<=40) (h0:0<=j) (h1:j < 4):∃ s:T3,atI [encT (f,0,1),encT (0,f,0),encT (f,f,0),encT (f,1,0)] j=some (encT s) /\ wy s /\ sm s:=by
 have hj:j=0 \/ j=1 \/ j=2 \/ j=3:=by omega
 unfold sm wy
 rcases hj with rfl | rfl | rfl | rfl
 ·exact ⟨(f,0,1),rfl,by dsimp only; omega,by dsimp only; omega⟩
 ·exact ⟨(0,f,0),rfl,by dsimp only; omega,by dsimp only; omega⟩
 ·exact ⟨(f,f,0),rfl,by dsimp only; omega,by dsimp only; omega⟩
 ·exact ⟨(f,1,0),rfl,by dsimp only; omega,by dsimp only; omega⟩
theorem wa4 (ds:List D) (μ:Mu) (Q:VK3) (h:ym2 ds μ Q):zr3 zd0 tr0 ur0 xm0 vr0 uo0 sg0 zj0 yj0 wr0 { nx:=λ _ μ'=>Q .non μ',rt:=Q } (start3 wo3 ds) μ:=by
 obtain ⟨ns',rfl,hn,q⟩:=h
 have hz':(1000:Nat) < sizeLine:=by decide
 refine ⟨ns',0,rfl,by decide,λ a b z ha hz=>?_⟩
 refine ⟨z,12,a,b,rfl,va0,ha,by decide,by decide,λ ts a2 b2 μ2 hP hs hl ha2 hz2=>?_⟩
 refine ⟨z,4,a2,b2,[],rfl,by decide,by decide,hz2,ha2,λ c a3 c0 c1 a3n=>?_⟩
 show ite (decide (c=1)=true) _ _
 by_cases c2:c=1
 ·rw [decide_eq_true c2,if_pos rfl]
  refine ⟨z,5,a3,b2,[],rfl,by decide,by decide,va0,a3n,λ f a4 f0 f1 a4n=>?_⟩
  refine ⟨z3,z3,z3,z3,Z0,λ r hr=>?_⟩
  have hzr:z ≠ r:=ud0 va0 hr
  refine ⟨z,4,a4,b2,[],rfl,by decide,by decide,by rw [xb0 hzr]; exact va0,a4n,λ j a5 j0 j1 a5n=>?_⟩
  obtain ⟨s,es,ws,ss⟩:=at4 (f:=36 + f) (by omega) j0 j1
  refine yg0 (by rw [xb0 (Ne.symm hzr)]; exact va0) es ?_
  refine ⟨z3,z2,by rw [length_map]; simp only [length_cons,length_nil]; omega,ts ++ [(0,0,0),s],?_,?_,λ ks nd mk us pm su r2 hr2=>?_⟩
  ·show ts.map encT ++ [encT (0,0,0),encT s]=_
   rw [map_append]; rfl
  ·intro l nd hl'
   have:=List.Nodup.length_le_of_subset nd hl'
   rw [length_append] at this
   simp only [length_cons,length_nil] at this
   omega
  ·have kl:=List.Nodup.length_le_of_subset nd λ x hx=>(mk x).mp hx
   rw [length_append] at kl
   simp only [length_cons,length_nil] at kl
   have kw:∀ t ∈ ks,wy t /\ sm t:=λ t ht=>by
    have:=(mk t).mp ht
    rw [mem_append] at this
    rcases this with h | h
    ·exact ⟨hP.2.1 t h,hs t h⟩
    ·simp only [mem_cons,not_mem_nil,or_false] at h
     rcases h with rfl | rfl
     ·exact ⟨.inl rfl,by unfold sm; dsimp only; omega⟩
     ·exact ⟨ws,ss⟩
   dsimp only [nil3]
   refine uk2 va0 ?_
   refine xi4 (z:=z) (a:=a5) (b:=b2) q (vi3 nd (λ t ht=>(kw t ht).1) (by omega) pm su) (λ t ht=>(kw t (pm.mem_iff.mp ht)).2) (by rw [pm.length_eq]; omega) ?_ a5n
   have:z ≠ r2:=ud0 va0 hr2
   rw [xb0 this]; exact va0
 ·rw [decide_eq_false c2,if_neg (by decide)]
  exact xi4 q hP hs (by omega) va0 a3n
end Pv
namespace Pv
open PySem PySem.Spec PyProof.Rows L2
theorem bn1 {P:List Value->Prop} (h:∀ a,P [a]) (us:List Value) (e:us.length=1):P us:=by
 match us,e with
 | [a],_=>exact h a
theorem bn2 {P:List Value->Prop} (h:∀ a b,P [a,b]) (us:List Value) (e:us.length=2):P us:=by
 match us,e with
 | [a,b],_=>exact h a b
theorem bn3 {P:List Value->Prop} (h:∀ a b c,P [a,b,c]) (us:List Value) (e:us.length=3):P us:=by
 match us,e with
 | [a,b,c],_=>exact h a b c
theorem bn5 {P:List Value->Prop} (h:∀ a b c d e,P [a,b,c,d,e]) (us:List Value) (e:us.length=5):P us:=by
 match us,e with
 | [a,b,c,d,e],_=>exact h a b c d e
abbrev NsR (K:Fg) (x:Str) (p:Addr):Prop:=nsIn K mainGlobals x=some (some (.ref p))
def FnA (K:Fg) (x:Str) (st:Stmt) (p:Addr):Prop:=∃ oc od sl kV dc pm an cd ct,K.lookup p=some ⟨oc,od,.func (fnOf x x (vj0 st) (zb0 st) (wa0 st) .none kV dc pm an cd ct),sl⟩ /\ codeIn K cd x=true /\ keepIn K (.ref p)=true
theorem fnA_mk {K:Fg} {x:Str} {st:Stmt} {p:Addr} {oc kV dc pm cd ct:Value} {od an:Option Addr} {sl:Array (Option Value)} (l:K.lookup p=some ⟨oc,od,.func (fnOf x x (vj0 st) (zb0 st) (wa0 st) .none kV dc pm an cd ct),sl⟩) (c:codeIn K cd x=true) (k:keepIn K (.ref p)=true):FnA K x st p:=⟨_,_,_,_,_,_,_,_,_,l,c,k⟩
theorem FnA.fn {K:Fg} {x:Str} {st:Stmt} {p:Addr} (h:FnA K x st p):∃ fd,Fun K x x st p fd:=by
 obtain ⟨_,_,_,_,_,_,_,_,_,l,c,k⟩:=h
 exact ⟨_,vy2 (st:=st) l c k⟩
theorem x_mkn {K:Fg} {cn r1 r2 r3:Str} {C1 C2 C3:Addr} {T:Value} {y1 y2 y3:Bool} (hs:xnames=[r1,r2,r3] /\ subX cn r1=some y1 /\ subX cn r2=some y2 /\ subX cn r3=some y3) (a1:nsIn K mainGlobals r1=some (some (.ref C1))) (a2:nsIn K mainGlobals r2=some (some (.ref C2))) (a3:nsIn K mainGlobals r3=some (some (.ref C3))) (E1:ExcK K C1) (E2:ExcK K C2) (E3:ExcK K C3) (k1:kitOne K (.ref C1) T=some y1) (k2:kitOne K (.ref C2) T=some y2) (k3:kitOne K (.ref C3) T=some y3) (c:Str) (C:Addr) (b:Bool) (h:subX cn c=some b) (hn:nsIn K mainGlobals c=some (some (.ref C))):ExcK K C /\ kitOne K (.ref C) T=some b:=by
 have hin:=sk0 h
 rw [hs.1] at hin
 simp only [mem_cons,not_mem_nil,or_false] at hin
 rcases hin with rfl | rfl | rfl
 . rw [a1] at hn
   cases hn
   rw [hs.2.1] at h
   cases h
   exact ⟨E1,k1⟩
 . rw [a2] at hn
   cases hn
   rw [hs.2.2.1] at h
   cases h
   exact ⟨E2,k2⟩
 . rw [a3] at hn
   cases hn
   rw [hs.2.2.2] at h
   cases h
   exact ⟨E3,k3⟩
theorem all_mk {l:PySem.W.OpenLaw} {w:World} {K:Fg} {h:Heap} {mg:Str->Option Value} {fa:Addr} (X:K.In h) (G:h.Ns mainGlobals mg) (hfa:mg "law" = some (.ref fa))
    {je5:Addr}
    {je6:Addr}
    {je7:Addr}
    {je8:Addr}
    {je9:Addr}
    {jfa:Addr}
    {jfb:Addr}
    {jfc:Addr}
    {jfd:Addr}
    {jfe:Addr}
    {jff:Addr}
    {jfg:Addr}
    {jfh:Addr}
    {jfi:Addr}
    {jfj:Addr}
    {jfk:Addr}
    {p_q0:Addr}
    {jfl:Addr}
    {jfm:Addr}
    {p_q1:Addr}
    {p_q6:Addr}
    {p_q4:Addr}
    {p_q2:Addr}
    {p_q3:Addr}
    {jfn:Addr}
    {p_q7:Addr}
    {p_q9:Addr}
    {p_q5:Addr}
    {p_q8:Addr}
    {jfo:Addr}
    {jfp:Addr}
    {t_2:Tok}
    {t_3:Tok}
    {q_1:Addr} {qo_1:Option Addr} {qn_1:Nat} {qs_1:Array (Option Value)}
    {t_4:Tok}
    {t_5:Tok}
    {t_7:Tok}
    {t_8:Tok}
    {q_6:Addr} {qo_6:Option Addr} {qn_6:Nat} {qs_6:Array (Option Value)}
    {C_BadNote:Addr} {jdm:ClassData}
    {C_NoNumber:Addr} {jdk:ClassData}
    {C_NoPicture:Addr} {jdg:ClassData}
    {C_NoRoom:Addr} {jdo:ClassData}
    {C_NoStep:Addr} {jdp:ClassData}
    {C_NoWord:Addr} {jdq:ClassData}
    {C_PenError:Addr} {jdl:ClassData}
    (jd0:NsR K "check_picture" je5) (jd1:FnA K "check_picture" wu1 je5)
    (jd2:NsR K "check_stroke" je6) (jd3:FnA K "check_stroke" zu1 je6)
    (jd4:NsR K "ends_of" je7) (jd5:FnA K "ends_of" tt1 je7)
    (jd6:NsR K "picture_with" je8) (jd7:FnA K "picture_with" yt1 je8)
    (jd8:NsR K "picture_box" je9) (jd9:FnA K "picture_box" wt1 je9)
    (jea:NsR K "sheet_of" jfa) (jeb:FnA K "sheet_of" ss1 jfa)
    (jec:NsR K "corner_line" jfb) (jed:FnA K "corner_line" xu1 jfb)
    (jee:NsR K "sign_lines" jfc) (jef:FnA K "sign_lines" us1 jfc)
    (jeg:NsR K "sign_line" jfd) (jeh:FnA K "sign_line" ts1 jfd)
    (jei:NsR K "signs_of" jfe) (jej:FnA K "signs_of" vs1 jfe)
    (jek:NsR K "read_sheet" jff) (jel:FnA K "read_sheet" xt1 jff)
    (jem:NsR K "corner_in" jfg) (jen:FnA K "corner_in" yu1 jfg)
    (jeo:NsR K "number_in" jfh) (jep:FnA K "number_in" vt1 jfh)
    (jeq:NsR K "picture_in" jfi) (jer:FnA K "picture_in" zt1 jfi)
    (jes:NsR K "strokes_shown" jfj) (jet:FnA K "strokes_shown" ws1 jfj)
    (jeu:NsR K "is_sheet_of" jfk) (jev:FnA K "is_sheet_of" ut1 jfk)
    (a_q0:NsR K "_law_cell_at" p_q0) (A_q0:FnA K "_law_cell_at" s_q0 p_q0)
    (jew:NsR K "_law_whole" jfl) (jex:FnA K "_law_whole" vu1 jfl)
    (jey:NsR K "_law_state" jfm) (jez:FnA K "_law_state" su1 jfm)
    (a_q1:NsR K "_law_choice" p_q1) (A_q1:FnA K "_law_choice" s_q1 p_q1)
    (a_q6:NsR K "_law_picture" p_q6) (A_q6:FnA K "_law_picture" s_q6 p_q6)
    (a_q4:NsR K "_law_is_picture" p_q4) (A_q4:FnA K "_law_is_picture" s_q4 p_q4)
    (a_q2:NsR K "_law_ends" p_q2) (A_q2:FnA K "_law_ends" s_q2 p_q2)
    (a_q3:NsR K "_law_from_ends" p_q3) (A_q3:FnA K "_law_from_ends" s_q3 p_q3)
    (je0:NsR K "_law_ways" jfn) (je1:FnA K "_law_ways" uu1 jfn)
    (a_q7:NsR K "_law_points" p_q7) (A_q7:FnA K "_law_points" s_q7 p_q7)
    (a_q9:NsR K "_law_sheet" p_q9) (A_q9:FnA K "_law_sheet" s_q9 p_q9)
    (a_q5:NsR K "_law_marks" p_q5) (A_q5:FnA K "_law_marks" s_q5 p_q5)
    (a_q8:NsR K "_law_refused" p_q8) (A_q8:FnA K "_law_refused" s_q8 p_q8)
    (je2:NsR K "_law_told" jfo) (je3:FnA K "_law_told" tu1 jfo)
    (jdz:NsR K "law" jfp) (je4:FnA K "law" yw0 jfp)
    (jdr:nsIn K mainGlobals "WAYS" = some (some (.ref q_1)))
    (ql_1:K.lookup q_1=some ⟨.type "tuple",qo_1,.seq #[.int (0) t_2,.int (1) t_3] qn_1,qs_1⟩)
    (jbo:nsIn K mainGlobals "MOST_POINTS" = some (some (.int (40) t_4)))
    (jb0:nsIn K mainGlobals "NO_STROKES" = some (some (.str "none" t_5)))
    (jbm:nsIn K mainGlobals "STROKE_SIGNS" = some (some (.ref q_6)))
    (ql_6:K.lookup q_6=some ⟨.type "tuple",qo_6,.seq #[.str "-" t_7,.str "|" t_8] qn_6,qs_6⟩)
    (jab:nsIn K mainGlobals "BadNote" = some (some (.ref C_BadNote)))
    (jbn:clsIn K C_BadNote=some jdm)
    (jca:typeIn K (.ref C_BadNote)=some (.type "type"))
    (jce:nsIn K mainGlobals "NoNumber" = some (some (.ref C_NoNumber)))
    (jbg:clsIn K C_NoNumber=some jdk)
    (jbh:typeIn K (.ref C_NoNumber)=some (.type "type"))
    (jaa:nsIn K mainGlobals "NoPicture" = some (some (.ref C_NoPicture)))
    (jbb:clsIn K C_NoPicture=some jdg)
    (jbl:typeIn K (.ref C_NoPicture)=some (.type "type"))
    (jad:nsIn K mainGlobals "NoRoom" = some (some (.ref C_NoRoom)))
    (jb1:clsIn K C_NoRoom=some jdo)
    (jcu:typeIn K (.ref C_NoRoom)=some (.type "type"))
    (jdc:nsIn K mainGlobals "NoStep" = some (some (.ref C_NoStep)))
    (jb2:clsIn K C_NoStep=some jdp)
    (jb3:typeIn K (.ref C_NoStep)=some (.type "type"))
    (jdd:nsIn K mainGlobals "NoWord" = some (some (.ref C_NoWord)))
    (jb4:clsIn K C_NoWord=some jdq)
    (jb5:typeIn K (.ref C_NoWord)=some (.type "type"))
    (jcf:nsIn K mainGlobals "PenError" = some (some (.ref C_PenError)))
    (jbi:clsIn K C_PenError=some jdl)
    (jbj:typeIn K (.ref C_PenError)=some (.type "type"))
    (jde:excIn K C_BadNote [.type "ValueError",.type "Exception",.type "BaseException",.type "object"] "ValueError.__new__" = true)
    (jcg:findIn K (.ref C_BadNote) "__getattribute__" = some (some (.builtin "BaseException.__getattribute__")))
    (jch:findIn K (.ref C_BadNote) "__getattr__" = some none)
    (jci:mroIn K C_BadNote (.type "BaseException")=some true)
    (jcj:findIn K (.ref C_BadNote) "__class__" = some (some (.builtin "object.__class__")))
    (jck:specialIn K (.builtin "object.__class__") "__get__" = some (some (.builtin "getset_descriptor.__get__")))
    (jcl:takesIn K (.builtin "object.__class__")=some true)
    (jcm:mroIn K C_BadNote (.type "object")=some true)
    (jcn:excIn K C_NoPicture [.type "ValueError",.type "Exception",.type "BaseException",.type "object"] "ValueError.__new__" = true)
    (jbp:findIn K (.ref C_NoPicture) "__getattribute__" = some (some (.builtin "BaseException.__getattribute__")))
    (jbq:findIn K (.ref C_NoPicture) "__getattr__" = some none)
    (jbr:mroIn K C_NoPicture (.type "BaseException")=some true)
    (jbs:findIn K (.ref C_NoPicture) "__class__" = some (some (.builtin "object.__class__")))
    (jbt:specialIn K (.builtin "object.__class__") "__get__" = some (some (.builtin "getset_descriptor.__get__")))
    (jbu:takesIn K (.builtin "object.__class__")=some true)
    (jbv:mroIn K C_NoPicture (.type "object")=some true)
    (jdh:excIn K C_NoRoom [.type "ValueError",.type "Exception",.type "BaseException",.type "object"] "ValueError.__new__" = true)
    (jcy:findIn K (.ref C_NoRoom) "__getattribute__" = some (some (.builtin "BaseException.__getattribute__")))
    (jcz:findIn K (.ref C_NoRoom) "__getattr__" = some none)
    (jc0:mroIn K C_NoRoom (.type "BaseException")=some true)
    (jc1:findIn K (.ref C_NoRoom) "__class__" = some (some (.builtin "object.__class__")))
    (jc2:specialIn K (.builtin "object.__class__") "__get__" = some (some (.builtin "getset_descriptor.__get__")))
    (jc3:takesIn K (.builtin "object.__class__")=some true)
    (jc4:mroIn K C_NoRoom (.type "object")=some true)
    (jaj:subIn K (.ref C_NoPicture) (.ref C_BadNote)=some false)
    (jak:(Value.ref C_NoPicture == Value.ref C_BadNote)=false)
    (ja2:subIn K (.ref C_NoRoom) (.ref C_BadNote)=some false)
    (ja3:(Value.ref C_NoRoom == Value.ref C_BadNote)=false)
    (jao:subIn K (.ref C_BadNote) (.ref C_NoNumber)=some false)
    (jap:(Value.ref C_BadNote == Value.ref C_NoNumber)=false)
    (jae:subIn K (.ref C_NoPicture) (.ref C_NoNumber)=some false)
    (jaf:(Value.ref C_NoPicture == Value.ref C_NoNumber)=false)
    (jaz:subIn K (.ref C_NoRoom) (.ref C_NoNumber)=some false)
    (ja0:(Value.ref C_NoRoom == Value.ref C_NoNumber)=false)
    (jal:subIn K (.ref C_BadNote) (.ref C_NoPicture)=some false)
    (jam:(Value.ref C_BadNote == Value.ref C_NoPicture)=false)
    (jaq:subIn K (.ref C_NoRoom) (.ref C_NoPicture)=some false)
    (jar:(Value.ref C_NoRoom == Value.ref C_NoPicture)=false)
    (ja4:subIn K (.ref C_BadNote) (.ref C_NoRoom)=some false)
    (ja5:(Value.ref C_BadNote == Value.ref C_NoRoom)=false)
    (jas:subIn K (.ref C_NoPicture) (.ref C_NoRoom)=some false)
    (jat:(Value.ref C_NoPicture == Value.ref C_NoRoom)=false)
    (ja6:subIn K (.ref C_BadNote) (.ref C_NoStep)=some false)
    (ja7:(Value.ref C_BadNote == Value.ref C_NoStep)=false)
    (jau:subIn K (.ref C_NoPicture) (.ref C_NoStep)=some false)
    (jav:(Value.ref C_NoPicture == Value.ref C_NoStep)=false)
    (jbc:subIn K (.ref C_NoRoom) (.ref C_NoStep)=some false)
    (jbd:(Value.ref C_NoRoom == Value.ref C_NoStep)=false)
    (ja8:subIn K (.ref C_BadNote) (.ref C_NoWord)=some false)
    (ja9:(Value.ref C_BadNote == Value.ref C_NoWord)=false)
    (jaw:subIn K (.ref C_NoPicture) (.ref C_NoWord)=some false)
    (jax:(Value.ref C_NoPicture == Value.ref C_NoWord)=false)
    (jbe:subIn K (.ref C_NoRoom) (.ref C_NoWord)=some false)
    (jbf:(Value.ref C_NoRoom == Value.ref C_NoWord)=false)
    (jag:subIn K (.ref C_BadNote) (.type "ValueError")=some true)
    (jac:subIn K (.ref C_NoPicture) (.type "ValueError")=some true)
    (jan:subIn K (.ref C_NoRoom) (.type "ValueError")=some true)
    (k3s:subIn K (.type "type") (.type "tuple")=some false)
    (jb6:subIn K (.ref C_PenError) (.type "BaseException")=some true)
    (jay:subIn K (.ref C_BadNote) (.ref C_PenError)=some true)
    (jah:subIn K (.ref C_NoPicture) (.ref C_PenError)=some true)
    (ja1:subIn K (.ref C_NoRoom) (.ref C_PenError)=some true)
    (jbw:nsIn K mainGlobals "ValueError" = some none)
    (jds:nsIn K mainGlobals "all" = some none)
    (jdn:nsIn K mainGlobals "bool" = some none)
    (jdt:nsIn K mainGlobals "int" = some none)
    (jbx:nsIn K mainGlobals "isinstance" = some none)
    (jdu:nsIn K mainGlobals "len" = some none)
    (jdv:nsIn K mainGlobals "max" = some none)
    (jdw:nsIn K mainGlobals "min" = some none)
    (jdi:nsIn K mainGlobals "range" = some none)
    (jdx:nsIn K mainGlobals "set" = some none)
    (jdf:nsIn K mainGlobals "sorted" = some none)
    (jdy:nsIn K mainGlobals "str" = some none)
    (jdj:nsIn K mainGlobals "tuple" = some none) :
    ∃ fd:FuncData,(∀ (s:Shared) (v:Value),BindsTo s fd ⟨[v],[]⟩ [("script",v)]) /\ ∀ base:Heap,K.In base->base.Ns mainGlobals mg->FnOk l.prog w K mg base CX0 7 fa fd ["script"] (lift K ym2):=by
 have e:=hfa.symm.trans (mg_of X G jdz)
 cases e
 have g_WAYS:Gd K mg "WAYS" ug1:=wy2 X G jdr (TupK.mk ql_1 (show 2<=sizeLine by decide) (.int (.int .nil)))
 have g_MOST_POINTS:Gd K mg "MOST_POINTS" xi0:=vj4 X G jbo
 have g_NO_STROKES:Gd K mg "NO_STROKES" xg0:=wj4 X G jb0
 have g_STROKE_SIGNS:Gd K mg "STROKE_SIGNS" sd0:=wy2 X G jbm (TupK.mk ql_6 (show 2<=sizeLine by decide) (.str (.str .nil)))
 have m_BadNote:=mg_of X G jab
 have m_NoNumber:=mg_of X G jce
 have m_NoPicture:=mg_of X G jaa
 have m_NoRoom:=mg_of X G jad
 have m_NoStep:=mg_of X G jdc
 have m_NoWord:=mg_of X G jdd
 have m_PenError:=mg_of X G jcf
 have jba:ExcK K C_BadNote:=⟨jcg,jch,jci,(by rw [jbn]; rfl),jcj,jck,jcl,jcm⟩
 have jai:ExcK K C_NoPicture:=⟨jbp,jbq,jbr,(by rw [jbb]; rfl),jbs,jbt,jbu,jbv⟩
 have jbk:ExcK K C_NoRoom:=⟨jcy,jcz,jc0,(by rw [jb1]; rfl),jc1,jc2,jc3,jc4⟩
 have jcv:kitOne K (.ref C_BadNote) (.ref C_BadNote)=some true:=st0
 have jcb:kitOne K (.ref C_NoPicture) (.ref C_BadNote)=some false:=xe0 jak (yd0 jbn jca jaj)
 have jc5:kitOne K (.ref C_NoRoom) (.ref C_BadNote)=some false:=xe0 ja3 (yd0 jbn jca ja2)
 have x_BadNote:=x_mkn (cn:="BadNote") ⟨rfl,by decide,by decide,by decide⟩ jab jaa jad jba jai jbk jcv jcb jc5
 have jco:kitOne K (.ref C_BadNote) (.ref C_NoNumber)=some false:=xe0 jap (yd0 jbg jbh jao)
 have jb7:kitOne K (.ref C_NoPicture) (.ref C_NoNumber)=some false:=xe0 jaf (yd0 jbg jbh jae)
 have jcw:kitOne K (.ref C_NoRoom) (.ref C_NoNumber)=some false:=xe0 ja0 (yd0 jbg jbh jaz)
 have x_NoNumber:=x_mkn (cn:="NoNumber") ⟨rfl,by decide,by decide,by decide⟩ jab jaa jad jba jai jbk jco jb7 jcw
 have jcc:kitOne K (.ref C_BadNote) (.ref C_NoPicture)=some false:=xe0 jam (yd0 jbb jbl jal)
 have jbz:kitOne K (.ref C_NoPicture) (.ref C_NoPicture)=some true:=st0
 have jcp:kitOne K (.ref C_NoRoom) (.ref C_NoPicture)=some false:=xe0 jar (yd0 jbb jbl jaq)
 have x_NoPicture:=x_mkn (cn:="NoPicture") ⟨rfl,by decide,by decide,by decide⟩ jab jaa jad jba jai jbk jcc jbz jcp
 have jc6:kitOne K (.ref C_BadNote) (.ref C_NoRoom)=some false:=xe0 ja5 (yd0 jb1 jcu ja4)
 have jcq:kitOne K (.ref C_NoPicture) (.ref C_NoRoom)=some false:=xe0 jat (yd0 jb1 jcu jas)
 have jc9:kitOne K (.ref C_NoRoom) (.ref C_NoRoom)=some true:=st0
 have x_NoRoom:=x_mkn (cn:="NoRoom") ⟨rfl,by decide,by decide,by decide⟩ jab jaa jad jba jai jbk jc6 jcq jc9
 have jc7:kitOne K (.ref C_BadNote) (.ref C_NoStep)=some false:=xe0 ja7 (yd0 jb2 jb3 ja6)
 have jcr:kitOne K (.ref C_NoPicture) (.ref C_NoStep)=some false:=xe0 jav (yd0 jb2 jb3 jau)
 have jda:kitOne K (.ref C_NoRoom) (.ref C_NoStep)=some false:=xe0 jbd (yd0 jb2 jb3 jbc)
 have x_NoStep:=x_mkn (cn:="NoStep") ⟨rfl,by decide,by decide,by decide⟩ jab jaa jad jba jai jbk jc7 jcr jda
 have jc8:kitOne K (.ref C_BadNote) (.ref C_NoWord)=some false:=xe0 ja9 (yd0 jb4 jb5 ja8)
 have jcs:kitOne K (.ref C_NoPicture) (.ref C_NoWord)=some false:=xe0 jax (yd0 jb4 jb5 jaw)
 have jdb:kitOne K (.ref C_NoRoom) (.ref C_NoWord)=some false:=xe0 jbf (yd0 jb4 jb5 jbe)
 have x_NoWord:=x_mkn (cn:="NoWord") ⟨rfl,by decide,by decide,by decide⟩ jab jaa jad jba jai jbk jc8 jcs jdb
 have jb8:kitOne K (.ref C_BadNote) (.type "ValueError")=some true:=xe0 rfl (xu0 (by decide +kernel) jag)
 have jby:kitOne K (.ref C_NoPicture) (.type "ValueError")=some true:=xe0 rfl (xu0 (by decide +kernel) jac)
 have jcd:kitOne K (.ref C_NoRoom) (.type "ValueError")=some true:=xe0 rfl (xu0 (by decide +kernel) jan)
 have x_ValueError:=x_mkn (cn:="ValueError") ⟨rfl,by decide,by decide,by decide⟩ jab jaa jad jba jai jbk jb8 jby jcd
 have k3:kitCls K (.type "type") (.type "tuple")=some false:=xu0 (by decide +kernel) k3s
 have k2_PenError:=xu0 (T := "BaseException") (by decide +kernel) jb6
 have jct:=yd0 jbi jbj jay
 have jb9:=yd0 jbi jbj jah
 have jcx:=yd0 jbi jbj ja1
 have ok_PenError:∀ c,okX c=true->∃ C,nsIn K mainGlobals c=some (some (.ref C)) /\ mg c=some (.ref C) /\ kitCls K (.ref C) (.ref C_PenError)=some true:=by
  intro c h
  have hin:c ∈ xnames:=by simpa [okX] using h
  simp only [xnames,mem_cons,not_mem_nil,or_false] at hin
  rcases hin with rfl | rfl | rfl
  ·exact ⟨C_BadNote,jab,m_BadNote,jct⟩
  ·exact ⟨C_NoPicture,jaa,m_NoPicture,jb9⟩
  ·exact ⟨C_NoRoom,jad,m_NoRoom,jcx⟩
 have z_ValueError:=mg_none_of X G jbw
 have z_all:=mg_none_of X G jds
 have z_bool:=mg_none_of X G jdn
 have z_int:=mg_none_of X G jdt
 have z_isinstance:=mg_none_of X G jbx
 have z_len:=mg_none_of X G jdu
 have z_max:=mg_none_of X G jdv
 have z_min:=mg_none_of X G jdw
 have z_range:=mg_none_of X G jdi
 have z_set:=mg_none_of X G jdx
 have z_sorted:=mg_none_of X G jdf
 have z_str:=mg_none_of X G jdy
 have z_tuple:=mg_none_of X G jdj
 obtain ⟨_,jfq⟩:=jd1.fn
 have jgj:=jfq.binds (ps:=["picture"]) λ _ _ _ _ _ _=>bn1 λ _=>rfl
 have jgk:=mg_of X G jd0
 obtain ⟨_,jfr⟩:=jd3.fn
 have jgl:=jfr.binds (ps:=["stroke"]) λ _ _ _ _ _ _=>bn1 λ _=>rfl
 have jgm:=mg_of X G jd2
 obtain ⟨_,jfs⟩:=jd5.fn
 have jgn:=jfs.binds (ps:=["stroke"]) λ _ _ _ _ _ _=>bn1 λ _=>rfl
 have jgo:=mg_of X G jd4
 obtain ⟨_,jft⟩:=jd7.fn
 have jgp:=jft.binds (ps:=["strokes"]) λ _ _ _ _ _ _=>bn1 λ _=>rfl
 have jgq:=mg_of X G jd6
 obtain ⟨_,jfu⟩:=jd9.fn
 have jgr:=jfu.binds (ps:=["picture"]) λ _ _ _ _ _ _=>bn1 λ _=>rfl
 have jgs:=mg_of X G jd8
 obtain ⟨_,jfv⟩:=jeb.fn
 have jgt:=jfv.binds (ps:=["picture"]) λ _ _ _ _ _ _=>bn1 λ _=>rfl
 have jgu:=mg_of X G jea
 obtain ⟨_,jfw⟩:=jed.fn
 have jgv:=jfw.binds (ps:=["box"]) λ _ _ _ _ _ _=>bn1 λ _=>rfl
 have jgw:=mg_of X G jec
 obtain ⟨_,jfx⟩:=jef.fn
 have jgx:=jfx.binds (ps:=["picture", "box"]) λ _ _ _ _ _ _=>bn2 λ _ _=>rfl
 have jgy:=mg_of X G jee
 obtain ⟨_,jfy⟩:=jeh.fn
 have jgz:=jfy.binds (ps:=["signs", "row", "width"]) λ _ _ _ _ _ _=>bn3 λ _ _ _=>rfl
 have jg0:=mg_of X G jeg
 obtain ⟨_,jfz⟩:=jej.fn
 have jg1:=jfz.binds (ps:=["picture", "box"]) λ _ _ _ _ _ _=>bn2 λ _ _=>rfl
 have jg2:=mg_of X G jei
 obtain ⟨_,jf0⟩:=jel.fn
 have jg3:=jf0.binds (ps:=["text"]) λ _ _ _ _ _ _=>bn1 λ _=>rfl
 have jg4:=mg_of X G jek
 obtain ⟨_,jf1⟩:=jen.fn
 have jg5:=jf1.binds (ps:=["line"]) λ _ _ _ _ _ _=>bn1 λ _=>rfl
 have jg6:=mg_of X G jem
 obtain ⟨_,jf2⟩:=jep.fn
 have jg7:=jf2.binds (ps:=["mark"]) λ _ _ _ _ _ _=>bn1 λ _=>rfl
 have jg8:=mg_of X G jeo
 obtain ⟨_,jf3⟩:=jer.fn
 have jg9:=jf3.binds (ps:=["lines", "corner"]) λ _ _ _ _ _ _=>bn2 λ _ _=>rfl
 have jha:=mg_of X G jeq
 obtain ⟨_,jf4⟩:=jet.fn
 have jhb:=jf4.binds (ps:=["sign", "point"]) λ _ _ _ _ _ _=>bn2 λ _ _=>rfl
 have jhc:=mg_of X G jes
 obtain ⟨_,jf5⟩:=jev.fn
 have jhd:=jf5.binds (ps:=["text", "picture"]) λ _ _ _ _ _ _=>bn2 λ _ _=>rfl
 have jhe:=mg_of X G jeu
 obtain ⟨_,F_q0⟩:=A_q0.fn
 have b_q0:=F_q0.binds (ps:=["script", "k"]) λ _ _ _ _ _ _=>bn2 λ _ _=>rfl
 have m_q0:=mg_of X G a_q0
 obtain ⟨_,jf6⟩:=jex.fn
 have jhf:=jf6.binds (ps:=["found"]) λ _ _ _ _ _ _=>bn1 λ _=>rfl
 have jhg:=mg_of X G jew
 obtain ⟨_,jf7⟩:=jez.fn
 have jhh:=jf7.binds (ps:=["script", "k"]) λ _ _ _ _ _ _=>bn2 λ _ _=>rfl
 have jhi:=mg_of X G jey
 obtain ⟨_,F_q1⟩:=A_q1.fn
 have b_q1:=F_q1.binds (ps:=["state", "many"]) λ _ _ _ _ _ _=>bn2 λ _ _=>rfl
 have m_q1:=mg_of X G a_q1
 obtain ⟨_,F_q6⟩:=A_q6.fn
 have b_q6:=F_q6.binds (ps:=["state", "most"]) λ _ _ _ _ _ _=>bn2 λ _ _=>rfl
 have m_q6:=mg_of X G a_q6
 obtain ⟨_,F_q4⟩:=A_q4.fn
 have b_q4:=F_q4.binds (ps:=["found", "due"]) λ _ _ _ _ _ _=>bn2 λ _ _=>rfl
 have m_q4:=mg_of X G a_q4
 obtain ⟨_,F_q2⟩:=A_q2.fn
 have b_q2:=F_q2.binds (ps:=["stroke"]) λ _ _ _ _ _ _=>bn1 λ _=>rfl
 have m_q2:=mg_of X G a_q2
 obtain ⟨_,F_q3⟩:=A_q3.fn
 have b_q3:=F_q3.binds (ps:=["one", "other"]) λ _ _ _ _ _ _=>bn2 λ _ _=>rfl
 have m_q3:=mg_of X G a_q3
 obtain ⟨_,jf8⟩:=je1.fn
 have jhj:=jf8.binds (ps:=["picture", "mirror", "quarters", "x", "y"]) λ _ _ _ _ _ _=>bn5 λ _ _ _ _ _=>rfl
 have jhk:=mg_of X G je0
 obtain ⟨_,F_q7⟩:=A_q7.fn
 have b_q7:=F_q7.binds (ps:=["picture"]) λ _ _ _ _ _ _=>bn1 λ _=>rfl
 have m_q7:=mg_of X G a_q7
 obtain ⟨_,F_q9⟩:=A_q9.fn
 have b_q9:=F_q9.binds (ps:=["picture"]) λ _ _ _ _ _ _=>bn1 λ _=>rfl
 have m_q9:=mg_of X G a_q9
 obtain ⟨_,F_q5⟩:=A_q5.fn
 have b_q5:=F_q5.binds (ps:=["e"]) λ _ _ _ _ _ _=>bn1 λ _=>rfl
 have m_q5:=mg_of X G a_q5
 obtain ⟨_,F_q8⟩:=A_q8.fn
 have b_q8:=F_q8.binds (ps:=["marks", "which"]) λ _ _ _ _ _ _=>bn2 λ _ _=>rfl
 have m_q8:=mg_of X G a_q8
 obtain ⟨_,jf9⟩:=je3.fn
 have jhl:=jf9.binds (ps:=["picture"]) λ _ _ _ _ _ _=>bn1 λ _=>rfl
 have jhm:=mg_of X G je2
 obtain ⟨_,_,_,jga,jgb,jgc,jgd,jge,jgf,jhn,jho,jhp⟩:=je4
 have jgg:=vy2 (st:=yw0) jhn jho jhp
 have jh8:=jgg.binds (ps:=["script"]) λ _ _ _ _ _ _=>bn1 λ _=>rfl
 have jh9:=mg_of X G jdz
 refine ⟨fnOf "law" "law" (vj0 yw0) (zb0 yw0) (wa0 yw0) .none jga jgb jgc jgd jge jgf,λ s v=>.of_eq rfl,λ base KB GB=>?_⟩
 have O_BadNote:=zd2 KB GB jab jde
 have O_NoPicture:=zd2 KB GB jaa jcn
 have O_NoRoom:=zd2 KB GB jad jdh
 have jhq:CalX l.prog w K mg base (1) "check_stroke" ["stroke"] tj1:=zv0 jfr jgm jgl tu3 (by rintro _ _ _ _ ⟨_,rfl,_⟩; rfl) (k:=0) (λ cdv A outer s H E XE hr EX=>vx3 EX O_NoPicture z_len g_WAYS hr) xb4
 have jhr:CalX l.prog w K mg base (2) "check_picture" ["picture"] zn1:=zv0 jfq jgk jgj sc_q14 (by rintro _ _ _ _ ⟨_,rfl,_⟩; rfl) (k:=1) (λ cdv A outer s H E XE hr EX=>ux3 EX jhq (by decide) O_NoPicture z_len z_range hr) yb4
 have jgh:Cal l.prog w K mg base (1) "ends_of" ["stroke"] sr0:=ye0 jfs jgo jgn vu3 (by rintro _ _ _ ⟨_,rfl,_⟩; rfl) (k:=0) (λ cdv A outer s H E hr=>yx3 hr) ua4
 have jhs:Cal l.prog w K mg base (2) "picture_box" ["picture"] zm2:=ye0 jfu jgs jgr sc_q22 (by rintro _ _ _ ⟨_,rfl,_⟩; rfl) (k:=1) (λ cdv A outer s H E hr=>uw3 jgh (by decide) z_len z_max z_min hr) ya4
 have jht:Cal l.prog w K mg base (1) "picture_with" ["strokes"] spPw:=ye0 jft jgq jgp zu3 (by rintro _ _ _ ⟨_,_,_,rfl,_⟩; rfl) (k:=0) (λ cdv A outer s H E hr=>ww3 z_set z_sorted z_tuple hr) sz3
 have jhu:Cal l.prog w K mg base (2) "signs_of" ["picture", "box"] spSg:=ye0 jfz jg2 jg1 sc_q29 (by rintro _ _ _ ⟨_,_,_,_,_,rfl,_⟩; rfl) (k:=1) (λ cdv A outer s H E hr=>tv3 jgh (by decide) g_STROKE_SIGNS hr) zz3
 have jhv:Cal l.prog w K mg base (1) "sign_line" ["signs", "row", "width"] spSl:=ye0 jfy jg0 jgz yu3 (by rintro _ _ _ ⟨_,_,_,_,_,_,_,rfl,_⟩; rfl) (k:=0) (λ cdv A outer s H E hr=>xw3 z_range hr) vz3
 have jhw:Cal l.prog w K mg base (3) "sign_lines" ["picture", "box"] tl2:=ye0 jfx jgy jgx sc_q28 (by rintro _ _ _ ⟨_,_,_,_,_,_,_,rfl,_⟩; rfl) (k:=2) (λ cdv A outer s H E hr=>sv3 jhv (by decide) jhu (by decide) z_range hr) wz3
 have jhx:Cal l.prog w K mg base (1) "corner_line" ["box"] spCl:=ye0 jfw jgw jgv uu3 (by rintro _ _ _ ⟨_,_,_,_,rfl,_⟩; rfl) (k:=0) (λ cdv A outer s H E hr=>zx3 z_str hr) ta4
 have jgi:CalX l.prog w K mg base (4) "sheet_of" ["picture"] ul2:=zv0 jfv jgu jgt sc_q26 (by rintro _ _ _ _ ⟨_,rfl,_⟩; rfl) (k:=3) (λ cdv A outer s H E XE hr EX=>yw3 EX jhr (by decide) jhx (by decide) jhs (by decide) jhw (by decide) O_NoRoom z_max g_MOST_POINTS g_NO_STROKES hr) uz3
 have jhy:Cal l.prog w K mg base (1) "number_in" ["mark"] spNi:=ye0 jf2 jg8 jg7 sc_q21 (by rintro _ _ _ ⟨_,rfl,_⟩; rfl) (k:=0) (λ cdv A outer s H E hr=>tw3 z_int hr) za4
 have jhz:CalX l.prog w K mg base (2) "corner_in" ["line"] zc3:=zv0 jf1 jg6 jg5 sc_q16 (by rintro _ _ _ _ ⟨_,_,rfl,_⟩; rfl) (k:=1) (λ cdv A outer s H E XE hr EX=>wx3 EX jhy (by decide) O_BadNote z_len hr) sa4
 have jh0:Cal l.prog w K mg base (1) "strokes_shown" ["sign", "point"] xm2:=ye0 jf4 jhc jhb xu3 (by rintro _ _ _ ⟨_,_,rfl,_⟩; rfl) (k:=0) (λ cdv A outer s H E hr=>uv3 g_STROKE_SIGNS hr) yz3
 have jh1:Cal l.prog w K mg base (2) "picture_in" ["lines", "corner"] spPi:=ye0 jf3 jha jg9 sc_q23 (by rintro _ _ _ ⟨_,_,_,_,_,_,_,_,rfl,_⟩; rfl) (k:=1) (λ cdv A outer s H E hr=>vw3 jht (by decide) jh0 (by decide) z_len z_range hr) xa4
 have jh2:Cal l.prog w K mg base (5) "is_sheet_of" ["text", "picture"] wc3:=ye0 jf5 jhe jhd wu3 (by rintro _ _ _ ⟨_,_,_,_,_,_,rfl,_⟩; rfl) (k:=4) (λ cdv A outer s H E hr=>xx3 jgi (by decide) hr) va4
 have jh3:CalX l.prog w K mg base (6) "read_sheet" ["text"] wr0:=zv0 jf0 jg4 jg3 sc_q25 (by rintro _ _ _ _ ⟨_,_,rfl,_⟩; rfl) (k:=5) (λ cdv A outer s H E XE hr EX=>zw3 EX jhz (by decide) jh2 (by decide) jh1 (by decide) O_BadNote g_NO_STROKES hr) tz3
 have h_q0:Cal l.prog w K mg base (1) "_law_cell_at" ["script", "k"] uy1:=ye0 F_q0 m_q0 b_q0 wo4 (by rintro _ _ _ ⟨_,_,rfl,_⟩; rfl) (k:=0) (λ cdv A outer s H E hr=>tp4 z_len hr) xr4
 have jh4:Cal l.prog w K mg base (1) "_law_whole" ["found"] xk1:=ye0 jf6 jhg jhf su3 (by rintro _ _ _ ⟨_,rfl,_⟩; rfl) (k:=0) (λ cdv A outer s H E hr=>tx3 z_bool z_int z_isinstance hr) zb4
 have jh5:Cal l.prog w K mg base (2) "_law_state" ["script", "k"] sg0:=ye0 jf7 jhi jhh sc_q10 (by rintro _ _ _ ⟨_,_,rfl,_⟩; rfl) (k:=1) (λ cdv A outer s H E hr=>yy3 h_q0 (by decide) hr) ub4
 have h_q1:Cal l.prog w K mg base (1) "_law_choice" ["state", "many"] zd0:=ye0 F_q1 m_q1 b_q1 sc_q1 (by rintro _ _ _ ⟨_,_,_,_,_,rfl,_⟩; rfl) (k:=0) (λ cdv A outer s H E hr=>up4 hr) sq4
 have h_q6:Cal l.prog w K mg base (2) "_law_picture" ["state", "most"] ur0:=ye0 F_q6 m_q6 b_q6 sc_q6 (by rintro _ _ _ ⟨_,_,_,_,rfl,_⟩; rfl) (k:=1) (λ cdv A outer s H E hr=>xp4 h_q1 (by decide) z_range z_sorted z_tuple hr) zq4
 have h_q4:Cal l.prog w K mg base (2) "_law_is_picture" ["found", "due"] tr0:=ye0 F_q4 m_q4 b_q4 sc_q4 (by rintro _ _ _ ⟨_,rfl,_⟩; rfl) (k:=1) (λ cdv A outer s H E hr=>zp4 jh4 (by decide) z_all z_isinstance z_len z_tuple hr) vq4
 have h_q2:Cal l.prog w K mg base (1) "_law_ends" ["stroke"] spLe:=ye0 F_q2 m_q2 b_q2 sc_q2 (by rintro _ _ _ ⟨_,rfl,_⟩; rfl) (k:=0) (λ cdv A outer s H E hr=>vp4 hr) tq4
 have h_q3:Cal l.prog w K mg base (1) "_law_from_ends" ["one", "other"] spFe:=ye0 F_q3 m_q3 b_q3 sc_q3 (by rintro _ _ _ ⟨_,_,rfl,_⟩; rfl) (k:=0) (λ cdv A outer s H E hr=>wp4 z_max z_min hr) uq4
 have jh6:Cal l.prog w K mg base (2) "_law_ways" ["picture", "mirror", "quarters", "x", "y"] yj0:=ye0 jf8 jhk jhj sc_q12 (by rintro _ _ _ ⟨_,_,_,_,_,rfl,_⟩; rfl) (k:=1) (λ cdv A outer s H E hr=>sx3 h_q2 (by decide) h_q3 (by decide) z_range z_sorted z_tuple hr) wb4
 have h_q7:Cal l.prog w K mg base (2) "_law_points" ["picture"] xm0:=ye0 F_q7 m_q7 b_q7 sc_q7 (by rintro _ _ _ ⟨_,rfl,_⟩; rfl) (k:=1) (λ cdv A outer s H E hr=>so4 h_q2 (by decide) hr) yq4
 have h_q9:Cal l.prog w K mg base (3) "_law_sheet" ["picture"] uo0:=ye0 F_q9 m_q9 b_q9 sc_q9 (by rintro _ _ _ ⟨_,rfl,_⟩; rfl) (k:=2) (λ cdv A outer s H E hr=>uo4 h_q7 (by decide) z_range z_sorted z_str hr) sp4
 have h_q5:CalM l.prog w K mg base (1) "_law_marks" ["e"] spMk:=um3 F_q5 m_q5 b_q5 sc_q5 (by rintro _ _ _ ⟨rfl,_⟩; rfl) (k:=0) (λ cdv A outer s H E hr=>yp4 m_BadNote x_BadNote m_NoNumber x_NoNumber m_NoPicture x_NoPicture m_NoRoom x_NoRoom m_NoStep x_NoStep m_NoWord x_NoWord x_ValueError z_ValueError z_isinstance hr) wq4
 have h_q8:Cal l.prog w K mg base (1) "_law_refused" ["marks", "which"] vr0:=ye0 F_q8 m_q8 b_q8 zo4 (by rintro _ _ _ ⟨_,rfl,_⟩; rfl) (k:=0) (λ cdv A outer s H E hr=>to4 z_range hr) xq4
 have jh7:Cal l.prog w K mg base (5) "_law_told" ["picture"] zj0:=ye0 jf9 jhm jhl sc_q11 (by rintro _ _ _ ⟨_,rfl,_⟩; rfl) (k:=4) (λ cdv A outer s H E hr=>xy3 h_q5 (by decide) jgi (by decide) m_PenError k2_PenError k3 ok_PenError hr) vb4
 exact tf2 jgg sc_q20 (by rintro _ _ _ ⟨_,rfl,_⟩; rfl) (k:=6) (λ cdv A outer s H E hr=>sw3 h_q1 (by decide) h_q4 (by decide) h_q6 (by decide) h_q7 (by decide) h_q8 (by decide) h_q9 (by decide) jh5 (by decide) jh7 (by decide) jh6 (by decide) jh3 (by decide) z_isinstance z_max z_min z_set z_sorted z_str z_tuple hr) wa4
theorem walk {l:PySem.W.OpenLaw} {q:Program} {loose:List Str} {XP:(Str->Option Value)->Heap->Prop} {YP:World->Heap->Prop} {d:DefRec} {K:Params->Fg} (hn:l.most=some 63) (hdf:d.params.defaults=[])
    (hY:∀ (w:World) (h:Heap),YP w h->(K w.params).In h)
    (F:∀ (w:World) (mg:Str->Option Value) (fa:Addr) (h:Heap),(K w.params).In h->h.Ns mainGlobals mg->mg d.name=some (.ref fa) ->
     ∃ fd:FuncData,(∀ (s:Shared) (u:Value),BindsTo s fd ⟨[u],[]⟩ [("script",u)]) /\ ∀ base:Heap,(K w.params).In base->base.Ns mainGlobals mg->FnOk l.prog w (K w.params) mg base CX0 7 fa fd ["script"] (lift (K w.params) ym2)) :
    PySem.W.WalkO q loose XP YP l.row.toRowW d [] (λ f vs=>PySem.call f vs) :=
 L2.walk_of (n:=63) (k:=7) (x := "script") (CX:=λ _=>CX0) (sp:=λ w=>lift (K w.params) ym2) hn (by decide) hdf ⟨rfl,by decide,by decide⟩ hY F (λ _ _ a nsT hl hO hS=>uq2 hO hS ⟨nsT,rfl,hl,λ _=>rfl⟩) λ _ _ _ _ _ z=>z
end Pv
open PySem PySem.W PyProof.Rows
set_option maxRecDepth 100000 in
set_option maxHeartbeats 0 in
theorem PySem.Challenge.cw_penwright_k85_sheets_holds : PySem.Challenge.rw_penwright_k85_sheets.Holds := by
 w_on
 refine PySem.W.holds_law Pv.h_said λ said=>?_
 refine PySem.W.holds_open (YP:=PySem.W.Hook.says (kHook Pv.KK Pv.KA Pv.ke)) Pv.h_left (PySem.W.Hook.of (kHook Pv.KK Pv.KA Pv.ke)) (PySem.W.Hook.keeps (kHook Pv.KK Pv.KA Pv.ke)) (λ s e=>PySem.W.xl_of s (Bool.and_eq_true_iff.mp e).1) PySem.W.XL.keeps (by rfl) (by rfl) (by rfl) (λ s e=>PySem.W.recFacts_of (Bool.and_eq_true_iff.mp e).2) (by rfl) said (by decide +kernel) ⟨rfl,rfl,rfl,rfl,rfl,by decide +kernel⟩ ?hw ?hc
 case hw=>w_witness2
 k_fill
 refine Pv.walk (l:=PySem.Challenge.rw_penwright_k85_sheets) rfl rfl (λ w h Y=>PySem.W.kIn_of Y) ?F
 case F =>
  intro w mg fa h KX G hmg
  refine' Pv.all_mk KX G hmg ?jd0 ?jd1 ?jd2 ?jd3 ?jd4 ?jd5 ?jd6 ?jd7 ?jd8 ?jd9 ?jea ?jeb ?jec ?jed ?jee ?jef ?jeg ?jeh ?jei ?jej ?jek ?jel ?jem ?jen ?jeo ?jep ?jeq ?jer ?jes ?jet ?jeu ?jev ?a_q0 ?A_q0 ?jew ?jex ?jey ?jez ?a_q1 ?A_q1 ?a_q6 ?A_q6 ?a_q4 ?A_q4 ?a_q2 ?A_q2 ?a_q3 ?A_q3 ?je0 ?je1 ?a_q7 ?A_q7 ?a_q9 ?A_q9 ?a_q5 ?A_q5 ?a_q8 ?A_q8 ?je2 ?je3 ?jdz ?je4 ?jdr ?ql_1 ?jbo ?jb0 ?jbm ?ql_6 ?jab ?jbn ?jca ?jce ?jbg ?jbh ?jaa ?jbb ?jbl ?jad ?jb1 ?jcu ?jdc ?jb2 ?jb3 ?jdd ?jb4 ?jb5 ?jcf ?jbi ?jbj ?jde ?jcg ?jch ?jci ?jcj ?jck ?jcl ?jcm ?jcn ?jbp ?jbq ?jbr ?jbs ?jbt ?jbu ?jbv ?jdh ?jcy ?jcz ?jc0 ?jc1 ?jc2 ?jc3 ?jc4 ?jaj ?jak ?ja2 ?ja3 ?jao ?jap ?jae ?jaf ?jaz ?ja0 ?jal ?jam ?jaq ?jar ?ja4 ?ja5 ?jas ?jat ?ja6 ?ja7 ?jau ?jav ?jbc ?jbd ?ja8 ?ja9 ?jaw ?jax ?jbe ?jbf ?jag ?jac ?jan ?k3s ?jb6 ?jay ?jah ?ja1 ?jbw ?jds ?jdn ?jdt ?jbx ?jdu ?jdv ?jdw ?jdi ?jdx ?jdf ?jdy ?jdj
  (case jdr | ql_1 | jbo | jb0 | jbm | ql_6 | jab | jbn | jca | jce | jbg | jbh | jaa | jbb | jbl | jad | jb1 | jcu | jdc | jb2 | jb3 | jdd | jb4 | jb5 | jcf | jbi | jbj | jcg | jch | jci | jcj | jck | jcl | jcm | jbp | jbq | jbr | jbs | jbt | jbu | jbv | jcy | jcz | jc0 | jc1 | jc2 | jc3 | jc4 | jaj | ja2 | jao | jae | jaz | jal | jaq | ja4 | jas | ja6 | jau | jbc | ja8 | jaw | jbe | jag | jac | jan | k3s | jb6 | jay | jah | ja1 | jbw | jds | jdn | jdt | jbx | jdu | jdv | jdw | jdi | jdx | jdf | jdy | jdj=>k_is)
  (case jd0 | jd2 | jd4 | jd6 | jd8 | jea | jec | jee | jeg | jei | jek | jem | jeo | jeq | jes | jeu | a_q0 | jew | jey | a_q1 | a_q6 | a_q4 | a_q2 | a_q3 | je0 | a_q7 | a_q9 | a_q5 | a_q8 | je2 | jdz=>(show _=_; k_is))
  (case jd1 | jd3 | jd5 | jd7 | jd9 | jeb | jed | jef | jeh | jej | jel | jen | jep | jer | jet | jev | A_q0 | jex | jez | A_q1 | A_q6 | A_q4 | A_q2 | A_q3 | je1 | A_q7 | A_q9 | A_q5 | A_q8 | je3 | je4=>(refine' Pv.fnA_mk ?l ?c ?k; (case l=>k_is); (case c=>k_is); (case k=>k_is)))
  (case jde | jcn | jdh=>k_exc)
  (case jak | ja3 | jap | jaf | ja0 | jam | jar | ja5 | jat | ja7 | jav | jbd | ja9 | jax | jbf=>rfl)
