import PyProof.Rows.All
import Wide.All
import OpenK.AllK
import Wide.FinOn
import Lean
import PyProof.EqAt
import PyProof.EqKinds
import PyProof.TupleCall
import PyProof.P3Statements
import KE.KIntText
import KE.KRevIter
import KE.KRevSl
import KE.KSortTup
import KE.KDictSum
import PyProof.StrOps2
import PyProof.ReprStr
import PyProof.Rows.SortWalk
import KE.KIsAll
import PyProof.ExcAttrAll.ValueError
import PySem.Challenge.RW_penwright_k86_texts_that_show_no_picture
open List(map_cons length_map mem_cons_of_mem length_cons map_map length_append mem_cons_self append_nil getElem?_map length_nil map_append map_nil mem_append_right getElem?_eq_getElem cons_append set_cons_succ mem_cons nil_append mem_singleton find?_cons set_cons_zero not_mem_nil mem_of_mem_take sum_append any_cons mem_of_mem_drop take_append_drop range_succ countP_append take_of_length_le mem_append sum_cons of_mem_zip mem_of_getElem? getElem_mem all_eq_true lookup_cons length_range size_toArray foldl_cons nodup_nil length_take getElem?_drop countP_cons mem_map map_take map_drop)
open Array(length_toList getElem?_toList)
set_option Elab.async false
set_option linter.all false
set_option maxRecDepth 100000
set_option maxHeartbeats 4000000
open PySem.W (fnOf kHook methodObj hideAll hideAll_get of_hideAll keepIn callWith_K cellsFrom_some codeIn codeRec_of nsIn kitOne kia_one mg_of funFrames_hide findIn mroIn clsIn specialIn takesIn looks_findIn looks_mroIn kitCls kit_cls excIn typeIn subIn mg_none_of)
open PySem.F (slot_tuple_add entry_tuple_add args_tuple_add_2 slot_dict_get entry_dict_get excBase_ValueError)
noncomputable section
set_option compiler.extract_closed false
set_option hygiene false
local macro_rules|`([3])=>`(envOfC qual scope s0.heap.objs.size f cd)|`([4])=>`(⟨rfl,rfl,rfl,by decide +kernel,rfl,by decide +kernel,by decide +kernel⟩)|`([5])=>`(by omega)|`([6])=>`(cxOf (CXn P w) P w K mg base N qual scope f cd A outer s0 H0 E)|`([7])=>`(Value->Shared->Prop)|`([8])=>`(model prog w)|`([9])=>`(c3 (.int 1))|`([11])=>`(model X.prog X.w)|`([12])=>`(c3 (.int 0))|`([13])=>`(Inv X pins σ H s)|`([14])=>`(by decide)|`([15])=>`(Txt.split T "\n")|`([16])=>`(ts.map encT)|`([17])=>`(by simp)|`([18])=>`(Nat.le_refl _)|`([19])=>`(List (Addr × Obj))|`([20])=>`(by decide +kernel)|`([21])=>`(by assumption)|`([22])=>`(wc0 X NN scope cl C fp s₀ H₀ pn)|`([23])=>`(x == ("__debug__" : Str))|`([24])=>`(Str->Option Value)|`([25])=>`(List Value)|`([26])=>`((false,eval e X.env))|`([27])=>`(.ListComp elt [⟨target,iter,ifs,0⟩] scope pos)|`([28])=>`(wpAny_pure ?_)|`([29])=>`((e :: es).length + ([]:List Keyword).length + (if ([]:List Keyword).isEmpty then 0 else 1) < 30)|`([30])=>`(c3 (.int 2))|`([31])=>`(starEach es X.env)|`([33])=>`(.ref C_NoRoom)|`([34])=>`(.ref C_NoPicture)|`([35])=>`(List Str)|`([36])=>`(by simp_all)|`([37])=>`(.ref C_BadNote)|`([38])=>`(Kp.refl _)|`([39])=>`(List.toArray (List.range N))|`([40])=>`(.type "BaseException")|`([41])=>`(List (List Int × D))|`([42])=>`(.builtin "object.__class__")|`([44])=>`(wpAny_setState_of S.ho S.hd S.fits ?_)|`([47])=>`(Shared)
local macro_rules|`([48])=>`(hs.2 b (Nat.ne_of_lt (Nat.lt_of_lt_of_le (Heap.lt_size e) I.ok.above)))|`([49])=>`(.Call (.Name x p) (e :: es) [] pos)|`([50])=>`(List T3)|`([51])=>`(rowA rows r)|`([52])=>`(xa0 (v3 0) nil3)|`([53])=>`(⟨_,Heap.get?_push_size _ rfl,rfl,rfl⟩)|`([54])=>`({ s with heap:=h' })|`([55])=>`(xa0 (v3 1) nil3)|`([56])=>`(PySem.W.Frag)|`([57])=>`(by simp_all;omega)|`([58])=>`(([3] :: outer))|`([59])=>`({ s with heap:=h',toks:=tk })|`([60])=>`(Program)|`([61])=>`(λ _ _ _ _ _=>?_)|`([62])=>`(some (sp + 1))|`([63])=>`(s.mono k1)|`([64])=>`(List Int)|`([65])=>`(mem_cons_self ..)|`([66])=>`(.ref p)|`([67])=>`(List Expr)|`([68])=>`(X.A.units + 64 < cLine)|`([69])=>`(envOfC qual scope s.heap.objs.size f cd)|`([70])=>`(backToKw cpos (keywordEach [] X.env))|`([71])=>`(.ref s.heap.objs.size)|`([72])=>`(.ref C)|`([73])=>`(.builtin "getset_descriptor.__get__")|`([74])=>`(⟨by decide,by decide⟩)|`([75])=>`(⟨by omega,by omega⟩)|`([76])=>`(Array Nat)|`([77])=>`(Heap.SameBut.update ..)|`([78])=>`((envOfC qual scope s0.heap.objs.size f cd :: outer))|`([79])=>`(yc0 I q [17])|`([80])=>`(fnOf name qual params body scope dV kV doc pm an cdv ct)|`([81])=>`(backTo cpos (starEach (e :: es) X.env))|`([82])=>`(X.calm=true)|`([83])=>`(sD [15])|`([84])=>`(o3 ixR (v3 0) [12])|`([85])=>`(mem_append_right _ (mem_append_right _ (xg0 hb e)))|`([86])=>`(⟨λ ρ μ' σ H' h' k' s' m'=>ks _ _ _ _ h' k' .non m',λ ρ μ' σ H' h'=>False.elim h',λ ρ μ' σ H' h'=>False.elim h',ks⟩)|`([87])=>`(A.deeper (envOfC x (ya0 st) s.heap.objs.size f cdv))
local macro_rules|`([88])=>`(List Nat)
set_option bootstrap.genMatcherCode false
local macro_rules | `(tactic| trivial) => `(tactic| first | exact Or.inl rfl | exact Or.inr rfl | exact Or.inr (Or.inl rfl) | exact Or.inr (Or.inr rfl) | fail)
theorem Z0:4<=PySem.sizeLine:=by decide
theorem Z1:1<=PySem.sizeLine:=by decide
namespace L2
open PySem PySem.Spec PyProof.Rows
def ui0 (s:Stmt):Arguments:=match s with
 | .FunctionDef _ a _ _ _ _ _ _ _ _=>a
 | _=>{ posonlyargs:=[],args:=[],vararg:=none,kwonlyargs:=[],kw_defaults:=[],kwarg:=none,defaults:=[] }
def va0 (s:Stmt):List Stmt:=match s with
 | .FunctionDef _ _ b _ _ _ _ _ _ _=>b
 | _=>[]
def ya0 (s:Stmt):Scope:=match s with
 | .FunctionDef _ _ _ _ _ _ sc _ _ _=>sc
 | _=>{ kind:=.function,names:=[],isGenerator:=false,isCoroutine:=false }
end L2
namespace Pv
open PySem PySem.Spec PyProof.Rows L2
def top (i:Nat):Stmt:=PySem.Challenge.pw_penwright_k86_texts_that_show_no_picture.main.body.getD i (.Pass ⟨0,0,0,0⟩)
abbrev wa2:Stmt:=top 10
abbrev za2:Stmt:=top 11
abbrev sz1:Stmt:=top 12
abbrev zz1:Stmt:=top 13
abbrev vz1:Stmt:=top 14
abbrev xz1:Stmt:=top 19
abbrev xa2:Stmt:=top 20
abbrev uy1:Stmt:=top 21
abbrev ty1:Stmt:=top 22
abbrev vy1:Stmt:=top 23
abbrev yz1:Stmt:=top 24
abbrev ya2:Stmt:=top 25
abbrev uz1:Stmt:=top 26
abbrev wz1:Stmt:=top 27
abbrev wy1:Stmt:=top 28
abbrev tz1:Stmt:=top 29
abbrev s_q1:Stmt:=top 31
abbrev va2:Stmt:=top 32
abbrev ta2:Stmt:=top 33
abbrev s_q2:Stmt:=top 34
abbrev wb2:Stmt:=top 35
abbrev s_q0:Stmt:=top 36
abbrev s_q6:Stmt:=top 37
abbrev s_q4:Stmt:=top 38
abbrev zb2:Stmt:=top 40
abbrev xb2:Stmt:=top 41
abbrev s_q7:Stmt:=top 42
abbrev yb2:Stmt:=top 43
abbrev s_q8:Stmt:=top 44
abbrev s_q3:Stmt:=top 45
abbrev s_q9:Stmt:=top 46
abbrev sa2:Stmt:=top 47
abbrev ua2:Stmt:=top 48
abbrev vy0:Stmt:=top 49
def en (P:Params) (x:Str) (t:Tok) (v:Value):DictEntry:=⟨PyData.keyHash P x,.str x t,v⟩
def fo (x y:Str) (st:Stmt) (m c:Value):Obj:=⟨.type "function",none,.func (fnOf x y (ui0 st) (va0 st) (ya0 st) .none .none .none m none c .none),#[]⟩
def co (x:Str) (a:Tok) (y:Str) (b c:Tok) (ns:[64]) (vs:[25]) (d e:Int) (f:Tok):Obj:=⟨.type "code",none,.fields (.str x a :: .str y b :: .str "/claim/cut.py" c :: (ns.map (λ n=>Value.int n 0) ++ (vs ++ [.int d 0,.int e 0,.str "/claim/cut.py" f]))).toArray,#[]⟩
def fq (x:Str) (st:Stmt) (m c:Value):Obj:=fo x x st m c
def cq (x:Str) (a:Tok) (ns:[64]) (vs:[25]) (d e:Int) (f:Tok):Obj:=co x a x (a + 1) (a + 2) ns vs d e f
def tO (vs:[25]):Obj:=⟨.type "tuple",none,.seq vs.toArray 0,#[]⟩
abbrev z6:Value:=.str "law_penwright_k86_texts_that_show_no_picture" 440
def z7 (x:Str) (s:Stmt) (c:Addr):Obj:=fo x x s z6 (.ref c)
def z8 (x:Str) (a:Tok):=co x a x
def z9 (P:Params) (x:Str) (t:Tok) (a:Addr):DictEntry:=en P x t (.ref a)
def Z2 (x:Str):=fo x x
abbrev Z3:Value:=.str "penwright.errors" 187
abbrev Z4:Value:=.str "penwright.pictures" 303
abbrev Z5:Value:=.str "penwright.sheets" 344
def KK:PySem.Params->PySem.W.Frag:=λ P=>(nat_lit 2,⟨.none,none,.dict #[] 0,#[]⟩) :: (nat_lit 3,⟨.type "dict",none,.dict #[en P "__name__" 165 z6,en P "__doc__" 166 (.none),en P "__package__" 167 (.none),en P "__loader__" 168 (.builtin "__main__.__loader__#opaque"),en P "__spec__" 169 (.none),z9 P "__annotations__" 170 6,z9 P "__builtins__" 171 4,en P "__file__" 173 (.str "/claim/cut.py" 172),en P "__cached__" 174 (.none),z9 P "PenError" 206 24,z9 P "NoWord" 222 37,z9 P "NoPicture" 238 49,z9 P "NoRoom" 254 61,z9 P "NoStep" 270 73,z9 P "NoNumber" 286 85,z9 P "BadNote" 302 97,z9 P "WAYS" 307 100,z9 P "check_picture" 316 107,z9 P "check_stroke" 323 114,z9 P "ends_of" 330 121,z9 P "picture_with" 337 128,z9 P "picture_box" 343 133,en P "MOST_POINTS" 347 (.int 40 346),en P "NO_STROKES" 349 (.str "none" 348),z9 P "STROKE_SIGNS" 352 134,z9 P "sheet_of" 360 141,z9 P "corner_line" 367 148,z9 P "sign_lines" 373 153,z9 P "sign_line" 379 158,z9 P "signs_of" 385 163,z9 P "read_sheet" 394 170,z9 P "corner_in" 402 177,z9 P "number_in" 410 184,z9 P "picture_in" 423 191,z9 P "strokes_shown" 431 198,z9 P "is_sheet_of" 439 205,z9 P "_law_cell_at" 449 212,z9 P "_law_whole" 456 219,z9 P "_law_state" 465 226,z9 P "_law_choice" 475 233,z9 P "_law_picture" 488 240,z9 P "_law_bad_picture" 501 247,z9 P "_law_is_picture" 507 252,z9 P "_law_ends" 517 259,z9 P "_law_from_ends" 527 266,z9 P "_law_points" 538 273,z9 P "_law_sheet" 544 278,z9 P "_law_marks" 552 285,z9 P "_law_refused" 558 290,z9 P "_law_number" 564 295,z9 P "_law_due" 581 302,z9 P "_law_odd" 589 309,z9 P "_law_spoilt" 603 316,z9 P "_law_told" 614 323,z9 P "law" 627 330] 55,#[]⟩) :: (nat_lit 15,tO [.type "ValueError"]) :: (nat_lit 22,tO []) :: (nat_lit 23,⟨.type "dict",none,.dict #[en P "__module__" 196 Z3,en P "__firstlineno__" 200 (.int 2 199),z9 P "__static_attributes__" 201 22,z9 P "__weakref__" 203 25,en P "__doc__" 204 (.none)] 3,#[]⟩) :: (nat_lit 24,⟨.type "type",none,.cls ⟨"PenError",[.type "ValueError"],[.ref 24,.type "ValueError",.type "Exception",.type "BaseException",.type "object"],23, "PenError",true,[],[.ref 37,.ref 49,.ref 61,.ref 73,.ref 85,.ref 97],false,none,false⟩,#[some (.ref 15),none,some (.str "PenError" 189),some (.str "PenError" 197),some (.builtin "ValueError.__new__"),some (.bool true)]⟩) :: (nat_lit 25,⟨.type "getset_descriptor",none,.fields #[.str "__weakref__" 202,.ref 24,.builtin "ExceptionGroup.__weakref__",.none],#[]⟩) :: (nat_lit 28,tO [.ref 24]) :: (nat_lit 35,tO []) :: (nat_lit 36,⟨.type "dict",none,.dict #[en P "__module__" 214 Z3,en P "__firstlineno__" 218 (.int 4 217),z9 P "__static_attributes__" 219 35,en P "__doc__" 220 (.none)] 2,#[]⟩) :: (nat_lit 37,⟨.type "type",none,.cls ⟨"NoWord",[.ref 24],[.ref 37,.ref 24,.type "ValueError",.type "Exception",.type "BaseException",.type "object"],36, "NoWord",true,[],[],false,none,false⟩,#[some (.ref 28),none,some (.str "NoWord" 207),some (.str "NoWord" 215),some (.builtin "ValueError.__new__"),some (.bool true)]⟩) :: (nat_lit 40,tO [.ref 24]) :: (nat_lit 47,tO []) :: (nat_lit 48,⟨.type "dict",none,.dict #[en P "__module__" 230 Z3,en P "__firstlineno__" 234 (.int 6 233),z9 P "__static_attributes__" 235 47,en P "__doc__" 236 (.none)] 2,#[]⟩) :: (nat_lit 49,⟨.type "type",none,.cls ⟨"NoPicture",[.ref 24],[.ref 49,.ref 24,.type "ValueError",.type "Exception",.type "BaseException",.type "object"],48, "NoPicture",true,[],[],false,none,false⟩,#[some (.ref 40),none,some (.str "NoPicture" 223),some (.str "NoPicture" 231),some (.builtin "ValueError.__new__"),some (.bool true)]⟩) :: (nat_lit 52,tO [.ref 24]) :: (nat_lit 59,tO []) :: (nat_lit 60,⟨.type "dict",none,.dict #[en P "__module__" 246 Z3,en P "__firstlineno__" 250 (.int 8 249),z9 P "__static_attributes__" 251 59,en P "__doc__" 252 (.none)] 2,#[]⟩) :: (nat_lit 61,⟨.type "type",none,.cls ⟨"NoRoom",[.ref 24],[.ref 61,.ref 24,.type "ValueError",.type "Exception",.type "BaseException",.type "object"],60, "NoRoom",true,[],[],false,none,false⟩,#[some (.ref 52),none,some (.str "NoRoom" 239),some (.str "NoRoom" 247),some (.builtin "ValueError.__new__"),some (.bool true)]⟩) :: (nat_lit 64,tO [.ref 24]) :: (nat_lit 71,tO []) :: (nat_lit 72,⟨.type "dict",none,.dict #[en P "__module__" 262 Z3,en P "__firstlineno__" 266 (.int 10 265),z9 P "__static_attributes__" 267 71,en P "__doc__" 268 (.none)] 2,#[]⟩) :: (nat_lit 73,⟨.type "type",none,.cls ⟨"NoStep",[.ref 24],[.ref 73,.ref 24,.type "ValueError",.type "Exception",.type "BaseException",.type "object"],72, "NoStep",true,[],[],false,none,false⟩,#[some (.ref 64),none,some (.str "NoStep" 255),some (.str "NoStep" 263),some (.builtin "ValueError.__new__"),some (.bool true)]⟩) :: (nat_lit 76,tO [.ref 24]) :: (nat_lit 83,tO []) :: (nat_lit 84,⟨.type "dict",none,.dict #[en P "__module__" 278 Z3,en P "__firstlineno__" 282 (.int 12 281),z9 P "__static_attributes__" 283 83,en P "__doc__" 284 (.none)] 2,#[]⟩) :: (nat_lit 85,⟨.type "type",none,.cls ⟨"NoNumber",[.ref 24],[.ref 85,.ref 24,.type "ValueError",.type "Exception",.type "BaseException",.type "object"],84, "NoNumber",true,[],[],false,none,false⟩,#[some (.ref 76),none,some (.str "NoNumber" 271),some (.str "NoNumber" 279),some (.builtin "ValueError.__new__"),some (.bool true)]⟩) :: (nat_lit 88,tO [.ref 24]) :: (nat_lit 95,tO []) :: (nat_lit 96,⟨.type "dict",none,.dict #[en P "__module__" 294 Z3,en P "__firstlineno__" 298 (.int 14 297),z9 P "__static_attributes__" 299 95,en P "__doc__" 300 (.none)] 2,#[]⟩) :: (nat_lit 97,⟨.type "type",none,.cls ⟨"BadNote",[.ref 24],[.ref 97,.ref 24,.type "ValueError",.type "Exception",.type "BaseException",.type "object"],96, "BadNote",true,[],[],false,none,false⟩,#[some (.ref 88),none,some (.str "BadNote" 287),some (.str "BadNote" 295),some (.builtin "ValueError.__new__"),some (.bool true)]⟩) :: (nat_lit 100,tO [.int 0 305,.int 1 306]) :: (nat_lit 106,cq "check_picture" 308 [18,1,0,0,3] [.ref 101,.bool true,.int 181 0,.ref 102,.none,.ref 103,.ref 104,.ref 105] 314 18 315) :: (nat_lit 107,fq "check_picture" wa2 Z4 (.ref 106)) :: (nat_lit 113,cq "check_stroke" 317 [24,1,0,0,3] [.ref 108,.bool true,.int 181 0,.ref 109,.none,.ref 110,.ref 111,.ref 112] 321 24 322) :: (nat_lit 114,fq "check_stroke" za2 Z4 (.ref 113)) :: (nat_lit 120,cq "ends_of" 324 [27,1,0,0,3] [.ref 115,.bool true,.int 181 0,.ref 116,.none,.ref 117,.ref 118,.ref 119] 328 27 329) :: (nat_lit 121,fq "ends_of" sz1 Z4 (.ref 120)) :: (nat_lit 127,cq "picture_with" 331 [31,1,0,0,3] [.ref 122,.bool true,.int 181 0,.ref 123,.none,.ref 124,.ref 125,.ref 126] 335 31 336) :: (nat_lit 128,fq "picture_with" zz1 Z4 (.ref 127)) :: (nat_lit 132,cq "picture_box" 338 [33,1,0,0,3] [.ref 129,.bool true,.int 181 0,.ref 130,.none,.none,.none,.ref 131] 341 33 342) :: (nat_lit 133,fq "picture_box" vz1 Z4 (.ref 132)) :: (nat_lit 134,tO [.str "-" 350,.str "|" 351]) :: (nat_lit 140,cq "sheet_of" 353 [44,1,0,0,3] [.ref 135,.bool true,.int 181 0,.ref 136,.none,.ref 137,.ref 138,.ref 139] 358 44 359) :: (nat_lit 141,fq "sheet_of" xz1 Z5 (.ref 140)) :: (nat_lit 147,cq "corner_line" 361 [52,1,0,0,3] [.ref 142,.bool true,.int 181 0,.ref 143,.none,.ref 144,.ref 145,.ref 146] 365 52 366) :: (nat_lit 148,fq "corner_line" xa2 Z5 (.ref 147)) :: (nat_lit 152,cq "sign_lines" 368 [54,2,0,0,3] [.ref 149,.bool true,.int 181 0,.ref 150,.none,.none,.none,.ref 151] 371 54 372) :: (nat_lit 153,fq "sign_lines" uy1 Z5 (.ref 152)) :: (nat_lit 157,cq "sign_line" 374 [58,3,0,0,3] [.ref 154,.bool true,.int 181 0,.ref 155,.none,.none,.none,.ref 156] 377 58 378) :: (nat_lit 158,fq "sign_line" ty1 Z5 (.ref 157)) :: (nat_lit 162,cq "signs_of" 380 [60,2,0,0,3] [.ref 159,.bool true,.int 181 0,.ref 160,.none,.none,.none,.ref 161] 383 60 384) :: (nat_lit 163,fq "signs_of" vy1 Z5 (.ref 162)) :: (nat_lit 169,cq "read_sheet" 386 [69,1,0,0,3] [.ref 164,.bool true,.int 181 0,.ref 165,.none,.ref 166,.ref 167,.ref 168] 392 69 393) :: (nat_lit 170,fq "read_sheet" yz1 Z5 (.ref 169)) :: (nat_lit 176,cq "corner_in" 395 [77,1,0,0,3] [.ref 171,.bool true,.int 181 0,.ref 172,.none,.ref 173,.ref 174,.ref 175] 400 77 401) :: (nat_lit 177,fq "corner_in" ya2 Z5 (.ref 176)) :: (nat_lit 183,cq "number_in" 403 [82,1,0,0,3] [.ref 178,.bool true,.int 181 0,.ref 179,.none,.ref 180,.ref 181,.ref 182] 408 82 409) :: (nat_lit 184,fq "number_in" uz1 Z5 (.ref 183)) :: (nat_lit 190,cq "picture_in" 411 [88,2,0,0,3] [.ref 185,.bool true,.int 181 0,.ref 186,.none,.ref 187,.ref 188,.ref 189] 421 88 422) :: (nat_lit 191,fq "picture_in" wz1 Z5 (.ref 190)) :: (nat_lit 197,cq "strokes_shown" 424 [96,2,0,0,3] [.ref 192,.bool true,.int 181 0,.ref 193,.none,.ref 194,.ref 195,.ref 196] 429 96 430) :: (nat_lit 198,fq "strokes_shown" wy1 Z5 (.ref 197)) :: (nat_lit 204,cq "is_sheet_of" 432 [102,2,0,0,3] [.ref 199,.bool true,.int 181 0,.ref 200,.none,.ref 201,.ref 202,.ref 203] 437 102 438) :: (nat_lit 205,fq "is_sheet_of" tz1 Z5 (.ref 204)) :: (nat_lit 211,cq "_law_cell_at" 442 [108,2,0,0,3] [.ref 206,.bool true,.int 181 0,.ref 207,.none,.ref 208,.ref 209,.ref 210] 447 108 448) :: (nat_lit 212,fq "_law_cell_at" s_q1 z6 (.ref 211)) :: (nat_lit 218,cq "_law_whole" 450 [112,1,0,0,3] [.ref 213,.bool true,.int 181 0,.ref 214,.none,.ref 215,.ref 216,.ref 217] 454 112 455) :: (nat_lit 219,fq "_law_whole" va2 z6 (.ref 218)) :: (nat_lit 225,cq "_law_state" 457 [114,2,0,0,3] [.ref 220,.bool true,.int 181 0,.ref 221,.none,.ref 222,.ref 223,.ref 224] 463 114 464) :: (nat_lit 226,fq "_law_state" ta2 z6 (.ref 225)) :: (nat_lit 232,cq "_law_choice" 466 [119,2,0,0,3] [.ref 227,.bool true,.int 181 0,.ref 228,.none,.ref 229,.ref 230,.ref 231] 473 119 474) :: (nat_lit 233,fq "_law_choice" s_q2 z6 (.ref 232)) :: (nat_lit 239,cq "_law_picture" 476 [128,2,0,0,3] [.ref 234,.bool true,.int 181 0,.ref 235,.none,.ref 236,.ref 237,.ref 238] 486 128 487) :: (nat_lit 240,fq "_law_picture" wb2 z6 (.ref 239)) :: (nat_lit 246,cq "_law_bad_picture" 489 [140,1,0,0,3] [.ref 241,.bool true,.int 181 0,.ref 242,.none,.ref 243,.ref 244,.ref 245] 499 140 500) :: (nat_lit 247,fq "_law_bad_picture" s_q0 z6 (.ref 246)) :: (nat_lit 251,cq "_law_is_picture" 502 [154,2,0,0,3] [.ref 248,.bool true,.int 181 0,.ref 249,.none,.none,.none,.ref 250] 505 154 506) :: (nat_lit 252,fq "_law_is_picture" s_q6 z6 (.ref 251)) :: (nat_lit 258,cq "_law_ends" 508 [161,1,0,0,3] [.ref 253,.bool true,.int 181 0,.ref 254,.none,.ref 255,.ref 256,.ref 257] 515 161 516) :: (nat_lit 259,fq "_law_ends" s_q4 z6 (.ref 258)) :: (nat_lit 272,cq "_law_points" 528 [168,1,0,0,3] [.ref 267,.bool true,.int 181 0,.ref 268,.none,.ref 269,.ref 270,.ref 271] 536 168 537) :: (nat_lit 273,fq "_law_points" zb2 z6 (.ref 272)) :: (nat_lit 277,cq "_law_sheet" 539 [175,1,0,0,3] [.ref 274,.bool true,.int 181 0,.ref 275,.none,.none,.none,.ref 276] 542 175 543) :: (nat_lit 278,fq "_law_sheet" xb2 z6 (.ref 277)) :: (nat_lit 284,cq "_law_marks" 545 [197,1,0,0,3] [.ref 279,.bool true,.int 181 0,.ref 280,.none,.ref 281,.ref 282,.ref 283] 550 197 551) :: (nat_lit 285,fq "_law_marks" s_q7 z6 (.ref 284)) :: (nat_lit 289,cq "_law_refused" 553 [200,2,0,0,3] [.ref 286,.bool true,.int 181 0,.ref 287,.none,.none,.none,.ref 288] 556 200 557) :: (nat_lit 290,fq "_law_refused" yb2 z6 (.ref 289)) :: (nat_lit 294,cq "_law_number" 559 [202,1,0,0,3] [.ref 291,.bool true,.int 181 0,.ref 292,.none,.none,.none,.ref 293] 562 202 563) :: (nat_lit 295,fq "_law_number" s_q8 z6 (.ref 294)) :: (nat_lit 301,cq "_law_due" 565 [209,1,0,0,3] [.ref 296,.bool true,.int 181 0,.ref 297,.none,.ref 298,.ref 299,.ref 300] 579 209 580) :: (nat_lit 302,fq "_law_due" s_q3 z6 (.ref 301)) :: (nat_lit 308,cq "_law_odd" 582 [230,1,0,0,3] [.ref 303,.bool true,.int 181 0,.ref 304,.none,.ref 305,.ref 306,.ref 307] 587 230 588) :: (nat_lit 309,fq "_law_odd" s_q9 z6 (.ref 308)) :: (nat_lit 315,cq "_law_spoilt" 590 [236,2,0,0,3] [.ref 310,.bool true,.int 181 0,.ref 311,.none,.ref 312,.ref 313,.ref 314] 601 236 602) :: (nat_lit 316,fq "_law_spoilt" sa2 z6 (.ref 315)) :: (nat_lit 322,cq "_law_told" 604 [256,2,0,0,3] [.ref 317,.bool true,.int 181 0,.ref 318,.none,.ref 319,.ref 320,.ref 321] 612 256 613) :: (nat_lit 323,fq "_law_told" ua2 z6 (.ref 322)) :: (nat_lit 329,cq "law" 615 [267,1,0,0,3] [.ref 324,.bool true,.int 181 0,.ref 325,.none,.ref 326,.ref 327,.ref 328] 625 267 626) :: (nat_lit 330,fq "law" vy0 z6 (.ref 329)) :: []
def KA:List Addr:=[2,3,15,22,23,24,25,28,35,36,37,40,47,48,49,52,59,60,61,64,71,72,73,76,83,84,85,88,95,96,97,100,106,107,113,114,120,121,127,128,132,133,134,140,141,147,148,152,153,157,158,162,163,169,170,176,177,183,184,190,191,197,198,204,205,211,212,218,219,225,226,232,233,239,240,246,247,251,252,258,259,272,273,277,278,284,285,289,290,294,295,301,302,308,309,315,316,322,323,329,330]
theorem ke:∀ P,KA=(KK P).map (·.1):=λ _=>by kernel_rfl
def vw:Program:={ PySem.Challenge.pw_penwright_k86_texts_that_show_no_picture with main:={ PySem.Challenge.pw_penwright_k86_texts_that_show_no_picture.main with body:=[top 49] } }
abbrev LS:List Str:=Program.boundNames (PySem.W.OpenLaw.row PySem.Challenge.rw_penwright_k86_texts_that_show_no_picture).prog
theorem h_said:PySem.Challenge.rw_penwright_k86_texts_that_show_no_picture.wellSaid=true:=by kernel_rfl
theorem h_left:PySem.W.LeftO (PySem.W.OpenLaw.row PySem.Challenge.rw_penwright_k86_texts_that_show_no_picture).prog vw LS (λ s=>PySem.W.xlAt vw [] s && PySem.W.recOk (PySem.W.RowW.records (PySem.W.OpenRow.toRowW (PySem.W.OpenLaw.row PySem.Challenge.rw_penwright_k86_texts_that_show_no_picture))) s) (PySem.W.Hook.obs (kHook KK KA ke)) (PySem.W.Hook.val (kHook KK KA ke)) 5336:=by
 intro w
 delta PySem.W.openEnds PySem.W.fencedOpening PySem.W.topFrom
 rw [PySem.W.Fast.te14082659384304107361,PySem.W.Fast.te10274390034422433532,PySem.W.Fast.te14289696077712309145,PySem.W.Fast.te1435165496053646825,PySem.W.Fast.te14364793385576792824,PySem.W.Fast.te4187177175401517315]
 kernel_rfl
end Pv
namespace L2
open PySem PySem.Spec PyProof.Rows
abbrev Key:=Sum Int Str
def yc2:Key->Value->Bool
 | .inl k,v=>Value.isInt k v
 | .inr x,v=>Value.isStrOf x v
def keyH (w:World):Key->Int
 | .inl k=>hashInt k
 | .inr x=>hashStr w x
theorem xd0:∀ {k:Key} {v:Value},yc2 k v=true->(∃ i t,k=Sum.inl i /\ v=Value.int i t) \/ (∃ x t,k=Sum.inr x /\ v=Value.str x t)
 | .inl i,v,h=>by
  obtain ⟨t,e⟩:=Value.isInt_shape (k:=i) (v:=v) h
  simp_all
 | .inr x,v,h=>by
  obtain ⟨t,e⟩:=Value.isStrOf_shape (x:=x) (v:=v) h
  simp_all
theorem vm2 (i:Int) (t:Tok):yc2 (.inl i) (.int i t)=true:=by simp [yc2,Value.isInt]
theorem wm2 (x:Str) (t:Tok):yc2 (.inr x) (.str x t)=true:=by simp [yc2,Value.isStrOf]
theorem ua5 (a b:Int):decide ((Sum.inl a:Key)=Sum.inl b)=(a == b):=by
 by_cases e:a=b
 ·subst e; simp
 simp_all
theorem za5 (a b:Str):decide ((Sum.inr a:Key)=Sum.inr b)=decide (a=b):=by
 simp
theorem va5 (a:Int) (b:Str):decide ((Sum.inl a:Key)=Sum.inr b)=false:=decide_eq_false (λ q=>nomatch q)
theorem wa5 (a:Str) (b:Int):decide ((Sum.inr a:Key)=Sum.inl b)=false:=decide_eq_false (λ q=>nomatch q)
def td0 (prog:[60]) (w:World):PySem.KeyKind prog w Key where
 is:=yc2
 hash:=keyH w
 inj:=λ v a b ha hb=>by
  rcases xd0 ha with ⟨i,t,rfl,rfl⟩ | ⟨x,t,rfl,rfl⟩
  ·rcases xd0 hb with ⟨j,u,rfl,e⟩ | ⟨y,u,rfl,e⟩
   ·simp_all
   ·exact nomatch e
  ·rcases xd0 hb with ⟨j,u,rfl,e⟩ | ⟨y,u,rfl,e⟩
   ·exact nomatch e
   simp_all
 byValue:=λ k v h=>by
  rcases xd0 h with ⟨i,t,rfl,rfl⟩ | ⟨x,t,rfl,rfl⟩ <;> rfl
 pyHash:=λ hv h=>by
  rcases xd0 hv with ⟨i,t,rfl,rfl⟩ | ⟨x,t,rfl,rfl⟩
  ·exact wpAny_pyHash_int h
  ·exact wpAny_pyHash_str h
 eqBool:=λ hu hv h=>by
  rcases xd0 hu with ⟨i,t,rfl,rfl⟩ | ⟨x,t,rfl,rfl⟩
  ·rcases xd0 hv with ⟨j,u,rfl,rfl⟩ | ⟨y,u,rfl,rfl⟩
   ·rw [ua5] at h; exact wpAny_eqBool_int h
   ·rw [va5] at h; exact SeqAt.EqAt.int_str i t y u _ _ _ _ h
  ·rcases xd0 hv with ⟨j,u,rfl,rfl⟩ | ⟨y,u,rfl,rfl⟩
   ·rw [wa5] at h; exact SeqAt.EqAt.str_int x t j u _ _ _ _ h
   ·rw [za5] at h; exact wpAny_eqBool_str h
 «strs» := λ k x t v h=>by
  rcases xd0 h with ⟨i,u,rfl,e⟩ | ⟨y,u,rfl,e⟩
  ·exact nomatch e
  ·injection e with e1 _
   subst e1;cases v <;> rfl
theorem xp1 (prog:[60]) (w:World) (i:Int) (t:Tok):(td0 prog w).is (.inl i) (.int i t)=true:=vm2 i t
theorem so1 (prog:[60]) (w:World) (x:Str) (t:Tok):(td0 prog w).is (.inr x) (.str x t)=true:=wm2 x t
inductive V where
 | non | bl (b:Bool) | int (i:Int) | str (x:Str) | byt (b:Array UInt8) | flt (b:UInt64) | ref (a:Addr) | ty (n:String)
 deriving DecidableEq
def RelV:V->Value->Prop
 | .non,u=>u=Value.none
 | .bl b,u=>u=Value.bool b
 | .int i,u=>∃ t,u=Value.int i t
 | .str x,u=>∃ t,u=Value.str x t
 | .byt b,u=>∃ t,u=Value.bytes b t
 | .flt b,u=>∃ t,u=Value.float b t
 | .ref a,u=>u=Value.ref a
 | .ty n,u=>u=Value.type n
abbrev Vals:List V->List Value->Prop:=Paired RelV
theorem Vals.length {xs:List V} {us:[25]} (r:Vals xs us):xs.length=us.length:=Paired.length r
theorem Vals.get:∀ {xs:List V} {us:[25]} {i:Nat} {x:V},Vals xs us->xs[i]?=some x->∃ u,us[i]?=some u /\ RelV x u
 | _,_,_,_,.nil,e=>by simp at e
 | _,_,0,_,.cons r _,e=>by simp_all
 | _,_,i + 1,x,.cons _ t,e=>by
  obtain ⟨u,h1,h2⟩:=Vals.get (i:=i) (x:=x) t (by simpa using e)
  simp_all
theorem Vals.set {x:V} {u:Value} (r:RelV x u):∀ {xs:List V} {us:[25]} (i:Nat),Vals xs us->Vals (xs.set i x) (us.set i u)
 | _,_,_,.nil=>.nil
 | _,_,0,.cons _ t=>.cons r t
 | _,_,i + 1,.cons q t=>.cons q (Vals.set r i t)
theorem Vals.append:∀ {xs ys:List V} {us ws:[25]},Vals xs us->Vals ys ws->Vals (xs ++ ys) (us ++ ws)
 | _,_,_,_,.nil,s=>s
 | _,_,_,_,.cons r t,s=>.cons r (Vals.append t s)
theorem Vals.take:∀ {xs:List V} {us:[25]} (n:Nat),Vals xs us->Vals (xs.take n) (us.take n)
 | _,_,0,_=>.nil
 | _,_,_ + 1,.nil=>.nil
 | _,_,n + 1,.cons r t=>.cons r (Vals.take n t)
theorem Vals.drop:∀ {xs:List V} {us:[25]} (n:Nat),Vals xs us->Vals (xs.drop n) (us.drop n)
 | _,_,0,r=>r
 | _,_,_ + 1,.nil=>.nil
 | _,_,n + 1,.cons _ t=>Vals.drop n t
def RelO:Option V->Option Value->Prop
 | some v,some u=>RelV v u
 | none,none=>True
 | _,_=>False
def KV {κ:Type}:List (κ × V)->List (κ × Value)->Prop:=Paired λ (p:κ × V) (q:κ × Value)=>p.1=q.1 /\ RelV p.2 q.2
def kV:Key->V
 | .inl i=>.int i
 | .inr x=>.str x
inductive HO where
 | lst (xs:List V)
 | tup (xs:List V)
 | dK (kvs:List (Key × V)) | dT (kvs:List (List Key × V)) (ne:Nat)
 | set (S:Int->Bool) (n:Nat)
 | ins (C dx:Addr) (fs:List (Str × V))
 | own (x:Addr)
 | xd (fs:List (Str × V))
 | met (f x:Addr)
 | rng (lo hi:Int)
 | frz (o:Obj) (u:HO)
 | tbl (ps:Array Value)
 | ext (φ:Heap->Prop)
abbrev Hp:=Addr->Option HO
def upd (H:Hp) (a:Addr) (o:HO):Hp:=λ b=>if b=a then some o else H b
variable {H:Hp}
theorem ue0 {a:Addr} {o:HO}:upd H a o a=some o:=by unfold upd; rw [if_pos rfl]
theorem xc0 {a b:Addr} {o:HO} (h:b ≠ a):upd H a o b=H b:=by unfold upd; rw [if_neg h]
theorem wl2 {a b:Addr} {o u:HO} (h:H a=some o) (h':H b=some u) (d:o ≠ u):a ≠ b:=by
 intro e; simp_all
theorem we0 {a b:Addr} {o:HO} (h:H a=some o) (h':H b=none):a ≠ b:=by
 intro e; simp_all
section
variable (P:[60]) (w:World)
def ObjOk (H:Hp) (h:Heap) (a:Addr):HO->Prop
 | .lst xs=>xs.length<=sizeLine /\ ∃ (its:[25]) (n:Nat),Vals xs its /\ h.get? a=some { cls:=.type "list",data:=.seq its.toArray n }
 | .tup xs=>xs.length<=sizeLine /\ ∃ its:List Value,Vals xs its /\ IsTup h a its.toArray
 | .dK kvs=>kvs.length<=sizeLine /\ (a == sysModules)=false /\ ∃ vs,KV kvs vs /\ h.DictOf (td0 P w) a vs
 | .dT kvs ne=>kvs.length<=sizeLine /\ (a == sysModules)=false /\ ∃ xs:List (List Key × Addr × Value),
     Paired (λ (p:List Key × V) (q:List Key × Addr × Value)=>p.1=q.1 /\ H q.2.1=some (.tup (p.1.map kV)) /\ RelV p.2 q.2.2) kvs xs ∧
     ∃ o es ep,h.get? a=some o /\ o.ExactDict /\ o.data=.dict es ep /\ es.toList=xs.map (entryOfKey (tupleKind (td0 P w))) /\ (xs.map (·.1)).Nodup /\ ep=ne
 | .set S n=>h.SetOf (intKind P w) a S n
 | .ins C dx fs=>H dx=some (.own a) /\ fs.length<=1000 /\ dx ≠ a /\ h.get? a=some (PySem.W.instObj C dx) ∧
     ∃ mA,h.Ns1 dx mA /\ (∀ f,RelO (fs.lookup f) (mA f)) /\ PySem.Within mA (fs.map (·.1))
 | .own _=>∃ o,h.get? a=some o
 | .xd fs=>∃ mA,h.Ns1 a mA /\ ∀ f,RelO (fs.lookup f) (mA f)
 | .rng lo hi=>∃ t u v,h.get? a=some { cls:=.type "range",data:=.fields #[.int lo t,.int hi u,.int 1 v] }
 | .frz o u=>h.get? a=some o /\ ObjOk H h a u
 | .tbl ps=>h.get? a=some { cls:=.none,data:=.fields ps }
 | .met f x=>h.get? a=some (methodObj (.ref f) (.ref x))
 | .ext φ=>φ h /\ (∃ o,h.get? a=some o) /\ ∀ h1 h2:Heap,φ h1->(∀ o,h1.get? a=some o->h2.get? a=some o)->φ h2
def HOk (H:Hp) (h:Heap):Prop:=∀ a o,H a=some o->ObjOk P w H h a o
end
variable {H':Hp} {h h':Heap}
section
variable {P:[60]} {w:World} {a:Addr} {o:HO}
theorem ObjOk.lt (x:ObjOk P w H h a o):a < h.objs.size:=by
 cases o with
 | lst xs=>obtain ⟨_,_,_,_,e⟩:=x; exact Heap.lt_size e
 | tup xs=>obtain ⟨_,_,_,p⟩:=x; exact p.lt
 | dK kvs=>obtain ⟨_,_,_,_,o,_,_,e,_⟩:=x; exact Heap.lt_size e
 | dT kvs ne=>obtain ⟨_,_,_,_,o,_,_,e,_⟩:=x; exact Heap.lt_size e
 | set S n=>obtain ⟨o,_,_,_,e,_⟩:=x; exact Heap.lt_size e
 | ins C dx fs=>obtain ⟨_,_,_,e,_⟩:=x; exact Heap.lt_size e
 | own y=>obtain ⟨_,e⟩:=x; exact Heap.lt_size e
 | xd fs=>obtain ⟨_,⟨_,_,_,e,_⟩,_⟩:=x; exact Heap.lt_size e
 | rng lo hi=>obtain ⟨_,_,_,e⟩:=x; exact Heap.lt_size e
 | frz ob u=>obtain ⟨e,_⟩:=x; exact Heap.lt_size e
 | tbl ps=>exact Heap.lt_size (show h.get? a=some _ from x)
 | met f y=>exact Heap.lt_size (show h.get? a=some _ from x)
 | ext φ=>obtain ⟨_,⟨_,e⟩,_⟩:=x; exact Heap.lt_size e
theorem Paired.mapP {α β:Type} {F G:α->β->Prop}:∀ {l₁:List α} {l₂:List β},Paired F l₁ l₂->(∀ a b,F a b->G a b)->Paired G l₁ l₂
 | _,_,.nil,_=>.nil
 | _,_,.cons r t,f=>.cons (f _ _ r) (Paired.mapP t f)
theorem ObjOk.stay (x:ObjOk P w H h a o) (k:∀ b u,(b=a \/ H b=some (.own a))->h.get? b=some u->h'.get? b=some u)
    (ho:∀ b,H b=some (.own a)->H' b=some (.own a)) (ht:∀ b xs,H b=some (.tup xs)->H' b=some (.tup xs)):ObjOk P w H' h' a o:=by
 induction o with
 | lst xs=>obtain ⟨z,its,n,r,e⟩:=x; exact ⟨z,its,n,r,k _ _ (.inl rfl) e⟩
 | tup xs=>obtain ⟨z,its,r,ob,e,c⟩:=x; exact ⟨z,its,r,ob,k _ _ (.inl rfl) e,c⟩
 | dK kvs=>obtain ⟨z,y,vs,r,ob,es,ep,e,c⟩:=x; exact ⟨z,y,vs,r,ob,es,ep,k _ _ (.inl rfl) e,c⟩
 | dT kvs ne =>
  obtain ⟨z,y,xs,r,ob,es,ep,e,c⟩:=x;exact ⟨z,y,xs,Paired.mapP r λ p q z=>⟨z.1,ht _ _ z.2.1,z.2.2⟩,ob,es,ep,k _ _ (.inl rfl) e,c⟩
 | set S n=>obtain ⟨ob,es,ep,t,e,c⟩:=x; exact ⟨ob,es,ep,t,k _ _ (.inl rfl) e,c⟩
 | ins C dx fs =>
  obtain ⟨d,z,ne,e,mA,⟨od,es,ep,e2,c⟩,r⟩:=x;exact ⟨ho _ d,z,ne,k _ _ (.inl rfl) e,mA,⟨od,es,ep,k _ _ (.inr d) e2,c⟩,r⟩
 | own y=>obtain ⟨ob,e⟩:=x; exact ⟨ob,k _ _ (.inl rfl) e⟩
 | xd fs=>obtain ⟨mA,⟨od,es,ep,e,c⟩,r⟩:=x; exact ⟨mA,⟨od,es,ep,k _ _ (.inl rfl) e,c⟩,r⟩
 | rng lo hi=>obtain ⟨t,u,v,e⟩:=x; exact ⟨t,u,v,k _ _ (.inl rfl) e⟩
 | frz ob u ih=>obtain ⟨e,q⟩:=x; exact ⟨k _ _ (.inl rfl) e,ih q⟩
 | tbl ps =>
  have e:h.get? a=some { cls:=.none,data:=.fields ps }:=x;show h'.get? a=some { cls:=.none,data:=.fields ps }
  simp_all
 | met f y =>
  have e:h.get? a=some (methodObj (.ref f) (.ref y)):=x;show h'.get? a=some (methodObj (.ref f) (.ref y))
  simp_all
 | ext φ=>obtain ⟨p,⟨o,e⟩,st⟩:=x; exact ⟨st _ _ p λ o q=>k _ _ (.inl rfl) q,⟨o,k _ _ (.inl rfl) e⟩,st⟩
theorem HOk.lt (x:HOk P w H h) (e:H a=some o):a < h.objs.size:=(x a o e).lt
theorem HOk.fresh (x:HOk P w H h) (e:h.objs.size<=a):H a=none:=by
 cases q:H a with
 | none=>rfl
 | some u=>exact absurd (Nat.lt_of_lt_of_le (x.lt q) e) (Nat.lt_irrefl _)
theorem HOk.kept (x:HOk P w H h) (k:∀ b u,h.get? b=some u->h'.get? b=some u):HOk P w H h':=λ a o e =>
 (x a o e).stay (λ b u _ q=>k b u q) (λ _ q=>q) λ _ _ q=>q
theorem HOk.laid (x:HOk P w H h) (k:∀ b u,h.get? b=some u->h'.get? b=some u) (hp:h.objs.size<=a) (new:ObjOk P w (upd H a o) h' a o):HOk P w (upd H a o) h':=λ b u e=>by
 have hn:=x.fresh hp;by_cases hb:b=a
 ·subst hb; rw [ue0] at e; cases e; exact new
 ·rw [xc0 hb] at e;exact (x b u e).stay (λ c v _ q=>k c v q) (λ c q=>by rw [xc0 (we0 q hn)]; exact q) λ c xs q=>by rw [xc0 (we0 q hn)]; exact q
end
def Rd (H:Hp) (a:Addr) (u:HO):Prop:=H a=some u \/ ∃ o,H a=some (.frz o u)
theorem Rd.ok {P:[60]} {w:World} {a:Addr} {u:HO} (r:Rd H a u) (x:HOk P w H h):ObjOk P w H h a u:=by
 rcases r with r | ⟨o,r⟩
 ·exact x a u r
 ·obtain ⟨_,q⟩:=x a _ r;exact q
def Mut:Option HO->Prop
 | some (.lst _)=>True
 | some (.dK _)=>True
 | some (.dT _ _)=>True
 | some (.set _ _)=>True
 | some (.ins _ _ _)=>True
 | some (.ext _)=>True
 | _=>False
section
variable {P:[60]} {w:World} {x e:Addr} {o':HO}
theorem HOk.write (ok:HOk P w H h) (mu:Mut (H x)) (he:e=x \/ H e=some (.own x)) (k:∀ b u,b ≠ e->h.get? b=some u->h'.get? b=some u) (heo:∃ u,h'.get? e=some u)
    (new:ObjOk P w (upd H x o') h' x o'):HOk P w (upd H x o') h':=λ b u q=>by
 have nown:∀ c y,H c=some (.own y)->c ≠ x:=λ c y r z=>by subst z; rw [r] at mu; exact mu
 have ntup:∀ c xs,H c=some (.tup xs)->c ≠ x:=λ c xs r z=>by subst z; rw [r] at mu; exact mu
 by_cases hb:b=x
 ·subst hb; rw [ue0] at q; cases q; exact new
 ·rw [xc0 hb] at q;by_cases hbe:b=e
  ·have q':H b=some (.own x):=by
     simp_all
   rw [q] at q'; cases q';obtain ⟨v,hv⟩:=heo;exact ⟨v,by rw [hbe]; exact hv⟩
  ·refine (ok b u q).stay (λ c v hc r=>k c v ?_ r) (λ c r=>by rw [xc0 (nown c b r)]; exact r) λ c xs r=>by rw [xc0 (ntup c xs r)]; exact r
   rcases hc with rfl | hc
   ·exact hbe
   ·rintro rfl
    simp_all
end
structure Un (fs ex:List Addr) (H H':Hp) (h h':Heap):Prop where
 keep:∀ b o,h.get? b=some o->H b=none->b ∉ fs->b ∉ ex->h'.get? b=some o
 slot:∀ b o,h.get? b=some o->H b=none->b ∈ fs->b ∉ ex->∃ sl,h'.get? b=some { o with slots:=sl }
 free:∀ b o,h.get? b=some o->H b=none->b ∉ ex->H' b=none
 there:∀ b o,h.get? b=some o->b ∉ ex->∃ o',h'.get? b=some o'
 tups:∀ b xs,H b=some (.tup xs)->H' b=some (.tup xs)
 frzs:∀ b o u,H b=some (.frz o u)->H' b=some (.frz o u)
 tbls:∀ b ps,H b=some (.tbl ps)->∃ more,H' b=some (.tbl (ps ++ more))
section
variable {fs fs' ex ex':List Addr} {H1 H2:Hp} {h1 h2:Heap} {a x e:Addr} {o:HO}
theorem Un.any (u:Un fs ex H H1 h h1) {b:Addr} {ob:Obj} (q:h.get? b=some ob) (n:H b=none) (hx:b ∉ ex):∃ sl,h1.get? b=some { ob with slots:=sl }:=by
 by_cases hb:b ∈ fs
 ·exact u.slot b ob q n hb hx
 ·exact ⟨ob.slots,u.keep b ob q n hb hx⟩
theorem Un.kept (k:∀ b u,h.get? b=some u->h'.get? b=some u):Un fs ex H H h h' :=
 ⟨λ b ob q _ _ _=>k b ob q,λ b ob q _ _ _=>⟨ob.slots,k b ob q⟩,λ _ _ _ n _=>n,λ b ob q _=>⟨ob,k b ob q⟩,λ _ _ q=>q,λ _ _ _ q=>q,λ _ ps q=>⟨#[],by rw [q]; simp⟩⟩
theorem Un.refl:Un fs ex H H h h:=Un.kept λ _ _ q=>q
theorem Un.laid (k:∀ b u,h.get? b=some u->h'.get? b=some u) (hp:h.objs.size<=a) (hn:H a=none):Un fs ex H (upd H a o) h h' where
 keep:=λ b u q _ _ _=>k b u q
 slot:=λ b u q _ _ _=>⟨u.slots,k b u q⟩
 free:=λ b u q n _=>by rw [xc0 (Nat.ne_of_lt (Nat.lt_of_lt_of_le (Heap.lt_size q) hp))]; exact n
 there:=λ b u q _=>⟨u,k b u q⟩
 tups:=λ b xs q=>by rw [xc0 (we0 q hn)]; exact q
 frzs:=λ b u xs q=>by rw [xc0 (we0 q hn)]; exact q
 tbls:=λ b ps q=>⟨#[],by rw [xc0 (we0 q hn),q]; simp⟩
theorem Un.write (mu:Mut (H x)) (he:e=x \/ H e=some (.own x)) (k:∀ b u,b ≠ e->h.get? b=some u->h'.get? b=some u) (heo:∃ u,h'.get? e=some u):Un fs ex H (upd H x o) h h':=by
 have hx:∀ b,H b=none->b ≠ x:=λ b n z=>by subst z; rw [n] at mu; exact mu
 have hb:∀ b,H b=none->b ≠ e:=λ b n z=>by
  simp_all
 have hm:∀ b u,H b=some u->¬ Mut (some u)->b ≠ x:=λ b u q nm z=>by simp_all
 refine ⟨λ b u q n _ _=>k b u (hb b n) q,λ b u q n _ _=>⟨u.slots,k b u (hb b n) q⟩,λ b u q n _=>by rw [xc0 (hx b n)]; exact n,λ b u q _=>?_,
  λ b xs q=>by rw [xc0 (hm b _ q λ z=>z)]; exact q,λ b u xs q=>by rw [xc0 (hm b _ q λ z=>z)]; exact q,λ b ps q=>⟨#[],by rw [xc0 (hm b _ q λ z=>z),q]; simp⟩⟩
 by_cases hbe:b=e
 ·simp_all
 simp_all
end
def trk (h:Heap) (H:Hp):List Addr:=(List.range h.objs.size).filter λ a=>(H a).isSome
def hidT (h:Heap) (H:Hp):Heap:=hideAll h (trk h H)
theorem zn2 (h:Heap) (H:Hp):(hidT h H).objs.size=h.objs.size:=PySem.W.hideAll_size _ _
theorem tz2 {b:Addr} {o:Obj} (e:h.get? b=some o) (n:H b=none):(hidT h H).get? b=some o :=
 hideAll_get _ e λ hm=>by
  have q:(H b).isSome=true:=(List.mem_filter.mp hm).2
  simp_all
theorem xw3 {b:Addr} {o:Obj} (e:(hidT h H).get? b=some o):h.get? b=some o /\ H b=none:=by
 have e':h.get? b=some o:=of_hideAll (trk h H) e;refine ⟨e',?_⟩;cases q:H b with
 | none=>rfl
 | some x =>
  have hm:b ∈ trk h H:=List.mem_filter.mpr ⟨List.mem_range.mpr (Heap.lt_size e'),by simp [q]⟩;have z:(hidT h H).get? b=none:=PySem.W.hideAll_none (trk h H) hm
  simp_all
def wb4 (g h:Heap) (L:Addr):List (Addr × Obj):=(List.range h.objs.size).filterMap λ a=>if a=L \/ (g.get? a).isSome=true then none else (h.get? a).map λ o=>(a,o)
def rest (g h:Heap) (L d:Addr):List (Addr × Obj):=(wb4 g h L).filter λ p=>decide (p.1 ≠ d)
structure Mod (K:PySem.W.Frag) (mg:Str->Option Value) (base:Heap):Prop where
 kin:K.In base
 glob:base.Ns mainGlobals mg
 blt:∃ mb,base.Ns builtinsNs mb /\ ∀ x:Str,x ≠ "__name__" -> mb x=bootBuiltins x
 nolimit:base.NoLimit
structure Cx where
 prog:Program
 w:World
 K:PySem.W.Frag
 mg:Str->Option Value
 base:Heap
 A:Around
 N:List Str
 s₀:Shared
 H₀:Hp
 env:Env
 outer:List Env
 stack:List Env
 ex:List Addr
 fn:Str->Bool
 calm:Bool
 pn:List (Addr × Obj)
 xe:Value->Shared->Prop
def frs (l:List Env):List Addr:=l.filterMap (·.frame)
abbrev Cx.fs (X:Cx):List Addr:=frs X.outer
def Vis (sc:Scope) (x:Str):Prop:=sc.names.lookup x=some .local \/ sc.names.lookup x=some .cell \/ sc.names.lookup x=some .free
def Loc (sc:Scope) (x:Str):Prop:=sc.names.lookup x=some .local \/ sc.names.lookup x=some .cell
def Look (env:Env) (h:Heap) (m:[24]) (x:Str) (u:Value):Prop :=
 (env.kindOf x=some .local /\ m x=some u) \/ ((env.kindOf x=some .cell \/ env.kindOf x=some .free) /\ ∃ c,env.cells.lookup x=some c /\ h.IsCell c (some u))
structure Cx.Ok (X:Cx):Prop where
 mod:Mod X.K X.mg X.base
 kind:X.env.scope.kind=.function
 glob:X.env.globals=mainGlobals
 blt:X.env.builtins=builtinsNs
 above:X.s₀.heap.objs.size<=X.env.locals
 inj:∀ x y c,X.env.cells.lookup x=some c->X.env.cells.lookup y=some c->x=y
 has:∀ x,(X.env.kindOf x=some .cell \/ X.env.kindOf x=some .free)->∃ c,X.env.cells.lookup x=some c
 cab:∀ x c,X.fn x=true->X.env.cells.lookup x=some c->X.s₀.heap.objs.size<=c
 hd:X.calm=true->X.A.handled=none
 frames:X.A.frames=some X.stack
 stk:X.stack=X.outer \/ (X.stack=X.env :: X.outer /\ X.env.frame=some X.env.locals)
 exf:∀ b ∈ X.ex,b ≠ X.env.locals /\ ∀ x c,X.env.cells.lookup x=some c->c ≠ b
 bs:∀ b o,X.base.get? b=some o->X.s₀.heap.get? b=some o /\ X.H₀ b=none
 bsz:X.base.objs.size<=X.s₀.heap.objs.size
 noex:∀ b o,X.base.get? b=some o->b ∉ X.ex
 exfs:∀ b ∈ X.ex,b ∉ X.fs
 funs:X.s₀.heap.FunFrames X.base X.outer
 frf:∀ b ∈ X.fs,X.H₀ b=none
structure Inv (X:Cx) (pins:List (Addr × Obj)) (σ:List (Option V)) (H:Hp) (s:Shared):Prop where
 ok:X.Ok
 os:s.os=X.s₀.os
 bare:AllBare s.gens
 base:Un X.fs X.ex X.H₀ H X.s₀.heap s.heap
 loc:∃ m,s.heap.Ns X.env.locals m /\ ∀ (i:Nat) (x:Str) (v:V),X.N[i]?=some x->σ[i]?=some (some v)->Vis X.env.scope x->∃ u,RelV v u /\ Look X.env s.heap m x u
 cell:∀ x c,X.env.cells.lookup x=some c->∃ v,s.heap.IsCell c v
 free:H X.env.locals=none
 freeC:∀ x c,X.env.cells.lookup x=some c->H c=none
 pin:∀ p ∈ X.pn ++ pins,s.heap.get? p.1=some p.2 /\ H p.1=none /\ p.1 ≠ X.env.locals /\ p.1 ∉ X.fs /\ ∀ v,p.2.data ≠ .cell v
 hok:HOk X.prog X.w H s.heap
 len:σ.length=X.N.length
variable {X:Cx} {pins:[19]} {s s':[47]} {g':Array GenState} {t':Nat} {d':Drawn} {ch:List Addr} {it:Addr} {N:[35]} {M:Model} {A:Around} {Q:Unit->Shared->Prop}
section
variable {σ:List (Option V)} 
theorem Cx.Ok.nofr (ok:X.Ok) {b:Addr} {o:Obj} (e:X.base.get? b=some o):b ∉ X.fs:=λ hb=>by
 have:=(ok.funs.mem hb).1
 simp_all
theorem Inv.bs (I:[13]):∀ b o,X.base.get? b=some o->s.heap.get? b=some o /\ H b=none:=λ b o e =>
 ⟨I.base.keep b o (I.ok.bs b o e).1 (I.ok.bs b o e).2 (I.ok.nofr e) (I.ok.noex b o e),I.base.free b o (I.ok.bs b o e).1 (I.ok.bs b o e).2 (I.ok.noex b o e)⟩
theorem Inv.bk (I:[13]):∀ b o,X.base.get? b=some o->s.heap.get? b=some o:=λ b o e=>(I.bs b o e).1
theorem Inv.mod (I:[13]):Mod X.K X.mg X.base:=I.ok.mod
theorem Inv.kIn (I:[13]):X.K.In s.heap:=I.ok.mod.kin.keeps I.bk
theorem Inv.lt (I:[13]):X.env.locals < s.heap.objs.size:=let ⟨_,hn,_⟩:=I.loc; hn.lt
theorem Inv.sz (I:[13]):X.s₀.heap.objs.size<=s.heap.objs.size:=Nat.le_trans I.ok.above (Nat.le_of_lt I.lt)
theorem Inv.nofs (I:[13]) {a:Addr} (h:s.heap.objs.size<=a):a ∉ X.fs:=λ hb=>by
 obtain ⟨_,o,ho,_⟩:=I.ok.funs.mem hb;exact absurd (Nat.lt_of_lt_of_le (Heap.lt_size ho) (Nat.le_trans I.sz h)) (Nat.lt_irrefl _)
theorem Inv.cne (I:[13]):∀ x c,X.env.cells.lookup x=some c->c ≠ X.env.locals:=λ x c e z=>by
 obtain ⟨v,o,ho,hd⟩:=I.cell x c e;obtain ⟨m,⟨o',es,ep,ho',hd',_⟩,_⟩:=I.loc
 simp_all
theorem Inv.funs (I:[13]):s.heap.FunFrames X.base X.outer:=by
 have all:∀ (l:List Env),(∀ b ∈ frs l,b ∈ X.fs)->X.s₀.heap.FunFrames X.base l->s.heap.FunFrames X.base l:=by
  intro l
  induction l with
  | nil=>intro _ _; trivial
  | cons env r ih =>
   intro hs hl;obtain ⟨hk,⟨L,o,hf,hn,ho,hd⟩,hr⟩:=hl;have hL:L ∈ X.fs:=hs L (by unfold frs; simp_all);obtain ⟨sl,e⟩:=I.base.slot L o ho (I.ok.frf L hL) hL λ z=>I.ok.exfs L z hL;exact ⟨hk,⟨L,_,hf,hn,e,hd⟩,ih (λ b hb=>hs b (by unfold frs; rw [List.filterMap_cons,hf]; exact mem_cons_of_mem _ hb)) hr⟩
 exact all X.outer (λ _ hb=>hb) I.ok.funs
theorem Inv.stack (I:[13]):s.heap.FunFrames X.base X.stack:=by
 rcases I.ok.stk with e | ⟨e,hf⟩
 ·rw [e]; exact I.funs
 ·rw [e];obtain ⟨m,hn,_⟩:=I.loc;refine .cons (by rw [I.ok.kind]; decide) hf hn ?_ I.funs;exact Heap.get?_none_of_le (Nat.le_trans I.ok.bsz I.ok.above)
theorem Inv.stkSub (I:[13]):∀ b ∈ frs X.stack,b ∈ X.env.locals :: X.fs:=λ b hb=>by
 rcases I.ok.stk with e | ⟨e,hf⟩
 ·simp_all
 ·rw [e] at hb;unfold frs at hb;rw [List.filterMap_cons,hf] at hb;exact hb
theorem Inv.stkFree (I:[13]):∀ b ∈ frs X.stack,H b=none:=λ b hb=>by
 rcases List.mem_cons.mp (I.stkSub b hb) with e | hb
 ·rw [e]; exact I.free
 ·obtain ⟨_,o,ho,_⟩:=I.ok.funs.mem hb;exact I.base.free b o ho (I.ok.frf b hb) λ z=>I.ok.exfs b z hb
theorem Inv.step (I:[13])
    (hch:∀ b ∈ ch,(b ∈ X.ex \/ X.s₀.heap.objs.size<=b) /\ b ≠ X.env.locals /\ (∀ x c,X.env.cells.lookup x=some c->c ≠ b) /\ ∀ p ∈ X.pn ++ pins,p.1 ≠ b)
    (keep:∀ b o,b ≠ X.env.locals->b ∉ X.fs->b ∉ ch->s.heap.get? b=some o->H b=none->h'.get? b=some o)
    (slot:∀ b o,b ≠ X.env.locals->b ∈ X.fs->b ∉ ch->s.heap.get? b=some o->H b=none->∃ sl,h'.get? b=some { o with slots:=sl }) (free:∀ b o,b ∉ ch->s.heap.get? b=some o->H b=none->H' b=none)
    (there:∀ b o,b ∉ ch->s.heap.get? b=some o->∃ o',h'.get? b=some o')
    (tups:∀ b xs,H b=some (.tup xs)->H' b=some (.tup xs)) (frzs:∀ b o u,H b=some (.frz o u)->H' b=some (.frz o u)) (tbls:∀ b ps,H b=some (.tbl ps)->∃ more,H' b=some (.tbl (ps ++ more)))
    (ns:∀ m,s.heap.Ns X.env.locals m->h'.Ns X.env.locals m) (hok:HOk X.prog X.w H' h') (hg:AllBare g') :
    Inv X pins σ H' { s with heap:=h',gens:=g',drawn:=d',toks:=t' }:=by
 have neL:∀ b o,X.s₀.heap.get? b=some o->b ≠ X.env.locals:=λ b o e=>Nat.ne_of_lt (Nat.lt_of_lt_of_le (Heap.lt_size e) I.ok.above)
 have neC:∀ b o,X.s₀.heap.get? b=some o->b ∉ X.ex->b ∉ ch:=λ b o e hx hb=>by
  rcases (hch b hb).1 with z | z
  ·exact hx z
  ·exact absurd (Nat.lt_of_lt_of_le (Heap.lt_size e) z) (Nat.lt_irrefl _)
 have cellK:∀ x c,X.env.cells.lookup x=some c->∀ v,s.heap.IsCell c v->h'.IsCell c v:=λ x c e v ⟨o,ho,hd⟩=>by
  have nch:c ∉ ch:=λ z=>(hch c z).2.2.1 x c e rfl;by_cases hc:c ∈ X.fs
  ·obtain ⟨sl,q⟩:=slot c o (I.cne x c e) hc nch ho (I.freeC x c e);exact ⟨_,q,hd⟩
  ·exact ⟨o,keep c o (I.cne x c e) hc nch ho (I.freeC x c e),hd⟩
 refine ⟨I.ok,I.os,hg,⟨λ b o e n hb hx=>?_,λ b o e n hb hx=>?_,λ b o e n hx=>?_,λ b o e hx=>?_,λ b xs e=>tups b xs (I.base.tups b xs e),λ b o xs e=>frzs b o xs (I.base.frzs b o xs e),λ b ps e=>?_⟩,?_,λ x c e=>?_,?_,λ x c e=>?_,λ p hp=>?_,hok,I.len⟩
 ·exact keep b o (neL b o e) hb (neC b o e hx) (I.base.keep b o e n hb hx) (I.base.free b o e n hx)
 ·obtain ⟨sl,e1⟩:=I.base.slot b o e n hb hx;obtain ⟨sl',e2⟩:=slot b _ (neL b o e) hb (neC b o e hx) e1 (I.base.free b o e n hx);exact ⟨sl',e2⟩
 ·obtain ⟨o',e1⟩:=I.base.there b o e hx;exact free b o' (neC b o e hx) e1 (I.base.free b o e n hx)
 ·obtain ⟨o',e1⟩:=I.base.there b o e hx
  simp_all
 ·obtain ⟨m1,e1⟩:=I.base.tbls b ps e;obtain ⟨m2,e2⟩:=tbls b _ e1;exact ⟨m1 ++ m2,by simp_all⟩
 ·obtain ⟨m,hn,hl⟩:=I.loc;refine ⟨m,ns m hn,λ i x v e1 e2 e3=>?_⟩;obtain ⟨u,r,l⟩:=hl i x v e1 e2 e3;refine ⟨u,r,?_⟩;rcases l with l | ⟨k,c,e,z⟩
  ·exact .inl l
  ·exact .inr ⟨k,c,e,cellK x c e _ z⟩
 ·obtain ⟨v,z⟩:=I.cell x c e;exact ⟨v,cellK x c e v z⟩
 ·obtain ⟨m,⟨o,_,_,ho,_⟩,_⟩:=I.loc;exact free _ o (λ z=>(hch _ z).2.1 rfl) ho I.free
 ·obtain ⟨v,o,ho,hd⟩:=I.cell x c e;exact free c o (λ z=>(hch c z).2.2.1 x c e rfl) ho (I.freeC x c e)
 ·obtain ⟨e,n,ne,nf,d⟩:=I.pin p hp;have nch:p.1 ∉ ch:=λ z=>(hch p.1 z).2.2.2 p hp rfl
  simp_all
theorem Inv.un (I:[13]) (u:Un X.fs [] H H' s.heap h') (hok:HOk X.prog X.w H' h'):Inv X pins σ H' { s with heap:=h',toks:=t' }:=by
 obtain ⟨m,⟨o,es,ep,ho,r⟩,_⟩:=id I.loc;obtain ⟨sl,hL⟩:=u.any ho I.free [17]
 exact I.step (g':=s.gens) (d':=s.drawn) (ch:=[]) (λ _ z=>nomatch z) (λ b o _ hb _ e n=>u.keep b o e n hb [17]) (λ b o _ hb _ e n=>u.slot b o e n hb [17]) (λ b o _ e n=>u.free b o e n [17]) (λ b o _ e=>u.there b o e [17]) u.tups u.frzs u.tbls (λ m' hm=>by
  obtain ⟨o',es',ep',ho',r'⟩:=hm;rw [ho] at ho'; cases ho';exact ⟨_,es',ep',hL,r'⟩) hok I.bare
theorem Inv.call (I:[13]) (u:Un (frs X.stack) ch H H' s.heap h') (hok:HOk X.prog X.w H' h') (hg:AllBare g')
    (hch:∀ b ∈ ch,(b ∈ X.ex \/ X.s₀.heap.objs.size<=b) /\ b ≠ X.env.locals /\ (∀ x c,X.env.cells.lookup x=some c->c ≠ b) /\ ∀ p ∈ X.pn ++ pins,p.1 ≠ b) :
    Inv X pins σ H' { s with heap:=h',gens:=g',drawn:=d',toks:=t' }:=by
 obtain ⟨m,⟨o,es,ep,ho,r⟩,_⟩:=id I.loc;obtain ⟨sl,hL⟩:=u.any ho I.free λ z=>(hch _ z).2.1 rfl
 exact I.step (ch:=ch) hch (λ b o hL hb hc e n=>u.keep b o e n (λ z=>(List.mem_cons.mp (I.stkSub b z)).elim hL hb) hc) (λ b o _ _ hc e n=>u.any e n hc) (λ b o hc e n=>u.free b o e n hc) (λ b o hc e=>u.there b o e hc) u.tups u.frzs u.tbls (λ m' hm=>by
  obtain ⟨o',es',ep',ho',r'⟩:=hm;rw [ho] at ho'; cases ho';exact ⟨_,es',ep',hL,r'⟩) hok hg
theorem Inv.turned (I:[13]) (k:∀ b o,b ≠ it->s.heap.get? b=some o->h'.get? b=some o) (hn:H it=none) (hL:it ≠ X.env.locals)
    (h1:it ∈ X.ex \/ X.s₀.heap.objs.size<=it) (h2:∀ x c,X.env.cells.lookup x=some c->c ≠ it) (h3:∀ p ∈ X.pn ++ pins,p.1 ≠ it):Inv X pins σ H { s with heap:=h',toks:=t' }:=by
 have nit:∀ b u,H b=some u->b ≠ it:=λ b u e z=>by simp_all
 refine I.step (g':=s.gens) (d':=s.drawn) (ch:=[it]) (λ b hb=>?_) (λ b o _ _ hc e _=>k b o (λ z=>hc (by simp [z])) e) (λ b o _ _ hc e _=>⟨o.slots,k b o (λ z=>hc (by simp [z])) e⟩) (λ _ _ _ _ n=>n)
  (λ b o hc e=>⟨o,k b o (λ z=>hc (by simp [z])) e⟩) (λ _ _ e=>e) (λ _ _ _ e=>e) (λ b ps e=>⟨#[],by rw [e]; simp⟩) (λ m hm=>?_) (λ b u e=>?_) I.bare
 ·have e:b=it:=by simpa using hb
  subst e;trivial
 ·obtain ⟨o,es,ep,ho,r⟩:=hm;exact ⟨o,es,ep,k _ o (Ne.symm hL) ho,r⟩
 ·refine (I.hok b u e).stay (λ c v hc q=>k c v ?_ q) (λ _ q=>q) λ _ _ q=>q;rcases hc with z | z
  ·simp_all
  ·exact nit c _ z
theorem Inv.tok (I:[13]) (t:Nat):Inv X pins σ H { s with toks:=t }:=I.un (h':=s.heap) (t':=t) Un.refl I.hok
theorem Inv.kept {t':Nat} (I:[13]) (k:∀ b u,s.heap.get? b=some u->h'.get? b=some u):Inv X pins σ H { s with heap:=h',toks:=t' }:=I.un (Un.kept k) (I.hok.kept k)
theorem Inv.laid {a:Addr} {o:HO} {t':Nat} (I:[13]) (k:∀ b u,s.heap.get? b=some u->h'.get? b=some u) (hp:s.heap.objs.size<=a) (new:ObjOk X.prog X.w (upd H a o) h' a o) :
    Inv X pins σ (upd H a o) { s with heap:=h',toks:=t' }:=I.un (Un.laid k hp (I.hok.fresh hp)) (I.hok.laid k hp new)
theorem Inv.write {x e:Addr} {o:HO} {t':Nat} (I:[13]) (mu:Mut (H x)) (he:e=x \/ H e=some (.own x)) (k:∀ b u,b ≠ e->s.heap.get? b=some u->h'.get? b=some u) (heo:∃ u,h'.get? e=some u)
    (new:ObjOk X.prog X.w (upd H x o) h' x o):Inv X pins σ (upd H x o) { s with heap:=h',toks:=t' }:=I.un (Un.write mu he k heo) (I.hok.write mu he k heo new)
theorem Inv.pins_of {pins':[19]} (I:[13]) (h:∀ p ∈ pins',s.heap.get? p.1=some p.2 /\ H p.1=none /\ p.1 ≠ X.env.locals /\ p.1 ∉ X.fs /\ ∀ v,p.2.data ≠ .cell v):Inv X pins' σ H s :=
 ⟨I.ok,I.os,I.bare,I.base,I.loc,I.cell,I.free,I.freeC,λ p hp=>(List.mem_append.mp hp).elim (λ z=>I.pin p (List.mem_append_left _ z)) (h p),I.hok,I.len⟩
theorem yg1 (hN:N.Nodup) {i j:Nat} {x:Str} (a:N[i]?=some x) (b:N[j]?=some x):i=j:=by
 obtain ⟨h1,e1⟩:=List.getElem?_eq_some_iff.mp a;obtain ⟨h2,e2⟩:=List.getElem?_eq_some_iff.mp b;exact (List.getElem_inj hN).mp (e1.trans e2.symm)
theorem wi1 {E:[7]} {i:Nat} {x:Str} {v:V} {u:Value} (I:[13]) (hN:X.N.Nodup) (hi:X.N[i]?=some x) (hx:Loc X.env.scope x) (r:RelV v u)
    (h:∀ s',Inv X pins (σ.set i (some v)) H s'->(∃ a,Heap.SameBut a s.heap s'.heap /\ (a=X.env.locals \/ X.env.cells.lookup x=some a))->Q () s') (hf:X.fn x=true \/ X.env.scope.names.lookup x=some .local:=by trivial):wpAny M A (storeName X.env x u) Q E s:=by
 obtain ⟨m,hn,hl⟩:=id I.loc;have hcls:(X.env.scope.kind == .class || (X.env.scope.kind == .module && X.env.locals != X.env.globals))=false:=by rw [I.ok.kind]; rfl
 have hiσ:i < σ.length:=by rw [I.len]; exact (List.getElem?_eq_some_iff.mp hi).1
 have cne:=I.cne
 have tracked:∀ {a:Addr} {h':Heap},(∃ o,s.heap.get? a=some o /\ H a=none)->Heap.SameBut a s.heap h'->HOk X.prog X.w H h':=λ {a h'} ha hs b ob e=>by
  obtain ⟨_,_,hfree⟩:=ha;refine (I.hok b ob e).stay (λ c w' hc q=>(hs.2 c ?_).trans q) (λ _ q=>q) λ _ _ q=>q;rintro rfl
  simp_all
 rcases hx with hk | hk
 ·refine wpAny_storeName_local hk hn (λ h' hn' hs=>?_) hcls;obtain ⟨oL,_,_,hoL,_⟩:=id hn;refine h _ ⟨I.ok,I.os,I.bare,⟨λ b o e n hb hx=>?_,λ b o e n hb hx=>?_,I.base.free,λ b o e hx=>?_,I.base.tups,I.base.frzs,I.base.tbls⟩,⟨_,hn',λ j y v' e1 e2 e3=>?_⟩,λ y c e=>?_,I.free,I.freeC,λ p hp=>?_,tracked ⟨oL,hoL,I.free⟩ hs,by simpa using I.len⟩ ⟨_,hs,.inl rfl⟩
  ·exact [48].trans (I.base.keep b o e n hb hx)
  ·obtain ⟨sl,e1⟩:=I.base.slot b o e n hb hx;exact ⟨sl,[48].trans e1⟩
  ·obtain ⟨o',e1⟩:=I.base.there b o e hx;exact ⟨o',[48].trans e1⟩
  ·by_cases hj:j=i
   ·subst hj;rw [hi] at e1; cases e1;rw [List.getElem?_set_self hiσ] at e2;cases e2;exact ⟨u,r,.inl ⟨hk,by simp⟩⟩
   ·rw [List.getElem?_set_ne (Ne.symm hj)] at e2;obtain ⟨u',r',q⟩:=hl j y v' e1 e2 e3;refine ⟨u',r',?_⟩;rcases q with ⟨k,e⟩ | ⟨k,c,e,z⟩
    ·refine .inl ⟨k,?_⟩;have:y ≠ x:=λ e=>hj (yg1 hN e1 (e ▸ hi));simp [this,e]
    ·exact .inr ⟨k,c,e,z.sameBut hs (cne y c e)⟩
  ·obtain ⟨w',z⟩:=I.cell y c e;exact ⟨w',z.sameBut hs (cne y c e)⟩
  ·obtain ⟨e,n,ne,nf,d⟩:=I.pin p hp;exact ⟨(hs.2 p.1 ne).trans e,n,ne,nf,d⟩
 ·have hfn:X.fn x=true:=by
    simp_all
  obtain ⟨c,hc⟩:=I.ok.has x (.inl hk);obtain ⟨w',z⟩:=I.cell x c hc;refine wpAny_storeName_cell I.ok.kind hk hc z (λ h' hc' hs=>?_);obtain ⟨oc,hoc,hocd⟩:=id z;refine h [54] ⟨I.ok,I.os,I.bare,⟨λ b o e n hb hx=>?_,λ b o e n hb hx=>?_,I.base.free,λ b o e hx=>?_,I.base.tups,I.base.frzs,I.base.tbls⟩,⟨m,hn.sameBut hs (Ne.symm (cne x c hc)),λ j y v' e1 e2 e3=>?_⟩,λ y c' e=>?_,I.free,I.freeC,λ p hp=>?_,tracked ⟨oc,hoc,I.freeC x c hc⟩ hs,by simpa using I.len⟩ ⟨c,hs,.inr hc⟩
  ·exact (hs.2 b (Nat.ne_of_lt (Nat.lt_of_lt_of_le (Heap.lt_size e) (I.ok.cab x c hfn hc)))).trans (I.base.keep b o e n hb hx)
  ·obtain ⟨sl,e1⟩:=I.base.slot b o e n hb hx;exact ⟨sl,(hs.2 b (Nat.ne_of_lt (Nat.lt_of_lt_of_le (Heap.lt_size e) (I.ok.cab x c hfn hc)))).trans e1⟩
  ·obtain ⟨o',e1⟩:=I.base.there b o e hx;exact ⟨o',(hs.2 b (Nat.ne_of_lt (Nat.lt_of_lt_of_le (Heap.lt_size e) (I.ok.cab x c hfn hc)))).trans e1⟩
  ·by_cases hj:j=i
   ·subst hj;rw [hi] at e1; cases e1;rw [List.getElem?_set_self hiσ] at e2;cases e2;exact ⟨u,r,.inr ⟨.inl hk,c,hc,hc'⟩⟩
   ·rw [List.getElem?_set_ne (Ne.symm hj)] at e2;obtain ⟨u',r',q⟩:=hl j y v' e1 e2 e3;refine ⟨u',r',?_⟩;rcases q with q | ⟨k,c',e,z'⟩
    ·exact .inl q
    ·refine .inr ⟨k,c',e,z'.sameBut hs ?_⟩;rintro rfl;exact hj (yg1 hN e1 (I.ok.inj _ _ _ e hc ▸ hi))
  ·by_cases hcc:c'=c
   ·subst hcc; exact ⟨_,hc'⟩
   ·obtain ⟨w2,z2⟩:=I.cell y c' e;exact ⟨w2,z2.sameBut hs hcc⟩
  ·obtain ⟨e,n,ne,nf,d⟩:=I.pin p hp;refine ⟨(hs.2 p.1 ?_).trans e,n,ne,nf,d⟩;intro q
   simp_all
theorem ug0 {E:[7]} {i:Nat} {x:Str} {v:V} {u:Value} (I:[13]) (hN:X.N.Nodup) (hi:X.N[i]?=some x) (hx:Loc X.env.scope x) (r:RelV v u)
    (h:∀ s',Inv X pins (σ.set i (some v)) H s'->Q () s') (hf:X.fn x=true \/ X.env.scope.names.lookup x=some .local:=by trivial):wpAny M A (storeName X.env x u) Q E s :=
 wi1 I hN hi hx r (λ s' I' _=>h s' I') hf
theorem Inv.call' (I:[13]) (ho:s'.os=s.os) (u:Un (frs X.stack) ch H H' s.heap s'.heap) (hok:HOk X.prog X.w H' s'.heap) (hg:AllBare s'.gens)
    (hch:∀ b ∈ ch,(b ∈ X.ex \/ X.s₀.heap.objs.size<=b) /\ b ≠ X.env.locals /\ (∀ x c,X.env.cells.lookup x=some c->c ≠ b) /\ ∀ p ∈ X.pn ++ pins,p.1 ≠ b):Inv X pins σ H' s':=by
 obtain ⟨h',g',d',t',o'⟩:=s';have e:o'=s.os:=ho;subst e;exact I.call (g':=g') (t':=t') (d':=d') u hok hg hch
end
abbrev XK:=Value->Option Addr->Hp->Prop
abbrev St:=List (Option V)
abbrev VK:=V->Hp->Prop
abbrev TE:=St->Hp->VK->Prop
abbrev TT:=St->Hp->(Bool->Hp->Prop)->Prop
abbrev TA:=St->Hp->(List V->Hp->Prop)->Prop
structure Ends where
 nx:St->Hp->Prop
 rt:VK
 bk:St->Hp->Prop:=λ _ _=>False
 ct:St->Hp->Prop:=λ _ _=>False
abbrev TS:=Ends->St->Hp->Prop
def EP (X:Cx) (pins:[19]) (σ:St) (Q:VK) (u:Value) (s':[47]):Prop:=∃ v H',Inv X pins σ H' s' /\ RelV v u /\ Q v H'
def TP (X:Cx) (pins:[19]) (σ:St) (Q:Bool->Hp->Prop) (b:Bool) (s':[47]):Prop:=∃ H',Inv X pins σ H' s' /\ Q b H'
def AP (X:Cx) (pins:[19]) (σ:St) (Q:List V->Hp->Prop) (us:[25]) (s':[47]):Prop:=∃ vs H',Inv X pins σ H' s' /\ Vals vs us /\ Q vs H'
def SP (X:Cx) (pins:[19]) (D:Ends) (f:Flow) (s':[47]):Prop :=
 match f with
 | .next=>∃ σ' H',Inv X pins σ' H' s' /\ D.nx σ' H'
 | .brk=>∃ σ' H',Inv X pins σ' H' s' /\ D.bk σ' H'
 | .cont=>∃ σ' H',Inv X pins σ' H' s' /\ D.ct σ' H'
 | .ret u=>∃ v σ' H',Inv X pins σ' H' s' /\ RelV v u /\ D.rt v H'
def PE (X:Cx) (e:Expr) (t:TE):Prop :=
 ∀ (pins:[19]) (s:[47]) (σ:St) (H:Hp) (Q:VK),Inv X pins σ H s->t σ H Q->wpAny [11] X.A (eval e X.env) (EP X pins σ Q) X.xe s
def PT (X:Cx) (e:Expr) (t:TT):Prop :=
 ∀ (pins:[19]) (s:[47]) (σ:St) (H:Hp) (Q:Bool->Hp->Prop),Inv X pins σ H s->t σ H Q->wpAny [11] X.A (isTrue e X.env (eval e X.env)) (TP X pins σ Q) X.xe s
def PW (X:Cx) (e:Expr) (t:TT):Prop :=
 ∀ (whole:Sem Value) (pins:[19]) (s:[47]) (σ:St) (H:Hp) (Q:Bool->Hp->Prop),Inv X pins σ H s->t σ H Q->wpAny [11] X.A (isTrue e X.env whole) (TP X pins σ Q) X.xe s
theorem PW.pt {e:Expr} {t:TT} (h:PW X e t):PT X e t:=h _
def PA (X:Cx) (es:[67]) (t:TA):Prop :=
 ∀ (pos:Pos) (pins:[19]) (s:[47]) (σ:St) (H:Hp) (Q:List V->Hp->Prop),Inv X pins σ H s->t σ H Q->wpAny [11] X.A (spliced (backTo pos [31])) (AP X pins σ Q) X.xe s
def PS (X:Cx) (st:Stmt) (t:TS):Prop :=
 ∀ (pins:[19]) (s:[47]) (σ:St) (H:Hp) (D:Ends),Inv X pins σ H s->t D σ H->wpAny [11] X.A (exec st X.env) (SP X pins D) X.xe s
def PSs (X:Cx) (st:List Stmt) (t:TS):Prop :=
 ∀ (pins:[19]) (s:[47]) (σ:St) (H:Hp) (D:Ends),Inv X pins σ H s->t D σ H->wpAny [11] X.A (execs st X.env) (SP X pins D) X.xe s
theorem thn {α:Type} {t:Sem α} {Q Q':α->Shared->Prop} {E:[7]} (h:wpAny M A t Q E s) (hQ:∀ a s,Q a s->Q' a s):wpAny M A t Q' E s:=wpAny_mono h hQ λ _ _ x=>x
variable {ta tb:TE}
section
def tVar (i:Nat):TE:=λ σ H Q=>∃ v,σ[i]?=some (some v) /\ Q v H
def tC (v:V):TE:=λ _ H Q=>Q v H
theorem tg3 {i:Nat} {x:Str} {pos:Pos} (hN:X.N[i]?=some x) (hv:Vis X.env.scope x) (hd:[23]=false:=by decide) (hcd:(x == ("__classdict__" : Str))=false:=by decide):PE X (.Name x pos) (tVar i):=by
 intro pins s σ H Q I h;obtain ⟨v,e,h⟩:=h;obtain ⟨m,hn,hl⟩:=I.loc;obtain ⟨u,r,l⟩:=hl i x v hN e hv;have fin:EP X pins σ Q u s:=⟨v,H,I,r,h⟩;rcases l with ⟨hk,hm⟩ | ⟨hk,c,hc,hcell⟩
 ·exact wpAny_Name (wpAny_loadName_local I.ok.kind hk hn hm fin) hd
 ·rcases hk with hk | hk
  ·exact wpAny_Name (wpAny_loadName_cell I.ok.kind hk hc hcell fin) hd
  ·exact wpAny_Name (wpAny_loadName_free I.ok.kind hk hc hcell fin hcd) hd
theorem zw4 {i j pos}:PE X (.Constant (.int i) j pos) (tC (.int i)):=λ _ _ _ H _ I h=>wpAny_Constant_int ⟨.int i,H,I.tok _,⟨_,rfl⟩,h⟩
theorem pe_bl {b j pos}:PE X (.Constant (.bool b) j pos) (tC (.bl b)):=λ _ _ _ H _ I h=>Constant_bool ⟨.bl b,H,I,rfl,h⟩
theorem xw4 {j pos}:PE X (.Constant .none j pos) (tC .non):=λ _ _ _ H _ I h=>Constant_none ⟨.non,H,I,rfl,h⟩
theorem uv4 {x j pos}:PE X (.Constant (.str x) j pos) (tC (.str x)):=λ _ _ _ H _ I h=>Calls.Constant_str ⟨.str x,H,I.tok _,⟨_,rfl⟩,h⟩
def Gl (X:Cx) (x:Str):Prop:=X.env.kindOf x=some .globalImplicit
theorem zg0 {E:[7]} {σ:St} {x:Str} {u:Value} {pos:Pos} {Q:[7]} (I:[13]) (hg:Gl X x) (hm:X.mg x=some u) (h:Q u s)
    (hd:[23]=false:=by decide):wpAny [11] X.A (eval (.Name x pos) X.env) Q E s :=
 Calls.Name_function_global I.ok.kind hg (Calls.loadGlobal_global (by rw [I.ok.glob]; exact I.mod.glob.keeps I.bk) hm h) hd
theorem xo0 {E:[7]} {σ:St} {x:Str} {u:Value} {pos:Pos} {Q:[7]} (I:[13]) (hg:Gl X x) (hm:X.mg x=none) (hv:bootBuiltins x=some u) (h:Q u s)
    (hn:x ≠ "__name__" := by decide) (hd:[23]=false:=by decide):wpAny [11] X.A (eval (.Name x pos) X.env) Q E s:=by
 obtain ⟨mb,h1,h2⟩:=I.mod.blt;exact Calls.Name_function_global I.ok.kind hg (Calls.loadGlobal_builtin (by rw [I.ok.glob]; exact I.mod.glob.keeps I.bk) hm (by rw [I.ok.blt]; exact h1.keeps I.bk) ((h2 x hn).trans hv) h) hd
theorem tu3 {x:Str} {v:V} {u:Value} {pos:Pos} (hg:Gl X x) (hm:X.mg x=some u) (r:RelV v u) (hd:[23]=false:=by decide):PE X (.Name x pos) (tC v) :=
 λ _ _ _ H _ I h=>zg0 I hg hm ⟨v,H,I,r,h⟩ hd
theorem vk2 {x:Str} {v:V} {u:Value} {pos:Pos} (hg:Gl X x) (hm:X.mg x=none) (hv:bootBuiltins x=some u) (r:RelV v u) (hn:x ≠ "__name__" := by decide) (hd:[23]=false:=by decide):PE X (.Name x pos) (tC v) :=
 λ _ _ _ H _ I h=>xo0 I hg hm hv ⟨v,H,I,r,h⟩ hn hd
variable {a b:Expr} {pos:Pos}
def tB (t:TE):TT:=λ σ H Q=>t σ H λ x H1=>∃ c,x=.bl c /\ Q c H1
theorem zu4 {e:Expr} {t:TE} (h:PE X e t) (he:∀ whole,isTrue e X.env whole=(do let v <- whole; standAt e.pos; holding [v] (truthy v)):=by intro _; rfl):PT X e (tB t):=by
 intro pins s σ H Q I hw;refine isTrue_plain (thn (h pins s σ H _ I hw) λ v s1 ⟨x,H1,I1,r1,q1⟩=>?_) (he _);obtain ⟨d,rfl,q⟩:=q1;cases r1;exact wpAny_truthy_bool ⟨H1,I1,q⟩
variable {tA tB':TT} {rest:[67]}
def tAnd (t u:TT):TT:=λ σ H Q=>t σ H λ c H1=>if c=true then u σ H1 Q else Q false H1
def tOr (t u:TT):TT:=λ σ H Q=>t σ H λ c H1=>if c=true then Q true H1 else u σ H1 Q
def tNot (t:TT):TT:=λ σ H Q=>t σ H λ c H1=>Q (!c) H1
theorem ws3 (ha:PT X a tA):PW X (.BoolOp .And [a] pos) tA:=by
 intro wh pins s σ H Q I h;refine isTrue_and (thn (ha pins s σ H Q I h) λ c s1 e=>?_);cases c with
 | true=>exact isTrue_and_nil e
 | false=>exact e
theorem xu4 (ha:PT X a tA):PW X (.BoolOp .Or [a] pos) tA:=by
 intro wh pins s σ H Q I h;refine isTrue_or (thn (ha pins s σ H Q I h) λ c s1 e=>?_);cases c with
 | false=>exact isTrue_or_nil e
 | true=>exact e
theorem yu4 (ha:PT X a tA) (hb:PW X (.BoolOp .And (b :: rest) pos) tB'):PW X (.BoolOp .And (a :: b :: rest) pos) (tAnd tA tB'):=by
 intro wh pins s σ H Q I h;refine isTrue_and (thn (ha pins s σ H _ I h) λ c s1 ⟨H1,I1,q1⟩=>?_);cases c with
 | true=>exact hb wh pins s1 σ H1 Q I1 q1
 | false=>assumption
theorem pw_or (ha:PT X a tA) (hb:PW X (.BoolOp .Or (b :: rest) pos) tB'):PW X (.BoolOp .Or (a :: b :: rest) pos) (tOr tA tB'):=by
 intro wh pins s σ H Q I h;refine isTrue_or (thn (ha pins s σ H _ I h) λ c s1 ⟨H1,I1,q1⟩=>?_);cases c with
 | true=>assumption
 | false=>exact hb wh pins s1 σ H1 Q I1 q1
theorem wu4 (ha:PT X a tA):PT X (.UnaryOp .Not a pos) (tNot tA):=by
 intro pins s σ H Q I h;exact isTrue_not (ha pins s σ H (λ c H1=>Q (!c) H1) I h)
def vi5 (ta tb:TE):TE:=λ σ H Q=>ta σ H λ x H1=>∃ c,x=.bl c /\ if c=true then tb σ H1 Q else Q (.bl false) H1
def xi5 (ta:TE):TE:=λ σ H Q=>ta σ H λ x H1=>∃ c,x=.bl c /\ Q (.bl (!c)) H1
theorem tv4 {op} {t:TE} (h:PE X a t):PE X (.BoolOp op [a] pos) t:=λ pins s σ H Q I hw=>BoolOp_one (h pins s σ H Q I hw)
theorem vw4 (ha:PE X a ta) (hb:PE X (.BoolOp .And (b :: rest) pos) tb):PE X (.BoolOp .And (a :: b :: rest) pos) (vi5 ta tb):=by
 intro pins s σ H Q I h;refine BoolOp_and (thn (ha pins s σ H _ I h) λ v s1 ⟨x,H1,I1,r1,q1⟩=>?_);obtain ⟨c,rfl,q1⟩:=q1;cases r1;refine wpAny_truthy_bool ?_;cases c with
 | true=>exact hb pins s1 σ H1 Q I1 q1
 | false=>exact ⟨.bl false,H1,I1,rfl,q1⟩
theorem sv4 (ha:PE X a ta):PE X (.UnaryOp .Not a pos) (xi5 ta):=by
 intro pins s σ H Q I h;refine UnaryOp_ (thn (ha pins s σ H _ I h) λ v s1 ⟨x,H1,I1,r1,q1⟩=>?_);obtain ⟨c,rfl,q1⟩:=q1;cases r1;exact not_of (wpAny_truthy_bool ⟨.bl (!c),H1,I1,rfl,q1⟩)
end
def SqL (K:[56]) (H:Hp) (a:Addr) (xs:List V):Prop :=
 Rd H a (.lst xs) ∨
  ∃ (o:Obj) (its:Array Value) (n:Nat),K.lookup a=some o /\ o.cls=.type "list" /\ o.dict=none /\ o.data=.seq its n /\ its.size<=sizeLine /\ Vals xs its.toList
def SqT (K:[56]) (H:Hp) (a:Addr) (xs:List V):Prop :=
 Rd H a (.tup xs) ∨
  ∃ (o:Obj) (its:Array Value) (n:Nat),K.lookup a=some o /\ o.cls=.type "tuple" /\ o.data=.seq its n /\ its.size<=sizeLine /\ Vals xs its.toList
def absV:Value->Option V
 | .none=>some .non
 | .bool b=>some (.bl b)
 | .int i _=>some (.int i)
 | .str x _=>some (.str x)
 | .bytes b _=>some (.byt b)
 | .float b _=>some (.flt b)
 | .ref a=>some (.ref a)
 | .type n=>some (.ty n)
 | _=>none
theorem RelV.abs {x:V} {u:Value} (r:RelV x u):absV u=some x:=by
 cases x with
 | non=>cases r; rfl
 | bl _=>cases r; rfl
 | int _=>obtain ⟨t,rfl⟩:=r; rfl
 | str _=>obtain ⟨t,rfl⟩:=r; rfl
 | byt _=>obtain ⟨t,rfl⟩:=r; rfl
 | flt _=>obtain ⟨t,rfl⟩:=r; rfl
 | ref _=>cases r; rfl
 | ty _=>cases r; rfl
theorem RelV.inj {x y:V} {u:Value} (r:RelV x u) (q:RelV y u):x=y:=Option.some.inj (r.abs.symm.trans q.abs)
theorem Vals.inj:∀ {xs ys:List V} {us:[25]},Vals xs us->Vals ys us->xs=ys
 | _,_,_,.nil,.nil=>rfl
 | _,_,_,.cons r t,.cons r' t'=>by rw [r.inj r',Vals.inj t t']
variable {K:[56]}
section
variable {σ:St} {a:Addr} {xs ys:List V}
theorem SqL.of (h:H a=some (.lst xs)):SqL K H a xs:=.inl (.inl h)
theorem SqT.of (h:H a=some (.tup xs)):SqT K H a xs:=.inl (.inl h)
theorem Inv.list (I:[13]) (h:SqL X.K H a xs):∃ its:List Value,Vals xs its /\ PlainL s.heap a its.toArray /\ xs.length<=sizeLine:=by
 rcases h with h | ⟨o,its,n,hk,hc,hd,hs,hz,r⟩
 ·obtain ⟨z,its,n,r,e⟩:=h.ok I.hok;exact ⟨its,r,⟨_,n,e,rfl,rfl,rfl⟩,z⟩
 ·refine ⟨its.toList,r,⟨o,n,I.kIn a o hk,hc,hd,by simpa using hs⟩,?_⟩;have e:=r.length
  simp_all
theorem Inv.tuple (I:[13]) (h:SqT X.K H a xs):∃ its:List Value,Vals xs its /\ IsTup s.heap a its.toArray /\ xs.length<=sizeLine:=by
 rcases h with h | ⟨o,its,n,hk,hc,hs,hz,r⟩
 ·obtain ⟨z,its,r,p⟩:=h.ok I.hok;exact ⟨its,r,p,z⟩
 ·refine ⟨its.toList,r,⟨o,I.kIn a o hk,hc,n,by simpa using hs⟩,?_⟩;have e:=r.length
  simp_all
theorem Inv.list_inj (I:[13]) (h:SqL X.K H a xs) (h':SqL X.K H a ys):xs=ys:=by
 obtain ⟨its,r,⟨o,n,e,_,_,d⟩,_⟩:=I.list h;obtain ⟨its',r',⟨o',n',e',_,_,d'⟩,_⟩:=I.list h';rw [e] at e'; cases e';rw [d] at d';injection d' with d1 _
 have:its=its':=by simp_all
 subst this;exact r.inj r'
theorem Inv.tuple_inj (I:[13]) (h:SqT X.K H a xs) (h':SqT X.K H a ys):xs=ys:=by
 obtain ⟨its,r,⟨o,e,_,n,d⟩,_⟩:=I.tuple h;obtain ⟨its',r',⟨o',e',_,n',d'⟩,_⟩:=I.tuple h';rw [e] at e'; cases e';rw [d] at d';injection d' with d1 _
 have:its=its':=by simp_all
 subst this;exact r.inj r'
end
abbrev Cx.wish (X:Cx) (E:[7]):Cx:={ X with xe:=E }
abbrev Cx.nox (X:Cx):Cx:=X.wish λ _ _=>False
theorem Cx.Ok.wish {X:Cx} (ok:X.Ok) (E:[7]):(X.wish E).Ok :=
 ⟨ok.mod,ok.kind,ok.glob,ok.blt,ok.above,ok.inj,ok.has,ok.cab,ok.hd,ok.frames,ok.stk,ok.exf,ok.bs,ok.bsz,ok.noex,ok.exfs,ok.funs,ok.frf⟩
theorem Cx.Ok.unwish {E:[7]} (ok:(X.wish E).Ok):X.Ok :=
 ⟨ok.mod,ok.kind,ok.glob,ok.blt,ok.above,ok.inj,ok.has,ok.cab,ok.hd,ok.frames,ok.stk,ok.exf,ok.bs,ok.bsz,ok.noex,ok.exfs,ok.funs,ok.frf⟩
section
variable {σ:St} {E:[7]}
theorem Inv.wish (I:[13]) (E:[7]):Inv (X.wish E) pins σ H s:=⟨I.ok.wish E,I.os,I.bare,I.base,I.loc,I.cell,I.free,I.freeC,I.pin,I.hok,I.len⟩
theorem Inv.unwish (I:Inv (X.wish E) pins σ H s):Inv X pins σ H s:=⟨I.ok.unwish,I.os,I.bare,I.base,I.loc,I.cell,I.free,I.freeC,I.pin,I.hok,I.len⟩
theorem SP.unwish {D:Ends} {f:Flow} {s':[47]} (h:SP (X.wish E) pins D f s'):SP X pins D f s':=by
 cases f with
 | next=>obtain ⟨σ',H',I,q⟩:=h; exact ⟨σ',H',I.unwish,q⟩
 | brk=>obtain ⟨σ',H',I,q⟩:=h; exact ⟨σ',H',I.unwish,q⟩
 | cont=>obtain ⟨σ',H',I,q⟩:=h; exact ⟨σ',H',I.unwish,q⟩
 | ret u=>obtain ⟨v,σ',H',I,r,q⟩:=h; exact ⟨v,σ',H',I.unwish,r,q⟩
theorem PSs.nox {st:List Stmt} {t:TS} (h:PSs X.nox st t):PSs X st t:=λ pins s σ H D I hw =>
 wpAny_mono (h pins s σ H D (I.wish _) hw) (λ _ _ q=>q.unwish) λ _ _ z=>False.elim z
end
variable {te:TE}
section
variable {st:Stmt} {rest:List Stmt} {t u:TS} {e:Expr} {pos:Pos}
def yi5:TS:=λ D σ H=>D.nx σ H
def tSeq (t u:TS):TS:=λ D σ H=>t { D with nx:=u D } σ H
theorem xt3:PSs X [] yi5:=λ _ _ σ H _ I h=>wpAny_execs_nil ⟨σ,H,I,h⟩
theorem tw2 (h1:PS X st t) (h2:PSs X rest u):PSs X (st :: rest) (tSeq t u):=by
 intro pins s σ H D I h;refine wpAny_execs_cons (thn (h1 pins s σ H { D with nx:=u D } I h) λ f s1 q=>?_);cases f with
 | next =>
  obtain ⟨σ',H',I',q⟩:=q;exact h2 pins s1 σ' H' D I' q
 | ret v=>exact q
 | brk=>exact q
 | cont=>exact q
theorem ss3 (h1:PS X st t):PSs X [st] t:=by
 intro pins s σ H D I h;refine wpAny_execs_cons (thn (h1 pins s σ H D I h) λ f s1 q=>?_);cases f with
 | next=>exact wpAny_execs_nil q
 | ret v=>exact q
 | brk=>exact q
 | cont=>exact q
theorem Inv.quiet {σ:St} (I:[13]):interactive X.env=false:=by simp [interactive,I.ok.kind]
def zi5 (te:TE):TS:=λ D σ H=>te σ H λ _ H1=>D.nx σ H1
theorem wt3 (he:PE X e te) (hs:swapsWith e none pos.line X.env=pure false:=by rfl):PS X (.Expr e pos) (zi5 te):=by
 intro pins s σ H D I h;exact wpAny_Expr_any (thn (he pins s σ H _ I h) λ v s1 ⟨x,H1,I1,r1,q1⟩=>⟨σ,H1,I1,q1⟩) I.quiet hs
def tRet (te:TE):TS:=λ D σ H=>te σ H D.rt
theorem vu4 (he:PE X e te):PS X (.Return (some e) pos) (tRet te):=by
 intro pins s σ H D I h;exact wpAny_Return_some (thn (he pins s σ H _ I h) λ v s1 ⟨x,H1,I1,r1,q1⟩=>⟨x,σ,H1,I1,r1,q1⟩)
def tIfS (c:TT) (t u:TS):TS:=λ D σ H=>c σ H λ b H1=>if b=true then t D σ H1 else u D σ H1
theorem ps_if {c:Expr} {a b:List Stmt} {tc:TT} (hc:PT X c tc) (ha:PSs X a t) (hb:PSs X b u):PS X (.If c a b pos) (tIfS tc t u):=by
 intro pins s σ H D I h;refine wpAny_If (thn (hc pins s σ H _ I h) λ d s1 ⟨H1,I1,q1⟩=>?_);cases d with
 | true=>exact ha pins s1 σ H1 D I1 q1
 | false=>exact hb pins s1 σ H1 D I1 q1
end
abbrev TG:=V->St->Hp->(St->Hp->Prop)->Prop
abbrev TGs:=List V->St->Hp->(St->Hp->Prop)->Prop
def PG (X:Cx) (target:Expr) (t:TG):Prop :=
 ∀ (pins:[19]) (s:[47]) (σ:St) (H:Hp) (v:V) (u:Value) (Q:St->Hp->Prop),Inv X pins σ H s->RelV v u->t v σ H Q ->
  wpAny [11] X.A (assign target X.env u) (λ _ s'=>∃ σ' H',Inv X pins σ' H' s' /\ Q σ' H') X.xe s
def PGs (X:Cx) (ts:[67]) (t:TGs):Prop :=
 ∀ (pins:[19]) (s:[47]) (σ:St) (H:Hp) (vs:List V) (us:[25]) (Q:St->Hp->Prop),Inv X pins σ H s->Vals vs us->t vs σ H Q ->
  wpAny [11] X.A (assignInOrder ((assignEach ts X.env).map (·.2)) us) (λ _ s'=>∃ σ' H',Inv X pins σ' H' s' /\ Q σ' H') X.xe s
abbrev TSet:=V->V->V->Hp->(Hp->Prop)->Prop
def PSet (X:Cx) (t:TSet):Prop :=
 ∀ (pins:[19]) (s:[47]) (σ:St) (H:Hp) (o i v:V) (ov iv u:Value) (Q:Hp->Prop),Inv X pins σ H s->RelV o ov->RelV i iv->RelV v u->t o i v H Q ->
  wpAny [11] X.A (setItem ov iv u) (λ _ s'=>∃ H',Inv X pins σ H' s' /\ Q H') X.xe s
variable {es:[67]} {k n:Nat} {tg:Expr} {g:TG}
section
variable {pos:Pos}
def xa3 (i:Nat):TG:=λ v σ H Q=>Q (σ.set i (some v)) H
theorem vu3 {i:Nat} {x:Str} (hN:X.N.Nodup) (hi:X.N[i]?=some x) (hx:Loc X.env.scope x) (hf:X.fn x=true \/ X.env.scope.names.lookup x=some .local:=by trivial):PG X (.Name x pos) (xa3 i):=by
 intro pins s σ H v u Q I r h;exact wpAny_assign_Name (ug0 I hN hi hx r (λ s' I'=>⟨_,H,I',h⟩) hf)
def gNil:TGs:=λ vs σ H Q=>vs=[] /\ Q σ H
def gCons (t:TG) (u:TGs):TGs:=λ vs σ H Q=>∃ v r,vs=v :: r /\ t v σ H λ σ' H'=>u r σ' H' Q
theorem wu3:PGs X [] gNil:=by
 intro pins s σ H vs us Q I r h;obtain ⟨e,h⟩:=h;subst e;cases r;exact assignInOrder_nil ⟨σ,H,I,h⟩
theorem xx2 {e:Expr} {t:TG} {u:TGs} (h1:PG X e t) (h2:PGs X es u)
    (hs:(assignEach (e :: es) X.env).map (·.2)=assign e X.env :: (assignEach es X.env).map (·.2):=by rfl):PGs X (e :: es) (gCons t u):=by
 intro pins s σ H vs us Q I r h;obtain ⟨v,vr,e1,h⟩:=h;subst e1;cases r with
 | cons r rr =>
  rw [hs];refine assignInOrder_cons (thn (h1 pins s σ H _ _ _ I r h) λ _ s1 ⟨σ1,H1,I1,q1⟩=>?_);exact h2 pins s1 σ1 H1 _ _ Q I1 rr q1
def gTup (K:[56]) (n:Nat) (t:TGs):TG:=λ v σ H Q=>∃ a xs,v=.ref a /\ SqT K H a xs /\ xs.length=n /\ t xs σ H Q
theorem zv4 {t:TGs} (hc:[82]) (h:PGs X es t)
    (hn:(assignEach es X.env).length=n:=by rfl) (hst:(assignEach es X.env).findIdx? (·.1)=none:=by rfl):PG X (.Tuple es k pos) (gTup X.K n t):=by
 intro pins s σ H v u Q I r hw;obtain ⟨a,xs,e1,hq,hl,hw⟩:=hw;subst e1;cases r;obtain ⟨its,rv,ht,hz⟩:=I.tuple hq;refine assign_Tuple_tuple (I.ok.hd hc) ht (by simp [hn,<- hl,rv.length]) hst λ h' hx=>?_;have I1:Inv X pins σ H [54]:=I.kept (t':=s.toks) λ b o e=>hx b o (Nat.ne_of_lt (Heap.lt_size e)) e;exact h pins _ σ H xs _ Q I1 (by simpa using rv) hw
def gSub (to ti:TE) (t:TSet):TG:=λ v σ H Q=>to σ H λ o H1=>ti σ H1 λ i H2=>t o i v H2 λ H3=>Q σ H3
theorem wv4 {o i:Expr} {to ti:TE} {t:TSet} (ho:PE X o to) (hi:PE X i ti) (hs:PSet X t)
    (ha:∀ v,assign (.Subscript o i pos) X.env v=(do
     let ov <- holding [v] (eval o X.env)
     let iv <- holding [v,ov] (eval i X.env)
     standAt pos
     holding [v,ov,iv] (setItem ov iv v)
     release [v,ov,iv] []):=by intro _; rfl):PG X (.Subscript o i pos) (gSub to ti t):=by
 intro pins s σ H v u Q I r h;rw [ha];refine wpAny_bind (wpAny_holding (thn (ho pins s σ H _ I h) λ ov s1 ⟨x,H1,I1,r1,q1⟩=>?_));refine wpAny_bind (wpAny_holding (thn (hi pins s1 σ H1 _ I1 q1) λ iv s2 ⟨y,H2,I2,r2,q2⟩=>?_));refine wpAny_bind (wpAny_standAt (wpAny_bind (wpAny_holding (thn (hs pins s2 σ H2 x y v ov iv u _ I2 r1 r2 r q2) λ _ s3 ⟨H3,I3,q3⟩=>?_))));exact wpAny_release ⟨σ,H3,I3,q3⟩
def tAsg (te:TE) (g:TG):TS:=λ D σ H=>te σ H λ x H1=>g x σ H1 D.nx
theorem su4 {e:Expr} (he:PE X e te) (hg:PG X tg g) (hs:swapsWithSole [tg] e pos.line X.env=pure false:=by rfl) (hw:swappedStores [tg] e X.env=pure none:=by rfl)
    (h1:(assignEach [tg] X.env).map (·.2)=[assign tg X.env]:=by rfl):PS X (.Assign [tg] e pos) (tAsg te g):=by
 intro pins s σ H D I h;refine wpAny_Assign_stores (thn (he pins s σ H _ I h) λ v s1 ⟨x,H1,I1,r1,q1⟩=>?_) hs hw;rw [h1];exact thn (hg pins s1 σ H1 x v _ I1 r1 q1) λ _ s2 q=>q
theorem wj2 {i:Nat} {x:Str} {e:Expr} {pos':Pos} (hN:X.N.Nodup) (hi:X.N[i]?=some x) (hx:Loc X.env.scope x) (he:PE X e te) (hs:swapsWith e (some (.Name x pos')) pos.line X.env=pure false:=by rfl) (hf:X.fn x=true \/ X.env.scope.names.lookup x=some .local:=by trivial) :
    PS X (.Assign [.Name x pos'] e pos) (tAsg te (xa3 i)):=by
 intro pins s σ H D I h;refine wpAny_Assign_Name (thn (he pins s σ H _ I h) λ v s1 ⟨y,H1,I1,r1,q1⟩=>?_) hs;exact ug0 I1 hN hi hx r1 (λ s2 I2=>⟨_,H1,I2,q1⟩) hf
def tPar (i j:Nat) (ta:TA):TS:=λ D σ H=>ta σ H λ vs H1=>∃ v w,vs=[v,w] /\ D.nx ((σ.set i (some v)).set j (some w)) H1
theorem uu4 {i j:Nat} {x y:Str} {a b:Expr} {ta:TA} {px py pt:Pos} {kt k2 pt2} (hc:[82]) (hN:X.N.Nodup) (hi:X.N[i]?=some x) (hj:X.N[j]?=some y) (hij:i ≠ j)
    (hx:X.env.scope.names.lookup x=some .local) (hy:X.env.scope.names.lookup y=some .local) (ha:PA X [a,b] ta)
    (hw:swappedStores [.Tuple [.Name x px,.Name y py] kt pt] (.Tuple [a,b] k2 pt2) X.env=pure (some [x,y]))
    (hs:swapsWithSole [.Tuple [.Name x px,.Name y py] kt pt] (.Tuple [a,b] k2 pt2) pos.line X.env=pure false:=by rfl) :
    PS X (.Assign [.Tuple [.Name x px,.Name y py] kt pt] (.Tuple [a,b] k2 pt2) pos) (tPar i j ta):=by
 intro pins s σ H D I h;rw [exec_Assign_arm];refine wpAny_bind (wpAny_standAt ?_);rw [hs];refine wpAny_bind [28];rw [if_neg [14]];refine wpAny_bind (Tuple_ (thn (ha _ pins s σ H _ I h) λ us s1 ⟨vs,H1,I1,r1,q1⟩=>?_));obtain ⟨v,w,e1,q1⟩:=q1;subst e1
 obtain ⟨u1,u2,rfl,rv,rw'⟩:∃ u1 u2,us=[u1,u2] /\ RelV v u1 /\ RelV w u2:=by
  cases r1 with
  | cons p q =>
   cases q with
   | cons p' q' =>
    cases q';exact ⟨_,_,rfl,p,p'⟩
 refine wpAny_newObj_type ?_ (by show 2<=sizeLine; decide);have I2:Inv X pins σ H1 { s1 with heap:=s1.heap.push { cls:=.type "tuple",data:=.seq [u1,u2].toArray } }:=I1.kept (t':=s1.toks) λ b o e=>Heap.get?_push_of_some _ e;rw [hw];refine wpAny_bind [28];show wpAny [11] X.A (do rule "assign.swapped-stores"; let items <- unpackItems (.ref s1.heap.objs.size) 2 none; assignInOrder [λ v=>bindName X.env y v,λ v=>bindName X.env x v] items.reverse; pure Flow.next) _ _ _;refine wpAny_bind (wpAny_rule (wpAny_bind (unpackItems_tuple (items:=#[u1,u2]) (I.ok.hd hc) (IsTup.new s1.heap _) λ h' hx'=>?_)));have I3:=I2.kept (h':=h') (t':=s1.toks) λ b o e=>hx' b o (Nat.ne_of_lt (Heap.lt_size e)) e;show wpAny _ _ (assignInOrder [λ v=>bindName X.env y v,λ v=>bindName X.env x v] [u2,u1] >>= λ _=>pure Flow.next) _ _ _;refine wpAny_bind (assignInOrder_cons (wpAny_bindName (ug0 I3 hN hj (.inl hy) rw' (λ s2 I4=>?_) (.inr hy))));refine assignInOrder_cons (wpAny_bindName (ug0 I4 hN hi (.inl hx) rv (λ s3 I5=>assignInOrder_nil [28]) (.inr hx)));rw [List.set_comm _ _ (Ne.symm hij)] at I5;exact ⟨_,H1,I5,q1⟩
end
structure It where
 go:Nat->Hp->Prop
 yld:Nat->Hp->V->Hp->Prop
 stop:Nat->Hp->Prop
def FpOk (X:Cx) (pins:[19]) (H:Hp) (b:Addr):Prop :=
 H b=none /\ b ≠ X.env.locals /\ b ∉ X.fs /\ (b ∈ X.ex \/ X.s₀.heap.objs.size<=b) /\ (∀ x c,X.env.cells.lookup x=some c->c ≠ b) /\ ∀ p ∈ X.pn ++ pins,p.1 ≠ b
theorem Inv.fpOk {σ:St} {b:Addr} (I:[13]) (hb:s.heap.objs.size<=b) (hn:H' b=none):FpOk X pins H' b:=by
 refine ⟨hn,Nat.ne_of_gt (Nat.lt_of_lt_of_le I.lt hb),I.nofs hb,.inr (Nat.le_trans I.sz hb),λ x c e z=>?_,λ p hp z=>?_⟩
 ·obtain ⟨v,q⟩:=I.cell x c e;exact absurd (Nat.lt_of_lt_of_le q.lt (by rw [z]; exact hb)) (Nat.lt_irrefl _)
 ·exact absurd (Nat.lt_of_lt_of_le (Heap.lt_size (I.pin p hp).1) (by rw [z]; exact hb)) (Nat.lt_irrefl _)
structure Turn (P:Program) (w:World) (K:PySem.W.Frag) (tg:Expr) (J:It) (fp:List Addr) (it:Addr) (tn:Nat->Heap->Prop):Prop where
 mem:it ∈ fp
 obj:∀ i h,tn i h->∀ b ∈ fp,∃ o,h.get? b=some o /\ ∀ v,o.data ≠ .cell v
 keep:∀ i h h',tn i h->(∀ b ∈ fp,∀ o,h.get? b=some o->h'.get? b=some o)->tn i h'
 item:∀ (X:Cx),X.prog=P->X.w=w->X.K=K->X.calm=true->∀ (i:Nat) (pins:List (Addr × Obj)) (s:Shared) (σ:St) (H:Hp) (E:Value->Shared->Prop),Inv X pins σ H s->(∀ b ∈ fp,FpOk X pins H b)->tn i s.heap->J.go i H ->
  wpAny (model P w) X.A (pyNext (.ref it)) (λ r s1=>∃ u,r=some u ∧
   wpAny (model P w) X.A (letOwnedTupleGo tg (.ref it) u) (λ _ s2=>∃ x H',Inv X pins σ H' s2 /\ RelV x u /\ J.yld i H x H' /\ tn (i + 1) s2.heap /\ ∀ b ∈ fp,H' b=none) E s1) E s
 done:∀ (X:Cx),X.prog=P->X.w=w->X.K=K->X.calm=true->∀ (i:Nat) (pins:List (Addr × Obj)) (s:Shared) (σ:St) (H:Hp) (E:Value->Shared->Prop),Inv X pins σ H s->(∀ b ∈ fp,FpOk X pins H b)->tn i s.heap->J.stop i H ->
  wpAny (model P w) X.A (pyNext (.ref it)) (λ r s1=>r=none /\ Inv X pins σ H s1) E s
 self:∀ (A:Around) (i:Nat) (s:Shared) (Q:Value->Shared->Prop) (E:Value->Shared->Prop),tn i s.heap->Q (.ref it) s->wpAny (model P w) A (pyIter (.ref it)) Q E s
abbrev TI:=St->Hp->(It->Hp->Prop)->Prop
def PIE (X:Cx) (pins:[19]) (σ:St) (tg:Expr) (R:It->Hp->Prop) (itv:Value) (s2:[47]):Prop :=
 ∃ (it:Addr) (fp:List Addr) (tn:Nat->Heap->Prop) (J:It) (H':Hp),itv=.ref it /\ Inv X pins σ H' s2 /\ Turn X.prog X.w X.K tg J fp it tn /\ tn 0 s2.heap /\ (∀ b ∈ fp,FpOk X pins H' b) /\ R J H'
def PI (X:Cx) (tg iter:Expr) (wi:TI):Prop :=
 ∀ (pins:[19]) (s:[47]) (σ:St) (H:Hp) (R:It->Hp->Prop),Inv X pins σ H s->wi σ H R ->
  wpAny [11] X.A (eval iter X.env) (λ v s1=>wpAny [11] X.A (pyIter v) (PIE X pins σ tg R) X.xe s1) X.xe s
theorem tn2 {E:[7]} {u:Value} {o:Obj} {n:String} {vs:Array Value} (ho:s.heap.get? it=some o) (hc:o.cls=.type n) (hd:o.data=.fields vs)
    (hn:["enumerate", "zip", "dict_itemiterator", "dict_reverseitemiterator", "odict_iterator", "itertools.zip_longest", "itertools.pairwise"].contains n=false) (hQ:Q () s):wpAny M A (letOwnedTupleGo tg (.ref it) u) Q E s:=by
 unfold letOwnedTupleGo
 cases tg <;> first
  | exact wpAny_pure hQ
  | (cases u <;> first
      | exact wpAny_pure hQ
      | (refine wpAny_bind (wpAny_load ho ?_)
         rw [hc,hd];show wpAny M A (if (["enumerate", "zip", "dict_itemiterator", "dict_reverseitemiterator", "odict_iterator", "itertools.zip_longest", "itertools.pairwise"].contains n && vs[0]? == some (rawInt _))=true then _ else _) Q E s;rw [if_neg [36]];exact wpAny_pure hQ))
def Itl (K:[56]) (a:Addr):It :=
 ⟨λ i H=>∃ xs x,SqL K H a xs /\ xs[i]?=some x,λ i H x H'=>H'=H /\ ∀ xs,SqL K H a xs->xs[i]?=some x,λ i H=>∃ xs,SqL K H a xs /\ xs.length<=i⟩
def Itt (K:[56]) (a:Addr):It :=
 ⟨λ i H=>∃ xs x,SqT K H a xs /\ xs[i]?=some x,λ i H x H'=>H'=H /\ ∀ xs,SqT K H a xs->xs[i]?=some x,λ i H=>∃ xs,SqT K H a xs /\ xs.length<=i⟩
def Itr (lo:Int) (n:Nat):It:=⟨λ i _=>i < n,λ i H x H'=>H'=H /\ x=.int (lo + i),λ i _=>n<=i⟩
theorem xe2 {P:[60]} {w:World} (a it:Addr):Turn P w K tg (Itl K a) [it] it (λ i h=>h.IsListIter it a i) where
 mem:=by simp
 obj:=λ i h st b hb=>by
  have e:b=it:=by simpa using hb
  subst e;obtain ⟨o,e,c,d⟩:=st
  simp_all
 keep:=λ i h h' st k=>st.at λ o e=>k it [17] o e
 item:=by
  intro X hP hw hK hc i pins s σ H E I hf st hg;subst hP hw hK;obtain ⟨xs,x,hq,hx⟩:=hg;obtain ⟨its,rv,p,hz⟩:=I.list hq;obtain ⟨u,hu,ru⟩:=rv.get hx;obtain ⟨f0,f1,f2,f3,f4,f5⟩:=hf it [17];refine wpAny_pyNext_list_item st p.isList (x:=u) (by simpa using hu) λ h' st' sb=>?_;have I1:Inv X pins σ H [54]:=I.turned (t':=s.toks) (λ b o hb e=>(sb.2 b hb).trans e) f0 f1 f3 f4 f5;obtain ⟨o,e,c,d⟩:=id st';exact ⟨u,rfl,tn2 (s:=[54]) e c d [14] ⟨x,H,I1,ru,⟨rfl,λ ys hy=>by rw [I.list_inj hy hq]; exact hx⟩,st',λ b hb=>(hf b hb).1⟩⟩
 done:=by
  intro X hP hw hK hc i pins s σ H E I hf st hg;subst hP hw hK;obtain ⟨xs,hq,hx⟩:=hg;obtain ⟨its,rv,p,hz⟩:=I.list hq;obtain ⟨f0,f1,f2,f3,f4,f5⟩:=hf it [17];have hl:=rv.length;exact wpAny_pyNext_list_end (I.ok.hd hc) st p.isList (by simp; omega) λ h' eb=>⟨rfl,I.turned (t':=s.toks) (λ b o hb e=>eb b o hb e) f0 f1 f3 f4 f5⟩
 self:=λ _ _ _ _ _ st h=>wpAny_pyIter_listiter st h
theorem xy1 {P:[60]} {w:World} (a it:Addr):Turn P w K tg (Itt K a) [it] it (λ i h=>h.IsTupleIter it a i) where
 mem:=by simp
 obj:=λ i h st b hb=>by
  have e:b=it:=by simpa using hb
  subst e;obtain ⟨o,e,c,d⟩:=st
  simp_all
 keep:=λ i h h' st k=>st.at λ o e=>k it [17] o e
 item:=by
  intro X hP hw hK hc i pins s σ H E I hf st hg;subst hP hw hK;obtain ⟨xs,x,hq,hx⟩:=hg;obtain ⟨its,rv,p,hz⟩:=I.tuple hq;obtain ⟨u,hu,ru⟩:=rv.get hx;obtain ⟨f0,f1,f2,f3,f4,f5⟩:=hf it [17];refine wpAny_pyNext_tuple_item st (show s.heap.IsTuple a its.toArray from p) (x:=u) (by simpa using hu) λ h' st' sb=>?_;have I1:Inv X pins σ H [54]:=I.turned (t':=s.toks) (λ b o hb e=>(sb.2 b hb).trans e) f0 f1 f3 f4 f5;obtain ⟨o,e,c,d⟩:=id st';exact ⟨u,rfl,tn2 (s:=[54]) e c d [14] ⟨x,H,I1,ru,⟨rfl,λ ys hy=>by rw [I.tuple_inj hy hq]; exact hx⟩,st',λ b hb=>(hf b hb).1⟩⟩
 done:=by
  intro X hP hw hK hc i pins s σ H E I hf st hg;subst hP hw hK;obtain ⟨xs,hq,hx⟩:=hg;obtain ⟨its,rv,p,hz⟩:=I.tuple hq;obtain ⟨f0,f1,f2,f3,f4,f5⟩:=hf it [17];have hl:=rv.length;exact wpAny_pyNext_tuple_end (I.ok.hd hc) st (show s.heap.IsTuple a its.toArray from p) (by simp; omega) λ h' eb=>⟨rfl,I.turned (t':=s.toks) (λ b o hb e=>eb b o hb e) f0 f1 f3 f4 f5⟩
 self:=λ _ _ _ _ _ st h=>wpAny_pyIter_tupleiter st h
theorem yy1 {P:[60]} {w:World} (it:Addr) (lo:Int) (n:Nat):Turn P w K tg (Itr lo n) [it] it (λ i h=>IsRangeIter h it (lo + (i:Nat) * 1) ((n:Int) - (i:Nat)) 1) where
 mem:=by simp
 obj:=λ i h st b hb=>by
  simp_all
 keep:=λ i h h' st k=>k it [17] _ st
 item:=by
  intro X hP hw hK hc i pins s σ H E I hf st hg;subst hP hw hK;obtain ⟨f0,f1,f2,f3,f4,f5⟩:=hf it [17];have W:=Walks.range (prog:=X.prog) (w:=X.w) (I.ok.hd hc) it lo 1 n;refine W.item i s _ _ hg st λ v h' tk hv st' kk=>?_;obtain ⟨t,rfl⟩:=hv;have I1:Inv X pins σ H [59]:=I.turned (λ b o hb e=>kk b o (by simpa using hb) e) f0 f1 f3 f4 f5;refine ⟨_,rfl,tn2 (s:=[59]) (n := "range_iterator") st' rfl rfl [14] ⟨.int (lo + i),H,I1,⟨t,?_⟩,⟨rfl,rfl⟩,st',λ b hb=>(hf b hb).1⟩⟩;rw [Int.mul_one]
 done:=by
  intro X hP hw hK hc i pins s σ H E I hf st hg;subst hP hw hK;obtain ⟨f0,f1,f2,f3,f4,f5⟩:=hf it [17];exact wpAny_pyNext_range_end (I.ok.hd hc) st (by have:n<=i:=hg; omega) λ h' eb=>⟨rfl,I.turned (t':=s.toks) (λ b o hb e=>eb b o hb e) f0 f1 f3 f4 f5⟩
 self:=λ _ _ _ _ _ st h=>wpAny_pyIter_rangeiter st h
variable {p:Pos} {fp:List Addr} {body:List Stmt}
section
theorem wt1 {σ:St} {R:It->Hp->Prop} {E:[7]} {lo hi:Int} {t u v:Tok} {tk:Nat} (I:[13]) (h1 : -(2 ^ 62)<=lo) (h2:lo < 2 ^ 62) (h3 : -(2 ^ 62)<=hi) (h4:hi < 2 ^ 62)
    (q:R (Itr lo (hi - lo).toNat) H):wpAny [11] X.A (pyIter [71]) (PIE X pins σ tg R) E { s with heap:=s.heap.push { cls:=.type "range",data:=.fields #[.int lo t,.int hi u,.int 1 v] },toks:=tk }:=by
 refine wpAny_pyIter_range (IsRange.new ..) (small_one h1 h2 h3 h4) ?_;have I1:Inv X pins σ H { s with heap:=s.heap.push { cls:=.type "range",data:=.fields #[.int lo t,.int hi u,.int 1 v] },toks:=tk }:=I.kept λ b o e=>Heap.get?_push_of_some _ e
 refine ⟨(s.heap.push { cls:=.type "range",data:=.fields #[.int lo t,.int hi u,.int 1 v] }).objs.size,[(s.heap.push { cls:=.type "range",data:=.fields #[.int lo t,.int hi u,.int 1 v] }).objs.size],_,_,H,rfl,
  I1.kept (t':=tk) λ b o e=>Heap.get?_push_of_some _ e,yy1 _ lo (hi - lo).toNat,?_,λ b hb=>?_,q⟩
 ·have e1:lo + ((0:Nat):Int) * 1=lo:=by simp
  have e2:(((hi - lo).toNat:Nat):Int) - ((0:Nat):Int)=Builtin.Range.rangeSize lo hi 1:=by rw [rangeSize_one]; split <;> omega
  show IsRangeIter _ _ (lo + ((0:Nat):Int) * 1) ((((hi - lo).toNat:Nat):Int) - ((0:Nat):Int)) 1;rw [e1,e2];exact Heap.get?_push_size _ rfl
 ·have e:b=(s.heap.push { cls:=.type "range",data:=.fields #[.int lo t,.int hi u,.int 1 v] }).objs.size:=by simpa using hb
  subst e;exact I1.fpOk [18] (I1.hok.fresh [18])
def iRng1 (ta:TA):TI:=λ σ H R=>ta σ H λ vs H1=>∃ j:Int,vs=[.int j] /\ -(2 ^ 62)<=j /\ j < 2 ^ 62 /\ R (Itr 0 j.toNat) H1
def iRng2 (ta:TA):TI:=λ σ H R=>ta σ H λ vs H1=>∃ i j:Int,vs=[.int i,.int j] /\ (-(2 ^ 62)<=i /\ i < 2 ^ 62 /\ -(2 ^ 62)<=j /\ j < 2 ^ 62) /\ R (Itr i (j - i).toNat) H1
theorem yk2 {a:Expr} {ta:TA} {pos:Pos} (hg:Gl X "range") (hm:X.mg "range" = none) (ha:PA X [a] ta) (hs:starEach [a] X.env=[(false,eval a X.env)]:=by rfl):PI X tg (.Call (.Name "range" p) [a] [] pos) (iRng1 ta):=by
 intro pins s σ H R I h;refine Call_ (xo0 I hg hm boot_range (PyProof.Rows.callWith_type1 (thn (ha pos pins s σ H _ I h) λ us s1 ⟨vs,H1,I1,r1,q1⟩=>?_) hs rfl));obtain ⟨j,e,q1,q2,q⟩:=q1;subst e;cases r1 with
 | cons r rr =>
  cases rr;obtain ⟨t,rfl⟩:=r;exact call_range_1 (wt1 I1 [5] [5] q1 q2 (by simpa using q))
theorem xk2 {a b:Expr} {ta:TA} {pos:Pos} (hg:Gl X "range") (hm:X.mg "range" = none) (ha:PA X [a,b] ta) (hs:starEach [a,b] X.env=[(false,eval a X.env),(false,eval b X.env)]:=by rfl) (hs2:starEach [b] X.env=[(false,eval b X.env)]:=by rfl) :
    PI X tg (.Call (.Name "range" p) [a,b] [] pos) (iRng2 ta):=by
 intro pins s σ H R I h;refine Call_ (xo0 I hg hm boot_range (PyProof.Rows.callWith_type1 (thn (ha pos pins s σ H _ I h) λ us s1 ⟨vs,H1,I1,r1,q1⟩=>?_) (by rw [hs,hs2]) (by rw [hs2]; rfl)));obtain ⟨i,j,e,⟨q1,q2,q3,q4⟩,q⟩:=q1;subst e;cases r1 with
 | cons r rr =>
  cases rr with
  | cons r' rr =>
   cases rr;obtain ⟨t,rfl⟩:=r;obtain ⟨t',rfl⟩:=r';exact call_range_2 (wt1 I1 q1 q2 q3 q4 q)
def tFor (wi:TI) (g:TG) (tb:TS):TS:=λ D σ H=>wi σ H λ J H1=>∃ W:Nat->Nat->St->Hp->Prop,(∃ m,W 0 m σ H1) /\ ∀ i m σ H,W i m σ H ->
 (J.stop i H /\ D.nx σ H) \/ (J.go i H /\ ∃ N:St->Hp->Prop,(∀ σ' H',N σ' H'->∃ m',m' < m /\ W (i + 1) m' σ' H') /\ ∀ x H',J.yld i H x H'->g x σ H' λ σ2 H2=>tb { D with nx:=N,ct:=N,bk:=D.nx } σ2 H2)
def sz0 (fp:List Addr) (h:Heap):List (Addr × Obj):=fp.filterMap λ b=>(h.get? b).map λ o=>(b,o)
theorem xg0 {b:Addr} {o:Obj} (hb:b ∈ fp) (e:h.get? b=some o):(b,o) ∈ sz0 fp h:=List.mem_filterMap.mpr ⟨b,hb,by rw [e]; rfl⟩
theorem yl2 {p:Addr × Obj} (hp:p ∈ sz0 fp h):p.1 ∈ fp /\ h.get? p.1=some p.2:=by
 obtain ⟨b,hb,e⟩:=List.mem_filterMap.mp hp;cases q:h.get? b with
 | none=>simp_all
 | some o =>
  rw [q] at e;have e':(b,o)=p:=Option.some.inj e;subst e';exact ⟨hb,q⟩
theorem Inv.pinned {σ:St} (I:[13]) (hf:∀ b ∈ fp,FpOk X pins H b) (ho:∀ b ∈ fp,∃ o,s.heap.get? b=some o /\ ∀ v,o.data ≠ .cell v):Inv X (pins ++ sz0 fp s.heap) σ H s :=
 I.pins_of λ p hp=>(List.mem_append.mp hp).elim (λ z=>I.pin p (mem_append_right _ z)) λ z=>by
  obtain ⟨hb,e⟩:=yl2 z;obtain ⟨f0,f1,f2,_⟩:=hf p.1 hb;obtain ⟨o,e',d⟩:=ho p.1 hb
  simp_all
theorem Inv.unpinned {pl:[19]} {σ:St} (I:Inv X (pins ++ pl) σ H s):Inv X pins σ H s:=I.pins_of λ p hp=>I.pin p (mem_append_right _ (List.mem_append_left _ hp))
theorem tu4 {iter:Expr} {wi:TI} {tb:TS} {pos:Pos} (hp:PassesOwn [11] X.A X.env X.xe) (hc:[82]) (hi:PI X tg iter wi) (hg:PG X tg g) (hb:PSs X body tb)
    (hs:∀ x,foldedSetIterable iter X.env x=pure x:=by intro _; rfl):PS X (.For tg iter body [] pos) (tFor wi g tb):=by
 intro pins s σ H D I h;refine wpAny_For (thn (hi pins s σ H _ I h) λ v s1 h1=>thn h1 λ itv s2 h2=>?_) hs;obtain ⟨it,fp,tn,J,H2,e,I2,T,st2,f2,W,⟨m0,w0⟩,turn⟩:=h2;subst e;have stat:∀ {H':Hp},(∀ b ∈ fp,H' b=none)->∀ b ∈ fp,FpOk X pins H' b:=λ hn b hb=>⟨hn b hb,(f2 b hb).2⟩;refine codeAny_forLoop_any (λ n s'=>∃ i σ' H',Inv X pins σ' H' s' /\ tn i s'.heap /\ (∀ b ∈ fp,H' b=none) /\ W i n σ' H') ?_ m0 ⟨0,σ,H2,I2,st2,λ b hb=>(f2 b hb).1,w0⟩;rintro n s3 ⟨i,σ3,H3,I3,st3,fr3,w3⟩;rcases turn i n σ3 H3 w3 with ⟨stop,qn⟩ | ⟨go,N,hN,step⟩
 ·refine wpAny_passesOwn hp (thn (T.done X rfl rfl rfl hc i pins s3 σ3 H3 X.xe I3 (stat fr3) st3 stop) λ r s4 ⟨hr,I4⟩=>?_);subst hr;exact wpAny_execs_nil ⟨σ3,H3,I4,qn⟩
 ·refine wpAny_passesOwn hp (thn (T.item X rfl rfl rfl hc i pins s3 σ3 H3 X.xe I3 (stat fr3) st3 go) λ r s4 ⟨u,hr,h4⟩=>?_);subst hr;refine wpAny_passesOwn hp (thn h4 λ _ s5 ⟨x,H5,I5,r5,y5,st5,fr5⟩=>?_);have I5':=I5.pinned (stat fr5) (T.obj _ _ st5);refine wpAny_passesOwn hp (thn (hg _ s5 σ3 H5 x u _ I5' r5 (step x H5 y5)) λ _ s6 ⟨σ6,H6,I6,q6⟩=>?_);refine wpAny_passesOwn hp (thn (hb _ s6 σ6 H6 _ I6 q6) λ f s7 q7=>?_)
  have again:∀ {σ7:St} {H7:Hp},Inv X (pins ++ sz0 fp s5.heap) σ7 H7 s7->N σ7 H7->∃ m,m < n /\ ∃ i σ' H',Inv X pins σ' H' s7 /\ tn i s7.heap /\ (∀ b ∈ fp,H' b=none) /\ W i m σ' H':=λ {σ7 H7} I7 n7=>by
   obtain ⟨m',hm,w7⟩:=hN σ7 H7 n7;refine ⟨m',hm,i + 1,σ7,H7,I7.unpinned,T.keep _ _ _ st5 λ b hb o e=>(I7.pin (b,o) [85]).1,λ b hb=>?_,w7⟩;obtain ⟨o,e,d⟩:=T.obj _ _ st5 b hb;exact (I7.pin (b,o) [85]).2.1
  cases f with
  | next=>obtain ⟨σ7,H7,I7,n7⟩:=q7; exact again I7 n7
  | cont=>obtain ⟨σ7,H7,I7,n7⟩:=q7; exact again I7 n7
  | brk=>obtain ⟨σ7,H7,I7,q7⟩:=q7; exact ⟨σ7,H7,I7.unpinned,q7⟩
  | ret v=>obtain ⟨x7,σ7,H7,I7,r7,q7⟩:=q7; exact ⟨x7,σ7,H7,I7.unpinned,r7,q7⟩
end
abbrev R2:=V->V->Hp->VK->Prop
def OpR (X:Cx) (f:Value->Value->Sem Value) (r:R2):Prop :=
 ∀ (pins:[19]) (s:[47]) (σ:St) (H:Hp) (x y:V) (v u:Value) (Q:VK),Inv X pins σ H s->RelV x v->RelV y u->r x y H Q ->
  wpAny [11] X.A (f v u) (EP X pins σ Q) X.xe s
def UnR (X:Cx) (f:Value->Sem Value) (r:V->Hp->VK->Prop):Prop :=
 ∀ (pins:[19]) (s:[47]) (σ:St) (H:Hp) (x:V) (v:Value) (Q:VK),Inv X pins σ H s->RelV x v->r x H Q ->
  wpAny [11] X.A (f v) (EP X pins σ Q) X.xe s
def CallR (X:Cx) (f:Value) (r:List V->Hp->VK->Prop):Prop :=
 ∀ (pins:[19]) (s:[47]) (σ:St) (H:Hp) (xs:List V) (us:[25]) (Q:VK),Inv X pins σ H s->Vals xs us->r xs H Q ->
  wpAny [11] X.A (call f us) (EP X pins σ Q) X.xe s
def tOp (r:R2) (ta tb:TE):TE:=λ σ H Q=>ta σ H λ x H1=>tb σ H1 λ y H2=>r x y H2 Q
def tUn (r:V->Hp->VK->Prop) (ta:TE):TE:=λ σ H Q=>ta σ H λ x H1=>r x H1 Q
def rI (C:Int->Int->Prop) (g:Int->Int->V):R2:=λ x y H Q=>∃ i j,x=.int i /\ y=.int j /\ C i j /\ Q (g i j) H
def rI0 (g:Int->Int->V):R2:=λ x y H Q=>∃ i j,x=.int i /\ y=.int j /\ Q (g i j) H
def rU (g:Int->V):V->Hp->VK->Prop:=λ x H Q=>∃ i,x=.int i /\ Q (g i) H
section
variable {a b c:Expr} {tc:TE} {pos:Pos}
theorem binT (ha:PE X a ta) (hb:PE X b tb) {σ:St} {R:V->V->Hp->Prop} (I:[13])
    (h:ta σ H λ x H1=>tb σ H1 λ y H2=>R x y H2) {Q:[7]} {f:Value->Value->Sem Value}
    (hf:∀ v u s2 x y H2,Inv X pins σ H2 s2->RelV x v->RelV y u->R x y H2->wpAny [11] X.A (f v u) Q X.xe s2) :
    wpAny [11] X.A (eval a X.env) (λ v s₁=>wpAny [11] X.A (eval b X.env) (λ u s₂=>wpAny [11] X.A (f v u) Q X.xe s₂) X.xe s₁) X.xe s:=by
 refine thn (ha pins s σ H _ I h) λ v s1 ⟨x,H1,I1,r1,q1⟩=>?_;refine thn (hb pins s1 σ H1 _ I1 q1) λ u s2 ⟨y,H2,I2,r2,q2⟩=>?_;exact hf v u s2 x y H2 I2 r1 r2 q2
theorem pe_op {op:Operator} {r:R2} (ho:OpR X (binaryOp op) r) (ha:PE X a ta) (hb:PE X b tb):PE X (.BinOp a op b pos) (tOp r ta tb):=by
 intro pins s σ H Q I h;exact wpAny_BinOp (binT ha hb I h λ v u s2 x y H2 I2 rx ry q=>ho pins s2 σ H2 x y v u Q I2 rx ry q)
theorem pe_un {op:UnaryOp} {r:V->Hp->VK->Prop} (ho:UnR X (unaryOp op) r) (ha:PE X a ta):PE X (.UnaryOp op a pos) (tUn r ta):=by
 intro pins s σ H Q I h;exact UnaryOp_ (thn (ha pins s σ H _ I h) λ v s1 ⟨x,H1,I1,r1,q1⟩=>ho pins s1 σ H1 x v Q I1 r1 q1)
theorem opI {f:Value->Value->Sem Value} {C:Int->Int->Prop} {g:Int->Int->Int}
    (rule:∀ (i j:Int) (t u:Tok) (s:[47]) (Q:[7]) (E:[7]),C i j->Q (.int (g i j) s.toks) { s with toks:=s.toks + 1 }->wpAny [11] X.A (f (.int i t) (.int j u)) Q E s) :
    OpR X f (rI C λ i j=>.int (g i j)):=by
 intro pins s σ H x y v u Q I rx ry h;obtain ⟨i,j,rfl,rfl,hc,q⟩:=h;obtain ⟨t,rfl⟩:=rx;obtain ⟨t',rfl⟩:=ry;exact rule i j t t' s _ _ hc ⟨.int (g i j),H,I.tok _,⟨_,rfl⟩,q⟩
theorem opI0 {f:Value->Value->Sem Value} {g:Int->Int->Int}
    (rule:∀ (i j:Int) (t u:Tok) (s:[47]) (Q:[7]) (E:[7]),Q (.int (g i j) s.toks) { s with toks:=s.toks + 1 }->wpAny [11] X.A (f (.int i t) (.int j u)) Q E s) :
    OpR X f (rI0 λ i j=>.int (g i j)):=by
 intro pins s σ H x y v u Q I rx ry h;obtain ⟨i,j,rfl,rfl,q⟩:=h;obtain ⟨t,rfl⟩:=rx;obtain ⟨t',rfl⟩:=ry;exact rule i j t t' s _ _ ⟨.int (g i j),H,I.tok _,⟨_,rfl⟩,q⟩
theorem opB0 {f:Value->Value->Sem Value} {g:Int->Int->Bool}
    (rule:∀ (i j:Int) (t u:Tok) (s:[47]) (Q:[7]) (E:[7]),Q (.bool (g i j)) s->wpAny [11] X.A (f (.int i t) (.int j u)) Q E s) :
    OpR X f (rI0 λ i j=>.bl (g i j)):=by
 intro pins s σ H x y v u Q I rx ry h;obtain ⟨i,j,rfl,rfl,q⟩:=h;obtain ⟨t,rfl⟩:=rx;obtain ⟨t',rfl⟩:=ry;exact rule i j t t' s _ _ ⟨.bl (g i j),H,I,rfl,q⟩
def CPow (i j:Int):Prop:=0<=j /\ j<=1000000 /\ i.natAbs < 2 ^ 64
def CMul (i j:Int):Prop:=(-(2 ^ 64) < i /\ i < 2 ^ 64) \/ (-(2 ^ 64) < j /\ j < 2 ^ 64)
theorem CMul.ok {i j:Int} (h:CMul i j):IntMulOk i j:=by
 rcases h with ⟨h1,h2⟩ | ⟨h1,h2⟩
 ·exact .of_left (intBits_le_64 h1 h2)
 ·exact .of_right (intBits_le_64 h1 h2)
theorem op_add:OpR X (binaryOp .Add) (rI0 λ i j=>.int (i + j)):=opI0 λ _ _ _ _ _ _ _ q=>add_int q
theorem sw4:OpR X (binaryOp .Sub) (rI0 λ i j=>.int (i - j)):=opI0 λ _ _ _ _ _ _ _ q=>sub_int q
theorem zx4:OpR X (binaryOp .Mod) (rI (λ _ j=>0 < j) λ i j=>.int (i % j)):=opI λ i j _ _ _ _ _ hc q=>by
 have h1:(0:Int) < j:=hc;exact mod_int' [5] (by rw [Int.fmod_eq_emod_of_nonneg i [5]]; exact q)
theorem xx4:OpR X (binaryOp .Pow) (rI CPow λ i j=>.int (i ^ j.toNat)):=opI λ _ _ _ _ _ _ _ hc q=>pow_int_small hc.1 hc.2.1 hc.2.2 q
theorem unI {f:Value->Sem Value} {g:Int->Int}
    (rule:∀ (i:Int) (t:Tok) (s:[47]) (Q:[7]) (E:[7]),Q (.int (g i) s.toks) { s with toks:=s.toks + 1 }->wpAny [11] X.A (f (.int i t)) Q E s) :
    UnR X f (rU λ i=>.int (g i)):=by
 intro pins s σ H x v Q I rx h;obtain ⟨i,rfl,q⟩:=h;obtain ⟨t,rfl⟩:=rx;exact rule i t s _ _ ⟨.int (g i),H,I.tok _,⟨_,rfl⟩,q⟩
theorem te4:UnR X (unaryOp .USub) (rU λ i=>.int (-i)):=unI λ _ _ _ _ _ q=>neg_int q
end
def scal:V->V->Bool
 | .non,.non=>true | .non,.int _=>true | .int _,.non=>true | .non,.bl _=>true | .bl _,.non=>true | .non,.str _=>true | .str _,.non=>true
 | .int _,.int _=>true | .bl _,.bl _=>true | .str _,.str _=>true | .byt _,.byt _=>true
 | .int _,.str _=>true | .str _,.int _=>true | .bl _,.str _=>true | .str _,.bl _=>true
 | _,_=>false
def rEq:R2:=λ x y H Q=>scal x y=true /\ Q (.bl (decide (x=y))) H
def rNe:R2:=λ x y H Q=>scal x y=true /\ Q (.bl (!decide (x=y))) H
theorem sp2 {i j:Int}:decide (V.int i=V.int j)=(i == j):=by
 rw [Bool.eq_iff_iff];simp
theorem sj3 {i j:Bool}:decide (V.bl i=V.bl j)=(i == j):=by
 rw [Bool.eq_iff_iff];simp
theorem tp2 {i j:Str}:decide (V.str i=V.str j)=(i == j):=by
 rw [Bool.eq_iff_iff];simp
theorem xq2 {i j:Array UInt8}:decide (V.byt i=V.byt j)=(i.toList == j.toList):=by
 rw [Bool.eq_iff_iff];simp
variable {us:[25]}
section
variable {a b c:Expr} {tc:TE} {pos:Pos}
theorem yc0 {σ:St} {Q:VK} {k k':Bool} (I:[13]) (q:Q (.bl k) H) (e:k=k'):EP X pins σ Q (.bool k') s:=by
 subst e;exact ⟨.bl k,H,I,rfl,q⟩
theorem op_eq:OpR X (compareOp .Eq) rEq:=by
 intro pins s σ H x y v u Q I rx ry h;obtain ⟨hs,q⟩:=h;cases x with
 | non =>
  cases rx;cases y with
  | non=>cases ry; exact PySem.EqNone.eq_none_none [79]
  | bl j=>cases ry; exact PySem.EqNone.eq_none_bool [79]
  | int j=>obtain ⟨t',rfl⟩:=ry; exact PySem.EqNone.eq_none_int [79]
  | str j=>obtain ⟨t',rfl⟩:=ry; exact PySem.EqNone.eq_none_str [79]
  | _=>trivial
 | bl i =>
  cases rx;cases y with
  | non=>cases ry; exact PySem.EqNone.eq_bool_none [79]
  | bl j=>cases ry; exact eq_bool (yc0 I q sj3)
  | str j=>obtain ⟨t',rfl⟩:=ry; exact PySem.EqMixed.eq_bool_str [79]
  | _=>trivial
 | int i =>
  obtain ⟨t,rfl⟩:=rx;cases y with
  | non=>cases ry; exact PySem.EqNone.eq_int_none [79]
  | int j=>obtain ⟨t',rfl⟩:=ry; exact eq_int (yc0 I q sp2)
  | str j=>obtain ⟨t',rfl⟩:=ry; exact PySem.EqMixed.eq_int_str [79]
  | _=>trivial
 | str i =>
  obtain ⟨t,rfl⟩:=rx;cases y with
  | non=>cases ry; exact PySem.EqNone.eq_str_none [79]
  | bl j=>cases ry; exact PySem.EqMixed.eq_str_bool [79]
  | int j=>obtain ⟨t',rfl⟩:=ry; exact PySem.EqMixed.eq_str_int [79]
  | str j=>obtain ⟨t',rfl⟩:=ry; exact eq_str (yc0 I q tp2)
  | _=>trivial
 | byt i =>
  obtain ⟨t,rfl⟩:=rx;cases y with
  | byt j=>obtain ⟨t',rfl⟩:=ry; exact PySem.W.eq_bytes (yc0 I q xq2)
  | _=>trivial
 | _=>trivial
theorem op_ne:OpR X (compareOp .NotEq) rNe:=by
 intro pins s σ H x y v u Q I rx ry h;obtain ⟨hs,q⟩:=h;cases x with
 | non =>
  cases rx;cases y with
  | non=>cases ry; exact PySem.EqNone.ne_none_none [79]
  | bl j=>cases ry; exact PySem.EqNone.ne_none_bool [79]
  | int j=>obtain ⟨t',rfl⟩:=ry; exact PySem.EqNone.ne_none_int [79]
  | str j=>obtain ⟨t',rfl⟩:=ry; exact PySem.EqNone.ne_none_str [79]
  | _=>trivial
 | bl i =>
  cases rx;cases y with
  | non=>cases ry; exact PySem.EqNone.ne_bool_none [79]
  | bl j=>cases ry; exact ne_bool (yc0 I q (congrArg not sj3))
  | str j=>obtain ⟨t',rfl⟩:=ry; exact PySem.EqMixed.ne_bool_str [79]
  | _=>trivial
 | int i =>
  obtain ⟨t,rfl⟩:=rx;cases y with
  | non=>cases ry; exact PySem.EqNone.ne_int_none [79]
  | int j=>obtain ⟨t',rfl⟩:=ry; exact ne_int (yc0 I q (congrArg not sp2))
  | str j=>obtain ⟨t',rfl⟩:=ry; exact PySem.EqMixed.ne_int_str [79]
  | _=>trivial
 | str i =>
  obtain ⟨t,rfl⟩:=rx;cases y with
  | non=>cases ry; exact PySem.EqNone.ne_str_none [79]
  | bl j=>cases ry; exact PySem.EqMixed.ne_str_bool [79]
  | int j=>obtain ⟨t',rfl⟩:=ry; exact PySem.EqMixed.ne_str_int [79]
  | str j=>obtain ⟨t',rfl⟩:=ry; exact ne_str (yc0 I q (congrArg not tp2))
  | _=>trivial
 | byt i =>
  obtain ⟨t,rfl⟩:=rx;cases y with
  | byt j=>obtain ⟨t',rfl⟩:=ry; exact PySem.W.ne_bytes (yc0 I q (congrArg not xq2))
  | _=>trivial
 | _=>trivial
theorem op_lt:OpR X (compareOp .Lt) (rI0 λ i j=>.bl (decide (i < j))):=opB0 λ _ _ _ _ _ _ _ q=>lt_int q
theorem op_gt:OpR X (compareOp .Gt) (rI0 λ i j=>.bl (decide (j < i))):=opB0 λ _ _ _ _ _ _ _ q=>gt_int q
theorem op_ge:OpR X (compareOp .GtE) (rI0 λ i j=>.bl (decide (j<=i))):=opB0 λ _ _ _ _ _ _ _ q=>ge_int q
theorem wx4:OpR X (compareOp .Is) (λ x y H Q=>y=.non /\ Q (.bl (decide (x=.non))) H):=by
 intro pins s σ H x y v u Q I rx ry h;obtain ⟨rfl,q⟩:=h;cases ry;refine is_none_gen (yc0 I q ?_)
 cases x <;> first
  | (cases rx; rfl)
  | (obtain ⟨t,rfl⟩:=rx; rfl)
theorem OpR.or {f:Value->Value->Sem Value} {r r':R2} (h:OpR X f r) (h':OpR X f r'):OpR X f (λ x y H Q=>r x y H Q \/ r' x y H Q):=by
 intro pins s σ H x y v u Q I rx ry q;rcases q with q | q
 ·exact h pins s σ H x y v u Q I rx ry q
 ·exact h' pins s σ H x y v u Q I rx ry q
theorem wu1 (b:Expr) {op:CmpOp} (h:op ≠ .In:=by decide) (h2:op ≠ .NotIn:=by decide):behindInMarks op b=false:=by
 have e1:(op == CmpOp.In)=false:=by simp_all
 have e2:(op == CmpOp.NotIn)=false:=by simp_all
 cases b <;> simp [behindInMarks,e1,e2]
theorem xv3 {op:CmpOp} {r:R2} (ho:OpR X (compareOp op) r) (ha:PE X a ta) (hb:PE X b tb) (hm:behindInMarks op b=false):PE X (.Compare a [op] [b] pos) (tOp r ta tb):=by
 intro pins s σ H Q I h;exact wpAny_Compare1 (binT ha hb I h λ v u s2 x y H2 I2 rx ry q=>ho pins s2 σ H2 x y v u Q I2 rx ry q) hm
def tm3 (t:TE):TT:=λ σ H Q=>t σ H λ x H'=>∃ k,x=.bl k /\ Q k H'
theorem ts3 {op:CmpOp} {r:R2} (ho:OpR X (compareOp op) r) (ha:PE X a ta) (hb:PE X b tb) (hm:behindInMarks op b=false):PT X (.Compare a [op] [b] pos) (tm3 (tOp r ta tb)):=by
 intro pins s σ H Q I h
 refine wpAny_isTrue_Compare1 (thn (ha pins s σ H _ I h) λ v s1 ⟨x,H1,I1,r1,q1⟩=>thn (hb pins s1 σ H1 _ I1 q1) λ u s2 ⟨y,H2,I2,r2,q2⟩ =>
  thn (ho pins s2 σ H2 x y v u _ I2 r1 r2 q2) λ c s3 ⟨z,H3,I3,r3,k,e,q3⟩=>?_) hm
 subst e;cases r3;exact wpAny_truthy_bool ⟨H3,I3,q3⟩
theorem za1:(sizeLine:Nat) < 2 ^ 63:=by trivial
theorem op_add_str:OpR X (binaryOp .Add) (λ x y H Q=>∃ i j,x=.str i /\ y=.str j /\ i.length + j.length<=sizeLine /\ Q (.str (i ++ j)) H):=by
 intro pins s σ H x y v u Q I rx ry h;obtain ⟨i,j,rfl,rfl,hz,q⟩:=h;obtain ⟨t,rfl⟩:=rx;obtain ⟨t',rfl⟩:=ry;exact add_str (λ t' tk=>⟨.str (i ++ j),H,I.tok _,⟨_,rfl⟩,q⟩) hz
theorem wu0 {x:V} (r:Vals [x] us):∃ u,us=[u] /\ RelV x u:=by
 cases r with
 | cons r1 r2=>cases r2; simp_all
theorem ul3 {x y:V} (r:Vals [x,y] us):∃ u w',us=[u,w'] /\ RelV x u /\ RelV y w':=by
 cases r with
 | cons r1 r2 =>
  cases r2 with
  | cons r3 r4=>cases r4; exact ⟨_,_,rfl,r1,r3⟩
theorem zr2 (hc:[82]):CallR X (.builtin "max") (λ xs H Q=>∃ i j,xs=[.int i,.int j] /\ Q (.int (if j > i then j else i)) H):=by
 intro pins s σ H xs us Q I r h;obtain ⟨i,j,rfl,q⟩:=h;obtain ⟨u,w',rfl,⟨t,rfl⟩,⟨t',rfl⟩⟩:=ul3 r;refine max_two_ints (I.ok.hd hc) λ h' tk k=>⟨_,H,I.kept k,?_,q⟩;by_cases hj:j > i
 ·rw [if_pos hj,if_pos hj]; exact ⟨_,rfl⟩
 ·rw [if_neg hj,if_neg hj]; exact ⟨_,rfl⟩
theorem call_int1:CallR X (.type "int") (λ xs H Q=>(∃ i,xs=[.int i] /\ Q (.int i) H) \/ ∃ k,xs=[.bl k] /\ Q (.int (if k then 1 else 0)) H):=by
 intro pins s σ H xs us Q I r h;rcases h with ⟨i,rfl,q⟩ | ⟨k,rfl,q⟩
 ·obtain ⟨u,rfl,t,rfl⟩:=wu0 r;exact call_int_int ⟨.int i,H,I,⟨_,rfl⟩,q⟩
 ·obtain ⟨u,rfl,r1⟩:=wu0 r;cases r1;exact call_int_bool ⟨.int (if k then 1 else 0),H,I.tok _,⟨_,rfl⟩,q⟩
theorem tl1:CallR X (.type "str") (λ xs H Q=>∃ i,xs=[.int i] /\ i.natAbs.log2 < 1920 /\ Q (.str (toString i)) H):=by
 intro pins s σ H xs us Q I r h;obtain ⟨i,rfl,hz,q⟩:=h;obtain ⟨u,rfl,t,rfl⟩:=wu0 r;exact PySem.P.str_of_int hz ⟨.str _,H,I.tok _,⟨_,rfl⟩,q⟩
end
structure Room (k:Nat) (A:Around):Prop where
 hd:A.handled=none
 dp:A.depth + 3 * k + 5 < recursionLimit
 un:A.units + 16 * k + 200 < cLine
theorem Room.mono {j:Nat} (r:Room k A) (h:j<=k):Room j A:=⟨r.hd,by have:=r.dp; omega,by have:=r.un; omega⟩
theorem Room.deeper {k:Nat} {A:Around} (r:Room (k + 1) A) (env:Env):Room k (A.deeper env) :=
 ⟨r.hd,by have:=r.dp; show A.depth + 1 + 3 * k + 5 < _; omega,by have:=r.un; simp_all;omega⟩
theorem Room.depth {k:Nat} {A:Around} (r:Room k A):A.depth < recursionLimit:=by have:=r.dp; omega
def tNil:TA:=λ _ H Q=>Q [] H
def wi4 (ta:TE) (tr:TA):TA:=λ σ H Q=>ta σ H λ x H1=>tr σ H1 λ xs H2=>Q (x :: xs) H2
section
variable {e:Expr} {t:TA} {pos:Pos}
theorem xh3:PA X [] tNil:=λ _ _ _ _ H Q I h=>Calls.spliced_nil ⟨[],H,I,.nil,h⟩
theorem uo1 (ha:PE X e te) (hr:PA X es t) (hs:starEach (e :: es) X.env=[26] :: starEach es X.env:=by rfl):PA X (e :: es) (wi4 te t):=by
 intro pos pins s σ H Q I h;rw [hs];show wpAny _ _ (spliced ([26] :: backTo pos [31])) _ _ s;refine Calls.spliced_cons (thn (ha pins s σ H _ I h) λ u s1 ⟨x,H1,I1,r1,q1⟩=>?_);exact thn (hr pos pins s1 σ H1 _ I1 q1) λ us s2 ⟨xs,H2,I2,r2,q2⟩=>⟨x :: xs,H2,I2,.cons r1 r2,q2⟩
def tTup (t:TA):TE:=λ σ H Q=>t σ H λ xs H1=>xs.length<=sizeLine /\ ∀ p,H1 p=none->Q [66] (upd H1 p (.tup xs))
def tLst (t:TA):TE:=λ σ H Q=>t σ H λ xs H1=>xs.length<=sizeLine /\ ∀ p,H1 p=none->Q [66] (upd H1 p (.lst xs))
theorem vv4 {x1} (h:PA X es t):PE X (.Tuple es x1 pos) (tTup t):=by
 intro pins s σ H Q I hq;refine wpAny_Tuple_spliced (thn (h pos pins s σ H _ I hq) λ us s1 ⟨xs,H1,I1,r,z,q⟩=>⟨by rw [<- r.length]; exact z,?_⟩);have hf:H1 s1.heap.objs.size=none:=I1.hok.fresh [18];refine ⟨.ref s1.heap.objs.size,upd H1 s1.heap.objs.size (.tup xs),I1.laid (t':=s1.toks) (λ b u e=>Heap.get?_push_of_some _ e) [18] ?_,rfl,q _ hf⟩;exact ⟨z,us,r,⟨_,Heap.get?_push_size _ rfl,rfl,_,rfl⟩⟩
theorem yw4 (h:PA X es t):PE X (.List es pos) (tLst t):=by
 intro pins s σ H Q I hq;refine wpAny_List_spliced (thn (h pos pins s σ H _ I hq) λ us s1 ⟨xs,H1,I1,r,z,q⟩=>⟨by rw [<- r.length]; exact z,?_⟩);have hf:H1 s1.heap.objs.size=none:=I1.hok.fresh [18];refine ⟨.ref s1.heap.objs.size,upd H1 s1.heap.objs.size (.lst xs),I1.laid (t':=s1.toks) (λ b u e=>Heap.get?_push_of_some _ e) [18] ?_,rfl,q _ hf⟩;exact ⟨z,us,0,r,Heap.get?_push_size _ rfl⟩
end
abbrev Sp:=List V->Hp->VK->XK->Prop
abbrev CXT:=List Env->Hp->Shared->XK->Value->Shared->Prop
structure Env0 (P:Program) (w:World) (K:PySem.W.Frag) (mg:Str->Option Value) (base:Heap) (A:Around) (outer:List Env) (s:Shared) (H:Hp):Prop where
 frames:A.frames=some outer
 mod:Mod K mg base
 bs:∀ b o,base.get? b=some o->s.heap.get? b=some o /\ H b=none
 bsz:base.objs.size<=s.heap.objs.size
 funs:s.heap.FunFrames base outer
 frf:∀ b ∈ frs outer,H b=none
 hok:HOk P w H s.heap
 bare:AllBare s.gens
def CE (outer:List Env) (P:[60]) (w:World) (H:Hp) (s:[47]) (Q:VK) (u:Value) (s':[47]):Prop :=
 ∃ v H',s'.os=s.os /\ AllBare s'.gens /\ Un (frs outer) [] H H' s.heap s'.heap /\ HOk P w H' s'.heap /\ RelV v u /\ Q v H'
def CR (CX:CXT) (outer:List Env) (P:[60]) (w:World) (H:Hp) (s:[47]) (Q:VK) (E:XK) (r:Result) (s':[47]):Prop :=
 match r with
 | .ok (.ret u)=>CE outer P w H s Q u s'
 | .ok _=>False
 | .error e=>CX outer H s E e s'
structure FnOk (P:Program) (w:World) (K:PySem.W.Frag) (mg:Str->Option Value) (base:Heap) (CX:CXT) (k:Nat) (f:Addr) (fd:FuncData) (ps:List Str) (sp:Sp):Prop where
 len:∀ vs H Q E,sp vs H Q E->vs.length=ps.length
 run:∀ (A:Around) (outer:List Env) (s:Shared) (H:Hp) (args:Args) (us:List Value) (vs:List V) (Q:VK) (E:XK),Room k A->Env0 P w K mg base A outer s H->BindsTo s fd args (ps.zip us)->Vals vs us->sp vs H Q E ->
  codeAny (model P w) A (.call (.ref f) args) (CR CX outer P w H s Q E) s
theorem FnOk.mono {P:[60]} {w:World} {K:[56]} {mg:[24]} {base:Heap} {CX:CXT} {j k:Nat} {f:Addr} {fd:FuncData} {ps:[35]} {sp:Sp} (F:FnOk P w K mg base CX j f fd ps sp) (h:j<=k) :
    FnOk P w K mg base CX k f fd ps sp:=⟨F.len,λ A outer s H args us vs Q E hr=>F.run A outer s H args us vs Q E (hr.mono h)⟩
section
variable {σ:St} 
theorem Inv.env0 (I:[13]):Env0 X.prog X.w X.K X.mg X.base X.A X.stack s H :=
 ⟨I.ok.frames,I.ok.mod,I.bs,Nat.le_trans I.ok.bsz I.sz,I.stack,I.stkFree,I.hok,I.bare⟩
theorem Inv.after {Q:VK} {u:Value} (I:[13]) (h:CE X.stack X.prog X.w H s Q u s'):EP X pins σ Q u s':=by
 obtain ⟨v,H',os,bare,un,hok,r,q⟩:=h;obtain ⟨hh,g,d,t,os'⟩:=s';obtain rfl:os'=s.os:=os;exact ⟨v,H',I.call (h':=hh) (g':=g) (d':=d) (t':=t) (ch:=[]) un hok bare (λ b z=>absurd z [17]),r,q⟩
end
def xn3 (sp:Sp) (dvs:List V) (E:XK) (t:TA):TE:=λ σ H Q=>t σ H λ vs H1=>sp (vs ++ dvs) H1 Q E
def Binds (K:[56]) (fd:FuncData) (ps:[35]) (ds:[25]):Prop :=
 ∀ (s:[47]) (us:[25]),K.In s.heap->(us ++ ds).length=ps.length->BindsTo s fd ⟨us,[]⟩ (ps.zip (us ++ ds))
variable {fd:FuncData} {ps:[35]}
theorem Binds.all (h:∀ us:List Value,us.length=ps.length->bindArgs fd ⟨us,[]⟩=pure (ps.zip us)):Binds K fd ps []:=λ s us _ hl=>by
 rw [append_nil] at hl ⊢;exact .of_eq (h us hl)
def zn1 (CX:CXT) (X:Cx) (E:XK):Prop:=∀ (pins:[19]) (σ:St) (H:Hp) (s:[47]) (e:Value) (s':[47]),Inv X pins σ H s->CX X.stack H s E e s'->X.xe e s'
variable {vs:List V} {CX:CXT} {sp:Sp}
section
variable {f C:Addr} {dvs:List V} {ds:[25]} {E:XK} {x m:Str} {pos apos:Pos} {e o:Expr} {t:TA}
theorem zn4 {σ:St} {Q:VK} (F:FnOk X.prog X.w X.K X.mg X.base CX k f fd ps sp) (hr:Room k X.A) (hb:Binds X.K fd ps ds) (hd:Vals dvs ds) (hx:zn1 CX X E)
    (I:[13]) (r:Vals vs us) (h:sp (vs ++ dvs) H Q E):wpAny [11] X.A (call (.ref f) us) (EP X pins σ Q) X.xe s:=by
 have r2:Vals (vs ++ dvs) (us ++ ds):=r.append hd;have hl:(us ++ ds).length=ps.length:=by rw [<- r2.length]; exact F.len _ _ _ _ h
 refine wpAny_call (codeAny_mono (F.run X.A X.stack s H ⟨us,[]⟩ (us ++ ds) (vs ++ dvs) Q E hr I.env0 (hb s us I.kIn hl) r2 h) λ r s' hq=>?_);cases r with
 | error e=>exact hx pins σ H s e s' I hq
 | ok fl =>
  cases fl with
  | ret u=>exact I.after hq
  | next=>exact False.elim hq
  | brk=>exact False.elim hq
  | cont=>exact False.elim hq
theorem wk2 (F:FnOk X.prog X.w X.K X.mg X.base CX k f fd ps sp) (hr:Room k X.A) (hg:Gl X x) (hm:X.mg x=some (.ref f)) (hk:keepIn X.K (.ref f)=true) (hb:Binds X.K fd ps ds) (hd:Vals dvs ds) (hx:zn1 CX X E)
    (ha:PA X (e :: es) t) (hdb:[23]=false:=by decide) (he:starEach (e :: es) X.env=[26] :: starEach es X.env:=by rfl) (hpl:(backTo pos [31]).any (·.1)=false:=by rfl) :
    PE X [49] (xn3 sp dvs E t):=by
 intro pins s σ H Q I h;refine wpAny_Call_Name_kw (zg0 I hg hm ?_ hdb);refine callWith_K (h₀:=X.base) I.ok.mod.kin hk (thn (ha pos pins s σ H _ I h) λ us s1 ⟨vs,H1,I1,r,q⟩=>⟨I1.kIn,?_⟩) he hpl;exact zn4 F hr hb hd hx I1 r q
end
structure FnScope (N P:List Str) (sc:Scope):Prop where
 kind:sc.kind=.function
 co:sc.isCoroutine=false
 gen:sc.isGenerator=false
 nd:N.Nodup
 pre:N.take P.length=P
 par:∀ x ∈ P,sc.names.lookup x=some .local \/ sc.names.lookup x=some .cell
 nofree:∀ y ∈ sc.names,y.2 ≠ .free
theorem um1 {kindOf:Str->Option NameKind} {x:Str}:∀ {binds:List (Str × Value)} {m:[24]},(∀ v,(x,v) ∉ binds)->bindL kindOf binds m x=m x
 | [],_,_=>rfl
 | (n,v) :: r,m,h=>by
  unfold bindL;rw [um1 λ w hw=>h w (mem_cons_of_mem _ hw)];split
  ·have:x ≠ n:=by rintro rfl; exact h v mem_cons_self
   simp [this]
  ·rfl
theorem sm1 {kindOf:Str->Option NameKind} {x:Str}:∀ {binds:List (Str × Value)} {m:[24]},(∀ v,(x,v) ∉ binds)->bindC kindOf binds m x=m x
 | [],_,_=>rfl
 | (n,v) :: r,m,h=>by
  unfold bindC;rw [sm1 λ w hw=>h w (mem_cons_of_mem _ hw)];split
  ·rfl
  ·have:x ≠ n:=by rintro rfl; exact h v mem_cons_self
   simp [this]
theorem tm1 {kindOf:Str->Option NameKind} {x:Str} {v:Value}:∀ {P:[35]} {vs:[25]} {i:Nat} {m:[24]},P.Nodup->P[i]?=some x->vs[i]?=some v->kindOf x=some .local ->
    bindL kindOf (P.zip vs) m x=some v
 | [],_,_,_,_,h,_,_=>by simp at h
 | _ :: _,[],_,_,_,_,h,_=>by simp at h
 | p :: P,w :: vs,0,m,nd,h1,h2,hk=>by
  simp at h1 h2; subst h1; subst h2;show bindL kindOf ((p,w) :: P.zip vs) m p=_;unfold bindL;rw [um1 λ v hv=>(List.nodup_cons.mp nd).1 (of_mem_zip hv).1,if_pos hk];simp
 | p :: P,w :: vs,i + 1,m,nd,h1,h2,hk=>by
  show bindL kindOf ((p,w) :: P.zip vs) m x=_;unfold bindL;exact tm1 (i:=i) (List.nodup_cons.mp nd).2 (by simpa using h1) (by simpa using h2) hk
theorem xn1 {kindOf:Str->Option NameKind} {x:Str} {v:Value}:∀ {P:[35]} {vs:[25]} {i:Nat} {m:[24]},P.Nodup->P[i]?=some x->vs[i]?=some v->kindOf x ≠ some .local ->
    bindC kindOf (P.zip vs) m x=some v
 | [],_,_,_,_,h,_,_=>by simp at h
 | _ :: _,[],_,_,_,_,h,_=>by simp at h
 | p :: P,w :: vs,0,m,nd,h1,h2,hk=>by
  simp at h1 h2; subst h1; subst h2;show bindC kindOf ((p,w) :: P.zip vs) m p=_;unfold bindC;rw [sm1 λ v hv=>(List.nodup_cons.mp nd).1 (of_mem_zip hv).1,if_neg hk];simp
 | p :: P,w :: vs,i + 1,m,nd,h1,h2,hk=>by
  show bindC kindOf ((p,w) :: P.zip vs) m x=_;unfold bindC;exact xn1 (i:=i) (List.nodup_cons.mp nd).2 (by simpa using h1) (by simpa using h2) hk
def start (N:[35]) (vs:List V):St:=vs.map some ++ List.replicate (N.length - vs.length) none
def cxOf (CX:CXT) (P:[60]) (w:World) (K:[56]) (mg:[24]) (base:Heap) (N:[35]) (qual:Str) (scope:Scope) (f:Addr) (cd:Value) (A:Around) (outer:List Env) (s:[47]) (H:Hp) (E:XK):Cx where
 prog:=P
 w:=w
 K:=K
 mg:=mg
 base:=base
 A:=A.deeper [69]
 N:=N
 s₀:=s
 H₀:=H
 env:=envOfC qual scope s.heap.objs.size f cd
 outer:=outer
 stack:=envOfC qual scope s.heap.objs.size f cd :: outer
 ex:=[]
 calm:=true
 fn:=λ _=>true
 pn:=[]
 xe:=λ e s'=>wpAny (model P w) (A.deeper [69]) (leaving [69] e) (λ _ s''=>CX outer H s E e s'') (λ e' s''=>CX outer H s E e' s'') s'
theorem wh1 {sc:Scope} {x:Str} (h:sc.names.lookup x=some .cell):∃ c,(cellsFrom n sc.names []).lookup x=some c:=by
 have q:=cellsFrom_some sc.names n [] (.inl h);exact Option.isSome_iff_exists.mp q
variable {mg:[24]} {base:Heap} {qual:Str} {scope:Scope}
theorem uw0 {P:[60]} {w:World} {f:Addr} {cd:Value} {outer:List Env} {s1:[47]} {E:XK} 
    (S:FnScope N ps scope) (hd:A.handled=none) (e0:Env0 P w K mg base A outer s H) (hl:vs.length=ps.length) (r:Vals vs us)
    (x:InCallC s s.heap.objs.size (bindL [69].kindOf (ps.zip us) λ _=>none) (cellsFrom (s.heap.objs.size + 1) scope.names []) (bindC [69].kindOf (ps.zip us) λ _=>none) s1) :
    Inv (cxOf CX P w K mg base N qual scope f cd A outer s H E) [] (start N vs) H s1:=by
 have hpl:ps.length<=N.length:=by have:=congrArg List.length S.pre; simp_all;omega
 obtain ⟨h1,tk,rfl,hk⟩:=x.done;have noA:∀ b:Addr,b ∉ (cxOf CX P w K mg base N qual scope f cd A outer s H E).ex:=λ b z=>absurd (show b ∈ ([]:List Addr) from z) [17]
 refine ⟨⟨e0.mod,S.kind,rfl,rfl,Nat.le_refl _,λ y z c h1 h2=>?_,λ y hy=>?_,λ y c _ h=>?_,λ _=>hd,Around.frames_deeper e0.frames,.inr ⟨rfl,rfl⟩,λ b z=>absurd z (noA b),e0.bs,e0.bsz,λ b _ _=>noA b,λ b z=>absurd z (noA b),e0.funs,e0.frf⟩,
  rfl,e0.bare,Un.kept hk,⟨_,x.toInCall.ns,λ i y v h1 h2 h3=>?_⟩,λ y c h=>⟨_,x.cell y c h⟩,e0.hok.fresh [18],λ y c h=>?_,λ p hp=>absurd (show p ∈ ([]:List (Addr × Obj)) from hp) [17],e0.hok.kept hk,?_⟩
 ·exact name_of_addr x.apart (PySem.mem_of_lookup h1) (PySem.mem_of_lookup h2)
 ·have hy:scope.names.lookup y=some .cell \/ scope.names.lookup y=some .free:=hy;rcases hy with hy | hy
  ·exact wh1 hy
  ·exact absurd rfl (S.nofree _ (PySem.mem_of_lookup hy))
 ·exact Nat.le_of_lt (x.above y c (PySem.mem_of_lookup h))
 ·have hi:i < vs.length:=by
    unfold start at h2;by_cases hi:i < vs.length
    ·exact hi
    ·rw [List.getElem?_append_right (by simpa using hi)] at h2;rw [List.getElem?_replicate] at h2
     simp_all
  have ha:vs[i]?=some v:=by
   unfold start at h2;rw [List.getElem?_append_left (by simpa using hi),getElem?_map] at h2
   simp_all
  obtain ⟨u,hu,rv⟩:=r.get ha
  have hp:ps[i]?=some y:=by
   rw [<- S.pre,List.getElem?_take_of_lt [5]]; exact h1
  have ndP:ps.Nodup:=by rw [<- S.pre]; exact S.nd.sublist (List.take_sublist _ _)
  refine ⟨u,rv,?_⟩;rcases S.par y (mem_of_getElem? hp) with k | k
  ·exact .inl ⟨k,tm1 ndP hp hu k⟩
  ·obtain ⟨c,e⟩:=wh1 (n:=s.heap.objs.size + 1) k;refine .inr ⟨.inl k,c,e,?_⟩;have q:=x.cell y c e;rw [xn1 ndP hp hu (by show scope.names.lookup y ≠ _; rw [k]; decide)] at q;exact q
 ·exact e0.hok.fresh (Nat.le_of_lt (x.above y c (PySem.mem_of_lookup h)))
 ·unfold start;show _=N.length
  simp_all
theorem vc5 {P:[60]} {w:World} {f:Addr} {name:Str} {params:Arguments} {dV kV doc pm cdv ct oc:Value} {an od:Option Addr}
    {osl:Array (Option Value)} (lk:K.lookup f=some ⟨oc,od,.func [80],osl⟩) (hcd:codeIn K cdv qual=true) (S:FnScope N ps scope)
    (len:∀ vs H Q E,sp vs H Q E->vs.length=ps.length)
    (hbody:∀ (A:Around) (outer:List Env) (s:[47]) (H:Hp) (vs:List V) (Q:VK) (E:XK),Room k (A.deeper (envOfC qual scope s.heap.objs.size f cdv))->sp vs H Q E ->
     ∃ t,PSs (cxOf CX P w K mg base N qual scope f cdv A outer s H E) body t /\ t { nx:=λ _ H'=>Q .non H',rt:=Q } (start N vs) H) :
    FnOk P w K mg base CX (k + 1) f [80] ps sp:=by
 refine ⟨len,λ A outer s H args us vs Q E hr e0 hb r hsp=>?_⟩;have hl:=len _ _ _ _ hsp;have KX:K.In s.heap:=e0.mod.kin.keeps λ b o e=>(e0.bs b o e).1;have lim:s.heap.NoLimit:=e0.mod.nolimit.keeps λ b o e=>(e0.bs b o e).1
 have hkind:∀ y ∈ ps.zip us,scope.names.lookup y.1=some .local \/ (scope.names.lookup y.1=some .cell /\ ((cellsFrom (s.heap.objs.size + 1) scope.names []).lookup y.1).isSome=true):=λ ⟨n,v⟩ hy=>by
  rcases S.par n (of_mem_zip hy).1 with q | q
  ·exact .inl q
  ·exact .inr ⟨q,cellsFrom_some _ _ _ (.inl q)⟩
 refine codeAny_call_function hr.depth (KX _ _ lk) rfl S.co S.gen rfl (codeRec_of KX hcd) (hb _ _ _ _ ?_);refine wpAny_newFunctionEnv_cells S.kind hkind λ env he s1 x=>?_;subst he;refine ⟨lim.keeps x.toInCall.keep,codeAny_func ?_⟩;obtain ⟨t,ht,hq⟩:=hbody A outer s H vs Q E (hr.deeper _) hsp;have I:Inv (cxOf CX P w K mg base N qual scope f cdv A outer s H E) [] (start N vs) H s1:=uw0 S hr.hd e0 hl r x;refine wpAny_mono (ht [] s1 (start N vs) H _ I hq) (λ fl s' hs=>?_) λ e s' hs=>hs
 have fin:∀ {σ':St} {H':Hp} {v:V} {u:Value},Inv (cxOf CX P w K mg base N qual scope f cdv A outer s H E) [] σ' H' s'->RelV v u->Q v H'->CE outer P w H s Q u s' :=
  λ {σ' H' v u} J rv q=>⟨v,H',J.os,J.bare,J.base,J.hok,rv,q⟩
 cases fl with
 | ret u =>
  obtain ⟨v,σ',H',J,rv,q⟩:=hs;exact fin J rv q
 | next =>
  obtain ⟨σ',H',J,q⟩:=hs;exact fin (v:=V.non) (u:=Value.none) J rfl q
 | brk =>
  obtain ⟨_,_,_,q⟩:=hs;exact False.elim q
 | cont =>
  obtain ⟨_,_,_,q⟩:=hs;exact False.elim q
section
variable {x:Str} {pos:Pos} {e:Expr} {t:TA} {id T:String} {r:List V->Hp->VK->Prop}
def tCB (r:List V->Hp->VK->Prop) (t:TA):TE:=λ σ H Q=>t σ H λ vs H1=>r vs H1 Q
theorem vt1 (hc:CallR X (.builtin id) r) (hg:Gl X x) (hm:X.mg x=none) (hv:bootBuiltins x=some (.builtin id)) (ha:PA X (e :: es) t) (hn:x ≠ "__name__" := by decide) (hdb:[23]=false:=by decide)
    (he:starEach (e :: es) X.env=[26] :: starEach es X.env:=by rfl) (hpl:(backTo pos [31]).any (·.1)=false:=by rfl):PE X [49] (tCB r t):=by
 intro pins s σ H Q I h;refine wpAny_Call_Name_kw (xo0 I hg hm hv ?_ hn hdb);exact PyProof.Rows.callWith_builtin1 (thn (ha pos pins s σ H _ I h) λ us s1 ⟨vs,H1,I1,r1,q1⟩=>hc pins s1 σ H1 vs us Q I1 r1 q1) he hpl
theorem zk2 (hc:CallR X (.type T) r) (hg:Gl X x) (hm:X.mg x=none) (hv:bootBuiltins x=some (.type T)) (ha:PA X (e :: es) t) (hn:x ≠ "__name__" := by decide) (hdb:[23]=false:=by decide)
    (he:starEach (e :: es) X.env=[26] :: starEach es X.env:=by rfl) (hpl:(backTo pos [31]).any (·.1)=false:=by rfl):PE X [49] (tCB r t):=by
 intro pins s σ H Q I h;refine wpAny_Call_Name_kw (xo0 I hg hm hv ?_ hn hdb);exact PyProof.Rows.callWith_type1 (thn (ha pos pins s σ H _ I h) λ us s1 ⟨vs,H1,I1,r1,q1⟩=>hc pins s1 σ H1 vs us Q I1 r1 q1) he hpl
end
end L2
namespace HT
open PySem PyProof.Rows
section
variable {prog:[60]} {w:World} {A:Around} {E:[7]} {s:[47]}
theorem cat_tup {t b:Addr} {vs ws:[25]} {Q:[7]} (ht:IsTup s.heap t vs.toArray) (hb:IsTup s.heap b ws.toArray) (hv:vs ≠ [])
    (h1:ws=[]->Q (.ref t) s) (h2:ws ≠ []->Q [71] { s with heap:=s.heap.push { cls:=.type "tuple",data:=.seq (vs ++ ws).toArray } })
    (hsz:vs.length + ws.length<=sizeLine):wpAny [8] A (binaryOp .Add (.ref t) (.ref b)) Q E s:=by
 obtain ⟨⟨cls,dd,data,sl⟩,ho,hc,n,hd⟩:=id ht;obtain ⟨⟨cls2,dd2,data2,sl2⟩,ho2,hc2,n2,hd2⟩:=id hb;simp only at hc hd hc2 hd2;subst hc hd hc2 hd2;have e:vs.toArray ++ ws.toArray=(vs ++ ws).toArray:=by simp
 by_cases hw:ws=[]
 ·exact concat_meets ⟨_,ho,rfl⟩ ⟨_,ho2,rfl⟩ noFill_tuple_add seq_tuple_add slot_tuple_add entry_tuple_add (args_tuple_add_2 _ _)
    (tuple_addW1 t b vs.toArray ws.toArray n n2 dd dd2 sl sl2 (by simpa using hv) (by simp [hw])) ⟨ho,ho2,h1 hw⟩
 ·refine concat_meets ⟨_,ho,rfl⟩ ⟨_,ho2,rfl⟩ noFill_tuple_add seq_tuple_add slot_tuple_add entry_tuple_add (args_tuple_add_2 _ _)
    (tuple_addW2 t b vs.toArray ws.toArray n n2 dd dd2 sl sl2 (by simpa using hv) (by simpa using hw) [5]) ⟨ho,ho2,?_⟩
  simp_all
def sIx (n d:Nat):Option Int->Nat
 | none=>d
 | some v=>if v < 0 then (v + (n:Int)).toNat else min v.toNat n
end
end HT
namespace L2
open PySem PySem.Spec PyProof.Rows
abbrev TO:=St->Hp->(Option Int->Hp->Prop)->Prop
def PO (X:Cx) (e:Option Expr) (t:TO):Prop :=
 ∀ (pins:[19]) (s:[47]) (σ:St) (H:Hp) (Q:Option Int->Hp->Prop),Inv X pins σ H s->t σ H Q ->
  wpAny [11] X.A (evalPart e X.env) (λ u s'=>∃ o H',Inv X pins σ H' s' /\ IsPart u o /\ Q o H') X.xe s
def sm3:TO:=λ _ H Q=>Q none H
def sh5 (t:TE):TO:=λ σ H Q=>t σ H λ x H1=>∃ i,x=.int i /\ Q (some i) H1
theorem va1 {ns:[64]}:∀ {us:[25]},Vals (ns.map V.int) us->IntsAre us ns:=by
 induction ns with
 | nil=>intro us r; rw [map_nil] at r; cases r; exact .nil
 | cons n ns ih =>
  intro us r;rw [map_cons] at r;cases r with
  | cons r1 r2 =>
   obtain ⟨t,e⟩:=r1;subst e;exact .cons n t (ih r2)
variable {X:Cx} {e:Expr} {pos:Pos} {xs:List V}
section
variable {te:TE} {lo hi:Option Expr} {tl th:TO} {p2:Pos}
theorem xu3:PO X none sm3:=by
 intro pins s σ H Q I h;rw [evalPart_none];exact wpAny_pure ⟨none,H,I,.none,h⟩
theorem ut3 (h:PE X e te):PO X (some e) (sh5 te):=by
 intro pins s σ H Q I hw;rw [evalPart_some];refine thn (h pins s σ H _ I hw) λ u s1 ⟨x,H1,I1,r1,q1⟩=>?_;obtain ⟨i,rfl,q⟩:=q1;obtain ⟨t,rfl⟩:=r1;exact ⟨some i,H1,I1,.int i t,q⟩
def SlR (X:Cx) (r:V->Option Int->Option Int->Hp->VK->Prop):Prop :=
 ∀ (pins:[19]) (s:[47]) (σ:St) (H:Hp) (x:V) (v vl vu:Value) (lo hi:Option Int) (sl:Addr) (Q:VK),Inv X pins σ H s->RelV x v->s.heap.IsSliceOf sl vl vu .none->IsPart vl lo->IsPart vu hi->r x lo hi H Q ->
  ∃ T id,typeLookup (.type T) "__getitem__" = pure (some (.builtin id)) /\ s.TypeIs v T /\ wpAny [11] X.A (getItem v (.ref sl)) (EP X pins σ Q) X.xe s
theorem SlR.or {r r':V->Option Int->Option Int->Hp->VK->Prop} (h:SlR X r) (h':SlR X r'):SlR X (λ x lo hi H Q=>r x lo hi H Q \/ r' x lo hi H Q):=by
 intro pins s σ H x v vl vu lo hi sl Q I rx hs pl pu q;rcases q with q | q
 ·exact h pins s σ H x v vl vu lo hi sl Q I rx hs pl pu q
 ·exact h' pins s σ H x v vl vu lo hi sl Q I rx hs pl pu q
def tSl (r:V->Option Int->Option Int->Hp->VK->Prop) (te:TE) (tl th:TO):TE:=λ σ H Q=>te σ H λ x H1=>tl σ H1 λ l H2=>th σ H2 λ u H3=>r x l u H3 Q
theorem zx2 {r:V->Option Int->Option Int->Hp->VK->Prop} (hr:SlR X r) (he:PE X e te) (hl:PO X lo tl) (hu:PO X hi th):PE X (.Subscript e (.Slice lo hi none p2) pos) (tSl r te tl th):=by
 intro pins s σ H Q I h;refine Subscript_ (thn (he pins s σ H _ I h) λ v s1 ⟨x,H1,I1,r1,q1⟩=>?_);refine wpAny_Slice (thn (hl pins s1 σ H1 _ I1 q1) λ vl s2 ⟨l,H2,I2,pl,q2⟩=>thn (hu pins s2 σ H2 _ I2 q2) λ vu s3 ⟨u,H3,I3,pu,q3⟩=>?_);rw [evalPart_none];refine wpAny_pure ?_;have I4:Inv X pins σ H3 { s3 with heap:=s3.heap.push { cls:=.type "slice",data:=.fields #[vl,vu,.none] } }:=I3.kept (t':=s3.toks) λ b ob q=>Heap.get?_push_of_some _ q;obtain ⟨T,id,hT,ht,hg⟩:=hr pins { s3 with heap:=s3.heap.push { cls:=.type "slice",data:=.fields #[vl,vu,.none] } } σ H3 x v vl vu l u s3.heap.objs.size Q I4 r1 (Heap.IsSliceOf.new ..) pl pu q3;show wpAny [11] X.A (subscriptTail e (.Slice lo hi none p2) v (.ref s3.heap.objs.size)) (EP X pins σ Q) X.xe { s3 with heap:=s3.heap.push { cls:=.type "slice",data:=.fields #[vl,vu,.none] } };exact tail_any (ops:=[.ref s3.heap.objs.size,v]) ht hT hg (by rfl)
def cutV (xs:List V) (lo hi:Option Int):List V:=(xs.drop (HT.sIx xs.length 0 lo)).take (HT.sIx xs.length xs.length hi - HT.sIx xs.length 0 lo)
theorem sp1 (xs:List V) (lo hi:Option Int):(cutV xs lo hi).length<=xs.length:=by
 unfold cutV
 simp_all;omega
def rCatT (K:[56]):R2:=λ x y H Q=>∃ a b xs ys,x=.ref a /\ y=.ref b /\ SqT K H a xs /\ SqT K H b ys /\ xs ≠ [] /\ xs.length + ys.length<=sizeLine ∧
 (ys=[]->Q (.ref a) H) /\ (ys ≠ []->∀ p,H p=none->Q [66] (upd H p (.tup (xs ++ ys))))
theorem Vals.nil_iff {us:[25]} (r:Vals xs us):us=[] ↔ xs=[]:=by
 cases r with
 | nil=>simp
 | cons _ _=>simp
theorem uv3:OpR X (binaryOp .Add) (rCatT X.K):=by
 intro pins s σ H x y v u Q I rx ry h;obtain ⟨a,b,xs,ys,rfl,rfl,ha,hb,hx,hz,q1,q2⟩:=h;cases rx;cases ry;obtain ⟨its,r1,p1,_⟩:=I.tuple ha;obtain ⟨its2,r2,p2,_⟩:=I.tuple hb;refine HT.cat_tup p1 p2 (λ z=>hx (r1.nil_iff.mp z)) (λ z=>⟨.ref a,H,I,rfl,q1 (r2.nil_iff.mp z)⟩) (λ z=>?_) (by rw [<- r1.length,<- r2.length]; exact hz);refine ⟨.ref s.heap.objs.size,_,I.laid (t':=s.toks) (o:=.tup (xs ++ ys)) (λ b ob q=>Heap.get?_push_of_some _ q) [18] ?_,rfl,q2 (λ w=>z (r2.nil_iff.mpr w)) _ (I.hok.fresh [18])⟩;exact ⟨by simp_all,_,r1.append r2,IsTup.new _ _⟩
end
def ixN (n:Nat) (i:Int):Option Nat:=if 0<=i then (if i < n then some i.toNat else none) else if -(n:Int)<=i then some (i + n).toNat else none
def atI {α:Type} (xs:List α) (i:Int):Option α:=(ixN xs.length i).bind λ j=>xs[j]?
variable {n j:Nat} {i:Int}
theorem sm2 (h:ixN n i=some j):seqIndex? i n=some j /\ j < n /\ -(n:Int)<=i /\ i < n:=by
 unfold ixN at h;by_cases h0:0<=i
 ·rw [if_pos h0] at h;by_cases h1:i < n
  ·rw [if_pos h1] at h;have e:i.toNat=j:=Option.some.inj h;exact ⟨by rw [seqIndex_of h0 h1,e],by omega,by omega,h1⟩
  simp_all
 ·rw [if_neg h0] at h;by_cases h1 : -(n:Int)<=i
  ·rw [if_pos h1] at h;have e:(i + n).toNat=j:=Option.some.inj h;exact ⟨by rw [seqIndex_neg [5] h1,e],by omega,h1,by omega⟩
  simp_all
theorem zq1 {α:Type} {xs:List α} {v:α} (h:atI xs i=some v):∃ j,seqIndex? i xs.length=some j /\ xs[j]?=some v /\ j < xs.length /\ -(xs.length:Int)<=i /\ i < xs.length:=by
 unfold atI at h;cases e:ixN xs.length i with
 | none=>simp_all
 | some j =>
  rw [e] at h;obtain ⟨h1,h2,h3,h4⟩:=sm2 e
  simp_all
theorem atI_nat {α:Type} {xs:List α} {v:α} (h:xs[j]?=some v):atI xs (j:Int)=some v:=by
 have hj:j < xs.length:=(List.getElem?_eq_some_iff.mp h).1
 have e:ixN xs.length (j:Int)=some j:=by
  unfold ixN
  simp_all
 unfold atI; rw [e]; exact h
theorem atI_last {α:Type} (xs:List α) (v:α):atI (xs ++ [v]) (-1)=some v:=by
 have hl:(xs ++ [v]).length=xs.length + 1:=by simp
 have e:ixN (xs ++ [v]).length (-1)=some xs.length:=by
  unfold ixN
  simp_all;omega
 unfold atI
 simp_all
def wq1 (b:Expr):Prop:=∀ o i,subscripted b false o i=operate [o,i] (getItem o i)
def IxR (X:Cx) (r:R2):Prop :=
 ∀ (value slice:Expr) (pins:[19]) (s:[47]) (σ:St) (H:Hp) (x y:V) (v u:Value) (Q:VK),Inv X pins σ H s->RelV x v->RelV y u->r x y H Q ->
  subscripted slice false v u=operate [v,u] (getItem v u)->wpAny [11] X.A (subscriptTail value slice v u) (EP X pins σ Q) X.xe s
def MtR (X:Cx) (id:String) (r:V->List V->Hp->VK->Prop):Prop :=
 ∀ (pins:[19]) (s:[47]) (σ:St) (H:Hp) (x:V) (xs:List V) (v:Value) (us:[25]) (Q:VK),Inv X pins σ H s->RelV x v->Vals xs us->r x xs H Q ->
  wpAny [11] X.A (call (.builtin id) (v :: us)) (EP X pins σ Q) X.xe s
variable {pins:[19]} {σ:St} {H:Hp} {s:[47]} {p:Addr} {its:[25]} {x:V} {u v:Value} {T:String}
section
variable {a b:Expr} {ta tb:TE} 
theorem IxR.or {r r':R2} (h:IxR X r) (h':IxR X r'):IxR X (λ x y H Q=>r x y H Q \/ r' x y H Q):=by
 intro value slice pins s σ H x y v u Q I rx ry q hs;rcases q with q | q
 ·exact h value slice pins s σ H x y v u Q I rx ry q hs
 ·exact h' value slice pins s σ H x y v u Q I rx ry q hs
theorem pe_ix {r:R2} (hr:IxR X r) (ha:PE X a ta) (hb:PE X b tb) (hs:wq1 b):PE X (.Subscript a b pos) (tOp r ta tb):=by
 intro pins s σ H Q I h;exact Subscript_ (binT ha hb I h λ v u s2 x y H2 I2 rx ry q=>hr a b pins s2 σ H2 x y v u Q I2 rx ry q (hs _ _))
def rIxL (K:[56]):R2:=λ x y H Q=>∃ p xs i v,x=.ref p /\ y=.int i /\ SqL K H p xs /\ atI xs i=some v /\ Q v H
def rIxT (K:[56]):R2:=λ x y H Q=>∃ p xs i v,x=.ref p /\ y=.int i /\ SqT K H p xs /\ atI xs i=some v /\ Q v H
def rIxS:R2:=λ x y H Q=>∃ z i c,x=.str z /\ y=.int i /\ z.length<=sizeLine /\ atI z.cps.toList i=some c /\ Q (.str ⟨#[c]⟩) H
theorem ix_list:IxR X (rIxL X.K):=by
 intro value slice pins s σ H x y v u Q I rx ry h hs;obtain ⟨p,xs,i,z,rfl,rfl,hq,he,q⟩:=h;cases rx;obtain ⟨t,rfl⟩:=ry;obtain ⟨its,r,pl,hz⟩:=I.list hq;obtain ⟨j,h1,h2,h3,h4,h5⟩:=zq1 he;obtain ⟨w,ew,rw'⟩:=r.get h2;have hl:=r.length;have hn:=za1;have fin:EP X pins σ Q w s:=⟨z,H,I,rw',q⟩;by_cases h0:0<=i
 ·have hj:i.toNat=j:=by
    rw [seqIndex_of h0 h5] at h1
    simp_all
  exact item_listR pl.isList h0 [5] [36] fin hs
 ·have hj:(i + (its.toArray.size:Int)).toNat=j:=by
    rw [seqIndex_neg [5] h4] at h1
    simp_all
  exact subscriptTail_builtinR (x:=w) pl.isList.typeIs slot_list_getitem.lookup
   (wpAny_getItem_list_neg (Q:=λ r s'=>r=w /\ EP X pins σ Q r s') pl.isList [5] [36] [5] [36] ⟨rfl,fin⟩) hs
theorem sa5:IxR X (rIxT X.K):=by
 intro value slice pins s σ H x y v u Q I rx ry h hs;obtain ⟨p,xs,i,z,rfl,rfl,hq,he,q⟩:=h;cases rx;obtain ⟨t,rfl⟩:=ry;obtain ⟨its,r,pl,hz⟩:=I.tuple hq;obtain ⟨j,h1,h2,h3,h4,h5⟩:=zq1 he;obtain ⟨w,ew,rw'⟩:=r.get h2;have hl:=r.length;have hn:=za1;have fin:EP X pins σ Q w s:=⟨z,H,I,rw',q⟩
 exact subscriptTail_builtinR (x:=w) pl.typeIs slot_tuple_getitem.lookup
  (getItem_tuple (j:=j) (Q:=λ r s'=>r=w /\ EP X pins σ Q r s') pl [5] [5] [36] (by simpa using ew) ⟨rfl,fin⟩) hs
theorem xb5:IxR X rIxS:=by
 intro value slice pins s σ H x y v u Q I rx ry h hs;obtain ⟨z,i,c,rfl,rfl,hz,he,q⟩:=h;obtain ⟨t,rfl⟩:=rx;obtain ⟨t',rfl⟩:=ry;obtain ⟨j,h1,h2,h3,h4,h5⟩:=zq1 he;have hl:z.cps.toList.length=z.length:=by simp [Str.length]
 rw [hl] at h1 h4 h5;have hn:=za1
 exact tail_any (typeIs_str s z t) slot_str_getitem.lookup (getItem_str (c:=c) (by
  simp_all;omega) [36] ⟨.str ⟨#[c]⟩,H,I.tok _,⟨_,rfl⟩,q⟩) hs
theorem sb2 (its:[25]) (n j:Nat) (u:Value):Obj.mapSeq (·.setIfInBounds j u) { cls:=.type "list",data:=.seq its.toArray n }={ cls:=.type "list",data:=.seq (its.set j u).toArray n }:=by
 simp [Obj.mapSeq]
theorem Inv.lst (I:[13]) (h:H p=some (.lst xs)) :
    ∃ (its:[25]) (n:Nat),Vals xs its /\ s.heap.get? p=some { cls:=.type "list",data:=.seq its.toArray n } /\ xs.length<=sizeLine:=by
 obtain ⟨z,its,n,r,e⟩:=I.hok p _ h
 simp_all
theorem Inv.lstUpd {ys:List V} {its':[25]} {n':Nat} {f:Obj->Obj} (I:[13]) (h:H p=some (.lst xs))
    (ho:s.heap.get? p=some { cls:=.type "list",data:=.seq its.toArray n }) (hf:f { cls:=.type "list",data:=.seq its.toArray n }={ cls:=.type "list",data:=.seq its'.toArray n' }) (r:Vals ys its') (hz:ys.length<=sizeLine) (t:Nat) :
    Inv X pins σ (upd H p (.lst ys)) { s with heap:=s.heap.update p f,toks:=t }:=by
 have e:(s.heap.update p f).get? p=some { cls:=.type "list",data:=.seq its'.toArray n' }:=by
  rw [Heap.get?_update_self f ho (by rw [hf] <;> rfl),hf]
 refine I.write (x:=p) (e:=p) (by rw [h]; trivial) (.inl rfl) (λ b u hb q=>(Heap.get?_update_other _ _ (Ne.symm hb)).trans q) ⟨_,e⟩ ?_;exact ⟨hz,its',n',r,e⟩
def rSetL:V->V->V->Hp->(Hp->Prop)->Prop:=λ o i v H Q=>∃ p xs k j,o=.ref p /\ i=.int k /\ H p=some (.lst xs) /\ ixN xs.length k=some j /\ Q (upd H p (.lst (xs.set j v)))
theorem xe1:PSet X rSetL:=by
 intro pins s σ H o i v ov iv u Q I ro ri rv h;obtain ⟨p,xs,k,j,rfl,rfl,hp,hj,q⟩:=h;cases ro;obtain ⟨t,rfl⟩:=ri;obtain ⟨its,n,r,ho,hz⟩:=I.lst hp;obtain ⟨h1,h2,h3,h4⟩:=sm2 hj;have hl:=r.length;have hn:=za1
 have I':Inv X pins σ (upd H p (.lst (xs.set j v))) { s with heap:=s.heap.update p (Obj.mapSeq (·.setIfInBounds j u)) } :=
  I.lstUpd hp ho (sb2 its n j u) (r.set rv j) [36] s.toks
 by_cases h0:0<=k
 ·have hk:k.toNat=j:=by
    rw [seqIndex_of h0 h4] at h1
    simp_all
  exact PySem.W.ki_setAt ho h0 [5] [36] (by rw [hk]; exact ⟨_,I',q⟩)
 ·have hk:(k + (its.toArray.size:Int)).toNat=j:=by
    rw [seqIndex_neg [5] h3] at h1
    simp_all
  exact PySem.W.ki_setBack ho [5] [36] [5] (by rw [hk]; exact ⟨_,I',q⟩)
theorem zj1 (lo hi:Option Int) (n:Nat):(sliceBounds lo hi none n).1=((HT.sIx n 0 lo:Nat):Int) /\ (sliceBounds lo hi none n).2.1=((HT.sIx n n hi:Nat):Int) /\ (sliceBounds lo hi none n).2.2=1:=by
 refine ⟨?_,?_,rfl⟩
 ·cases lo with
  | none=>rfl
  | some i =>
   simp only [sliceBounds,HT.sIx,Option.getD_none,show (1:Int) > 0 by decide,if_true];by_cases h:i < 0
   ·simp_all;omega
   ·simp only [h,if_false] <;> omega
 ·cases hi with
  | none=>rfl
  | some i =>
   simp only [sliceBounds,HT.sIx,Option.getD_none,show (1:Int) > 0 by decide,if_true];by_cases h:i < 0
   ·simp_all;omega
   ·simp only [h,if_false] <;> omega
theorem ud1 (its:[25]) (lo hi:Option Int):slicePick its.toArray lo hi none=((its.drop (HT.sIx its.length 0 lo)).take (HT.sIx its.length its.length hi - HT.sIx its.length 0 lo)).toArray:=by
 obtain ⟨h1,h2,h3⟩:=zj1 lo hi its.toArray.size;unfold slicePick;rw [h1,h2,h3];simp only [sliceRange_one,pick_run,size_toArray] <;> rfl
def rSlL (K:[56]):V->Option Int->Option Int->Hp->VK->Prop:=λ x lo hi H Q=>∃ a xs,x=.ref a /\ SqL K H a xs /\ ∀ p,H p=none->Q [66] (upd H p (.lst (cutV xs lo hi)))
theorem sl_list:SlR X (rSlL X.K):=by
 intro pins s σ H x v vl vu lo hi sl Q I rx hs pl pu h;obtain ⟨a,xs,rfl,hx,q⟩:=h;cases rx;obtain ⟨its,r,ht,hz⟩:=I.list hx;have hlen:=r.length;refine ⟨"list",_,slot_list_getitem.lookup,ht.isList.typeIs,?_⟩;refine wpAny_getItem_list_slice ht.isList hs pl pu .none [17] ?_ [36];rw [ud1,<- hlen];refine ⟨.ref s.heap.objs.size,_,I.laid (t':=s.toks) (o:=.lst (cutV xs lo hi)) (λ b ob q=>Heap.get?_push_of_some _ q) [18] ?_,rfl,q _ (I.hok.fresh [18])⟩;exact ⟨Nat.le_trans (sp1 xs lo hi) hz,_,0,(r.drop (HT.sIx xs.length 0 lo)).take (HT.sIx xs.length xs.length hi - HT.sIx xs.length 0 lo),Heap.get?_push_size _ rfl⟩
def tg1:V->Bool
 | .non=>true
 | .bl _=>true
 | .int _=>true
 | .str _=>true
 | _=>false
def eqV:V->V->Bool
 | .non,.non=>true
 | .bl a,.bl b=>a == b
 | .bl a,.int b=>(if a then 1 else 0) == b
 | .int a,.bl b=>a == (if b then 1 else 0)
 | .int a,.int b=>a == b
 | .str a,.str b=>a == b
 | _,_=>false
theorem yd5 {A:Around} {y:V} (ry:RelV y u) (rx:RelV x v) (fy:tg1 y=true) (fx:tg1 x=true):SeqAt.EqAt A s u v (eqV y x):=by
 cases y with
 | non =>
  cases ry;cases x with
  | non=>cases rx; exact SeqAt.EqAt.same _
  | bl b=>cases rx; exact SeqAt.EqAt.none_bool b
  | int b=>obtain ⟨t,rfl⟩:=rx; exact SeqAt.EqAt.none_int b t
  | str b=>obtain ⟨t,rfl⟩:=rx; exact SeqAt.EqAt.none_str b t
  | _=>trivial
 | bl a =>
  cases ry;cases x with
  | non=>cases rx; exact SeqAt.EqAt.bool_none a
  | bl b=>cases rx; exact SeqAt.EqAt.bool_bool a b
  | int b=>obtain ⟨t,rfl⟩:=rx; exact SeqAt.EqAt.bool_int a b t
  | str b=>obtain ⟨t,rfl⟩:=rx; exact SeqAt.EqAt.bool_str a b t
  | _=>trivial
 | int a =>
  obtain ⟨t',rfl⟩:=ry;cases x with
  | non=>cases rx; exact SeqAt.EqAt.int_none a t'
  | bl b=>cases rx; exact SeqAt.EqAt.int_bool a t' b
  | int b=>obtain ⟨t,rfl⟩:=rx; exact SeqAt.EqAt.int_int a t' b t
  | str b=>obtain ⟨t,rfl⟩:=rx; exact SeqAt.EqAt.int_str a t' b t
  | _=>trivial
 | str a =>
  obtain ⟨t',rfl⟩:=ry;cases x with
  | non=>cases rx; exact SeqAt.EqAt.str_none a t'
  | bl b=>cases rx; exact SeqAt.EqAt.str_bool a t' b
  | int b=>obtain ⟨t,rfl⟩:=rx; exact SeqAt.EqAt.str_int a t' b t
  | str b=>obtain ⟨t,rfl⟩:=rx; exact SeqAt.EqAt.str_str a t' b t
  | _=>trivial
 | _=>trivial
def eqU (x:V) (u:Value):Bool:=match u with
 | .none=>eqV .non x
 | .bool b=>eqV (.bl b) x
 | .int i _=>eqV (.int i) x
 | .str z _=>eqV (.str z) x
 | _=>false
theorem wj3 {y:V} (r:RelV y u) (f:tg1 y=true):eqU x u=eqV y x:=by
 cases y with
 | non=>cases r; rfl
 | bl b=>cases r; rfl
 | int i=>obtain ⟨t,rfl⟩:=r; rfl
 | str z=>obtain ⟨t,rfl⟩:=r; rfl
 | _=>trivial
theorem zy0 {x:V}:∀ {xs:List V} {us:[25]},Vals xs us->xs.all tg1=true->us.any (eqU x)=xs.any λ y=>eqV y x
 | _,_,.nil,_=>rfl
 | y :: xs,u :: us,.cons r t,f=>by
  rw [List.all_cons,Bool.and_eq_true] at f;rw [any_cons,any_cons,wj3 r f.1,zy0 t f.2]
theorem sn0 {A:Around} {s:[47]} {x:V} {v:Value} (rx:RelV x v) (fx:tg1 x=true):∀ {xs:List V} {us:[25]},Vals xs us->xs.all tg1=true->∀ u ∈ us,SeqAt.EqAt A s u v (eqU x u)
 | _,_,.nil,_=>λ u hu=>by cases hu
 | y :: xs,u :: us,.cons r t,f=>λ u' hu=>by
  rw [List.all_cons,Bool.and_eq_true] at f;rcases List.mem_cons.mp hu with rfl | hu
  ·rw [wj3 r f.1]; exact yd5 r rx f.1 fx
  ·exact sn0 rx fx t f.2 u' hu
def inV (x:V) (xs:List V):Bool:=xs.any λ y=>eqV y x
def rIn (K:[56]) (neg:Bool):R2:=λ x y H Q=>∃ p xs,y=.ref p /\ (SqL K H p xs \/ SqT K H p xs) /\ tg1 x=true /\ xs.all tg1=true /\ Q (.bl (if neg then !inV x xs else inV x xs)) H
theorem op_in_seq:OpR X (compareOp .In) (rIn X.K false):=by
 intro pins s σ H x y v u Q I rx ry h;obtain ⟨p,xs,rfl,hq,fx,fs,q⟩:=h;cases ry;rcases hq with hq | hq
 ·obtain ⟨its,r,pl,hz⟩:=I.list hq;refine SeqAt.in_listAt (eqU x) pl.isList (λ w hw=>sn0 rx fx r fs w (by simpa using hw)) ⟨.bl _,H,I,rfl,?_⟩;rw [show its.toArray.any (eqU x)=its.any (eqU x) by simp,zy0 r fs];exact q
 ·obtain ⟨its,r,pl,hz⟩:=I.tuple hq;refine SeqAt.in_tupleAt (eqU x) pl (λ w hw=>sn0 rx fx r fs w (by simpa using hw)) ⟨.bl _,H,I,rfl,?_⟩;rw [show its.toArray.any (eqU x)=its.any (eqU x) by simp,zy0 r fs];exact q
theorem op_notIn_seq:OpR X (compareOp .NotIn) (rIn X.K true):=by
 intro pins s σ H x y v u Q I rx ry h;obtain ⟨p,xs,rfl,hq,fx,fs,q⟩:=h;cases ry;rcases hq with hq | hq
 ·obtain ⟨its,r,pl,hz⟩:=I.list hq;refine SeqAt.notIn_listAt (eqU x) pl.isList (λ w hw=>sn0 rx fx r fs w (by simpa using hw)) ⟨.bl _,H,I,rfl,?_⟩;rw [show its.toArray.any (eqU x)=its.any (eqU x) by simp,zy0 r fs];exact q
 ·obtain ⟨its,r,pl,hz⟩:=I.tuple hq;refine SeqAt.notIn_tupleAt (eqU x) pl (λ w hw=>sn0 rx fx r fs w (by simpa using hw)) ⟨.bl _,H,I,rfl,?_⟩;rw [show its.toArray.any (eqU x)=its.any (eqU x) by simp,zy0 r fs];exact q
theorem zk1:OpR X (compareOp .NotIn) (λ x y H Q=>∃ i j,x=.str i /\ y=.str j /\ Q (.bl (!(!(Builtin.Str.occurrences j i 0 j.length 1).isEmpty))) H):=by
 intro pins s σ H x y v u Q I rx ry h;obtain ⟨i,j,rfl,rfl,q⟩:=h;obtain ⟨t,rfl⟩:=rx;obtain ⟨t',rfl⟩:=ry;exact notIn_str ⟨.bl _,H,I,rfl,q⟩
theorem call_len_seq:CallR X (.builtin "len") (λ xs H Q=>∃ p ys,xs=[.ref p] /\ (SqL X.K H p ys \/ SqT X.K H p ys) /\ Q (.int ys.length) H):=by
 intro pins s σ H xs us Q I r h;obtain ⟨p,ys,rfl,hq,q⟩:=h;obtain ⟨u,rfl,rx⟩:=wu0 r;cases rx;have hn:=za1;rcases hq with hq | hq
 ·obtain ⟨its,r',pl,hz⟩:=I.list hq;have hlen:=r'.length;exact Calls.call_len_list pl.isList [57] ⟨.int ys.length,H,I.tok _,⟨s.toks + 1,by simp_all⟩,q⟩
 ·obtain ⟨its,r',pl,hz⟩:=I.tuple hq;have hlen:=r'.length;exact len_tuple pl [57] ⟨.int ys.length,H,I.tok _,⟨s.toks + 1,by simp_all⟩,q⟩
theorem xm1:CallR X (.builtin "len") (λ xs H Q=>∃ z,xs=[.str z] /\ z.length<=sizeLine /\ Q (.int z.length) H):=by
 intro pins s σ H xs us Q I r h;obtain ⟨z,rfl,hz,q⟩:=h;obtain ⟨u,rfl,t,rfl⟩:=wu0 r;have hn:=za1;exact len_str [5] ⟨.int z.length,H,I.tok _,⟨_,rfl⟩,q⟩
theorem CallR.or {f:Value} {r r':List V->Hp->VK->Prop} (h:CallR X f r) (h':CallR X f r'):CallR X f (λ xs H Q=>r xs H Q \/ r' xs H Q):=by
 intro pins s σ H xs us Q I rs q;rcases q with q | q
 ·exact h pins s σ H xs us Q I rs q
 ·exact h' pins s σ H xs us Q I rs q
theorem sl1:CallR X (.type "list") (λ xs H Q=>∃ p ys,xs=[.ref p] /\ (SqL X.K H p ys \/ SqT X.K H p ys) /\ ∀ l,H l=none->Q (.ref l) (upd H l (.lst ys))):=by
 intro pins s σ H xs us Q I r h;obtain ⟨p,ys,rfl,hq,q⟩:=h;obtain ⟨u,rfl,rx⟩:=wu0 r;cases rx
 have fin:∀ (its:[25]),Vals ys its->ys.length<=sizeLine->∀ (h':Heap) (c':Nat),(∀ b o',s.heap.get? b=some o'->h'.get? b=some o') ->
     h'.get? s.heap.objs.size=some { cls:=.type "list",dict:=none,data:=.seq its.toArray c',slots:=#[] }->EP X pins σ Q [71] [54]:=λ its r' hz h' c' kp e =>
  ⟨.ref s.heap.objs.size,_,I.laid (t':=s.toks) kp [18] (show ObjOk X.prog X.w _ h' _ (.lst ys) from ⟨hz,its,c',r',e⟩),rfl,q _ (I.hok.fresh [18])⟩
 rcases hq with hq | hq
 ·obtain ⟨its,r',pl,hz⟩:=I.list hq;have hlen:=r'.length;obtain ⟨o,ho,hc,n,hd⟩:=pl.isList;exact call_list_seq p (.inl rfl) ho hc hd (λ h' c' kp e=>fin its r' hz h' c' kp e) [36]
 ·obtain ⟨its,r',pl,hz⟩:=I.tuple hq;have hlen:=r'.length;obtain ⟨o,ho,hc,n,hd⟩:=pl;exact call_list_seq p (.inr rfl) ho hc hd (λ h' c' kp e=>fin its r' hz h' c' kp e) [36]
theorem vh1:CallR X (.type "tuple") (λ xs H Q=>∃ p ys,xs=[.ref p] /\ ((SqL X.K H p ys /\ ∀ l,H l=none->Q (.ref l) (upd H l (.tup ys))) \/ (SqT X.K H p ys /\ Q [66] H))):=by
 intro pins s σ H xs us Q I r h;obtain ⟨p,ys,rfl,h⟩:=h;obtain ⟨u,rfl,rx⟩:=wu0 r;cases rx;rcases h with ⟨hq,q⟩ | ⟨hq,q⟩
 ·obtain ⟨its,r',pl,hz⟩:=I.list hq;have hlen:=r'.length;refine call_tuple_list pl.isList (λ h' kp=>?_) [36];have I1:Inv X pins σ H [54]:=I.kept (t':=s.toks) kp
  have I2:Inv X pins σ (upd H h'.objs.size (.tup ys)) { s with heap:=h'.push { cls:=.type "tuple",data:=.seq its.toArray } } :=
   I1.laid (t':=s.toks) (λ b o e=>Heap.get?_push_of_some _ e) [18] (show ObjOk X.prog X.w _ _ _ (.tup ys) from ⟨hz,its,r',IsTup.new _ _⟩)
  exact ⟨.ref h'.objs.size,_,I2,rfl,q _ (I1.hok.fresh [18])⟩
 ·obtain ⟨its,r',pl,hz⟩:=I.tuple hq;exact call_tuple_same pl ⟨.ref p,H,I,rfl,q⟩
def tyV (K:[56]) (T:String) (x:V) (H:Hp):Prop:=match x with
 | .str _=>T = "str"
 | .int _=>T = "int"
 | .ref p=>(T = "list" /\ ∃ xs,SqL K H p xs) \/ (T = "tuple" /\ ∃ o,K.lookup p=some o /\ o.cls=.type "tuple" /\ o.dict=none) ∨
     (T = "dict" /\ ((∃ kvs,H p=some (.dK kvs)) \/ ∃ kvs ne,H p=some (.dT kvs ne))) \/ (T = "set" /\ ∃ S n,H p=some (.set S n))
 | _=>False
theorem se4 (I:[13]) (r:RelV x v) (ty:tyV X.K T x H) :
    s.TypeIs v T /\ ∀ a,v=.ref a->∃ ob,s.heap.get? a=some ob /\ ob.dict=none:=by
 cases x with
 | str z =>
  obtain ⟨t,rfl⟩:=r;cases (show T = "str" from ty);exact ⟨typeIs_str s z t,λ _ e=>nomatch e⟩
 | int i =>
  obtain ⟨t,rfl⟩:=r;cases (show T = "int" from ty);exact ⟨typeIs_int s i t,λ _ e=>nomatch e⟩
 | ref p =>
  cases r;rcases ty with ⟨rfl,xs,hq⟩ | ⟨rfl,o,hk,hc,hd⟩ | ⟨rfl,hk⟩ | ⟨rfl,S,n,hk⟩
  ·obtain ⟨its,_,pl,_⟩:=I.list hq;refine ⟨pl.isList.typeIs,λ a e=>?_⟩;cases e;obtain ⟨o,n,e,c,hd,_⟩:=pl
   simp_all
  ·refine ⟨⟨o,I.kIn p o hk,hc⟩,λ a e=>?_⟩;cases e;exact ⟨o,I.kIn _ o hk,hd⟩
  ·have z:∃ o,s.heap.get? p=some o /\ o.ExactDict:=by
     rcases hk with ⟨kvs,hk⟩ | ⟨kvs,ne,hk⟩
     ·obtain ⟨_,_,_,_,o,_,_,e,ex,_⟩:=I.hok p _ hk
      simp_all
     ·obtain ⟨_,_,_,_,o,_,_,e,ex,_⟩:=I.hok p _ hk
      simp_all
   obtain ⟨o,e,ex⟩:=z;refine ⟨⟨o,e,ex.1⟩,λ a e2=>?_⟩;cases e2;exact ⟨o,e,ex.2.1⟩
  ·obtain ⟨o,_,_,_,e,ex,_⟩:=I.hok p _ hk;refine ⟨⟨o,e,ex.1⟩,λ a e2=>?_⟩;cases e2;exact ⟨o,e,ex.2.1⟩
 | _=>exact False.elim ty
def tBM (K:[56]) (T:String) (r:V->List V->Hp->VK->Prop) (to:TE) (t:TA):TE:=λ σ H Q=>to σ H λ x H1=>tyV K T x H1 /\ t σ H1 λ xs H2=>r x xs H2 Q
variable {o:Expr} {es:[67]} {to:TE} {t:TA} {name:Str} {apos cpos:Pos} {id:String} {r:V->List V->Hp->VK->Prop}
theorem yv3 (pa:PlainAttrs T) (slot:Slot T name id) (hty:typeOf (.builtin id)=pure (.type "method_descriptor")) (hm:MtR X id r) (ho:PE X o to) (ha:PA X (e :: es) t)
    (hbase:attributeBase o name X.env (eval o X.env)=eval o X.env:=by rfl)
    (hfew:([81].all (λ x=>!x.1) && [70].all (λ x=>x.1.isSome)
     && decide [29])=true:=by rfl)
    (hline:(apos.endLine == cpos.line)=true:=by rfl) (hs:starEach (e :: es) X.env=[26] :: starEach es X.env:=by rfl) (hplain:(backTo cpos [31]).any (·.1)=false:=by rfl) :
    PE X (.Call (.Attribute o name apos) (e :: es) [] cpos) (tBM X.K T r to t):=by
 intro pins s σ H Q I h;refine wpAny_Call_method_late hbase hfew hline rfl (thn (ho pins s σ H _ I h) λ v s1 ⟨x,H1,I1,r1,ty,q1⟩=>?_);obtain ⟨h1,h2⟩:=se4 I1 r1 ty;refine ⟨T,id,pa,slot,hty,h1,h2,?_⟩;have hA:=ha cpos pins s1 σ H1 _ I1 q1;rw [hs] at hA ⊢;refine Calls.callWith_builtin [21] (Calls.evalArgs_plain ?_);exact thn hA λ us s2 ⟨vs,H2,I2,r2,q2⟩=>hm pins s2 σ H2 x vs v us Q I2 r1 r2 q2
end
def MtM (X:Cx) (id:String) (r:V->List V->Hp->VK->Prop):Prop :=
 ∀ (pins:[19]) (s:[47]) (σ:St) (H:Hp) (x:V) (xs:List V) (v:Value) (us:[25]) (Q:VK),Inv X pins σ H s->RelV x v->Vals xs us->r x xs H Q ->
  wpAny [11] X.A (call (.builtin id) (v :: us)) (EP X pins σ Q) X.xe s
theorem Vals.one:∀ {x:V} {us:[25]},Vals [x] us->∃ u,us=[u] /\ RelV x u
 | _,_,.cons r .nil=>⟨_,rfl,r⟩
variable {t':Nat}
section
variable {l b:Addr} {ys zs:List V}
theorem Inv.lset {its':[25]} {f:Array Value->Array Value} (I:[13]) (hH:H l=some (.lst xs))
    (e:s.heap.get? l=some { cls:=.type "list",data:=.seq its.toArray n }) (hf:f its.toArray=its'.toArray) (hv:Vals ys its') (hz:ys.length<=sizeLine) :
    Inv X pins σ (upd H l (.lst ys)) { s with heap:=s.heap.update l (Obj.mapSeq f),toks:=t' }:=by
 have q:=PySem.IsL.update e f;rw [hf] at q;refine I.write (x:=l) (e:=l) (by rw [hH]; exact trivial) (.inl rfl) (λ b' u hb hu=>(Heap.get?_update_other s.heap (Obj.mapSeq f) (Ne.symm hb)).trans hu) ⟨_,q⟩ ?_;exact ⟨hz,its',_,hv,q⟩
theorem Inv.lnew (I:[13]) (hv:Vals ys its) (hz:ys.length<=sizeLine) :
    Inv X pins σ (upd H s.heap.objs.size (.lst ys)) { s with heap:=s.heap.push { cls:=.type "list",data:=.seq its.toArray },toks:=t' } :=
 I.laid (λ _ _ q=>Heap.get?_push_of_some _ q) [18] ⟨hz,its,0,hv,Heap.get?_push_size _ rfl⟩
theorem Inv.fresh (I:[13]):H s.heap.objs.size=none:=I.hok.fresh [18]
theorem Inv.lstM (I:[13]) (hH:H l=some (.lst xs)):xs.length<=sizeLine /\ ∃ (its:[25]) (n:Nat),Vals xs its /\ xs.length=its.length /\ s.heap.get? l=some { cls:=.type "list",data:=.seq its.toArray n }:=by
 obtain ⟨z,its,n,r,e⟩:=I.hok l _ hH;exact ⟨z,its,n,r,r.length,e⟩
theorem ux2 (h:n<=sizeLine):Builtin.List.listTooLong n=false:=by
 unfold Builtin.List.listTooLong
 simp_all
end
section
def tr3:V->List V->Hp->VK->Prop:=λ x vs H Q=>∃ l xs y,x=.ref l /\ vs=[y] /\ H l=some (.lst xs) /\ xs.length < sizeLine /\ Q .non (upd H l (.lst (xs ++ [y])))
theorem wk1:MtM X "list.append" tr3:=by
 intro pins s σ H x vs v us Q I rx rv h;obtain ⟨l,xs,y,rfl,rfl,hH,hz,q⟩:=h;cases rx;obtain ⟨u,rfl,ru⟩:=rv.one;obtain ⟨z,its,n,r,hl,e⟩:=I.lstM hH;refine call_meets F.slot_list_append ⟨_,e,rfl⟩ F.entry_list_append (F.args_list_append_2 _ _) (PySem.list_append l its.toArray n u [36]) ⟨e,?_⟩;refine ⟨.non,_,I.lset (its':=its ++ [u]) hH e [17] (r.append (.cons ru .nil)) ?_,rfl,q⟩
 simp_all;omega
def ur3:V->List V->Hp->VK->Prop:=λ x vs H Q=>∃ l b xs zs,x=.ref l /\ vs=[.ref b] /\ H l=some (.lst xs) /\ H b=some (.lst zs) /\ xs.length + zs.length<=sizeLine /\ Q .non (upd H l (.lst (xs ++ zs)))
theorem vl2:MtM X "list.extend" ur3:=by
 intro pins s σ H x vs v us Q I rx rv h;obtain ⟨l,b,xs,zs,rfl,rfl,hH,hB,hz,q⟩:=h;cases rx;obtain ⟨u,rfl,ru⟩:=rv.one;cases ru;obtain ⟨z,its,n,r,hl,e⟩:=I.lstM hH;obtain ⟨z2,its2,n2,r2,hl2,e2⟩:=I.lstM hB;have hsz:its.toArray.size + its2.toArray.size<=sizeLine:=by simp_all
 have hlong:¬ (!its.toArray.isEmpty && Builtin.List.listTooLong (its.toArray.size + its2.toArray.size))=true:=by
  rw [ux2 hsz,Bool.and_false];trivial
 refine call_meets F.slot_list_extend ⟨_,e,rfl⟩ F.entry_list_extend (F.args_list_extend_2 _ _)
  (AutoSeq1.list_extend_list_list_0 l its.toArray n b its2.toArray n2 hlong [5] [5]) ⟨e,e2,?_⟩
 refine ⟨.non,_,I.lset (its':=its ++ its2) hH e [17] (r.append r2) ?_,rfl,q⟩
 simp_all
def rCat:R2:=λ x y H Q=>∃ l b xs zs,x=.ref l /\ y=.ref b /\ H l=some (.lst xs) /\ H b=some (.lst zs) /\ xs.length + zs.length<=sizeLine /\ ∀ p,H p=none->Q [66] (upd H p (.lst (xs ++ zs)))
theorem op_cat:OpR X (binaryOp .Add) rCat:=by
 intro pins s σ H x y v u Q I rx ry h;obtain ⟨l,b,xs,zs,rfl,rfl,hH,hB,hz,q⟩:=h;cases rx;cases ry;obtain ⟨z,its,n,r,hl,e⟩:=I.lstM hH;obtain ⟨z2,its2,n2,r2,hl2,e2⟩:=I.lstM hB;refine PySem.P.add_list e e2 ?_ [36];have ea:its.toArray ++ its2.toArray=(its ++ its2).toArray:=by simp
 rw [ea];exact ⟨.ref _,_,I.lnew (t':=s.toks) (r.append r2) [36],rfl,q _ I.fresh⟩
end
end L2
namespace Att
open PySem PySem.W PySem.Calls PyProof.Rows
variable {P:Params} {h:Heap}
theorem tw0:∀ (ns:[64]) (vs:[25]),WellAll P h vs (ns.map WData.int)->IntsAre vs ns:=by
 intro ns
 induction ns with
 | nil =>
  intro vs w;rw [map_nil] at w;cases w;exact .nil
 | cons n ns ih =>
  intro vs w;rw [map_cons] at w;cases w with
  | cons a b =>
   cases a;exact .cons _ _ (ih _ b)
theorem tg2 {l:OpenLaw} {n:Nat} (hn:l.most=some n) {args:List WData} {vals:[25]}
    (hpre:l.row.toRowW.claim.pre args=true) (hwl:WellAll P h vals args) :
    ∃ a vs ns,vals=[Value.ref a] /\ args=[WData.list (ns.map WData.int)] /\ h.get? a=some { cls:=.type "list",data:=.seq vs.toArray } /\ IntsAre vs ns /\ ns.length<=n:=by
 have hsh:WShape.hasAll [] args [.list .int]=true:=(pre_splitW hpre).1;have hc:l.pre.holds [] { args:=args }=true:=(pre_splitW hpre).2;obtain ⟨d,r,rfl,h1,h2⟩:=hasAllW_cons hsh;obtain rfl:=hasAllW_nil h2;obtain ⟨xs,rfl,h3⟩:=hasW_list h1;obtain ⟨ns,rfl⟩:=items_int h3
 have hlen:ns.length<=n:=by
  unfold OpenLaw.pre at hc
  have h4:(WTm.not (.lt (.lit (.int (n:Int))) (.len (.arg 0)))).holds [] { args:=[.list (ns.map .int)] }=true:=by
   have h4:=(holds_andW hc).1
   simp_all
  have h5:=condW_of h4 (w_not (w_lt w_lit (w_len_list (w_arg rfl))))
  simp_all
 cases hwl with
 | cons w1 w2 =>
  cases w2;cases w1 with
  | list ho hall=>exact ⟨_,_,ns,rfl,rfl,ho,tw0 ns _ hall,hlen⟩
theorem vj2 (l:OpenLaw) (args:List WData):l.row.toRowW.claim.post args (.bool true) args=true :=
 postW_of (r:=l.row.toRowW) (X:=(true == true))
  (show WShape.has [] (.bool true) .bool=true by rfl)
  (show (WTm.eq .res (.lit (.bool true))).value [] { args:=args,res:=some (.bool true),after:=args }=some (.bool (true == true)) from w_eq_bool (w_res rfl) w_lit) rfl
end Att
namespace L2
open PySem PySem.Spec PyProof.Rows
theorem yi1:∀ {vs:[25]} {ns:[64]},IntsAre vs ns->Vals (ns.map V.int) vs
 | _,_,.nil=>.nil
 | _,_,.cons n t h=>.cons ⟨t,rfl⟩ (yi1 h)
def Only (H:Hp):Prop:=∀ b,H b=none \/ ∃ o xs,H b=some (.frz o (.lst xs))
abbrev CX0:CXT:=λ _ _ _ _ _ _=>False
abbrev E0:XK:=λ _ _ _=>False
variable {X:Cx}
theorem zv3:zn1 CX0 X E0:=λ _ _ _ _ _ _ _ h=>h.elim
structure Fun (K:PySem.W.Frag) (x qual:Str) (st:Stmt) (f:Addr) (fd:FuncData):Prop where
 ex:∃ (oc:Value) (od:Option Addr) (kV doc pm:Value) (an:Option Addr) (cdv ct:Value) (osl:Array (Option Value)),
  fd=fnOf x qual (ui0 st) (va0 st) (ya0 st) .none kV doc pm an cdv ct /\ K.lookup f=some ⟨oc,od,.func fd,osl⟩ /\ codeIn K cdv qual=true
 kp:keepIn K (.ref f)=true
variable {x qual:Str} {f:Addr} {fd:FuncData} {ps:[35]}
section
variable {P:[60]} {w:World} {K:[56]} {mg:[24]} {base:Heap}
theorem Fun.ok {st:Stmt} {N:[35]} {k:Nat} {sp:Sp} (F:Fun K x qual st f fd) (S:FnScope N ps (ya0 st)) (len:∀ vs H Q E,sp vs H Q E->vs.length=ps.length)
    (hbody:∀ (cdv:Value) (A:Around) (outer:List Env) (s:[47]) (H:Hp) (vs:List V) (Q:VK) (E:XK),Room k (A.deeper (envOfC qual (ya0 st) s.heap.objs.size f cdv))->sp vs H Q E ->
     ∃ t,PSs (cxOf CX0 P w K mg base N qual (ya0 st) f cdv A outer s H E).nox (va0 st) t /\ t { nx:=λ _ H'=>Q .non H',rt:=Q } (start N vs) H):FnOk P w K mg base CX0 (k + 1) f fd ps sp:=by
 obtain ⟨oc,od,kV,doc,pm,an,cdv,ct,osl,rfl,lk,hcd⟩:=F.ex;refine vc5 lk hcd S len λ A outer s H vs Q E hr hsp=>?_;obtain ⟨t,h,q⟩:=hbody cdv A outer s H vs Q E hr hsp;exact ⟨t,h.nox,q⟩
theorem Fun.binds {st:Stmt} (F:Fun K x qual st f fd)
    (h:∀ (kV doc pm:Value) (an:Option Addr) (cdv ct:Value) (us:[25]),us.length=ps.length->bindArgs (fnOf x qual (ui0 st) (va0 st) (ya0 st) .none kV doc pm an cdv ct) ⟨us,[]⟩=pure (ps.zip us)):Binds K fd ps []:=by
 obtain ⟨oc,od,kV,doc,pm,an,cdv,ct,osl,rfl,lk,hcd⟩:=F.ex;exact .all (h kV doc pm an cdv ct)
theorem vi3 {st:Stmt} {oc:Value} {od an:Option Addr} {osl:Array (Option Value)} {kV doc pm cdv ct:Value} (l:K.lookup f=some ⟨oc,od,.func (fnOf x qual (ui0 st) (va0 st) (ya0 st) .none kV doc pm an cdv ct),osl⟩)
    (c:codeIn K cdv qual=true) (k:keepIn K (.ref f)=true):Fun K x qual st f (fnOf x qual (ui0 st) (va0 st) (ya0 st) .none kV doc pm an cdv ct):=⟨⟨oc,od,kV,doc,pm,an,cdv,ct,osl,rfl,l,c⟩,k⟩
end
section
theorem pv (i:Nat) {pos:Pos} (hN:X.N[i]?=some x:=by rfl) (hv:Vis X.env.scope x:=by trivial) (hd:[23]=false:=by decide)
    (hcd:(x == ("__classdict__" : Str))=false:=by decide):PE X (.Name x pos) (tVar i):=tg3 hN hv hd hcd
end
end L2
namespace Pv
open PySem
inductive D where
 | non | bl (b:Bool) | int (i:Int) | str (x:Str) | tup (l:List D) | fls (l:List D) | ref (a:Addr) | ty (n:String) | exc (c:Str)
 | ktp (l:List D)
inductive MO where
 | lst (xs:List D)
 | dcl (lost:Bool) (kvs:List (List Int × D))
abbrev Mu:=Addr->Option MO
def updM (μ:Mu) (a:Addr) (o:MO):Mu:=λ b=>if b=a then some o else μ b
variable {μ:Mu} {a:Addr} {o:MO}
theorem za0:updM μ a o a=some o:=by unfold updM; rw [if_pos rfl]
theorem ta0 {b:Addr} (h:b ≠ a):updM μ a o b=μ b:=by unfold updM; rw [if_neg h]
def Ext (μ μ':Mu):Prop:=∀ a o,μ a=some o->μ' a=some o
theorem Ext.refl (μ:Mu):Ext μ μ:=λ _ _ h=>h
theorem Ext.trans {a b c:Mu} (h:Ext a b) (k:Ext b c):Ext a c:=λ x o q=>k x o (h x o q)
variable {p:Addr}
theorem Ext.new (h:μ p=none):Ext μ (updM μ p o):=λ a u q=>by
 rw [ta0]; exact q;intro e; simp_all
theorem uc0 {q:Addr} (h:μ p=some o) (k:μ q=none):p ≠ q:=by
 intro e; simp_all
abbrev St3:=List (Option D)
def getI:St3->Nat->Option D
 | [],_=>none
 | o :: _,0=>o
 | _ :: r,i + 1=>getI r i
theorem tp1:∀ (ρ:St3) (i:Nat),getI ρ i=(ρ[i]?).getD none
 | [],i=>by simp [getI]
 | o :: _,0=>by simp [getI]
 | _ :: r,i + 1=>by simp [getI,tp1 r i]
abbrev VK3:=D->Mu->Prop
abbrev TE3:=St3->Mu->VK3->Prop
abbrev TT3:=St3->Mu->(Bool->Mu->Prop)->Prop
abbrev TA3:=St3->Mu->(List D->Mu->Prop)->Prop
structure Ends3 where
 nx:St3->Mu->Prop
 rt:VK3
 bk:St3->Mu->Prop:=λ _ _=>False
 ct:St3->Mu->Prop:=λ _ _=>False
abbrev TS3:=Ends3->St3->Mu->Prop
abbrev R3:=D->D->Mu->VK3->Prop
abbrev Sp3:=List D->Mu->VK3->Prop
abbrev C3:=List D->Mu->VK3->Prop
abbrev TG3:=D->St3->Mu->(St3->Mu->Prop)->Prop
abbrev TGs3:=List D->St3->Mu->(St3->Mu->Prop)->Prop
abbrev TI3:=St3->Mu->(List D->(Mu->Prop)->Mu->Prop)->Prop
def v3 (i:Nat):TE3:=λ ρ μ Q=>match getI ρ i with
 | some d=>Q d μ
 | none=>False
def c3 (d:D):TE3:=λ _ μ Q=>Q d μ
def o3 (r:R3) (ta tb:TE3):TE3:=λ ρ μ Q=>ta ρ μ λ x μ1=>tb ρ μ1 λ y μ2=>r x y μ2 Q
def un3 (r:D->Mu->VK3->Prop) (ta:TE3):TE3:=λ ρ μ Q=>ta ρ μ λ x μ1=>r x μ1 Q
def b3 (t:TE3):TT3:=λ ρ μ Q=>t ρ μ λ d μ1=>match d with
 | .bl c=>Q c μ1
 | _=>False
def and3 (t u:TT3):TT3:=λ ρ μ Q=>t ρ μ λ c μ1=>if c=true then u ρ μ1 Q else Q false μ1
def or3 (t u:TT3):TT3:=λ ρ μ Q=>t ρ μ λ c μ1=>if c=true then Q true μ1 else u ρ μ1 Q
def not3 (t:TT3):TT3:=λ ρ μ Q=>t ρ μ λ c μ1=>Q (!c) μ1
def yb4 (t u:TE3):TE3:=λ ρ μ Q=>t ρ μ λ d μ1=>match d with
 | .bl c=>if c=true then u ρ μ1 Q else Q (.bl false) μ1
 | _=>False
def yw3 (t:TE3):TE3:=λ ρ μ Q=>t ρ μ λ d μ1=>match d with
 | .bl c=>Q (.bl (!c)) μ1
 | _=>False
def nil3:TA3:=λ _ μ Q=>Q [] μ
def xa0 (t:TE3) (u:TA3):TA3:=λ ρ μ Q=>t ρ μ λ d μ1=>u ρ μ1 λ ds μ2=>Q (d :: ds) μ2
def tup3 (t:TA3):TE3:=λ ρ μ Q=>t ρ μ λ ds μ1=>ds.length<=sizeLine /\ Q (.tup ds) μ1
def lst3 (t:TA3):TE3:=λ ρ μ Q=>t ρ μ λ ds μ1=>ds.length<=sizeLine /\ ∀ p,μ1 p=none->Q [66] (updM μ1 p (.lst ds))
def wa0 (sp:Sp3) (t:TA3):TE3:=λ ρ μ Q=>t ρ μ λ ds μ1=>sp ds μ1 Q
def mt3 (r:D->List D->Mu->VK3->Prop) (to:TE3) (t:TA3):TE3:=λ ρ μ Q=>to ρ μ λ x μ1=>match x with
 | .ref p=>match μ1 p with
  | some (.lst _)=>t ρ μ1 λ ds μ2=>r [66] ds μ2 Q
  | _=>False
 | _=>False
abbrev TO3:=St3->Mu->(Option Int->Mu->Prop)->Prop
def np3:TO3:=λ _ μ Q=>Q none μ
def pt3 (t:TE3):TO3:=λ ρ μ Q=>t ρ μ λ d μ1=>match d with
 | .int i=>Q (some i) μ1
 | _=>False
def sl3 (r:D->Option Int->Option Int->Mu->VK3->Prop) (te:TE3) (tl th:TO3):TE3:=λ ρ μ Q=>te ρ μ λ x μ1=>tl ρ μ1 λ l μ2=>th ρ μ2 λ u μ3=>r x l u μ3 Q
def sIx3 (n d:Nat):Option Int->Nat
 | none=>d
 | some v=>if v < 0 then (v + (n:Int)).toNat else min v.toNat n
def cut3 {α:Type} (xs:List α) (lo hi:Option Int):List α:=(xs.drop (sIx3 xs.length 0 lo)).take (sIx3 xs.length xs.length hi - sIx3 xs.length 0 lo)
def slR:D->Option Int->Option Int->Mu->VK3->Prop:=λ x lo hi μ Q=>match x with
 | .str z=>z.length<=sizeLine /\ Q (.str ⟨(cut3 z.cps.toList lo hi).toArray⟩) μ
 | .ref p=>match μ p with
  | some (.lst l)=>∀ r,μ r=none->Q (.ref r) (updM μ r (.lst (cut3 l lo hi)))
  | _=>False
 | _=>False
def zb0:TS3:=λ D ρ μ=>D.nx ρ μ
def seq3 (t u:TS3):TS3:=λ D ρ μ=>t { D with nx:=u D } ρ μ
def yo0 (t:TE3):TS3:=λ D ρ μ=>t ρ μ λ _ μ1=>D.nx ρ μ1
def ret3 (t:TE3):TS3:=λ D ρ μ=>t ρ μ D.rt
def ifs3 (c:TT3) (t u:TS3):TS3:=λ D ρ μ=>c ρ μ λ b μ1=>if b=true then t D ρ μ1 else u D ρ μ1
def gn3 (i:Nat):TG3:=λ d ρ μ Q=>Q (ρ.set i (some d)) μ
def yx0:TGs3:=λ ds ρ μ Q=>match ds with
 | []=>Q ρ μ
 | _=>False
def ye0 (t:TG3) (u:TGs3):TGs3:=λ ds ρ μ Q=>match ds with
 | d :: r=>t d ρ μ λ ρ1 μ1=>u r ρ1 μ1 Q
 | []=>False
def xx0 (n:Nat) (t:TGs3):TG3:=λ d ρ μ Q=>match d with
 | .tup l=>l.length=n /\ t l ρ μ Q
 | _=>False
def set3 (i:Nat) (t:TE3):TS3:=λ D ρ μ=>t ρ μ λ d μ1=>D.nx (ρ.set i (some d)) μ1
def asg3 (t:TE3) (g:TG3):TS3:=λ D ρ μ=>t ρ μ λ d μ1=>g d ρ μ1 D.nx
def par3 (i j:Nat) (t:TA3):TS3:=λ D ρ μ=>t ρ μ λ ds μ1=>match ds with
 | [v,w]=>D.nx ((ρ.set i (some v)).set j (some w)) μ1
 | _=>False
def ixN (n:Nat) (i:Int):Option Nat:=if 0<=i then (if i < n then some i.toNat else none) else if -(n:Int)<=i then some (i + n).toNat else none
def atI {α:Type} (xs:List α) (i:Int):Option α:=(ixN xs.length i).bind λ j=>xs[j]?
def sub3 (to ti:TE3):TG3:=λ d ρ μ Q=>to ρ μ λ o μ1=>ti ρ μ1 λ i μ2=>match o,i with
 | .ref p,.int k=>match μ2 p with
  | some (.lst xs)=>match ixN xs.length k with
   | some j=>Q ρ (updM μ2 p (.lst (xs.set j d)))
   | none=>False
  | _=>False
 | _,_=>False
def vc2 (S:Mu->Prop) (g:TG3) (tb:TS3) (D':Ends3):List D->St3->Mu->Prop
 | [],ρ,μ=>S μ /\ D'.nx ρ μ
 | x :: r,ρ,μ=>S μ /\ ∃ N:St3->Mu->Prop,(∀ ρ' μ',N ρ' μ'->vc2 S g tb D' r ρ' μ') /\ g x ρ μ λ ρ1 μ1=>tb { D' with nx:=N,ct:=N,bk:=D'.nx } ρ1 μ1
def for3 (ti:TI3) (g:TG3) (tb:TS3):TS3:=λ D' ρ μ=>ti ρ μ λ l S μ1=>vc2 S g tb D' l ρ μ1
variable {S:Mu->Prop}
theorem vi0 {g:TG3} {tb:TS3} {D':Ends3} (W:List D->St3->Mu->Prop) {l:List D} {ρ:St3} (h0:W l ρ μ) (hS:∀ l ρ μ,W l ρ μ->S μ) (hn:∀ ρ μ,W [] ρ μ->D'.nx ρ μ)
    (hs:∀ x r ρ μ,W (x :: r) ρ μ->g x ρ μ λ ρ1 μ1=>tb { D' with nx:=W r,ct:=W r,bk:=D'.nx } ρ1 μ1):vc2 S g tb D' l ρ μ:=by
 induction l generalizing ρ μ with
 | nil=>exact ⟨hS _ _ _ h0,hn _ _ h0⟩
 | cons x r ih=>exact ⟨hS _ _ _ h0,W r,λ ρ' μ' q=>ih q,hs x r ρ μ h0⟩
def is3 (t:TE3):TI3:=λ ρ μ R=>t ρ μ λ d μ1=>match d with
 | .tup l=>R l (λ _=>True) μ1
 | .fls l=>R l (λ _=>True) μ1
 | .ref p=>match μ1 p with
  | some (.lst l)=>R l (λ μ=>μ p=some (.lst l)) μ1
  | _=>False
 | _=>False
def rngD (lo:Int) (n:Nat):List D:=(List.range n).map λ i=>.int (lo + (i:Nat))
theorem xw0 (lo:Int) (n:Nat):rngD lo (n + 1)=.int lo :: rngD (lo + 1) n:=by
 unfold rngD;rw [List.range_succ_eq_map,map_cons,map_map]
 simp_all;omega
def ir3 (t:TA3):TI3:=λ ρ μ R=>t ρ μ λ ds μ1=>match ds with
 | [.int j]=>(-(2 ^ 62)<=j /\ j < 2 ^ 62) /\ R (rngD 0 j.toNat) (λ _=>True) μ1
 | _=>False
def ir23 (t:TA3):TI3:=λ ρ μ R=>t ρ μ λ ds μ1=>match ds with
 | [.int i,.int j]=>(-(2 ^ 62)<=i /\ i < 2 ^ 62 /\ -(2 ^ 62)<=j /\ j < 2 ^ 62) /\ R (rngD i (j - i).toNat) (λ _=>True) μ1
 | _=>False
def vb3 (S:Mu->Prop) (p:Addr) (g:TG3) (tc:TT3) (te:TE3) (Q:VK3) (l:List D) (ρ0:St3) (μ0:Mu):Prop :=
 ∃ W:List D->List D->St3->Mu->Prop,W l [] ρ0 μ0 /\ (∀ l ys ρ μ,W l ys ρ μ->S μ /\ μ p=some (.lst ys)) /\ (∀ ys ρ μ,W [] ys ρ μ->Q [66] μ) ∧
  ∀ x r ys ρ μ,W (x :: r) ys ρ μ->ys.length < sizeLine /\ g x ρ μ λ ρ1 μ1=>tc ρ1 μ1 λ b μ2 =>
   if b=true then te ρ1 μ2 λ d μ3=>μ3 p=some (.lst ys) /\ W r (ys ++ [d]) ρ1 (updM μ3 p (.lst (ys ++ [d]))) else W r ys ρ1 μ2
def xe0 (js:List (Option Nat)) (ti:TI3) (g:TG3) (tc:TT3) (te:TE3):TE3:=λ ρ μ Q=>ti ρ μ λ l S μ1=>∀ p,μ1 p=none->vb3 S p g tc te Q l (js.map λ j=>j.bind (getI ρ)) (updM μ1 p (.lst []))
def tt3:TT3:=λ _ μ Q=>Q true μ
variable {Q:VK3}
theorem sg0 {te:TE3} {l:List D} {o:Option D} {rest:St3} (f:D->D) (hp:μ p=none) (hl:l.length<=sizeLine) (hS:∀ μ',Ext μ μ'->S μ')
    (hx:∀ x ∈ l,∀ μ' R,Ext μ μ'->(∀ μ2,Ext μ' μ2->R (f x) μ2)->te (some x :: rest) μ' R) (hQ:∀ μ',Ext μ μ'->μ' p=some (.lst (l.map f))->Q [66] μ') :
    vb3 S p (gn3 0) tt3 te Q l (o :: rest) (updM μ p (.lst [])):=by
 refine ⟨λ r ys ρ μ'=>Ext μ μ' /\ μ' p=some (.lst ys) /\ (∃ o',ρ=o' :: rest) /\ ∃ a,a ++ r=l /\ ys=a.map f,?_,?_,?_,?_⟩
 ·exact ⟨Ext.new hp,za0,⟨o,rfl⟩,[],rfl,rfl⟩
 ·simp_all
 ·simp_all
 ·rintro x r ys ρ μ' ⟨h1,h2,⟨o',rfl⟩,a,e,rfl⟩;refine ⟨by rw [length_map]; rw [<- e,length_append,length_cons] at hl; omega,?_⟩;show te (some x :: rest) μ' _;refine hx x (by rw [<- e]; simp) μ' _ h1 λ μ2 h3=>⟨h3 _ _ h2,λ b u hb=>?_,za0,⟨_,rfl⟩,a ++ [x],by simp [<- e],by simp⟩;rw [ta0 (uc0 hb hp)];exact h3 _ _ (h1 _ _ hb)
def CPow (i j:Int):Prop:=0<=j /\ j<=1000000 /\ i.natAbs < 2 ^ 64
def Big:Nat:=2 ^ 1000
def CMul (i j:Int):Prop:=((-(2 ^ 64) < i /\ i < 2 ^ 64) \/ (-(2 ^ 64) < j /\ j < 2 ^ 64)) \/ (i.natAbs < Big /\ j.natAbs < Big)
def int2 (C:Int->Int->Prop) (g:Int->Int->D):R3:=λ x y μ Q=>match x,y with
 | .int i,.int j=>C i j /\ Q (g i j) μ
 | _,_=>False
def xs0 (g:Int->Int->D):R3:=λ x y μ Q=>match x,y with
 | .int i,.int j=>Q (g i j) μ
 | _,_=>False
def subR:R3:=xs0 λ i j=>.int (i - j)
def mulR:R3:=λ x y μ Q=>match x,y with
 | .int i,.int j=>CMul i j /\ Q (.int (i * j)) μ
 | _,_=>False
def modR:R3:=int2 (λ _ j=>0 < j) λ i j=>.int (i % j)
def wg0:R3:=int2 (λ _ j=>0 < j /\ j < 2 ^ 120) λ i j=>.int (i / j)
def powR:R3:=int2 CPow λ i j=>.int (i ^ j.toNat)
def ltR:R3:=xs0 λ i j=>.bl (decide (i < j))
def gtR:R3:=xs0 λ i j=>.bl (decide (j < i))
def geR:R3:=xs0 λ i j=>.bl (decide (j<=i))
def negR:D->Mu->VK3->Prop:=λ x μ Q=>match x with
 | .int i=>Q (.int (-i)) μ
 | _=>False
def addR:R3:=λ x y μ Q=>match x,y with
 | .int i,.int j=>Q (.int (i + j)) μ
 | .str i,.str j=>i.length + j.length<=sizeLine /\ Q (.str (i ++ j)) μ
 | .ref p,.ref q=>match μ p,μ q with
  | some (.lst xs),some (.lst ys)=>xs.length + ys.length<=sizeLine /\ ∀ r,μ r=none->Q (.ref r) (updM μ r (.lst (xs ++ ys)))
  | _,_=>False
 | .tup l,.tup m=>l.length + m.length<=sizeLine /\ Q (.tup (l ++ m)) μ
 | _,_=>False
def eqS:D->D->Option Bool
 | .int i,.int j=>some (decide (i=j))
 | .bl i,.bl j=>some (decide (i=j))
 | .str i,.str j=>some (decide (i=j))
 | .non,.non=>some true
 | .non,.int _=>some false
 | .int _,.non=>some false
 | .non,.str _=>some false
 | .str _,.non=>some false
 | .int _,.str _=>some false
 | .str _,.int _=>some false
 | _,_=>none
mutual
def dat:D->Option PyData
 | .non=>some .none
 | .bl b=>some (.bool b)
 | .int i=>some (.int i)
 | .str x=>if PyData.strOk x=true then some (.str x) else none
 | .tup l=>match dats l with
  | some ps=>some (.tuple ps)
  | none=>none
 | .ktp l=>match dats l with
  | some ps=>some (.tuple ps)
  | none=>none
 | _=>none
def dats:List D->Option (List PyData)
 | []=>some []
 | d :: r=>match dat d with
  | some p=>match dats r with
   | some ps=>some (p :: ps)
   | none=>none
  | none=>none
end
def datM (μ:Mu):D->Option PyData
 | .ref p=>match μ p with
  | some (.lst l)=>match dats l with
   | some ps=>some (.list ps)
   | none=>none
  | _=>none
 | d=>dat d
def eqR:R3:=λ x y μ Q=>match eqS x y with
 | some c=>Q (.bl c) μ
 | none=>match datM μ x,datM μ y with
  | some p,some q=>(p.depth<=64 /\ q.depth<=64) /\ Q (.bl (PyData.eqv p q)) μ
  | _,_=>False
def neR:R3:=λ x y μ Q=>match eqS x y with
 | some c=>Q (.bl (!c)) μ
 | none=>match datM μ x,datM μ y with
  | some p,some q=>(p.depth<=64 /\ q.depth<=64) /\ Q (.bl (!PyData.eqv p q)) μ
  | _,_=>False
theorem vj3 (i j:Int) (μ:Mu) (Q:VK3):eqR (.int i) (.int j) μ Q=Q (.bl (decide (i=j))) μ:=rfl
theorem vy4 (i j:Int) (μ:Mu) (Q:VK3):neR (.int i) (.int j) μ Q=Q (.bl (!decide (i=j))) μ:=rfl
theorem to2 {x y:D} {p q:PyData} (e:eqS x y=none) (h1:datM μ x=some p) (h2:datM μ y=some q) (d1:p.depth<=64) (d2:q.depth<=64):eqR x y μ Q=Q (.bl (PyData.eqv p q)) μ:=by
 unfold eqR; simp_all
theorem to1 {x y:D} {p q:PyData} (e:eqS x y=none) (h1:datM μ x=some p) (h2:datM μ y=some q) (d1:p.depth<=64) (d2:q.depth<=64):neR x y μ Q=Q (.bl (!PyData.eqv p q)) μ:=by
 unfold neR; simp_all
def strs?:List D->Option (List Str)
 | []=>some []
 | .str x :: r=>match strs? r with
  | some l=>some (x :: l)
  | none=>none
 | _ :: _=>none
def inD (neg:Bool):R3:=λ x y μ Q=>match datM μ x,datM μ y with
 | some d,some (.list xs)=>(d.depth<=64 /\ (PyData.list xs).depth<=64) /\ Q (.bl (if neg then !(xs.any λ e=>PyData.eqv e d) else xs.any λ e=>PyData.eqv e d)) μ
 | some d,some (.tuple xs)=>(d.depth<=64 /\ (PyData.tuple xs).depth<=64) /\ Q (.bl (if neg then !(xs.any λ e=>PyData.eqv e d) else xs.any λ e=>PyData.eqv e d)) μ
 | _,_=>False
def inR (neg:Bool):R3:=λ x y μ Q=>match x,y with
 | .str z,.ktp l=>match strs? l with
  | some zs=>Q (.bl (if neg then !zs.contains z else zs.contains z)) μ
  | none=>inD neg (.str z) (.ktp l) μ Q
 | x,y=>inD neg x y μ Q
def ixR:R3:=λ x y μ Q=>match x,y with
 | .tup l,.int i=>match atI l i with
  | some d=>Q d μ
  | none=>False
 | .ktp l,.int i=>match atI l i with
  | some d=>Q d μ
  | none=>False
 | .fls l,.int i=>match atI l i with
  | some d=>Q d μ
  | none=>False
 | .ref p,.int i=>match μ p with
  | some (.lst l)=>match atI l i with
   | some d=>Q d μ
   | none=>False
  | _=>False
 | _,_=>False
def lenR:C3:=λ ds μ Q=>match ds with
 | [.tup l]=>Q (.int l.length) μ
 | [.fls l]=>Q (.int l.length) μ
 | [.str z]=>z.length<=sizeLine /\ Q (.int z.length) μ
 | [.ref p]=>match μ p with
  | some (.lst l)=>Q (.int l.length) μ
  | _=>False
 | _=>False
def intR:C3:=λ ds μ Q=>match ds with
 | [.int i]=>Q (.int i) μ
 | [.bl b]=>Q (.int (if b then 1 else 0)) μ
 | [.str z]=>match PySem.intText? z with
  | some n=>z.length<=640 /\ Q (.int n) μ
  | none=>False
 | _=>False
def strR:C3:=λ ds μ Q=>match ds with
 | [.int i]=>i.natAbs.log2 < 1920 /\ Q (.str (toString i)) μ
 | _=>False
def smt3 (r:Str->List D->Mu->VK3->Prop) (to:TE3) (t:TA3):TE3:=λ ρ μ Q=>to ρ μ λ x μ1=>match x with
 | .str z=>t ρ μ1 λ ds μ2=>r z ds μ2 Q
 | _=>False
def yq0:Str->List D->Mu->VK3->Prop:=λ z ds μ Q=>match ds with
 | [.ref p]=>match μ p with
  | some (.lst l)=>match strs? l with
   | some ys=>(z.length<=16 /\ (ys.map (·.length)).sum + ys.length<=1048576) /\ Q (.str (Str.join z ys)) μ
   | none=>False
  | _=>False
 | _=>False
def tv0:Str->List D->Mu->VK3->Prop:=λ z ds μ Q=>match ds with
 | [.str y]=>((y.length == 0)=false /\ z.length<=1000000) /\ ∀ r,μ r=none->Q (.ref r) (updM μ r (.lst ((Txt.split z y).map D.str)))
 | _=>False
def tupR:C3:=λ ds μ Q=>match ds with
 | [.tup l]=>Q (.tup l) μ
 | [.ref p]=>match μ p with
  | some (.lst l)=>Q (.tup l) μ
  | _=>False
 | _=>False
def ints?:List D->Option (List Int)
 | []=>some []
 | .int x :: r=>match ints? r with
  | some l=>some (x :: l)
  | none=>none
 | _ :: _=>none
def bls?:List D->Option (List Bool)
 | []=>some []
 | .bl x :: r=>match bls? r with
  | some l=>some (x :: l)
  | none=>none
 | _ :: _=>none
def allR:C3:=λ ds μ Q=>match ds with
 | [.ref p]=>match μ p with
  | some (.lst l)=>match bls? l with
   | some bs=>Q (.bl (bs.all id)) μ
   | none=>False
  | _=>False
 | _=>False
def tyN (μ:Mu):D->Option String
 | .int _=>some "int"
 | .bl _=>some "bool"
 | .str _=>some "str"
 | .tup _=>some "tuple"
 | .non=>some "NoneType"
 | .ref p=>match μ p with
  | some (.lst _)=>some "list"
  | _=>none
 | _=>none
def isIn (t T:String):Option Bool :=
 if t=T then some true
 else if t = "bool" /\ T = "int" then some true
 else if (t = "int" \/ t = "str" \/ t = "tuple" \/ t = "bool" \/ t = "NoneType" \/ t = "list") /\ (T = "int" \/ T = "str" \/ T = "tuple" \/ T = "bool" \/ T = "list") then some false
 else none
def isiR:C3:=λ ds μ Q=>match ds with
 | [d,.ty T]=>match tyN μ d with
  | some t=>match isIn t T with
   | some b=>Q (.bl b) μ
   | none=>False
  | none=>False
 | _=>False
def appR:D->List D->Mu->VK3->Prop:=λ x ds μ Q=>match x,ds with
 | .ref p,[d]=>match μ p with
  | some (.lst l)=>l.length < sizeLine /\ Q .non (updM μ p (.lst (l ++ [d])))
  | _=>False
 | _,_=>False
def extR:D->List D->Mu->VK3->Prop:=λ x ds μ Q=>match x,ds with
 | .ref p,[.ref q]=>match μ p,μ q with
  | some (.lst l),some (.lst m)=>l.length + m.length<=sizeLine /\ Q .non (updM μ p (.lst (l ++ m)))
  | _,_=>False
 | _,_=>False
theorem atI0 {α:Type} {a:α} {r:List α}:atI (a :: r) 0=some a:=by
 unfold atI ixN; simp
theorem atI1 {α:Type} {a b:α} {r:List α}:atI (a :: b :: r) 1=some b:=by
 unfold atI ixN; rw [if_pos [14],if_pos [57]]; rfl
theorem ixN0 {n:Nat}:ixN (n + 1) 0=some 0:=by
 unfold ixN; simp
theorem xt2 {α:Type} {l:List α} {i:Int} (h0:0<=i) (h1:i < l.length):∃ d,d ∈ l /\ atI l i=some d:=by
 have hn:i.toNat < l.length:=by omega
 refine ⟨l[i.toNat],getElem_mem hn,?_⟩;unfold atI ixN
 simp_all
def xb0 (N:[35]) (ds:List D):St3:=ds.map some ++ List.replicate (N.length - ds.length) none
end Pv
namespace Pv
open PySem L2
abbrev Fg:=PySem.W.Frag
structure Kp (H H':Hp):Prop where
 tup:∀ b xs,H b=some (.tup xs)->H' b=some (.tup xs)
 frz:∀ b o u,H b=some (.frz o u)->H' b=some (.frz o u)
theorem Kp.refl (H:Hp):Kp H H:=⟨λ _ _ h=>h,λ _ _ _ h=>h⟩
theorem Kp.trans {a b c:Hp} (h:Kp a b) (k:Kp b c):Kp a c:=⟨λ x xs q=>k.tup x xs (h.tup x xs q),λ x o u q=>k.frz x o u (h.frz x o u q)⟩
variable {H:Hp} {p:Addr} {o:HO}
theorem Kp.new (h:H p=none):Kp H (upd H p o) :=
 ⟨λ b xs q=>by rw [xc0 (we0 q h)]; exact q,λ b o u q=>by rw [xc0 (we0 q h)]; exact q⟩
variable {xs:List V}
theorem Kp.wr (h:H p=some (.lst xs)):Kp H (upd H p o) :=
 ⟨λ b ys q=>by rw [xc0 (wl2 q h (by intro z; cases z))]; exact q,λ b o u q=>by rw [xc0 (wl2 q h (by intro z; cases z))]; exact q⟩
def SqF (K:Fg) (H:Hp) (a:Addr) (xs:List V):Prop :=
 (∃ o,H a=some (.frz o (.lst xs))) \/ ∃ (o:Obj) (its:Array Value) (n:Nat),K.lookup a=some o /\ o.cls=.type "list" /\ o.dict=none /\ o.data=.seq its n /\ its.size<=sizeLine /\ Vals xs its.toList
variable {K:Fg}
theorem SqF.l {a:Addr} (h:SqF K H a xs):SqL K H a xs:=by
 rcases h with ⟨o,h⟩ | h
 ·exact .inl (.inr ⟨o,h⟩)
 ·exact .inr h
theorem SqF.mono {H':Hp} {a:Addr} (k:Kp H H') (h:SqF K H a xs):SqF K H' a xs:=by
 rcases h with ⟨o,h⟩ | h
 ·exact .inl ⟨o,k.frz _ _ _ h⟩
 ·exact .inr h
theorem SqT.mono {H':Hp} {a:Addr} (k:Kp H H') (h:SqT K H a xs):SqT K H' a xs:=by
 rcases h with h | h
 ·rcases h with h | ⟨o,h⟩
  ·exact .inl (.inl (k.tup _ _ h))
  ·exact .inl (.inr ⟨o,k.frz _ _ _ h⟩)
 ·exact .inr h
mutual
inductive RelD (K:Fg) (H:Hp):D->V->Prop where
 | non:RelD K H .non .non
 | bl (b:Bool):RelD K H (.bl b) (.bl b)
 | int (i:Int):RelD K H (.int i) (.int i)
 | str (x:Str):RelD K H (.str x) (.str x)
 | ref (a:Addr):RelD K H (.ref a) (.ref a)
 | ty (n:String):RelD K H (.ty n) (.ty n)
 | tup {a:Addr} {l:List D} {vs:List V}:H a=some (.tup vs)->RelDs K H l vs->RelD K H (.tup l) (.ref a)
 | ktp {a:Addr} {l:List D} {vs:List V}:SqT K H a vs->RelDs K H l vs->RelD K H (.ktp l) (.ref a)
 | fls {a:Addr} {l:List D} {vs:List V}:SqF K H a vs->RelDs K H l vs->RelD K H (.fls l) (.ref a)
 | exc {a C:Addr} {c:Str} {ob:Obj} {u:HO}:H a=some (.frz ob u)->ob.cls=.ref C->nsIn K mainGlobals c=some (some (.ref C))->RelD K H (.exc c) (.ref a)
inductive RelDs (K:Fg) (H:Hp):List D->List V->Prop where
 | nil:RelDs K H [] []
 | cons {d:D} {v:V} {l:List D} {vs:List V}:RelD K H d v->RelDs K H l vs->RelDs K H (d :: l) (v :: vs)
end
mutual
theorem RelD.mono {K:Fg} {H H':Hp} (k:Kp H H'):∀ {d:D} {v:V},RelD K H d v->RelD K H' d v
 | _,_,.non=>.non
 | _,_,.bl b=>.bl b
 | _,_,.int b=>.int b
 | _,_,.str b=>.str b
 | _,_,.ref b=>.ref b
 | _,_,.ty b=>.ty b
 | _,_,.tup h r=>.tup (k.tup _ _ h) (RelDs.mono k r)
 | _,_,.ktp h r=>.ktp (SqT.mono k h) (RelDs.mono k r)
 | _,_,.fls h r=>.fls (SqF.mono k h) (RelDs.mono k r)
 | _,_,.exc h r1 r2=>.exc (k.frz _ _ _ h) r1 r2
theorem RelDs.mono {K:Fg} {H H':Hp} (k:Kp H H'):∀ {d:List D} {v:List V},RelDs K H d v->RelDs K H' d v
 | _,_,.nil=>.nil
 | _,_,.cons h r=>.cons (RelD.mono k h) (RelDs.mono k r)
end
theorem RelDs.length {K:Fg} {H:Hp}:∀ {l:List D} {vs:List V},RelDs K H l vs->l.length=vs.length
 | _,_,.nil=>rfl
 | _,_,.cons _ r=>congrArg (· + 1) r.length
theorem RelDs.get {K:Fg} {H:Hp}:∀ {l:List D} {vs:List V} {i:Nat} {d:D},RelDs K H l vs->l[i]?=some d->∃ v,vs[i]?=some v /\ RelD K H d v
 | _,_,_,_,.nil,e=>by simp at e
 | _,_,0,_,.cons h _,e=>by simp_all
 | _,_,i + 1,d,.cons _ r,e=>by
  obtain ⟨v,h1,h2⟩:=RelDs.get (i:=i) (d:=d) r (by simpa using e)
  simp_all
theorem RelDs.append {K:Fg} {H:Hp}:∀ {l m:List D} {vs us:List V},RelDs K H l vs->RelDs K H m us->RelDs K H (l ++ m) (vs ++ us)
 | _,_,_,_,.nil,q=>q
 | _,_,_,_,.cons h r,q=>.cons h (RelDs.append r q)
theorem RelDs.set {K:Fg} {H:Hp} {d:D} {v:V} (hd:RelD K H d v):∀ {l:List D} {vs:List V} (i:Nat),RelDs K H l vs->RelDs K H (l.set i d) (vs.set i v)
 | _,_,_,.nil=>.nil
 | _,_,0,.cons _ r=>.cons hd r
 | _,_,i + 1,.cons h r=>.cons h (RelDs.set hd i r)
theorem RelDs.take {K:Fg} {H:Hp}:∀ {l:List D} {vs:List V} (n:Nat),RelDs K H l vs->RelDs K H (l.take n) (vs.take n)
 | _,_,0,r=>by simp only [List.take_zero]; exact .nil
 | _,_,n + 1,.nil=>by simp only [List.take_nil]; exact .nil
 | _,_,n + 1,.cons h r=>by simp only [List.take_succ_cons]; exact .cons h (RelDs.take n r)
theorem RelDs.drop {K:Fg} {H:Hp}:∀ {l:List D} {vs:List V} (n:Nat),RelDs K H l vs->RelDs K H (l.drop n) (vs.drop n)
 | _,_,0,r=>by assumption
 | _,_,n + 1,.nil=>by simp only [List.drop_nil]; exact .nil
 | _,_,n + 1,.cons h r=>by simp only [List.drop_succ_cons]; exact RelDs.drop n r
def kL (k:[64]):List Key:=k.map Sum.inl
inductive RelKl (K:Fg) (H:Hp):List (List Int × D)->List (List Key × V)->Prop where
 | nil:RelKl K H [] []
 | cons {t:List Int} {d:D} {v:V} {l:List (List Int × D)} {vs:List (List Key × V)}:RelD K H d v->RelKl K H l vs->RelKl K H ((t,d) :: l) ((kL t,v) :: vs)
theorem RelKl.mono {K:Fg} {H H':Hp} (k:Kp H H') {l:[41]} {vs:List (List Key × V)} (r:RelKl K H l vs):RelKl K H' l vs:=by
 induction r with
 | nil=>exact .nil
 | cons h _ ih=>exact .cons (h.mono k) ih
inductive RelX (K:Fg) (H:Hp) (p:Addr):MO->HO->Prop where
 | lst {xs:List D} {vs:List V}:RelDs K H xs vs->RelX K H p (.lst xs) (.lst vs)
 | dcl {b:Bool} {xs:List (List Int × D)} {vs:List (List Key × V)} {n:Nat}:RelKl K H xs vs->(b=false->n=vs.length)->RelX K H p (.dcl b xs) (.dT vs n)
theorem RelX.mono {K:Fg} {H H':Hp} (k:Kp H H') {p:Addr} {o:MO} {u:HO} (r:RelX K H p o u):RelX K H' p o u:=by
 cases r with
 | lst r=>exact .lst (r.mono k)
 | dcl r c=>exact .dcl (r.mono k) c
structure RelM (K:Fg) (μ:Mu) (H:Hp):Prop where
 at':∀ p o,μ p=some o->∃ u,H p=some u /\ RelX K H p o u
section
variable {μ:Mu} 
theorem RelM.lst (m:RelM K μ H) (p:Addr) (xs:List D) (e:μ p=some (.lst xs)):∃ vs,H p=some (.lst vs) /\ RelDs K H xs vs:=by
 obtain ⟨_,h,r⟩:=m.at' p _ e;cases r with
 | lst r=>exact ⟨_,h,r⟩
theorem RelM.dcl (m:RelM K μ H) (p:Addr) (b:Bool) (xs:[41]) (e:μ p=some (.dcl b xs)):∃ vs n,H p=some (.dT vs n) /\ RelKl K H xs vs /\ (b=false->n=vs.length):=by
 obtain ⟨_,h,r⟩:=m.at' p _ e;cases r with
 | dcl r c=>exact ⟨_,_,h,r,c⟩
noncomputable instance:CoeFun (RelM K μ H) (λ _=>∀ p xs,μ p=some (.lst xs)->∃ vs,H p=some (.lst vs) /\ RelDs K H xs vs):=⟨RelM.lst⟩
theorem RelM.free (m:RelM K μ H) (h:H p=none):μ p=none:=by
 cases e:μ p with
 | none=>rfl
 | some o=>obtain ⟨_,q,_⟩:=m.at' p o e; rw [h] at q; cases q
theorem RelM.newT (h:H p=none) (m:RelM K μ H):RelM K μ (upd H p o):=⟨λ q u e=>by
 obtain ⟨O,q1,r⟩:=m.at' q u e;exact ⟨O,by rw [xc0 (λ z=>by rw [z,h] at q1; cases q1)]; exact q1,r.mono (Kp.new h)⟩⟩
theorem RelM.put {o:MO} {u:HO} (k:Kp H (upd H p u)) (r:RelX K H p o u) (m:RelM K μ H):RelM K (updM μ p o) (upd H p u):=⟨λ q x e=>by
 by_cases z:q=p
 ·subst z; rw [za0] at e; cases e; exact ⟨u,ue0,r.mono k⟩
 ·rw [ta0 z] at e;obtain ⟨O,q1,r⟩:=m.at' q x e;exact ⟨O,by rw [xc0 z]; exact q1,r.mono k⟩⟩
theorem RelM.newL {xs:List D} {vs:List V} (h:H p=none) (r:RelDs K H xs vs) (m:RelM K μ H):RelM K (updM μ p (.lst xs)) (upd H p (.lst vs)):=m.put (Kp.new h) (.lst r)
theorem RelM.wr {xs:List D} {vs ws:List V} (h:H p=some (.lst ws)) (r:RelDs K H xs vs) (m:RelM K μ H):RelM K (updM μ p (.lst xs)) (upd H p (.lst vs)):=m.put (Kp.wr h) (.lst r)
end
structure RSt (K:Fg) (H:Hp) (ρ:St3) (σ:St):Prop where
 len:ρ.length=σ.length
 at':∀ i d,getI ρ i=some d->∃ v,σ[i]?=some (some v) /\ RelD K H d v
theorem RSt.mono {K:Fg} {H H':Hp} {ρ:St3} {σ:St} (k:Kp H H') (s:RSt K H ρ σ):RSt K H' ρ σ:=⟨s.len,λ i d e=>let ⟨v,h,r⟩:=s.at' i d e; ⟨v,h,r.mono k⟩⟩
theorem vg1:∀ (ρ:St3) (i j:Nat) (d:Option D),getI (ρ.set i d) j=if i=j /\ i < ρ.length then d else getI ρ j
 | [],i,j,d=>by simp [getI]
 | o :: r,0,0,d=>by simp [getI]
 | o :: r,0,j + 1,d=>by simp [getI]
 | o :: r,i + 1,0,d=>by simp [getI]
 | o :: r,i + 1,j + 1,d=>by simp only [set_cons_succ,getI,vg1 r i j d,length_cons]; simp
theorem RSt.set {K:Fg} {H:Hp} {ρ:St3} {σ:St} {d:D} {v:V} (i:Nat) (r:RelD K H d v) (s:RSt K H ρ σ):RSt K H (ρ.set i (some d)) (σ.set i (some v)):=by
 refine ⟨by simp [s.len],λ j e h=>?_⟩;rw [vg1] at h;split at h
 ·next c =>
  obtain ⟨rfl,c2⟩:=c;cases h;exact ⟨v,by rw [List.getElem?_set_self (by rw [<- s.len]; exact c2)],r⟩
 ·next c =>
  obtain ⟨u,q,r'⟩:=s.at' j e h;have hj:j < σ.length:=(List.getElem?_eq_some_iff.mp q).1;by_cases z:i=j
  ·subst z; exact absurd ⟨rfl,by rw [s.len]; exact hj⟩ c
  simp_all
theorem RSt.start {K:Fg} {H:Hp} {ds:List D} {vs:List V} (N:[35]) (r:RelDs K H ds vs):RSt K H (xb0 N ds) (L2.start N vs):=by
 have hl:=r.length;refine ⟨by simp [xb0,L2.start,hl],λ i d e=>?_⟩;rw [tp1] at e;unfold xb0 at e;unfold L2.start;by_cases c:i < ds.length
 ·rw [List.getElem?_append_left (by simpa using c),getElem?_map] at e;cases q:ds[i]? with
  | none=>simp_all
  | some d' =>
   rw [q] at e;have e':d'=d:=by simpa using e
   subst e';obtain ⟨v,h1,h2⟩:=r.get q;exact ⟨v,by rw [List.getElem?_append_left [36],getElem?_map,h1]; rfl,h2⟩
 ·rw [List.getElem?_append_right (by simpa using c),List.getElem?_replicate] at e;split at e <;> simp at e
abbrev Ks (K:Fg) (H:Hp) (Q3:VK3) (Q:VK):Prop:=∀ d μ' v H',Q3 d μ'->Kp H H'->RelD K H' d v->RelM K μ' H'->Q v H'
theorem Ks.after {H1:Hp} {Q3:VK3} {Q:VK} (k:Ks K H Q3 Q) (e:Kp H H1):Ks K H1 Q3 Q:=λ d μ v H' q e'=>k d μ v H' q (e.trans e')
def RdE (K:Fg) (tv:TE) (t:TE3):Prop:=∀ σ H Q ρ μ Q3,RSt K H ρ σ->RelM K μ H->t ρ μ Q3->Ks K H Q3 Q->tv σ H Q
def RE (X:Cx) (e:Expr) (t:TE3):Prop:=∃ tv,PE X e tv /\ RdE X.K tv t
def RdT (K:Fg) (tv:TT) (t:TT3):Prop:=∀ σ H Q ρ μ Q3,RSt K H ρ σ->RelM K μ H->t ρ μ Q3->(∀ b μ' H',Q3 b μ'->Kp H H'->RelM K μ' H'->Q b H')->tv σ H Q
def RT (X:Cx) (e:Expr) (t:TT3):Prop:=∃ tv,PT X e tv /\ RdT X.K tv t
def RW (X:Cx) (e:Expr) (t:TT3):Prop:=∃ tv,PW X e tv /\ RdT X.K tv t
def RdA (K:Fg) (tv:TA) (t:TA3):Prop:=∀ σ H Q ρ μ Q3,RSt K H ρ σ->RelM K μ H->t ρ μ Q3->(∀ ds μ' vs H',Q3 ds μ'->Kp H H'->RelDs K H' ds vs->RelM K μ' H'->Q vs H')->tv σ H Q
def RA (X:Cx) (es:[67]) (t:TA3):Prop:=∃ tv,PA X es tv /\ RdA X.K tv t
structure KsD (K:Fg) (H:Hp) (D3:Ends3) (D:Ends):Prop where
 nx:∀ ρ μ σ H',D3.nx ρ μ->Kp H H'->RSt K H' ρ σ->RelM K μ H'->D.nx σ H'
 bk:∀ ρ μ σ H',D3.bk ρ μ->Kp H H'->RSt K H' ρ σ->RelM K μ H'->D.bk σ H'
 ct:∀ ρ μ σ H',D3.ct ρ μ->Kp H H'->RSt K H' ρ σ->RelM K μ H'->D.ct σ H'
 rt:Ks K H D3.rt D.rt
theorem KsD.after {K:Fg} {H H1:Hp} {D3:Ends3} {D:Ends} (k:KsD K H D3 D) (e:Kp H H1):KsD K H1 D3 D :=
 ⟨λ ρ μ σ H' q e'=>k.nx ρ μ σ H' q (e.trans e'),λ ρ μ σ H' q e'=>k.bk ρ μ σ H' q (e.trans e'),λ ρ μ σ H' q e'=>k.ct ρ μ σ H' q (e.trans e'),k.rt.after e⟩
def RdS (K:Fg) (tv:TS) (t:TS3):Prop:=∀ σ H D ρ μ D3,RSt K H ρ σ->RelM K μ H->t D3 ρ μ->KsD K H D3 D->tv D σ H
def RS (X:Cx) (st:Stmt) (t:TS3):Prop:=∃ tv,PS X st tv /\ RdS X.K tv t
def RSs (X:Cx) (st:List Stmt) (t:TS3):Prop:=∃ tv,PSs X st tv /\ RdS X.K tv t
def RdG (K:Fg) (tv:TG) (t:TG3):Prop:=∀ v d σ H Q ρ μ Q3,RSt K H ρ σ->RelM K μ H->RelD K H d v->t d ρ μ Q3->(∀ ρ' μ' σ' H',Q3 ρ' μ'->Kp H H'->RSt K H' ρ' σ'->RelM K μ' H'->Q σ' H')->tv v σ H Q
def RG (X:Cx) (e:Expr) (t:TG3):Prop:=∃ tv,PG X e tv /\ RdG X.K tv t
def RdGs (K:Fg) (tv:TGs) (t:TGs3):Prop:=∀ vs ds σ H Q ρ μ Q3,RSt K H ρ σ->RelM K μ H->RelDs K H ds vs->t ds ρ μ Q3->(∀ ρ' μ' σ' H',Q3 ρ' μ'->Kp H H'->RSt K H' ρ' σ'->RelM K μ' H'->Q σ' H')->tv vs σ H Q
def RGs (X:Cx) (es:[67]) (t:TGs3):Prop:=∃ tv,PGs X es tv /\ RdGs X.K tv t
def RdO (K:Fg) (r:R2) (r3:R3):Prop:=∀ x y v u H Q μ Q3,RelM K μ H->RelD K H x v->RelD K H y u->r3 x y μ Q3->Ks K H Q3 Q->r v u H Q
def RO (X:Cx) (f:Value->Value->Sem Value) (r3:R3):Prop:=∃ r,OpR X f r /\ RdO X.K r r3
def RdU (K:Fg) (r:V->Hp->VK->Prop) (r3:D->Mu->VK3->Prop):Prop:=∀ x v H Q μ Q3,RelM K μ H->RelD K H x v->r3 x μ Q3->Ks K H Q3 Q->r v H Q
def RU (X:Cx) (f:Value->Sem Value) (r3:D->Mu->VK3->Prop):Prop:=∃ r,UnR X f r /\ RdU X.K r r3
def RdC (K:Fg) (r:List V->Hp->VK->Prop) (r3:C3):Prop:=∀ xs vs H Q μ Q3,RelM K μ H->RelDs K H xs vs->r3 xs μ Q3->Ks K H Q3 Q->r vs H Q
def RC (X:Cx) (f:Value) (r3:C3):Prop:=∃ r,CallR X f r /\ RdC X.K r r3
def RX (X:Cx) (r3:R3):Prop:=∃ r,IxR X r /\ RdO X.K r r3
variable {x:Str} {d:D} {i:Nat} {r3:R3} {va:TE} {g:TG3}
section
variable {X:Cx} {a b c e:Expr} {ta tb tc te:TE3} {pos:Pos}
theorem sb0 (i:Nat) (hN:X.N[i]?=some x:=by rfl) (hv:Vis X.env.scope x:=by trivial) (hd:[23]=false:=by decide)
    (hcd:(x == ("__classdict__" : Str))=false:=by decide):RE X (.Name x pos) (v3 i):=by
 refine ⟨_,tg3 hN hv hd hcd,λ σ H Q ρ μ Q3 s m h k=>?_⟩;unfold v3 at h;cases q:getI ρ i with
 | none=>simp_all
 | some d =>
  rw [q] at h;obtain ⟨v,e,r⟩:=s.at' i d q;exact ⟨v,e,k d μ v H h (Kp.refl H) r m⟩
theorem RdE.cst {v:V} (r:∀ H,RelD K H d v):RdE K (tC v) (c3 d):=λ σ H Q ρ μ Q3 s m h k=>k d μ v H h (Kp.refl H) (r H) m
theorem tc0 {i:Int} {j}:RE X (.Constant (.int i) j pos) (c3 (.int i)):=⟨_,zw4,RdE.cst λ _=>.int i⟩
theorem vb2 {i:Bool} {j}:RE X (.Constant (.bool i) j pos) (c3 (.bl i)):=⟨_,pe_bl,RdE.cst λ _=>.bl i⟩
theorem vi2 {j}:RE X (.Constant .none j pos) (c3 .non):=⟨_,xw4,RdE.cst λ _=>.non⟩
theorem yg0 {j}:RE X (.Constant (.str x) j pos) (c3 (.str x)):=⟨_,uv4,RdE.cst λ _=>.str x⟩
def Gd (K:Fg) (mg:[24]) (x:Str) (d:D):Prop:=∃ u v,mg x=some u /\ RelV v u /\ ∀ H,RelD K H d v
theorem re_g (g:Gd X.K X.mg x d) (hg:Gl X x:=by rfl) (hd:[23]=false:=by decide):RE X (.Name x pos) (c3 d):=by
 obtain ⟨u,v,hm,r,rd⟩:=g;exact ⟨_,tu3 hg hm r hd,RdE.cst rd⟩
theorem xr3 {T:String} (hm:X.mg x=none) (hv:bootBuiltins x=some (.type T)) (hg:Gl X x:=by rfl) (hn:x ≠ "__name__" := by decide) (hd:[23]=false:=by decide):RE X (.Name x pos) (c3 (.ty T)) :=
 ⟨_,vk2 hg hm hv (show RelV (.ty T) (.type T) from rfl) hn hd,RdE.cst λ _=>.ty T⟩
theorem xl0 {op:Operator} (ho:RO X (binaryOp op) r3) (ha:RE X a ta) (hb:RE X b tb):RE X (.BinOp a op b pos) (o3 r3 ta tb):=by
 obtain ⟨r,po,ro⟩:=ho;obtain ⟨va,pa,ra⟩:=ha;obtain ⟨vb,pb,rb⟩:=hb
 exact ⟨_,pe_op po pa pb,λ σ H Q ρ μ Q3 s m h k=>ra σ H _ ρ μ _ s m h λ x μ1 v H1 h1 k1 r1 m1=>rb σ H1 _ ρ μ1 _ [63] m1 h1 λ y μ2 u H2 h2 k2 r2 m2 =>
  ro x y v u H2 Q μ2 Q3 m2 (r1.mono k2) r2 h2 (k.after (k1.trans k2))⟩
theorem vk5 {op:UnaryOp} {r3:D->Mu->VK3->Prop} (ho:RU X (unaryOp op) r3) (ha:RE X a ta):RE X (.UnaryOp op a pos) (un3 r3 ta):=by
 obtain ⟨r,po,ro⟩:=ho;obtain ⟨va,pa,ra⟩:=ha;exact ⟨_,pe_un po pa,λ σ H Q ρ μ Q3 s m h k=>ra σ H _ ρ μ _ s m h λ x μ1 v H1 h1 k1 r1 m1=>ro x v H1 Q μ1 Q3 m1 r1 h1 (k.after k1)⟩
theorem RdE.op {r:R2} {vb:TE} (ra:RdE K va ta) (rb:RdE K vb tb) (ro:RdO K r r3):RdE K (tOp r va vb) (o3 r3 ta tb):=λ σ H Q ρ μ Q3 s m h k =>
 ra σ H _ ρ μ _ s m h λ x μ1 v H1 h1 k1 r1 m1=>rb σ H1 _ ρ μ1 _ [63] m1 h1 λ y μ2 u H2 h2 k2 r2 m2=>ro x y v u H2 Q μ2 Q3 m2 (r1.mono k2) r2 h2 (k.after (k1.trans k2))
theorem RdT.test (ra:RdE K va ta):RdT K (tm3 va) (b3 ta):=λ σ H Q ρ μ Q3 s m h k=>by
 refine ra σ H _ ρ μ _ s m h λ d μ1 v H1 h1 k1 r1 m1=>?_;cases r1 with
 | bl c=>exact ⟨c,rfl,k c μ1 H1 h1 k1 m1⟩
 | _=>exact False.elim h1
theorem zp4 {op:CmpOp} (ho:RO X (compareOp op) r3) (ha:RE X a ta) (hb:RE X b tb) (hm:behindInMarks op b=false:=by first | exact wu1 _ | with_unfolding_all rfl):RE X (.Compare a [op] [b] pos) (o3 r3 ta tb):=by
 obtain ⟨r,po,ro⟩:=ho;obtain ⟨va,pa,ra⟩:=ha;obtain ⟨vb,pb,rb⟩:=hb;exact ⟨_,xv3 po pa pb hm,ra.op rb ro⟩
theorem sf0 {op:CmpOp} (ho:RO X (compareOp op) r3) (ha:RE X a ta) (hb:RE X b tb) (hm:behindInMarks op b=false:=by first | exact wu1 _ | with_unfolding_all rfl):RT X (.Compare a [op] [b] pos) (b3 (o3 r3 ta tb)):=by
 obtain ⟨r,po,ro⟩:=ho;obtain ⟨va,pa,ra⟩:=ha;obtain ⟨vb,pb,rb⟩:=hb;exact ⟨_,ts3 po pa pb hm,RdT.test (ra.op rb ro)⟩
theorem xs1 (ha:RE X a ta) (he:∀ whole,isTrue a X.env whole=(do let v <- whole; standAt a.pos; holding [v] (truthy v)):=by intro _; rfl):RT X a (b3 ta):=by
 obtain ⟨va,pa,ra⟩:=ha;exact ⟨_,zu4 pa he,RdT.test ra⟩
variable {tA tB':TT3} {rest:[67]}
theorem RW.pt (h:RW X a tA):RT X a tA:=let ⟨t,p,r⟩:=h; ⟨t,p.pt,r⟩
theorem vm4 (h:RW X a tA):RT X a tA:=h.pt
theorem wp3 (h:RT X a tA):RW X (.BoolOp .And [a] pos) tA:=let ⟨t,p,r⟩:=h; ⟨t,ws3 p,r⟩
theorem wf3 (h:RT X a tA):RW X (.BoolOp .Or [a] pos) tA:=let ⟨t,p,r⟩:=h; ⟨t,xu4 p,r⟩
theorem tm4 (ha:RT X a tA) (hb:RW X (.BoolOp .And (b :: rest) pos) tB'):RW X (.BoolOp .And (a :: b :: rest) pos) (and3 tA tB'):=by
 obtain ⟨va,pa,ra⟩:=ha;obtain ⟨vb,pb,rb⟩:=hb;refine ⟨_,yu4 pa pb,λ σ H Q ρ μ Q3 s m h k=>ra σ H _ ρ μ _ s m h λ c μ1 H1 h1 k1 m1=>?_⟩;cases c with
 | true=>exact rb σ H1 Q ρ μ1 Q3 [63] m1 h1 λ b μ' H' q e=>k b μ' H' q (k1.trans e)
 | false=>exact k _ _ _ h1 k1 m1
theorem um4 (ha:RT X a tA) (hb:RW X (.BoolOp .Or (b :: rest) pos) tB'):RW X (.BoolOp .Or (a :: b :: rest) pos) (or3 tA tB'):=by
 obtain ⟨va,pa,ra⟩:=ha;obtain ⟨vb,pb,rb⟩:=hb;refine ⟨_,pw_or pa pb,λ σ H Q ρ μ Q3 s m h k=>ra σ H _ ρ μ _ s m h λ c μ1 H1 h1 k1 m1=>?_⟩;cases c with
 | true=>exact k _ _ _ h1 k1 m1
 | false=>exact rb σ H1 Q ρ μ1 Q3 [63] m1 h1 λ b μ' H' q e=>k b μ' H' q (k1.trans e)
theorem ys1 (ha:RT X a tA):RT X (.UnaryOp .Not a pos) (not3 tA):=by
 obtain ⟨va,pa,ra⟩:=ha;exact ⟨_,wu4 pa,λ σ H Q ρ μ Q3 s m h k=>ra σ H _ ρ μ _ s m h λ c μ1 H1 h1 k1 m1=>k _ _ _ h1 k1 m1⟩
theorem so4 {op} (h:RE X a ta):RE X (.BoolOp op [a] pos) ta:=let ⟨t,p,r⟩:=h; ⟨t,tv4 p,r⟩
theorem vp4 (ha:RE X a ta) (hb:RE X (.BoolOp .And (b :: rest) pos) tb):RE X (.BoolOp .And (a :: b :: rest) pos) (yb4 ta tb):=by
 obtain ⟨va,pa,ra⟩:=ha;obtain ⟨vb,pb,rb⟩:=hb;refine ⟨_,vw4 pa pb,λ σ H Q ρ μ Q3 s m h k=>ra σ H _ ρ μ _ s m h λ d μ1 v H1 h1 k1 r1 m1=>?_⟩;cases r1 with
 | bl c =>
  refine ⟨c,rfl,?_⟩;cases c with
  | true=>exact rb σ H1 Q ρ μ1 Q3 [63] m1 h1 (k.after k1)
  | false=>exact k _ _ _ _ h1 k1 (.bl _) m1
 | _=>exact False.elim h1
theorem xp4 (ha:RE X a ta):RE X (.UnaryOp .Not a pos) (yw3 ta):=by
 obtain ⟨va,pa,ra⟩:=ha;refine ⟨_,sv4 pa,λ σ H Q ρ μ Q3 s m h k=>ra σ H _ ρ μ _ s m h λ d μ1 v H1 h1 k1 r1 m1=>?_⟩;cases r1 with
 | bl c=>exact ⟨c,rfl,k _ _ _ _ h1 k1 (.bl _) m1⟩
 | _=>exact False.elim h1
variable {es:[67]} {t:TA3}
theorem yb0:RA X [] nil3:=⟨_,xh3,λ σ H Q ρ μ Q3 s m h k=>k [] μ [] H h (Kp.refl H) .nil m⟩
theorem ua0 (ha:RE X e te) (hr:RA X es t) (hs:starEach (e :: es) X.env=[26] :: starEach es X.env:=by rfl):RA X (e :: es) (xa0 te t):=by
 obtain ⟨va,pa,ra⟩:=ha;obtain ⟨vb,pb,rb⟩:=hr
 exact ⟨_,uo1 pa pb hs,λ σ H Q ρ μ Q3 s m h k=>ra σ H _ ρ μ _ s m h λ d μ1 v H1 h1 k1 r1 m1=>rb σ H1 _ ρ μ1 _ [63] m1 h1 λ ds μ2 vs H2 h2 k2 r2 m2 =>
  k _ _ _ _ h2 (k1.trans k2) (.cons (r1.mono k2) r2) m2⟩
theorem wi2 {x1} (h:RA X es t):RE X (.Tuple es x1 pos) (tup3 t):=by
 obtain ⟨va,pa,ra⟩:=h;refine ⟨_,vv4 pa,λ σ H Q ρ μ Q3 s m h k=>ra σ H _ ρ μ _ s m h λ ds μ1 vs H1 h1 k1 r1 m1=>⟨by rw [<- r1.length]; exact h1.1,λ p hp=>?_⟩⟩;exact k _ _ _ _ h1.2 (k1.trans (Kp.new hp)) (.tup ue0 (r1.mono (Kp.new hp))) (m1.newT hp)
theorem yt1 (h:RA X es t):RE X (.List es pos) (lst3 t):=by
 obtain ⟨va,pa,ra⟩:=h;refine ⟨_,yw4 pa,λ σ H Q ρ μ Q3 s m h k=>ra σ H _ ρ μ _ s m h λ ds μ1 vs H1 h1 k1 r1 m1=>⟨by rw [<- r1.length]; exact h1.1,λ p hp=>?_⟩⟩;exact k _ _ _ _ (h1.2 p (m1.free hp)) (k1.trans (Kp.new hp)) [66] (m1.newL hp r1)
variable {st:Stmt} {sts:List Stmt} {t3 u3:TS3}
theorem uh0:RSs X [] zb0:=⟨_,xt3,λ σ H D ρ μ D3 s m h k=>k.nx ρ μ σ H h (Kp.refl H) s m⟩
theorem ud0 (h:RS X st t3):RSs X [st] t3:=let ⟨t,p,r⟩:=h; ⟨t,ss3 p,r⟩
theorem ws1 (h1:RS X st t3) (h2:RSs X sts u3):RSs X (st :: sts) (seq3 t3 u3):=by
 obtain ⟨va,pa,ra⟩:=h1;obtain ⟨vb,pb,rb⟩:=h2;refine ⟨_,tw2 pa pb,λ σ H D ρ μ D3 s m h k=>ra σ H _ ρ μ _ s m h ⟨λ ρ1 μ1 σ1 H1 h1 k1 s1 m1=>rb σ1 H1 D ρ1 μ1 D3 s1 m1 h1 (k.after k1),k.bk,k.ct,k.rt⟩⟩
theorem wq3 (he:RE X e te) (hs:swapsWith e none pos.line X.env=pure false:=by rfl):RS X (.Expr e pos) (yo0 te):=by
 obtain ⟨va,pa,ra⟩:=he;exact ⟨_,wt3 pa hs,λ σ H D ρ μ D3 s m h k=>ra σ H _ ρ μ _ s m h λ d μ1 v H1 h1 k1 r1 m1=>k.nx ρ μ1 σ H1 h1 k1 [63] m1⟩
theorem wl0 (he:RE X e te):RS X (.Return (some e) pos) (ret3 te):=by
 obtain ⟨va,pa,ra⟩:=he;exact ⟨_,vu4 pa,λ σ H D ρ μ D3 s m h k=>ra σ H _ ρ μ _ s m h k.rt⟩
theorem xo1 {as bs:List Stmt} (hc:RT X c tA) (ha:RSs X as t3) (hb:RSs X bs u3):RS X (.If c as bs pos) (ifs3 tA t3 u3):=by
 obtain ⟨vc,pc,rc⟩:=hc;obtain ⟨va,pa,ra⟩:=ha;obtain ⟨vb,pb,rb⟩:=hb;refine ⟨_,ps_if pc pa pb,λ σ H D ρ μ D3 s m h k=>rc σ H _ ρ μ _ s m h λ c μ1 H1 h1 k1 m1=>?_⟩;cases c with
 | true=>exact ra σ H1 D ρ μ1 D3 [63] m1 h1 (k.after k1)
 | false=>exact rb σ H1 D ρ μ1 D3 [63] m1 h1 (k.after k1)
theorem xf1 (hN:X.N.Nodup) (hi:X.N[i]?=some x:=by rfl) (hx:Loc X.env.scope x:=by trivial) (hf:X.fn x=true \/ X.env.scope.names.lookup x=some .local:=by trivial) :
    RG X (.Name x pos) (gn3 i):=⟨_,vu3 hN hi hx hf,λ v d σ H Q ρ μ Q3 s m r h k=>k _ _ _ _ h (Kp.refl H) (s.set i r) m⟩
theorem xi2:RGs X [] yx0:=⟨_,wu3,λ vs ds σ H Q ρ μ Q3 s m r h k=>by
 cases r with
 | nil=>exact ⟨rfl,k _ _ _ _ h (Kp.refl H) s m⟩
 | cons _ _=>exact False.elim h⟩
theorem se1 {gs:TGs3} (h1:RG X e g) (h2:RGs X es gs) (hs:(assignEach (e :: es) X.env).map (·.2)=assign e X.env :: (assignEach es X.env).map (·.2):=by rfl):RGs X (e :: es) (ye0 g gs):=by
 obtain ⟨va,pa,ra⟩:=h1;obtain ⟨vb,pb,rb⟩:=h2;refine ⟨_,xx2 pa pb hs,λ vs ds σ H Q ρ μ Q3 s m r h k=>?_⟩;cases r with
 | nil=>exact False.elim h
 | cons r1 r2=>exact ⟨_,_,rfl,ra _ _ σ H _ ρ μ _ s m r1 h λ ρ1 μ1 σ1 H1 h1 k1 s1 m1=>rb _ _ σ1 H1 Q ρ1 μ1 Q3 s1 m1 (r2.mono k1) h1 λ ρ' μ' σ' H' q e=>k ρ' μ' σ' H' q (k1.trans e)⟩
theorem tf3 {kk:Nat} {gs:TGs3} {n:Nat} (hc:[82]) (h:RGs X es gs) (hn:(assignEach es X.env).length=n:=by rfl) (hst:(assignEach es X.env).findIdx? (·.1)=none:=by rfl):RG X (.Tuple es kk pos) (xx0 n gs):=by
 obtain ⟨va,pa,ra⟩:=h;refine ⟨_,zv4 hc pa hn hst,λ v d σ H Q ρ μ Q3 s m r h k=>?_⟩;cases r with
 | tup hq rs =>
  obtain ⟨hl,h⟩:=h;exact ⟨_,_,rfl,(SqT.of hq),by rw [<- rs.length]; exact hl,ra _ _ σ H Q ρ μ Q3 s m rs h k⟩
 | _=>exact False.elim h
theorem wn0 {pos':Pos} (hN:X.N.Nodup) (he:RE X e te) (hi:X.N[i]?=some x:=by rfl) (hx:Loc X.env.scope x:=by trivial) (hs:swapsWith e (some (.Name x pos')) pos.line X.env=pure false:=by rfl)
    (hf:X.fn x=true \/ X.env.scope.names.lookup x=some .local:=by trivial):RS X (.Assign [.Name x pos'] e pos) (set3 i te):=by
 obtain ⟨va,pa,ra⟩:=he;exact ⟨_,wj2 hN hi hx pa hs hf,λ σ H D ρ μ D3 s m h k=>ra σ H _ ρ μ _ s m h λ d μ1 v H1 h1 k1 r1 m1=>k.nx _ _ _ _ h1 k1 ([63].set i r1) m1⟩
theorem yo4 {tg:Expr} (he:RE X e te) (hg:RG X tg g) (hs:swapsWithSole [tg] e pos.line X.env=pure false:=by rfl) (hw:swappedStores [tg] e X.env=pure none:=by rfl)
    (h1:(assignEach [tg] X.env).map (·.2)=[assign tg X.env]:=by rfl):RS X (.Assign [tg] e pos) (asg3 te g):=by
 obtain ⟨va,pa,ra⟩:=he;obtain ⟨vg,pg,rg⟩:=hg;exact ⟨_,su4 pa pg hs hw h1,λ σ H D ρ μ D3 s m h k=>ra σ H _ ρ μ _ s m h λ d μ1 v H1 h1 k1 r1 m1=>rg v d σ H1 _ ρ μ1 _ [63] m1 r1 h1 λ ρ' μ' σ' H' q e=>k.nx ρ' μ' σ' H' q (k1.trans e)⟩
theorem yb5 (n:Nat) (i:Int):L2.ixN n i=ixN n i:=rfl
theorem uo4 {o i:Expr} {to ti:TE3} (ho:RE X o to) (hi:RE X i ti)
    (ha:∀ v,assign (.Subscript o i pos) X.env v=(do
     let ov <- holding [v] (eval o X.env)
     let iv <- holding [v,ov] (eval i X.env)
     standAt pos
     holding [v,ov,iv] (setItem ov iv v)
     release [v,ov,iv] []):=by intro _; rfl):RG X (.Subscript o i pos) (sub3 to ti):=by
 obtain ⟨va,pa,ra⟩:=ho;obtain ⟨vb,pb,rb⟩:=hi;refine ⟨_,wv4 pa pb xe1 ha,λ v d σ H Q ρ μ Q3 s m r h k=>ra σ H _ ρ μ _ s m h λ o' μ1 ov H1 h1 k1 r1 m1=>rb σ H1 _ ρ μ1 _ [63] m1 h1 λ i' μ2 iv H2 h2 k2 r2 m2=>?_⟩;cases r1 with
 | ref p =>
  cases r2 with
  | int kk =>
   dsimp only at h2;cases e:μ2 p with
   | none=>simp_all
   | some oo =>
    cases oo with
    | dcl _ _=>simp_all
    | lst xs =>
     rw [e] at h2;dsimp only at h2;cases e2:ixN xs.length kk with
     | none=>simp_all
     | some j =>
      rw [e2] at h2;obtain ⟨vs,hv,rv⟩:=m2 p xs e;have kk':=k1.trans k2;refine ⟨p,vs,kk,j,rfl,rfl,hv,by rw [<- rv.length]; exact e2,k _ _ _ _ h2 (kk'.trans (Kp.wr hv)) (s.mono (kk'.trans (Kp.wr hv))) (m2.wr hv (rv.set (r.mono kk') j))⟩
  | _=>exact False.elim h2
 | _=>trivial
end
end Pv
namespace Pv
open PySem PySem.Spec PyProof.Rows L2
def ItOk (K:Fg) (J:It) (l:List D) (S:Mu->Prop) (H0:Hp):Prop:=∀ i H μ,Kp H0 H->RelM K μ H->S μ ->
 (∀ d,l[i]?=some d->J.go i H /\ ∀ x H2,J.yld i H x H2->Kp H H2 /\ RelM K μ H2 /\ RelD K H2 d x) /\ (l.length<=i->J.stop i H)
def RdI (K:Fg) (wi:TI) (ti:TI3):Prop:=∀ σ H R ρ μ R3,RSt K H ρ σ->RelM K μ H->ti ρ μ R3->(∀ l S μ' J H',R3 l S μ'->Kp H H'->RelM K μ' H'->ItOk K J l S H'->R J H')->wi σ H R
def RI (X:Cx) (tg iter:Expr) (ti:TI3):Prop:=∃ wi,PI X tg iter wi /\ RdI X.K wi ti
variable {X:Cx} {iter e:Expr} {te:TE3} {pos p:Pos} {P:[60]} {w:World} {K:Fg} {H0:Hp} {vs:List V} {wi:TI} {ti:TI3} {g:TG3} {es:[67]} {x:Str} {k:Nat} {ps:[35]} {sp:Sp3} {r:C3} {T:String}
section
variable {tg a b c:Expr} {ta tb:TE3} 
def Its (z:Str):It:=⟨λ i _=>i < z.cps.size,λ i H x H'=>H'=H /\ ∃ c,z.cps[i]?=some c /\ x=.str ⟨#[c]⟩,λ i _=>z.cps.size<=i⟩
theorem xr1 {tg:Expr} (T:String) (x:Str) (t:Tok) (it:Addr)
    (hT:["enumerate", "zip", "dict_itemiterator", "dict_reverseitemiterator", "odict_iterator", "itertools.zip_longest", "itertools.pairwise"].contains T=false)
    (W:∀ A:Around,A.handled=none->Walks P w A it [it] [it] x.cps.size (SignAt x) (λ i h=>h.IsStrIter it T x t i))
    (sf:∀ (A:Around) (i:Nat) (s:[47]) (Q:[7]) (E:[7]),s.heap.IsStrIter it T x t i->Q (.ref it) s->wpAny (model P w) A (pyIter (.ref it)) Q E s) :
    Turn P w K tg (Its x) [it] it (λ i h=>h.IsStrIter it T x t i /\ i<=x.cps.size) where
 mem:=by simp
 obj:=λ i h st b hb=>by
  have e:b=it:=by simpa using hb
  subst e;obtain ⟨⟨o,e,c,d⟩,_⟩:=st
  simp_all
 keep:=λ i h h' st k=>by
  obtain ⟨⟨o,e,c,d⟩,l⟩:=st;exact ⟨⟨o,k it [17] o e,c,d⟩,l⟩
 item:=by
  intro X hP hw hK hc i pins s σ H E I hf st hg;subst hP hw hK;obtain ⟨f0,f1,f2,f3,f4,f5⟩:=hf it [17];refine (W X.A (I.ok.hd hc)).item i s _ E hg st.1 λ v h' tk hP hst' hk=>?_;obtain ⟨c,u,ec,rfl⟩:=hP;have I1:Inv X pins σ H [59]:=I.turned (t':=tk) (λ b o hb e=>hk b o (by simpa using hb) e) f0 f1 f3 f4 f5;obtain ⟨o,e,c1,d⟩:=id hst';exact ⟨_,rfl,tn2 (s:=[59]) e c1 d hT ⟨.str ⟨#[c]⟩,H,I1,⟨u,rfl⟩,⟨rfl,c,ec,rfl⟩,⟨hst',hg⟩,λ b hb=>(hf b hb).1⟩⟩
 done:=by
  intro X hP hw hK hc i pins s σ H E I hf st hg;subst hP hw hK;have hg':x.cps.size<=i:=hg;obtain ⟨f0,f1,f2,f3,f4,f5⟩:=hf it [17];have e1:i=x.cps.size:=Nat.le_antisymm st.2 hg';subst e1;exact (W X.A (I.ok.hd hc)).done s _ E st.1 λ h' tk hk=>⟨rfl,I.turned (t':=tk) (λ b o hb e=>hk b o (by simpa using hb) e) f0 f1 f3 f4 f5⟩
 self:=λ A i s Q E st h=>sf A i s Q E st.1 h
def iSeq (K:Fg) (tl:TE):TI:=λ σ H R=>tl σ H λ x H1=>∃ a,x=.ref a /\ (((∃ xs,SqL K H1 a xs) /\ R (Itl K a) H1) \/ ((∃ xs,SqT K H1 a xs) /\ R (Itt K a) H1))
theorem yv4 {l:Expr} {tl:TE} (hl:PE X l tl):PI X tg l (iSeq X.K tl):=by
 intro pins s σ H R I h;refine thn (hl pins s σ H _ I h) λ v s1 ⟨x,H1,I1,r1,q1⟩=>?_
 have fp:∀ b ∈ [s1.heap.objs.size],FpOk X pins H1 b:=λ b hb=>by
  have e:b=s1.heap.objs.size:=by simpa using hb
  subst e;exact I1.fpOk [18] (I1.hok.fresh [18])
 obtain ⟨a,e,q⟩:=q1;subst e;cases r1;rcases q with ⟨⟨xs,hq⟩,q⟩ | ⟨⟨xs,hq⟩,q⟩
 ·obtain ⟨its,rv,p,hz⟩:=I1.list hq;refine wpAny_pyIter_list p.isList ?_;exact ⟨s1.heap.objs.size,[s1.heap.objs.size],_,_,H1,rfl,I1.kept (t':=s1.toks) λ b o e=>Heap.get?_push_of_some _ e,xe2 a _,[53],fp,q⟩
 ·obtain ⟨its,rv,p,hz⟩:=I1.tuple hq;refine wpAny_pyIter_tuple (show s1.heap.IsTuple a its.toArray from p) ?_;exact ⟨s1.heap.objs.size,[s1.heap.objs.size],_,_,H1,rfl,I1.kept (t':=s1.toks) λ b o e=>Heap.get?_push_of_some _ e,xy1 a _,[53],fp,q⟩
theorem uy2 {a:Addr} {l:List D} (h:SqT K H0 a vs) (r:RelDs K H0 l vs):ItOk K (Itt K a) l (λ _=>True) H0:=λ i H μ k m _=>by
 refine ⟨λ d e=>?_,λ hl=>⟨vs,SqT.mono k h,by rw [<- r.length]; exact hl⟩⟩;obtain ⟨v,e1,r1⟩:=r.get e;refine ⟨⟨vs,v,SqT.mono k h,e1⟩,λ x H2 y=>?_⟩;obtain ⟨rfl,y⟩:=y;have e2:=y vs (SqT.mono k h);rw [e1] at e2; cases e2;exact ⟨Kp.refl _,m,r1.mono k⟩
theorem yz2 {a:Addr} {l:List D} (h:SqF K H0 a vs) (r:RelDs K H0 l vs):ItOk K (Itl K a) l (λ _=>True) H0:=λ i H μ k m _=>by
 refine ⟨λ d e=>?_,λ hl=>⟨vs,(SqF.mono k h).l,by rw [<- r.length]; exact hl⟩⟩;obtain ⟨v,e1,r1⟩:=r.get e;refine ⟨⟨vs,v,(SqF.mono k h).l,e1⟩,λ x H2 y=>?_⟩;obtain ⟨rfl,y⟩:=y;have e2:=y vs (SqF.mono k h).l;rw [e1] at e2; cases e2;exact ⟨Kp.refl _,m,r1.mono k⟩
theorem xz2 {a:Addr} {l:List D}:ItOk K (Itl K a) l (λ μ=>μ a=some (.lst l)) H0:=λ i H μ k m s=>by
 obtain ⟨vs,h,r⟩:=m a l s;refine ⟨λ d e=>?_,λ hl=>⟨vs,SqL.of h,by rw [<- r.length]; exact hl⟩⟩;obtain ⟨v,e1,r1⟩:=r.get e;refine ⟨⟨vs,v,SqL.of h,e1⟩,λ x H2 y=>?_⟩;obtain ⟨rfl,y⟩:=y;have e2:=y vs (SqL.of h);rw [e1] at e2; cases e2;exact ⟨Kp.refl _,m,r1⟩
theorem ty2 (z:Str):ItOk K (Its z) (z.cps.toList.map λ c=>D.str ⟨#[c]⟩) (λ _=>True) H0:=λ i H μ k m _=>by
 refine ⟨λ d e=>?_,λ hl=>by show z.cps.size<=i; simpa using hl⟩;rw [getElem?_map,getElem?_toList] at e;cases ec:z.cps[i]? with
 | none=>simp_all
 | some c =>
  rw [ec] at e;cases e;refine ⟨?_,λ x H2 y=>?_⟩
  ·show i < z.cps.size;rcases Nat.lt_or_ge i z.cps.size with h | h
   ·exact h
   simp_all
  ·obtain ⟨rfl,c',ec',rfl⟩:=y;rw [ec] at ec'; cases ec';exact ⟨Kp.refl _,m,.str _⟩
theorem wo4 (ha:RE X a ta):RI X tg a (is3 ta):=by
 obtain ⟨va,pa,ra⟩:=ha;refine ⟨_,yv4 pa,λ σ H R ρ μ R3 s m h k=>ra σ H _ ρ μ _ s m h λ d μ1 v H1 h1 k1 r1 m1=>?_⟩;cases r1 with
 | tup hq rs=>exact ⟨_,rfl,.inr ⟨⟨_,(SqT.of hq)⟩,k _ _ _ _ _ h1 k1 m1 (uy2 (SqT.of hq) rs)⟩⟩
 | fls hq rs=>exact ⟨_,rfl,.inl ⟨⟨_,hq.l⟩,k _ _ _ _ _ h1 k1 m1 (yz2 hq rs)⟩⟩
 | ref p =>
  dsimp only at h1;cases e:μ1 p with
  | none=>simp_all
  | some oo =>
   cases oo with
   | dcl _ _=>simp_all
   | lst xs =>
    rw [e] at h1;obtain ⟨vs,hv,rv⟩:=m1 p xs e;exact ⟨_,rfl,.inl ⟨⟨_,SqL.of hv⟩,k _ _ _ _ _ h1 k1 m1 xz2⟩⟩
 | _=>exact False.elim h1
theorem tv2 (lo:Int) (n i:Nat):(rngD lo n)[i]?=if i < n then some (.int (lo + i)) else none:=by
 unfold rngD;rw [getElem?_map];by_cases h:i < n
 ·simp_all
 simp_all
theorem uv2 (lo:Int) (n:Nat):(rngD lo n).length=n:=by simp [rngD]
theorem xv1 (lo:Int) (n:Nat):ItOk K (Itr lo n) (rngD lo n) (λ _=>True) H0:=λ i H μ k m _=>by
 refine ⟨λ d e=>?_,λ hl=>by rw [uv2] at hl; exact hl⟩;rw [tv2] at e;split at e
 ·next h =>
  cases e;refine ⟨h,λ x H2 y=>?_⟩;obtain ⟨rfl,rfl⟩:=y;exact ⟨Kp.refl _,m,.int _⟩
 ·cases e
theorem uj1 (hm:X.mg "range" = none) (ha:RE X a ta) (hg:Gl X "range" := by rfl) (hs:starEach [a] X.env=[(false,eval a X.env)]:=by rfl):RI X tg (.Call (.Name "range" p) [a] [] pos) (ir3 (xa0 ta nil3)):=by
 obtain ⟨va,pa,ra⟩:=ua0 ha yb0 hs;refine ⟨_,yk2 hg hm pa hs,λ σ H R ρ μ R3 s m h k=>ra σ H _ ρ μ _ s m h λ ds μ1 vs H1 h1 k1 r1 m1=>?_⟩;cases r1 with
 | nil=>exact False.elim h1
 | cons r1 r2 =>
  cases r2 with
  | cons _ _=>simp_all
  | nil =>
   cases r1 with
   | int j=>exact ⟨j,rfl,h1.1.1,h1.1.2,k _ _ _ _ _ h1.2 k1 m1 (xv1 _ _)⟩
   | _=>exact False.elim h1
theorem sh2 (hm:X.mg "range" = none) (ha:RE X a ta) (hb:RE X b tb) (hg:Gl X "range" := by rfl) (hs:starEach [a,b] X.env=[(false,eval a X.env),(false,eval b X.env)]:=by rfl) (hs2:starEach [b] X.env=[(false,eval b X.env)]:=by rfl) :
    RI X tg (.Call (.Name "range" p) [a,b] [] pos) (ir23 (xa0 ta (xa0 tb nil3))):=by
 obtain ⟨va,pa,ra⟩:=ua0 ha (ua0 hb yb0 hs2) (by rw [hs,hs2]);refine ⟨_,xk2 hg hm pa hs hs2,λ σ H R ρ μ R3 s m h k=>ra σ H _ ρ μ _ s m h λ ds μ1 vs H1 h1 k1 r1 m1=>?_⟩;split at h1
 ·next i j =>
  cases r1 with
  | cons r1 r2 =>
   cases r2 with
   | cons r2 r3 =>
    cases r3;cases r1;cases r2;exact ⟨i,j,rfl,h1.1,k _ _ _ _ _ h1.2 k1 m1 (xv1 _ _)⟩
 ·exact h1.elim
theorem zg3 {vg:TG} {vb:TS} {tb:TS3} (ri:RdI X.K wi ti) (rg:RdG X.K vg g) (rb:RdS X.K vb tb):RdS X.K (tFor wi vg vb) (for3 ti g tb):=by
 intro σ H D ρ μ D3 s m h k;refine ri σ H _ ρ μ _ s m h λ l S μ1 J H1 h1 k1 m1 ok=>?_;refine ⟨λ i n σ2 H2=>n=l.length - i /\ i<=l.length /\ ∃ ρ2 μ2,RSt X.K H2 ρ2 σ2 /\ RelM X.K μ2 H2 /\ Kp H1 H2 /\ vc2 S g tb D3 (l.drop i) ρ2 μ2,⟨l.length,rfl,Nat.zero_le _,ρ,μ1,s.mono k1,m1,Kp.refl _,h1⟩,?_⟩;rintro i n σ2 H2 ⟨rfl,hi,ρ2,μ2,s2,m2,k2,h2⟩;by_cases hlt:i < l.length
 ·rw [List.drop_eq_getElem_cons hlt] at h2;obtain ⟨hS,N,hN,h2⟩:=h2;obtain ⟨ok1,_⟩:=ok i H2 μ2 k2 m2 hS;obtain ⟨go,yl⟩:=ok1 l[i] (getElem?_eq_getElem hlt);refine .inr ⟨go,λ σ3 H3=>∃ ρ3 μ3,N ρ3 μ3 /\ RSt X.K H3 ρ3 σ3 /\ RelM X.K μ3 H3 /\ Kp H1 H3,λ σ3 H3 ⟨ρ3,μ3,hn,s3,m3,k3⟩=>⟨l.length - (i + 1),by omega,rfl,hlt,ρ3,μ3,s3,m3,k3,hN _ _ hn⟩,λ x H3 y=>?_⟩;obtain ⟨k3,m3,r3⟩:=yl x H3 y;refine rg x l[i] σ2 H3 _ ρ2 μ2 _ (s2.mono k3) m3 r3 h2 λ ρ4 μ4 σ4 H4 h4 k4 s4 m4=>?_;have k14:Kp H1 H4:=k2.trans (k3.trans k4)
  exact rb σ4 H4 _ ρ4 μ4 _ s4 m4 h4 ⟨λ ρ5 μ5 σ5 H5 h5 k5 s5 m5=>⟨ρ5,μ5,h5,s5,m5,k14.trans k5⟩,λ ρ5 μ5 σ5 H5 h5 k5 s5 m5=>k.nx _ _ _ _ h5 (k1.trans (k14.trans k5)) s5 m5,
   λ ρ5 μ5 σ5 H5 h5 k5 s5 m5=>⟨ρ5,μ5,h5,s5,m5,k14.trans k5⟩,λ d μ5 v H5 h5 k5 r5 m5=>k.rt _ _ _ _ h5 (k1.trans (k14.trans k5)) r5 m5⟩
 ·have e:i=l.length:=by omega
  subst e;rw [List.drop_length] at h2;obtain ⟨hS,h2⟩:=h2;exact .inl ⟨(ok _ H2 μ2 k2 m2 hS).2 [18],k.nx _ _ _ _ h2 (k1.trans k2) s2 m2⟩
theorem vf3 {body:List Stmt} {tb:TS3} (hp:PassesOwn [11] X.A X.env X.xe) (hc:[82]) (hi:RI X tg iter ti) (hg:RG X tg g) (hb:RSs X body tb)
    (hs:∀ x,foldedSetIterable iter X.env x=pure x:=by intro _; rfl):RS X (.For tg iter body [] pos) (for3 ti g tb):=by
 obtain ⟨wi,pi,ri⟩:=hi;obtain ⟨vg,pg,rg⟩:=hg;obtain ⟨vb,pb,rb⟩:=hb;exact ⟨_,tu4 hp hc pi pg pb hs,zg3 ri rg rb⟩
def lift (K:Fg) (sp:Sp3):Sp:=λ vs H Q _=>∃ ds μ Q3,RelDs K H ds vs /\ RelM K μ H /\ sp ds μ Q3 /\ Ks K H Q3 Q
def Cal (P:[60]) (w:World) (K:Fg) (mg:[24]) (base:Heap) (k:Nat) (x:Str) (ps:[35]) (sp:Sp3):Prop :=
 ∃ f fd,FnOk P w K mg base CX0 k f fd ps (lift K sp) /\ mg x=some (.ref f) /\ keepIn K (.ref f)=true /\ Binds K fd ps []
theorem Cal.mono {P:[60]} {w:World} {K:Fg} {mg:[24]} {base:Heap} {j k:Nat} {x:Str} {ps:[35]} {sp:Sp3} (c:Cal P w K mg base j x ps sp) (h:j<=k):Cal P w K mg base k x ps sp:=by
 obtain ⟨f,fd,F,r⟩:=c;exact ⟨f,fd,F.mono h,r⟩
variable {t:TA3} 
theorem tf0 (c:Cal X.prog X.w X.K X.mg X.base k x ps sp) (hr:Room k X.A) (ha:RA X (e :: es) t) (hg:Gl X x:=by rfl) (hdb:[23]=false:=by decide)
    (he:starEach (e :: es) X.env=[26] :: starEach es X.env:=by rfl) (hpl:(backTo pos [31]).any (·.1)=false:=by rfl):RE X [49] (wa0 sp t):=by
 obtain ⟨f,fd,F,hm,hk,hb⟩:=c;obtain ⟨va,pa,ra⟩:=ha;refine ⟨_,wk2 F hr hg hm hk hb .nil zv3 pa hdb he hpl,λ σ H Q ρ μ Q3 s m h k=>ra σ H _ ρ μ _ s m h λ ds μ1 vs H1 h1 k1 r1 m1=>?_⟩;rw [append_nil];exact ⟨ds,μ1,Q3,r1,m1,h1,k.after k1⟩
theorem tg0 {id:String} (hc:RC X (.builtin id) r) (hm:X.mg x=none) (hv:bootBuiltins x=some (.builtin id)) (ha:RA X (e :: es) t) (hg:Gl X x:=by rfl) (hn:x ≠ "__name__" := by decide) (hdb:[23]=false:=by decide)
    (he:starEach (e :: es) X.env=[26] :: starEach es X.env:=by rfl) (hpl:(backTo pos [31]).any (·.1)=false:=by rfl):RE X [49] (wa0 r t):=by
 obtain ⟨r',pc,rc⟩:=hc;obtain ⟨va,pa,ra⟩:=ha;exact ⟨_,vt1 pc hg hm hv pa hn hdb he hpl,λ σ H Q ρ μ Q3 s m h k=>ra σ H _ ρ μ _ s m h λ ds μ1 vs H1 h1 k1 r1 m1=>rc ds vs H1 Q μ1 Q3 m1 r1 h1 (k.after k1)⟩
theorem vn0 (hc:RC X (.type T) r) (hm:X.mg x=none) (hv:bootBuiltins x=some (.type T)) (ha:RA X (e :: es) t) (hg:Gl X x:=by rfl) (hn:x ≠ "__name__" := by decide) (hdb:[23]=false:=by decide)
    (he:starEach (e :: es) X.env=[26] :: starEach es X.env:=by rfl) (hpl:(backTo pos [31]).any (·.1)=false:=by rfl):RE X [49] (wa0 r t):=by
 obtain ⟨r',pc,rc⟩:=hc;obtain ⟨va,pa,ra⟩:=ha;exact ⟨_,zk2 pc hg hm hv pa hn hdb he hpl,λ σ H Q ρ μ Q3 s m h k=>ra σ H _ ρ μ _ s m h λ ds μ1 vs H1 h1 k1 r1 m1=>rc ds vs H1 Q μ1 Q3 m1 r1 h1 (k.after k1)⟩
theorem ui2 {r3:R3} (hx:RX X r3) (ha:RE X a ta) (hb:RE X b tb) (hs:wq1 b:=by intro _ _; rfl):RE X (.Subscript a b pos) (o3 r3 ta tb):=by
 obtain ⟨r,po,ro⟩:=hx;obtain ⟨va,pa,ra⟩:=ha;obtain ⟨vb,pb,rb⟩:=hb;exact ⟨_,pe_ix po pa pb hs,ra.op rb ro⟩
end
variable {mg:[24]} {f:Addr} {fd:FuncData}
section
variable {base:Heap}
theorem zy3 {st:Stmt} {N:[35]} {t:TS3} (F:Fun K x x st f fd) (S:FnScope N ps (ya0 st))
    (len:∀ ds μ Q,sp ds μ Q->ds.length=ps.length)
    (body:∀ (cdv:Value) (A:Around) (outer:List Env) (s:[47]) (H:Hp) (E:XK),Room k ([87])->RSs (cxOf CX0 P w K mg base N x (ya0 st) f cdv A outer s H E).nox (va0 st) t)
    (rd:∀ ds μ Q,sp ds μ Q->t { nx:=λ _ μ'=>Q .non μ',rt:=Q } (xb0 N ds) μ):FnOk P w K mg base CX0 (k + 1) f fd ps (lift K sp):=by
 refine F.ok S (λ vs H Q E h=>?_) (λ cdv A outer s H vs Q E hr h=>?_)
 ·obtain ⟨ds,μ,Q3,r,m,q,ks⟩:=h;rw [<- r.length]; exact len _ _ _ q
 ·obtain ⟨ds,μ,Q3,r,m,q,ks⟩:=h;obtain ⟨tv,p,rt⟩:=body cdv A outer s H E hr;exact ⟨tv,p,rt _ H _ _ μ _ (RSt.start N r) m (rd ds μ Q3 q) [86]⟩
theorem se5 {st:Stmt} {N:[35]} {t:TS3} (F:Fun K x x st f fd) (hm:mg x=some (.ref f)) (hb:Binds K fd ps []) (S:FnScope N ps (ya0 st))
    (len:∀ ds μ Q,sp ds μ Q->ds.length=ps.length)
    (body:∀ (cdv:Value) (A:Around) (outer:List Env) (s:[47]) (H:Hp) (E:XK),Room k ([87])->RSs (cxOf CX0 P w K mg base N x (ya0 st) f cdv A outer s H E).nox (va0 st) t)
    (rd:∀ ds μ Q,sp ds μ Q->t { nx:=λ _ μ'=>Q .non μ',rt:=Q } (xb0 N ds) μ):Cal P w K mg base (k + 1) x ps sp :=
 ⟨f,fd,zy3 F S len body rd,hm,F.kp,hb⟩
end
variable {g3:Int->Int->D} {i:Int}
section
theorem RdO.i0 {g:Int->Int->V} (hg:∀ i j H,RelD K H (g3 i j) (g i j)):RdO K (rI0 g) (xs0 g3):=λ x y v u H Q μ Q3 m rx ry h k=>by
 unfold xs0 at h;split at h
 ·cases rx;cases ry;exact ⟨_,_,rfl,rfl,k _ _ _ _ h [38] (hg _ _ H) m⟩
 ·exact h.elim
theorem RdO.i2 {C:Int->Int->Prop} {g:Int->Int->V} (hg:∀ i j H,RelD K H (g3 i j) (g i j)):RdO K (rI C g) (int2 C g3):=λ x y v u H Q μ Q3 m rx ry h k=>by
 unfold int2 at h;split at h
 ·cases rx;cases ry;exact ⟨_,_,rfl,rfl,h.1,k _ _ _ _ h.2 [38] (hg _ _ H) m⟩
 ·exact h.elim
theorem q_sub:RO X (binaryOp .Sub) subR:=⟨_,sw4,RdO.i0 λ _ _ _=>.int _⟩
theorem q_mod:RO X (binaryOp .Mod) modR:=⟨_,zx4,RdO.i2 λ _ _ _=>.int _⟩
theorem q_pow:RO X (binaryOp .Pow) powR:=⟨_,xx4,RdO.i2 λ _ _ _=>.int _⟩
theorem log2_lt {n k:Nat} (hk:0 < k) (h:n < 2 ^ k):n.log2 < k:=by
 rcases Nat.eq_zero_or_pos n with h0 | hp
 ·simp_all
 ·exact (Nat.log2_lt (Nat.ne_of_gt hp)).mpr h
theorem vx2:OpR X (binaryOp .FloorDiv) (rI (λ _ j=>0 < j /\ j < 2 ^ 120) λ i j=>.int (i / j)):=opI λ i j _ _ _ _ _ hc q=>by
 have h1:(0:Int) < j:=hc.1;have h2:j < 2 ^ 120:=hc.2;refine floordiv_int [5] (by rw [Int.fdiv_eq_ediv_of_nonneg i [5]]; exact q) (.inl (PyProof.noPylong_of_log2 ?_));have h3:j.natAbs < 2 ^ 120:=by omega
 exact Nat.lt_trans (log2_lt [14] h3) [14]
theorem ut4:RO X (binaryOp .FloorDiv) wg0:=⟨_,vx2,RdO.i2 λ _ _ _=>.int _⟩
theorem CMul.mulok {j:Int} (h:CMul i j):IntMulOk i j:=by
 rcases h with h | ⟨h1,h2⟩
 ·exact L2.CMul.ok h
 ·unfold IntMulOk;intro e;rw [Bool.and_eq_true] at e;have e2:=e.2;unfold Builtin.Int.intTooBig at e2
  have hb:∀ x:Int,x.natAbs < Big->Builtin.Int.intBits x<=1000:=λ x hx=>by
   unfold Builtin.Int.intBits;split
   ·exact Nat.zero_le _
   ·exact log2_lt [14] hx
  have b1:=hb i h1;have b2:=hb j h2;have e3:=of_decide_eq_true e2;have e4:(2000:Nat) < bitsLine:=by decide
  omega
theorem vv3:OpR X (binaryOp .Mult) (rI CMul λ i j=>.int (i * j)):=opI λ _ _ _ _ _ _ _ hc q=>mul_int q hc.mulok
theorem q_neg:RU X (unaryOp .USub) negR:=⟨_,te4,λ x v H Q μ Q3 m r h k=>by
 cases r with
 | int i=>exact ⟨i,rfl,k _ _ _ _ h [38] (.int _) m⟩
 | _=>exact False.elim h⟩
theorem q_lt:RO X (compareOp .Lt) ltR:=⟨_,op_lt,RdO.i0 λ _ _ _=>.bl _⟩
theorem q_gt:RO X (compareOp .Gt) gtR:=⟨_,op_gt,RdO.i0 λ _ _ _=>.bl _⟩
theorem q_ge:RO X (compareOp .GtE) geR:=⟨_,op_ge,RdO.i0 λ _ _ _=>.bl _⟩
def rCatA (K:Fg):R2:=λ x y H Q=>∃ a b xs ys,x=.ref a /\ y=.ref b /\ SqT K H a xs /\ SqT K H b ys /\ xs.length + ys.length<=sizeLine ∧
 (xs=[]->Q (.ref b) H) /\ (ys=[]->Q (.ref a) H) /\ (∀ p,H p=none->Q [66] (upd H p (.tup (xs ++ ys))))
theorem tv3:OpR X (binaryOp .Add) (rCatA X.K):=by
 intro pins s σ H x y v u Q I rx ry h;obtain ⟨a,b,xs,ys,rfl,rfl,ha,hb,hz,q1,q2,q3⟩:=h;by_cases hx:xs=[]
 ·cases rx;cases ry;obtain ⟨its,r,ht,_⟩:=I.tuple ha;obtain ⟨its2,r2,ht2,_⟩:=I.tuple hb;have hi:its=[]:=by subst hx; cases r; rfl
  obtain ⟨⟨cls,dd,data,sl⟩,ho,hc,n,hd⟩:=id ht;obtain ⟨⟨cls2,dd2,data2,sl2⟩,ho2,hc2,n2,hd2⟩:=id ht2;simp only at hc hd hc2 hd2;subst hc hd hc2 hd2
  exact concat_meets ⟨_,ho,rfl⟩ ⟨_,ho2,rfl⟩ noFill_tuple_add seq_tuple_add slot_tuple_add entry_tuple_add (args_tuple_add_2 _ _)
   (tuple_addW0 a b its.toArray its2.toArray n n2 dd dd2 sl sl2 (by simp [hi])) ⟨ho,ho2,⟨.ref b,H,I,rfl,q1 hx⟩⟩
 ·exact uv3 pins s σ H _ _ v u Q I rx ry ⟨a,b,xs,ys,rfl,rfl,ha,hb,hx,hz,q2,λ _=>q3⟩
theorem xk1:RO X (binaryOp .Add) addR:=by
 refine ⟨_,op_add.or (op_add_str.or (op_cat.or tv3)),λ x y v u H Q μ Q3 m rx ry h k=>?_⟩;unfold addR at h;split at h
 ·cases rx;cases ry;exact .inl ⟨_,_,rfl,rfl,k _ _ _ _ h [38] (.int _) m⟩
 ·cases rx;cases ry;exact .inr (.inl ⟨_,_,rfl,rfl,h.1,k _ _ _ _ h.2 [38] (.str _) m⟩)
 ·next p q =>
  cases rx;cases ry;split at h
  ·next xs ys e e2 =>
   obtain ⟨vs,hv,rv⟩:=m p xs e;obtain ⟨us,hu,ru⟩:=m q ys e2;refine .inr (.inr (.inl ⟨p,q,vs,us,rfl,rfl,hv,hu,by rw [<- rv.length,<- ru.length]; exact h.1,λ t ht=>?_⟩));exact k _ _ _ _ (h.2 t (m.free ht)) (Kp.new ht) (.ref t) (m.newL ht (rv.append ru))
  ·exact h.elim
 ·cases rx with
  | tup hq rs =>
  cases ry with
  | tup hq2 rs2 =>
   rename_i a vs b us;refine .inr (.inr (.inr ⟨a,b,vs,us,rfl,rfl,(SqT.of hq),(SqT.of hq2),by rw [<- rs.length,<- rs2.length]; exact h.1,λ e=>?_,λ e=>?_,λ t ht=>?_⟩))
   ·subst e; cases rs;exact k _ _ _ _ h.2 [38] (.tup hq2 rs2) m
   ·subst e; cases rs2;have h2:=h.2;rw [append_nil] at h2;exact k _ _ _ _ h2 [38] (.tup hq rs) m
   ·exact k _ _ _ _ h.2 (Kp.new ht) (.tup ue0 ((rs.append rs2).mono (Kp.new ht))) (m.newT ht)
 ·exact h.elim
theorem RelDs.atI {K:Fg} {H:Hp} {l:List D} {vs:List V} {i:Int} {d:D} (r:RelDs K H l vs) (e:Pv.atI l i=some d):∃ v,L2.atI vs i=some v /\ RelD K H d v:=by
 unfold Pv.atI at e;unfold L2.atI;rw [yb5,<- r.length];cases q:ixN l.length i with
 | none=>simp_all
 | some j =>
  rw [q] at e;exact r.get e
theorem q_ix:RX X ixR:=by
 refine ⟨_,ix_list.or sa5,λ x y v u H Q μ Q3 m rx ry h k=>?_⟩;unfold ixR at h;split at h
 ·cases ry;cases rx with
  | tup hq rs =>
  split at h
  ·next e =>
   obtain ⟨w,e1,r1⟩:=rs.atI e;exact .inr ⟨_,_,_,w,rfl,rfl,(SqT.of hq),e1,k _ _ _ _ h [38] r1 m⟩
  ·exact h.elim
 ·cases ry;cases rx with
  | ktp hq rs =>
  split at h
  ·next e =>
   obtain ⟨w,e1,r1⟩:=rs.atI e;exact .inr ⟨_,_,_,w,rfl,rfl,hq,e1,k _ _ _ _ h [38] r1 m⟩
  ·exact h.elim
 ·cases ry;cases rx with
  | fls hq rs =>
  split at h
  ·next e =>
   obtain ⟨w,e1,r1⟩:=rs.atI e;exact .inl ⟨_,_,_,w,rfl,rfl,hq.l,e1,k _ _ _ _ h [38] r1 m⟩
  ·exact h.elim
 ·next p i =>
  cases ry;cases rx;split at h
  ·next l e0 =>
   obtain ⟨vs,hv,rs⟩:=m p l e0;split at h
   ·next e =>
    obtain ⟨w,e1,r1⟩:=rs.atI e;exact .inl ⟨p,vs,i,w,rfl,rfl,SqL.of hv,e1,k _ _ _ _ h [38] r1 m⟩
   ·exact h.elim
  ·exact h.elim
 ·exact h.elim
theorem wd1 {K:Fg} {H:Hp}:∀ {l:List D} {vs:List V} {zs:[35]},RelDs K H l vs->strs? l=some zs->vs=zs.map V.str
 | _,_,zs,.nil,e=>by simp [strs?] at e; subst e; rfl
 | _,_,zs,.cons h r,e=>by
  cases h with
  | str x =>
   simp only [strs?] at e;split at e
   ·next ys e1 =>
    simp only [Option.some.injEq] at e;subst e;rw [wd1 r e1]; rfl
   ·cases e
  | _=>simp [strs?] at e
theorem vz2 (z:Str) (zs:[35]):inV (.str z) (zs.map V.str)=zs.contains z:=by
 unfold inV;rw [List.any_map]
 induction zs with
 | nil=>rfl
 | cons y r ih =>
  rw [any_cons,ih,List.contains_cons];congr 1;show (y == z)=(z == y);rw [Bool.eq_iff_iff,beq_iff_eq,beq_iff_eq];exact eq_comm
theorem vo2 (zs:[35]):(zs.map V.str).all tg1=true:=by
 rw [List.all_map,all_eq_true]; intro _ _; rfl
theorem wt4:RC X (.builtin "len") lenR:=by
 refine ⟨_,call_len_seq.or xm1,λ xs vs H Q μ Q3 m r h k=>?_⟩;cases r with
 | nil=>exact False.elim h
 | cons r1 r2 =>
  cases r2 with
  | cons _ _=>cases r1 <;> exact False.elim h
  | nil =>
   cases r1 with
   | tup hq rs =>
    rename_i a l vs;refine .inl ⟨a,vs,rfl,.inr (SqT.of hq),?_⟩;rw [<- rs.length];exact k _ _ _ _ h [38] (.int _) m
   | fls hq rs =>
    rename_i a l vs;refine .inl ⟨a,vs,rfl,.inl hq.l,?_⟩;rw [<- rs.length];exact k _ _ _ _ h [38] (.int _) m
   | str z=>exact .inr ⟨z,rfl,h.1,k _ _ _ _ h.2 [38] (.int _) m⟩
   | ref p =>
    dsimp only [lenR] at h;cases e:μ p with
    | none=>simp_all
    | some oo =>
     cases oo with
     | dcl _ _=>simp_all
     | lst l =>
      rw [e] at h;obtain ⟨vs,hv,rs⟩:=m p l e;refine .inl ⟨p,vs,rfl,.inl (SqL.of hv),?_⟩;rw [<- rs.length];exact k _ _ _ _ h [38] (.int _) m
   | _=>exact False.elim h
theorem sr3:RC X (.type "tuple") tupR:=by
 refine ⟨_,vh1,λ xs vs H Q μ Q3 m r h k=>?_⟩;cases r with
 | nil=>exact False.elim h
 | cons r1 r2 =>
  cases r2 with
  | cons _ _=>cases r1 <;> exact False.elim h
  | nil =>
   cases r1 with
   | tup hq rs=>exact ⟨_,_,rfl,.inr ⟨(SqT.of hq),k _ _ _ _ h [38] (.tup hq rs) m⟩⟩
   | ref p =>
    dsimp only [tupR] at h;cases e:μ p with
    | none=>simp_all
    | some oo =>
     cases oo with
     | dcl _ _=>simp_all
     | lst l =>
      rw [e] at h;obtain ⟨vs,hv,rs⟩:=m p l e;exact ⟨p,vs,rfl,.inl ⟨SqL.of hv,λ t ht=>k _ _ _ _ h (Kp.new ht) (.tup ue0 (rs.mono (Kp.new ht))) (m.newT ht)⟩⟩
   | _=>exact False.elim h
theorem ut0 {K:Fg} {H:Hp}:∀ {l:List D} {vs:List V} {zs:[64]},RelDs K H l vs->ints? l=some zs->vs=zs.map V.int
 | _,_,zs,.nil,e=>by simp [ints?] at e; subst e; rfl
 | _,_,zs,.cons h r,e=>by
  cases h with
  | int x =>
   simp only [ints?] at e;split at e
   ·next ys e1 =>
    simp only [Option.some.injEq] at e;subst e;rw [ut0 r e1]; rfl
   ·cases e
  | _=>simp [ints?] at e
end
variable {pins:[19]} {σ:L2.St} {H:Hp} {s:[47]} {μ:Mu} {d:D} {v:V} {A:Around} {neg:Bool} {Q:VK}
section
mutual
theorem th0 (I:[13]):∀ {d:D} {v:V} {p:PyData} {u:Value},RelD X.K H d v->dat d=some p->RelV v u->∃ as,Reads s.heap u p as
 | _,_,p,u,.non,e,r=>by simp only [dat,Option.some.injEq] at e; subst e; cases r; exact ⟨_,Reads.none⟩
 | _,_,p,u,.bl b,e,r=>by simp only [dat,Option.some.injEq] at e; subst e; cases r; exact ⟨_,Reads.bool b⟩
 | _,_,p,u,.int i,e,r=>by simp only [dat,Option.some.injEq] at e; subst e; obtain ⟨t,rfl⟩:=r; exact ⟨_,Reads.int i t⟩
 | _,_,p,u,.str x,e,r=>by
  simp only [dat] at e;split at e
  ·simp only [Option.some.injEq] at e; subst e; obtain ⟨t,rfl⟩:=r; exact ⟨_,Reads.str x t⟩
  ·cases e
 | _,_,p,u,.ref a,e,r=>by simp [dat] at e
 | _,_,p,u,.ty n,e,r=>by simp [dat] at e
 | _,_,p,u,.fls _ _,e,r=>by simp [dat] at e
 | _,_,p,u,.exc _ _ _,e,r=>by simp [dat] at e
 | _,_,p,u,.tup hq rs,e,r=>by
  simp only [dat] at e;split at e
  ·next ps e1 =>
   simp only [Option.some.injEq] at e; subst e;cases r;obtain ⟨its,rv,⟨o,ho,hc,n,hd⟩,hz⟩:=I.tuple (SqT.of hq);obtain ⟨as,q⟩:=sh0 I rs e1 rv;exact ⟨_,Reads.tuple ho hc hd (by simpa using q)⟩
  ·cases e
 | _,_,p,u,.ktp hq rs,e,r=>by
  simp only [dat] at e;split at e
  ·next ps e1 =>
   simp only [Option.some.injEq] at e; subst e;cases r;obtain ⟨its,rv,⟨o,ho,hc,n,hd⟩,hz⟩:=I.tuple hq;obtain ⟨as,q⟩:=sh0 I rs e1 rv;exact ⟨_,Reads.tuple ho hc hd (by simpa using q)⟩
  ·cases e
theorem sh0 (I:[13]):∀ {l:List D} {vs:List V} {ps:List PyData} {us:[25]},RelDs X.K H l vs->dats l=some ps->Vals vs us->∃ as,ReadsAll s.heap us ps as
 | _,_,ps,us,.nil,e,r=>by simp only [dats,Option.some.injEq] at e; subst e; cases r; exact ⟨_,ReadsAll.nil⟩
 | _,_,ps,us,.cons h rs,e,r=>by
  simp only [dats] at e;split at e
  ·next p e1 =>
   split at e
   ·next qs e2 =>
    simp only [Option.some.injEq] at e; subst e;cases r with
    | cons r1 r2 =>
     obtain ⟨as,q1⟩:=th0 I h e1 r1;obtain ⟨bs,q2⟩:=sh0 I rs e2 r2;exact ⟨_,ReadsAll.cons q1 q2⟩
   ·cases e
  ·cases e
end
theorem zf0 (I:[13]) (m:RelM X.K μ H) {p:PyData} {u:Value} (h:RelD X.K H d v) (e:datM μ d=some p) (r:RelV v u):∃ as,Reads s.heap u p as:=by
 cases h with
 | ref a =>
  simp only [datM] at e;split at e
  ·next l e0 =>
   split at e
   ·next ps e1 =>
    simp only [Option.some.injEq] at e; subst e;cases r;obtain ⟨vs,hv,rs⟩:=m a l e0;obtain ⟨its,rv,pl,hz⟩:=I.list (SqL.of hv);obtain ⟨o,ho,hc,n,hd⟩:=pl.isList;obtain ⟨as,q⟩:=sh0 I rs e1 rv;exact ⟨_,Reads.list ho hc hd (by simpa using q)⟩
   ·cases e
  ·cases e
 | non=>exact th0 I .non e r
 | bl b=>exact th0 I (.bl b) e r
 | int i=>exact th0 I (.int i) e r
 | str x=>exact th0 I (.str x) e r
 | ty n=>trivial
 | tup hq rs=>exact th0 I (.tup hq rs) e r
 | ktp hq rs=>exact th0 I (.ktp hq rs) e r
 | fls hq rs=>trivial
 | exc a1 a2 a3=>trivial
mutual
theorem ve0:∀ (d:D) (p:PyData),dat d=some p->p.canLay0=true
 | .non,p,e=>by simp only [dat,Option.some.injEq] at e; subst e; rfl
 | .bl b,p,e=>by simp only [dat,Option.some.injEq] at e; subst e; rfl
 | .int b,p,e=>by simp only [dat,Option.some.injEq] at e; subst e; rfl
 | .str x,p,e=>by
  simp only [dat] at e;split at e
  ·next h=>simp only [Option.some.injEq] at e; subst e; exact h
  ·cases e
 | .tup l,p,e=>by
  simp only [dat] at e;split at e
  ·next ps e1=>simp only [Option.some.injEq] at e; subst e; simp only [PyData.canLay0]; exact ti0 l ps e1
  ·cases e
 | .ktp l,p,e=>by
  simp only [dat] at e;split at e
  ·next ps e1=>simp only [Option.some.injEq] at e; subst e; simp only [PyData.canLay0]; exact ti0 l ps e1
  ·cases e
 | .fls _,p,e=>by simp [dat] at e
 | .ref _,p,e=>by simp [dat] at e
 | .ty _,p,e=>by simp [dat] at e
theorem ti0:∀ (l:List D) (ps:List PyData),dats l=some ps->PyData.canLayAll0 ps=true
 | [],ps,e=>by simp only [dats,Option.some.injEq] at e; subst e; rfl
 | d :: r,ps,e=>by
  simp only [dats] at e;split at e
  ·next p e1 =>
   split at e
   ·next qs e2 =>
    simp only [Option.some.injEq] at e; subst e;simp only [PyData.canLayAll0,Bool.and_eq_true];exact ⟨ve0 d p e1,ti0 r qs e2⟩
   ·cases e
  ·cases e
end
theorem yq1 {p:PyData} (e:datM μ d=some p):p.canLay0=true:=by
 cases d with
 | ref a =>
  simp only [datM] at e;split at e
  ·next l e0 =>
   split at e
   ·next ps e1=>simp only [Option.some.injEq] at e; subst e; simp only [PyData.canLay0]; exact ti0 l ps e1
   ·cases e
  ·cases e
 | non=>exact ve0 _ p e
 | bl b=>exact ve0 _ p e
 | int i=>exact ve0 _ p e
 | str x=>exact ve0 _ p e
 | ty n=>trivial
 | tup l=>exact ve0 _ p e
 | ktp l=>exact ve0 _ p e
 | fls l=>trivial
 | exc c=>trivial
theorem vb0 {p:PyData} (e:datM μ d=some p) (h:p.depth<=64):PySem.SeqAt.shaped p=true:=by
 unfold PySem.SeqAt.shaped;rw [yq1 e,decide_eq_true h]; rfl
def rEqD (K:Fg) (neg:Bool):R2:=λ x y H Q=>∃ d e μ p q,RelM K μ H /\ RelD K H d x /\ RelD K H e y /\ datM μ d=some p /\ datM μ e=some q /\ p.depth<=64 /\ q.depth<=64 /\ Q (.bl (if neg then !PyData.eqv p q else PyData.eqv p q)) H
theorem tx4 (hu:[68]):OpR X (compareOp .Eq) (rEqD X.K false):=by
 intro pins s σ H x y v u Q I rx ry h;obtain ⟨d,e,μ,p,q,m,rd,re,e1,e2,h1,h2,k⟩:=h;obtain ⟨as,q1⟩:=zf0 I m rd e1 rx;obtain ⟨bs,q2⟩:=zf0 I m re e2 ry;exact eq_dataH q1 q2 (vb0 e1 h1) (vb0 e2 h2) hu ⟨.bl _,H,I,rfl,k⟩
theorem yx4 (hu:[68]):OpR X (compareOp .NotEq) (rEqD X.K true):=by
 intro pins s σ H x y v u Q I rx ry h;obtain ⟨d,e,μ,p,q,m,rd,re,e1,e2,h1,h2,k⟩:=h;obtain ⟨as,q1⟩:=zf0 I m rd e1 rx;obtain ⟨bs,q2⟩:=zf0 I m re e2 ry;exact ne_dataH q1 q2 (vb0 e1 h1) (vb0 e2 h2) hu ⟨.bl _,H,I,rfl,k⟩
theorem xd5 {x y:D} {u:V} {c:Bool} (rx:RelD K H x v) (ry:RelD K H y u) (e:eqS x y=some c):scal v u=true /\ decide (v=u)=c:=by
 unfold eqS at e;split at e <;> first | (cases e; done) | (cases rx; cases ry; cases e; exact ⟨rfl,rfl⟩) | (cases rx; cases ry; cases e; refine ⟨rfl,?_⟩; simp)
theorem hu64 (hr:Room k A):A.units + 64 < cLine:=by have:=hr.un; omega
def rInD (K:Fg) (neg:Bool):R2:=λ x y H Q=>∃ d e μ p xs,∃ b:Bool,RelM K μ H /\ RelD K H d x /\ RelD K H e y /\ datM μ d=some p /\ datM μ e=some (if b then .list xs else .tuple xs) /\ p.depth<=64 /\ (if b then PyData.list xs else PyData.tuple xs).depth<=64 ∧
 Q (.bl (if neg then !(xs.any λ e=>PyData.eqv e p) else xs.any λ e=>PyData.eqv e p)) H
theorem vx4 (hu:X.A.units + 65 < cLine):OpR X (compareOp .In) (rInD X.K false):=by
 intro pins s σ H x y v u Q I rx ry h;obtain ⟨d,e,μ,p,xs,b,m,rd,re,e1,e2,h1,h2,k⟩:=h;obtain ⟨as,q1⟩:=zf0 I m rd e1 rx;obtain ⟨bs,q2⟩:=zf0 I m re e2 ry;cases b
 ·exact PySem.SeqAt.in_tuple_reads q2 q1 (PySem.SeqAt.canLay_of_shaped (vb0 e2 h2)) (PySem.SeqAt.canLay_of_shaped (vb0 e1 h1)) (room_in_shaped (vb0 e1 h1) hu) ⟨.bl _,H,I,rfl,k⟩
 ·exact PySem.SeqAt.in_list_reads q2 q1 (PySem.SeqAt.canLay_of_shaped (vb0 e2 h2)) (PySem.SeqAt.canLay_of_shaped (vb0 e1 h1)) (room_in_shaped (vb0 e1 h1) hu) ⟨.bl _,H,I,rfl,k⟩
theorem xl2 (hu:X.A.units + 65 < cLine):OpR X (compareOp .NotIn) (rInD X.K true):=by
 intro pins s σ H x y v u Q I rx ry h;obtain ⟨d,e,μ,p,xs,b,m,rd,re,e1,e2,h1,h2,k⟩:=h;obtain ⟨as,q1⟩:=zf0 I m rd e1 rx;obtain ⟨bs,q2⟩:=zf0 I m re e2 ry;cases b
 ·exact PySem.SeqAt.notIn_tuple_reads q2 q1 (PySem.SeqAt.canLay_of_shaped (vb0 e2 h2)) (PySem.SeqAt.canLay_of_shaped (vb0 e1 h1)) (room_in_shaped (vb0 e1 h1) hu) ⟨.bl _,H,I,rfl,k⟩
 ·exact PySem.SeqAt.notIn_list_reads q2 q1 (PySem.SeqAt.canLay_of_shaped (vb0 e2 h2)) (PySem.SeqAt.canLay_of_shaped (vb0 e1 h1)) (room_in_shaped (vb0 e1 h1) hu) ⟨.bl _,H,I,rfl,k⟩
theorem hu65 (hr:Room k A):A.units + 65 < cLine:=by have:=hr.un; omega
theorem tb5 {x y:D} {u:V} {Q3:VK3} (m:RelM K μ H) (rx:RelD K H x v) (ry:RelD K H y u) (h:inD neg x y μ Q3) (k:Ks K H Q3 Q):rInD K neg v u H Q:=by
 unfold inD at h;split at h
 ·next d xs e1 e2=>exact ⟨x,y,μ,d,xs,true,m,rx,ry,e1,e2,h.1.1,h.1.2,k _ _ _ _ h.2 [38] (.bl _) m⟩
 ·next d xs e1 e2=>exact ⟨x,y,μ,d,xs,false,m,rx,ry,e1,e2,h.1.1,h.1.2,k _ _ _ _ h.2 [38] (.bl _) m⟩
 ·exact h.elim
theorem RdO.inn:RdO K (λ x y H Q=>rIn K neg x y H Q \/ rInD K neg x y H Q) (inR neg):=λ x y v u H Q μ Q3 m rx ry h k=>by
 unfold inR at h;split at h
 ·split at h
  ·next zs e =>
   cases rx;cases ry with
   | ktp hq rs =>
    have ev:=wd1 rs e;refine .inl ⟨_,_,rfl,.inr hq,rfl,by rw [ev]; exact vo2 zs,?_⟩;rw [ev,vz2];exact k _ _ _ _ h [38] (.bl _) m
  ·exact .inr (tb5 m rx ry h k)
 ·exact .inr (tb5 m rx ry h k)
theorem q_in (hu:X.A.units + 65 < cLine):RO X (compareOp .In) (inR false):=⟨_,op_in_seq.or (vx4 hu),RdO.inn⟩
theorem zs3 (hu:X.A.units + 65 < cLine):RO X (compareOp .NotIn) (inR true):=⟨_,op_notIn_seq.or (xl2 hu),RdO.inn⟩
theorem q_eq (hu:[68]):RO X (compareOp .Eq) eqR:=by
 refine ⟨_,op_eq.or (tx4 hu),λ x y v u H Q μ Q3 m rx ry h k=>?_⟩;unfold eqR at h;cases e:eqS x y with
 | some c =>
  rw [e] at h;obtain ⟨h1,h2⟩:=xd5 rx ry e;refine .inl ⟨h1,?_⟩;rw [h2];exact k _ _ _ _ h [38] (.bl _) m
 | none =>
  rw [e] at h;dsimp only at h;cases e1:datM μ x with
  | none=>simp_all
  | some p =>
   cases e2:datM μ y with
   | none=>simp_all
   | some q =>
    rw [e1,e2] at h;exact .inr ⟨x,y,μ,p,q,m,rx,ry,e1,e2,h.1.1,h.1.2,k _ _ _ _ h.2 [38] (.bl _) m⟩
theorem q_ne (hu:[68]):RO X (compareOp .NotEq) neR:=by
 refine ⟨_,op_ne.or (yx4 hu),λ x y v u H Q μ Q3 m rx ry h k=>?_⟩;unfold neR at h;cases e:eqS x y with
 | some c =>
  rw [e] at h;obtain ⟨h1,h2⟩:=xd5 rx ry e;refine .inl ⟨h1,?_⟩;rw [h2];exact k _ _ _ _ h [38] (.bl _) m
 | none =>
  rw [e] at h;dsimp only at h;cases e1:datM μ x with
  | none=>simp_all
  | some p =>
   cases e2:datM μ y with
   | none=>simp_all
   | some q =>
    rw [e1,e2] at h;exact .inr ⟨x,y,μ,p,q,m,rx,ry,e1,e2,h.1.1,h.1.2,k _ _ _ _ h.2 [38] (.bl _) m⟩
theorem wx3 (K:Fg):∀ t ∈ ["int", "str", "tuple", "bool", "NoneType", "list"],∀ T ∈ ["int", "str", "tuple", "bool", "list"],kitOne K (.type t) (.type T)=some (t == T || (t == "bool" && T == "int")):=by
 intro t ht T hT;simp only [mem_cons,not_mem_nil,or_false] at ht hT;rcases ht with rfl | rfl | rfl | rfl | rfl | rfl <;> rcases hT with rfl | rfl | rfl | rfl | rfl <;> with_unfolding_all rfl
theorem wb5 {t:String} {b:Bool} (e:isIn t T=some b) (ht:t ∈ ["int", "str", "tuple", "bool", "NoneType", "list"]) (hT:T ∈ ["int", "str", "tuple", "bool", "list"]):kitOne K (.type t) (.type T)=some b:=by
 rw [wx3 K t ht T hT];simp only [mem_cons,not_mem_nil,or_false] at ht hT;rcases ht with rfl | rfl | rfl | rfl | rfl | rfl <;> rcases hT with rfl | rfl | rfl | rfl | rfl <;> simp [isIn] at e <;> subst e <;> rfl
theorem vb5 {t:String} {b:Bool} (e:isIn t T=some b) (ht:t ∈ ["int", "str", "tuple", "bool", "NoneType", "list"]):T ∈ ["int", "str", "tuple", "bool", "list"] \/ (t=T /\ b=true):=by
 unfold isIn at e;simp only [mem_cons,not_mem_nil,or_false] at ht ⊢;split at e
 ·simp_all
 ·split at e
  ·simp_all
  simp_all
theorem vy2 (K:Fg) (t:String):kitOne K (.type t) (.type t)=some true:=by
 unfold kitOne;simp
def rIsi (K:Fg):List V->Hp->VK->Prop:=λ xs H Q=>∃ d v μ t T b,xs=[v,.ty T] /\ RelM K μ H /\ RelD K H d v /\ tyN μ d=some t /\ isIn t T=some b /\ Q (.bl b) H
theorem xc3:CallR X (.builtin "isinstance") (rIsi X.K):=by
 intro pins s σ H xs us Q I r h;obtain ⟨d,v,μ,t,T,b,rfl,m,rd,e1,e2,q⟩:=h;obtain ⟨u,w',rfl,rx,ry⟩:=ul3 r;cases ry;have fin:∀ tk,EP X pins σ Q (.bool b) { s with toks:=tk }:=λ tk=>⟨.bl b,H,I.tok tk,rfl,q⟩
 have hk:∀ t',t' ∈ ["int", "str", "tuple", "bool", "NoneType", "list"]->isIn t' T=some b->kitOne X.K (.type t') (.type T)=some b:=λ t' h1 h2=>by
  rcases vb5 h2 h1 with z | ⟨rfl,rfl⟩
  ·exact wb5 h2 h1 z
  ·exact vy2 _ _
 cases rd with
 | non=>simp only [tyN,Option.some.injEq] at e1; subst e1; cases rx; exact kia_one PySem.W.kitx_none I.kIn True.intro (hk _ [17] e2) (λ z=>nomatch z) fin
 | bl y=>simp only [tyN,Option.some.injEq] at e1; subst e1; cases rx; exact kia_one PySem.W.kitx_bool I.kIn True.intro (hk _ [17] e2) (λ z=>nomatch z) fin
 | int i=>simp only [tyN,Option.some.injEq] at e1; subst e1; obtain ⟨tk,rfl⟩:=rx; exact kia_one PySem.W.kitx_int I.kIn True.intro (hk _ [17] e2) (λ z=>nomatch z) fin
 | str y=>simp only [tyN,Option.some.injEq] at e1; subst e1; obtain ⟨tk,rfl⟩:=rx; exact kia_one PySem.W.kitx_str I.kIn True.intro (hk _ [17] e2) (λ z=>nomatch z) fin
 | tup hq rs =>
  simp only [tyN,Option.some.injEq] at e1; subst e1; cases rx;obtain ⟨its,rv,⟨o,ho,hc,_⟩,hz⟩:=I.tuple (SqT.of hq);exact kia_one PySem.W.kitx_tuple I.kIn ⟨o,ho,hc⟩ (hk _ [17] e2) (λ z=>nomatch z) fin
 | ref p =>
  simp only [tyN] at e1;split at e1
  ·next l e0 =>
   simp only [Option.some.injEq] at e1; subst e1; cases rx;obtain ⟨vs,hv,rs⟩:=m p l e0;obtain ⟨its,rv,pl,hz⟩:=I.list (SqL.of hv);obtain ⟨o,ho,hc,_⟩:=pl.isList;exact kia_one PySem.W.kitx_list I.kIn ⟨o,ho,hc⟩ (hk _ [17] e2) (λ z=>nomatch z) fin
  ·cases e1
 | ty n=>simp [tyN] at e1
 | fls _ _=>simp [tyN] at e1
 | ktp _ _=>simp [tyN] at e1
 | exc _ _ _=>simp [tyN] at e1
theorem q_isi:RC X (.builtin "isinstance") isiR:=by
 refine ⟨_,xc3,λ xs vs H Q μ Q3 m r h k=>?_⟩;cases r with
 | nil=>exact False.elim h
 | cons r1 r2 =>
  cases r2 with
  | nil=>exact False.elim h
  | cons r2 r3 =>
   cases r3 with
   | cons _ _=>cases r2 <;> exact False.elim h
   | nil =>
    cases r2 with
    | ty T =>
     rename_i d v;dsimp only [isiR] at h;cases e:tyN μ d with
     | none=>simp_all
     | some t =>
      rw [e] at h;dsimp only at h;cases e2:isIn t T with
      | none=>simp_all
      | some b =>
       rw [e2] at h;exact ⟨d,v,μ,t,T,b,rfl,m,r1,e,e2,k _ _ _ _ h [38] (.bl _) m⟩
    | _=>exact False.elim h
variable {o:Expr} {to:TE3} {t:TA3} {apos cpos:Pos}
theorem wp4 {name:Str} {id:String} {r:V->List V->Hp->VK->Prop} {r3:D->List D->Mu->VK3->Prop} (slot:Slot "list" name id) (hty:typeOf (.builtin id)=pure (.type "method_descriptor")) (hm:MtR X id r)
    (hrd:∀ p xs v vs H Q μ Q3,RelM X.K μ H->RelD X.K H [66] v->RelDs X.K H xs vs->r3 [66] xs μ Q3->Ks X.K H Q3 Q->r v vs H Q) (ho:RE X o to) (ha:RA X (e :: es) t)
    (hbase:attributeBase o name X.env (eval o X.env)=eval o X.env)
    (hfew:([81].all (λ x=>!x.1) && [70].all (λ x=>x.1.isSome)
     && decide [29])=true)
    (hline:(apos.endLine == cpos.line)=true) (hs:starEach (e :: es) X.env=[26] :: starEach es X.env) (hplain:(backTo cpos [31]).any (·.1)=false) :
    RE X (.Call (.Attribute o name apos) (e :: es) [] cpos) (mt3 r3 to t):=by
 obtain ⟨va,pa,ra⟩:=ho;obtain ⟨vb,pb,rb⟩:=ha;refine ⟨_,yv3 PySem.F.plainAttrs_list slot hty hm pa pb hbase hfew hline hs hplain,λ σ H Q ρ μ Q3 s m h k=>ra σ H _ ρ μ _ s m h λ d μ1 v H1 h1 k1 r1 m1=>?_⟩;cases r1 with
 | ref p =>
  dsimp only at h1;cases e0:μ1 p with
  | none=>simp_all
  | some oo =>
   cases oo with
   | dcl _ _=>simp_all
   | lst l =>
    rw [e0] at h1;obtain ⟨vs,hv,rs⟩:=m1 p l e0;refine ⟨.inl ⟨rfl,vs,SqL.of hv⟩,rb σ H1 _ ρ μ1 _ [63] m1 h1 λ xs μ2 ys H2 h2 k2 r2 m2=>?_⟩;exact hrd p xs _ ys H2 Q μ2 Q3 m2 [66] r2 h2 (k.after (k1.trans k2))
 | _=>exact False.elim h1
theorem si2 (ho:RE X o to) (ha:RA X (e :: es) t) (hbase:attributeBase o "append" X.env (eval o X.env)=eval o X.env:=by rfl)
    (hfew:([81].all (λ x=>!x.1) && [70].all (λ x=>x.1.isSome)
     && decide [29])=true:=by rfl)
    (hline:(apos.endLine == cpos.line)=true:=by rfl) (hs:starEach (e :: es) X.env=[26] :: starEach es X.env:=by rfl) (hplain:(backTo cpos [31]).any (·.1)=false:=by rfl) :
    RE X (.Call (.Attribute o "append" apos) (e :: es) [] cpos) (mt3 appR to t):=by
 refine wp4 PySem.F.slot_list_append PySem.F.type_list_append wk1 (λ p xs v vs H Q μ Q3 m rp rx h k=>?_) ho ha hbase hfew hline hs hplain;cases rp;cases rx with
 | nil=>exact False.elim h
 | cons r1 r2 =>
  cases r2 with
  | cons _ _=>exact False.elim h
  | nil =>
   dsimp only [appR] at h;cases e0:μ p with
   | none=>simp_all
   | some oo =>
    cases oo with
    | dcl _ _=>simp_all
    | lst l =>
     rw [e0] at h;obtain ⟨vs,hv,rs⟩:=m p l e0;exact ⟨p,vs,_,rfl,rfl,hv,by rw [<- rs.length]; exact h.1,k _ _ _ _ h.2 (Kp.wr hv) .non (m.wr hv (rs.append (.cons r1 .nil)))⟩
theorem ti2 (ho:RE X o to) (ha:RA X (e :: es) t) (hbase:attributeBase o "extend" X.env (eval o X.env)=eval o X.env:=by rfl)
    (hfew:([81].all (λ x=>!x.1) && [70].all (λ x=>x.1.isSome)
     && decide [29])=true:=by rfl)
    (hline:(apos.endLine == cpos.line)=true:=by rfl) (hs:starEach (e :: es) X.env=[26] :: starEach es X.env:=by rfl) (hplain:(backTo cpos [31]).any (·.1)=false:=by rfl) :
    RE X (.Call (.Attribute o "extend" apos) (e :: es) [] cpos) (mt3 extR to t):=by
 refine wp4 PySem.F.slot_list_extend PySem.F.type_list_extend vl2 (λ p xs v vs H Q μ Q3 m rp rx h k=>?_) ho ha hbase hfew hline hs hplain;cases rp;cases rx with
 | nil=>exact False.elim h
 | cons r1 r2 =>
  cases r2 with
  | cons _ _=>cases r1 <;> exact False.elim h
  | nil =>
   cases r1 with
   | ref q =>
    dsimp only [extR] at h;cases e0:μ p with
    | none=>simp_all
    | some oo =>
     cases oo with
     | dcl _ _=>simp_all
     | lst l =>
      cases e2:μ q with
      | none=>simp_all
      | some o2 =>
       cases o2 with
       | dcl _ _=>simp_all
       | lst l2 =>
        rw [e0,e2] at h;obtain ⟨vs,hv,rs⟩:=m p l e0;obtain ⟨us,hu,ru⟩:=m q l2 e2;exact ⟨p,q,vs,us,rfl,rfl,hv,hu,by rw [<- rs.length,<- ru.length]; exact h.1,k _ _ _ _ h.2 (Kp.wr hv) .non (m.wr hv (rs.append ru))⟩
   | _=>exact False.elim h
end
abbrev wc0 (X:Cx) (NN:[35]) (scope:Scope) (cl:List (Str × Addr)) (C:Addr) (fp:List Addr) (s₀:[47]) (H₀:Hp) (pn:[19]):Cx :=
 { X with N:=NN,s₀:=s₀,H₀:=H₀,env:=compEnvC scope cl C X.env,outer:=X.stack,ex:=fp,fn:=λ _=>false,pn:=pn,xe:=λ _ _=>False }
structure CompSc (X:Cx) (NN:List Str) (scope:Scope) (cl:List (Str × Addr)) (js:List (Option Nat)):Prop where
 clos:closureFor scope X.env=pure cl
 cell:∀ y ∈ scope.names,y.2 ≠ .cell
 kind:scope.kind=.function
 names:∀ y ∈ scope.names,y.2=.local->scope.names.lookup y.1=some .local
 sub:∀ x c,cl.lookup x=some c->X.env.cells.lookup x=some c
 has:∀ x,((relabel scope X.env).names.lookup x=some .cell \/ (relabel scope X.env).names.lookup x=some .free)->∃ c,cl.lookup x=some c
 len:js.length=NN.length
 out:∀ (i j:Nat),js[i]?=some (some j)->∃ x,NN[i]?=some x /\ X.N[j]?=some x /\ Vis X.env.scope x /\ X.env.scope.names.lookup x ≠ some .local /\ ((relabel scope X.env).names.lookup x=some .cell \/ (relabel scope X.env).names.lookup x=some .free)
theorem zh0 {α:Type} {x:Str} {k:α}:∀ {l:List (Str × α)},l.lookup x=some k->(x,k) ∈ l
 | [],h=>by simp at h
 | (n,k') :: r,h=>by
  rw [lookup_cons] at h;split at h
  ·simp_all
  ·exact mem_cons_of_mem _ (zh0 h)
variable {NN:[35]} {scope:Scope}
theorem CompSc.closed (hf:∀ y ∈ scope.names,y.2 ≠ .free) (hc:∀ y ∈ scope.names,y.2 ≠ .cell) (hk:scope.kind=.function) (hn:∀ y ∈ scope.names,y.2=.local->scope.names.lookup y.1=some .local) :
    CompSc X NN scope [] (NN.map λ _=>none) where
 clos:=closureFor_none hf
 cell:=hc
 kind:=hk
 names:=hn
 sub:=λ x c h=>by simp at h
 has:=λ x h=>by
  exfalso
  have e:(relabel scope X.env).names=scope.names:=map_eq_self (l:=scope.names) (λ y hy=>by
   simp [*])
  rw [e] at h;rcases h with h | h
  ·exact hc _ (zh0 h) rfl
  ·exact hf _ (zh0 h) rfl
 len:=by simp
 out:=λ i j h=>by
  simp_all
def sw0 (js:List (Option Nat)) (σ:L2.St):L2.St:=js.map λ j=>j.bind λ j=>(σ[j]?).bind id
def PTs (X:Cx) (ifs:[67]) (t:TT):Prop:=∀ (pins:[19]) (s:[47]) (σ:L2.St) (H:Hp) (Q:Bool->Hp->Prop),Inv X pins σ H s->t σ H Q ->
 wpAny [11] X.A (forIn ifs true λ c r=>if r=true then do let ok <- isTrue c X.env (eval c X.env); pure (ForInStep.yield ok) else pure (ForInStep.yield r)) (TP X pins σ Q) X.xe s
theorem us3:PTs X [] (λ _ H Q=>Q true H):=λ _ _ _ H _ I h=>wpAny_tests_nil ⟨H,I,h⟩
theorem vs3 {c:Expr} {t:TT} (h:PT X c t):PTs X [c] t:=λ pins s σ H Q I q=>wpAny_tests_one (h pins s σ H Q I q)
def ve2 (js:List (Option Nat)) (wi:TI) (g:TG) (tc:TT) (te:TE):TE:=λ σ H Q=>wi σ H λ J H1=>∀ p,H1 p=none ->
 ∃ W:Nat->Nat->L2.St->Hp->Prop,(∃ m,W 0 m (sw0 js σ) (upd H1 p (.lst []))) /\ ∀ i m σ' H',W i m σ' H' ->
  ((J.stop i H' /\ Q [66] H') \/ (J.go i H' /\ ∀ x H2,J.yld i H' x H2->g x σ' H2 λ σ3 H3=>tc σ3 H3 λ b H4 =>
   if b=true then te σ3 H4 λ y H5=>∃ ys,H5 p=some (.lst ys) /\ ys.length < sizeLine /\ ∃ m',m' < m /\ W (i + 1) m' σ3 (upd H5 p (.lst (ys ++ [y]))) else ∃ m',m' < m /\ W (i + 1) m' σ3 H4))
variable {cl:List (Str × Addr)} {js:List (Option Nat)} {fp:List Addr} {elt target:Expr} {ifs:[67]}
section
theorem uz3 {pn:[19]} (hc:[82]) (S:CompSc X NN scope cl js) (I:[13]) (f:∀ b ∈ fp,FpOk X pins H b /\ b < s.heap.objs.size) :
    (wc0 X NN scope cl s.heap.objs.size fp s H pn).Ok where
 mod:=I.ok.mod
 kind:=S.kind
 glob:=I.ok.glob
 blt:=I.ok.blt
 above:=Nat.le_refl _
 inj:=λ x y c h1 h2=>I.ok.inj x y c (S.sub x c h1) (S.sub y c h2)
 has:=λ x h=>S.has x h
 cab:=λ x c h=>by cases h
 hd:=λ _=>I.ok.hd hc
 frames:=I.ok.frames
 stk:=.inl rfl
 exf:=λ b hb=>⟨Nat.ne_of_lt (f b hb).2,λ x c e=>(f b hb).1.2.2.2.2.1 x c (S.sub x c e)⟩
 bs:=I.bs
 bsz:=Nat.le_trans I.ok.bsz I.sz
 noex:=λ b o e hb=>by
  rcases (f b hb).1.2.2.2.1 with z | z
  ·exact I.ok.noex b o e z
  ·exact absurd (Nat.lt_of_lt_of_le (Heap.lt_size e) (Nat.le_trans I.ok.bsz z)) (Nat.lt_irrefl _)
 exfs:=λ b hb hfs=>by
  rcases List.mem_cons.mp (I.stkSub b hfs) with z | z
  ·exact (f b hb).1.2.1 z
  ·exact (f b hb).1.2.2.1 z
 funs:=I.stack
 frf:=I.stkFree
theorem yn2 {i:Nat} (h:(sw0 js σ)[i]?=some (some v)):∃ j,js[i]?=some (some j) /\ σ[j]?=some (some v):=by
 unfold sw0 at h;rw [getElem?_map] at h;cases q:js[i]? with
 | none=>simp_all
 | some o =>
  rw [q] at h;cases o with
  | none=>simp at h
  | some j =>
   refine ⟨j,rfl,?_⟩;simp only [Option.map_some,Option.bind_some,Option.some.injEq] at h;cases e:σ[j]? with
   | none=>simp_all
   | some w=>simp_all
theorem vq2 {h₁:Heap} {m:[24]} {tk:Nat} (hc:[82]) (S:CompSc X NN scope cl js) (I:[13]) (f:∀ b ∈ fp,FpOk X pins H b /\ b < s.heap.objs.size)
    (hn:h₁.Ns s.heap.objs.size m) (k:∀ b u,s.heap.get? b=some u->h₁.get? b=some u):Inv (wc0 X NN scope cl s.heap.objs.size fp s H (X.pn ++ pins)) [] (sw0 js σ) H { s with heap:=h₁,toks:=tk } where
 ok:=uz3 hc S I f
 os:=rfl
 bare:=I.bare
 base:=Un.kept k
 loc:=by
  refine ⟨m,hn,λ i x v h1 h2 h3=>?_⟩;obtain ⟨j,e1,e2⟩:=yn2 h2;obtain ⟨y,q1,q2,q3,q4,q5⟩:=S.out i j e1;have q1':NN[i]?=some x:=h1;rw [q1] at q1'; cases q1';obtain ⟨mX,_,hl⟩:=I.loc;obtain ⟨u,r,l⟩:=hl j x v q2 e2 q3;refine ⟨u,r,.inr ⟨q5,?_⟩⟩;rcases l with ⟨z,_⟩ | ⟨_,c,hc',hcell⟩
  ·exact absurd z q4
  ·obtain ⟨c',hc2⟩:=S.has x q5;have e:=S.sub x c' hc2;rw [hc'] at e; cases e;obtain ⟨o,ho,hd⟩:=hcell;exact ⟨c,hc2,o,k _ _ ho,hd⟩
 cell:=λ x c e=>by
  obtain ⟨v,o,ho,hd⟩:=I.cell x c (S.sub x c e);exact ⟨v,o,k _ _ ho,hd⟩
 free:=I.hok.fresh [18]
 freeC:=λ x c e=>I.freeC x c (S.sub x c e)
 pin:=λ p hp=>by
  have hp':p ∈ X.pn ++ pins:=by simpa using hp
  obtain ⟨h1,h2,h3,h4,h5⟩:=I.pin p hp';refine ⟨k _ _ h1,h2,Nat.ne_of_lt (Heap.lt_size h1),λ z=>?_,h5⟩;rcases List.mem_cons.mp (I.stkSub _ z) with z | z
  ·exact h3 z
  ·exact h4 z
 hok:=I.hok.kept k
 len:=by show (sw0 js σ).length=NN.length; unfold sw0; rw [length_map]; exact S.len
theorem uq2 {g:TG} {tc:TT} {te:TE} (hc:[82]) (S:CompSc X NN scope cl js) (hi:PI X target iter wi)
    (hg:∀ C fp s₀ H₀ pn,PG [22] target g) (ht:∀ C fp s₀ H₀ pn,PTs [22] ifs tc) (he:∀ C fp s₀ H₀ pn,PE [22] elt te)
    (hs:∀ x,foldedSetIterable iter X.env x=pure x) {use:Option (Value->Sem Unit)} {Q':[7]} (I:[13]) (h:ve2 js wi g tc te σ H Q)
    (hu:∀ (p0 C:Addr) (H':Hp) (s':[47]) (m':[24]),Inv X pins σ H' s'->s'.heap.Ns C m'->H' C=none->C ≠ X.env.locals->X.s₀.heap.objs.size<=C->(∀ x c,X.env.cells.lookup x=some c->c ≠ C)->(∀ p ∈ X.pn ++ pins,p.1 ≠ C)->Q (.ref p0) H' ->
     compPost [11] X.A X.xe use Q' (.ref p0) C (.ok .next) s') :
    wpAny [11] X.A (comprehension [27] scope X.env (firstIterPos [⟨target,iter,ifs,0⟩] pos) (newList []) (firstAsync [⟨target,iter,ifs,0⟩]) (firstIter [⟨target,iter,ifs,0⟩] X.env) use) Q' X.xe s:=by
 refine wpAny_comprehension_free (use:=use) rfl hs S.clos S.kind S.names (thn (hi pins s σ H _ I h) λ xv s1 h1=>thn h1 λ itv s2 h2=>?_);obtain ⟨it,fp,tn,J,H2,rfl,I2,T,st2,f2,hW⟩:=h2;refine wpAny_newObj_type (wpAny_newFunctionEnv S.cell [17] (λ h₁ hns₁ hsb₁=>?_) S.kind);dsimp only at hns₁ hsb₁ ⊢;have hD:H2 s2.heap.objs.size=none:=I2.hok.fresh [18]
 have I3:Inv X pins σ (upd H2 s2.heap.objs.size (.lst [])) { s2 with heap:=s2.heap.push { cls:=.type "list",dict:=none,data:=.seq ([]:List Value).toArray } } :=
  I2.lnew (t':=s2.toks) (its:=[]) .nil (by trivial)
 generalize hsD:({ s2 with heap:=s2.heap.push { cls:=.type "list",dict:=none,data:=.seq ([]:List Value).toArray } }:Shared)=sD at I3;have eh:sD.heap=s2.heap.push { cls:=.type "list",dict:=none,data:=.seq ([]:List Value).toArray }:=by rw [<- hsD]
 have es:∀ (h:Heap) (tk:Nat),({ s2 with heap:=h,toks:=tk }:Shared)={ sD with heap:=h,toks:=tk }:=λ h tk=>by rw [<- hsD]
 have hsz:s2.heap.objs.size < sD.heap.objs.size:=by simp_all
 rw [<- eh] at hns₁ hsb₁ ⊢;generalize hp0:s2.heap.objs.size=p0 at *;have up:∀ b u,s2.heap.get? b=some u->sD.heap.get? b=some u:=λ b u e=>by rw [eh]; exact Heap.get?_push_of_some _ e
 have k:∀ b u,sD.heap.get? b=some u->h₁.get? b=some u:=λ b u e=>hsb₁.extBut b u (Nat.ne_of_lt (Heap.lt_size e)) (Heap.get?_push_of_some _ e)
 have f3:∀ b ∈ fp,FpOk X pins (upd H2 p0 (.lst [])) b /\ b < sD.heap.objs.size:=λ b hb=>by
  obtain ⟨o,ho,_⟩:=T.obj 0 _ st2 b hb;have hlt:b < p0:=by rw [<- hp0]; exact Heap.lt_size ho
  refine ⟨⟨?_,(f2 b hb).2⟩,Nat.lt_trans hlt hsz⟩;rw [xc0 (Nat.ne_of_lt hlt)]; exact (f2 b hb).1
 obtain ⟨W,⟨m0,w0⟩,turn⟩:=hW p0 hD;have I4:=vq2 (tk:=s2.toks + ([]:List (Str × Value)).length) hc S I3 f3 hns₁ k;have st4:tn 0 h₁:=T.keep 0 _ _ st2 λ b _ o e=>k b o (up b o e);rw [es];generalize hX':wc0 X NN scope cl sD.heap.objs.size fp sD (upd H2 p0 (.lst [])) (X.pn ++ pins)=X' at I4;have a1:X'.env=compEnvC scope cl sD.heap.objs.size X.env:=by rw [<- hX']
 have a2:X'.prog=X.prog:=by rw [<- hX']
 have a3:X'.w=X.w:=by rw [<- hX']
 have a4:X'.A=X.A:=by rw [<- hX']
 have a5:X'.K=X.K:=by rw [<- hX']
 have a6:X'.calm=true:=by rw [<- hX']; exact hc
 have a7:X'.xe=λ _ _=>False:=by rw [<- hX']
 have a8:X'.ex=fp:=by rw [<- hX']
 have T':Turn X'.prog X'.w X'.K target J fp it tn:=by simp_all
 have hg':PG X' target g:=by rw [<- hX']; exact hg _ _ _ _ _
 have ht':PTs X' ifs tc:=by rw [<- hX']; exact ht _ _ _ _ _
 have he':PE X' elt te:=by rw [<- hX']; exact he _ _ _ _ _
 have fin:∀ {σ':L2.St} {H':Hp} {s':[47]},Inv X' [] σ' H' s'->Q (.ref p0) H'->compPost [11] X.A X.xe use Q' (.ref p0) sD.heap.objs.size (.ok .next) s':=λ {σ' H' s'} I' q=>by
  obtain ⟨m',hn',_⟩:=I'.loc;rw [a1] at hn'
  have u:Un (frs X.stack) fp (upd H2 p0 (.lst [])) H' sD.heap s'.heap:=by
   have:=I'.base;rw [<- hX'] at this;exact this
  have hch:∀ b ∈ fp,(b ∈ X.ex \/ X.s₀.heap.objs.size<=b) /\ b ≠ X.env.locals /\ (∀ x c,X.env.cells.lookup x=some c->c ≠ b) /\ ∀ p ∈ X.pn ++ pins,p.1 ≠ b:=λ b hb=>by
   obtain ⟨_,z1,_,z3,z4,z5⟩:=(f3 b hb).1;trivial
  have os':s'.os=sD.os:=by
   have:=I'.os;rw [<- hX'] at this;exact this
  have hok':HOk X.prog X.w H' s'.heap:=by
   have:=I'.hok
   simp_all
  have I5:Inv X pins σ H' s':=I3.call' os' u hok' I'.bare hch
  have hC:H' sD.heap.objs.size=none:=by
   have:=I'.free;rw [a1] at this;exact this
  refine hu p0 _ H' s' m' I5 hn' hC (Nat.ne_of_gt I3.lt) I3.sz (λ x c e=>?_) (λ p hp=>?_) q
  ·obtain ⟨v,o,ho,_⟩:=I3.cell x c e;exact Nat.ne_of_lt (Heap.lt_size ho)
  ·exact Nat.ne_of_lt (Heap.lt_size (I3.pin p hp).1)
 have fp4:∀ {H':Hp},(∀ b ∈ fp,H' b=none)->∀ b ∈ fp,FpOk X' [] H' b:=λ hn b hb=>by
  obtain ⟨_,z1,z2,z3,z4,z5⟩:=(f3 b hb).1;rw [<- hX'];refine ⟨hn b hb,Nat.ne_of_lt (f3 b hb).2,λ z=>?_,.inl hb,λ x c e=>z4 x c (S.sub x c e),λ p hp=>z5 p (by simpa using hp)⟩;rcases List.mem_cons.mp (I3.stkSub _ z) with z | z
  ·exact z1 z
  ·exact z2 z
 have loop:∀ s₃:Shared,Inv X' [] (sw0 js σ) (upd H2 p0 (.lst [])) s₃->tn 0 s₃.heap ->
     codeAny [11] X.A (.compLoop [27] 0 (.ref it) (.ref p0) (compEnvC scope cl sD.heap.objs.size X.env)) (compPost [11] X.A X.xe use Q' (.ref p0) sD.heap.objs.size) s₃:=by
  intro s₃ I₃ st₃;refine codeAny_loop rfl (λ n s'=>∃ i σ' H',Inv X' [] σ' H' s' /\ tn i s'.heap /\ (∀ b ∈ fp,H' b=none) /\ W i n σ' H') (λ n s' hI=>?_) m0 ⟨0,sw0 js σ,_,I₃,st₃,λ b hb=>(f3 b hb).1.1,w0⟩;obtain ⟨i,σ3,H3,J3,st3,fr3,w3⟩:=hI;have tr:=turn i n σ3 H3 w3;show wpAny _ X.A ((compTurn [27] 0 (.ref it) (.ref p0) (compEnvC scope cl sD.heap.objs.size X.env)).onRaise (λ x=>do noteFrame x (compEnvC scope cl sD.heap.objs.size X.env); theTreesLotGoes x)) _ _ s';refine wpAny_noted ?_;rw [compTurn_list,<- a1,<- a2,<- a3,<- a4];have nof:∀ {α:Type} {t:Sem α} {Q':α->Shared->Prop} {s'':[47]} {E:[7]},wpAny (model X'.prog X'.w) X'.A t Q' X'.xe s''->wpAny (model X'.prog X'.w) X'.A t Q' E s'':=λ h=>wpAny_mono h (λ _ _ q=>q) λ _ _ z=>by simp_all
  rcases tr with ⟨stop,qn⟩ | ⟨go,step⟩
  ·refine wpAny_bind (wpAny_standAt (wpAny_bind (nof (thn (T'.done X' rfl rfl rfl a6 i [] s' σ3 H3 X'.xe J3 (fp4 fr3) st3 stop) λ r s4 ⟨hr,J4⟩=>?_))));subst hr;refine wpAny_pure ?_;show compPost (model X'.prog X'.w) X'.A X.xe use Q' (.ref p0) sD.heap.objs.size (.ok .next) s4;rw [a2,a3,a4];exact fin J4 qn
  ·refine wpAny_bind (wpAny_standAt (wpAny_bind (nof (thn (T'.item X' rfl rfl rfl a6 i [] s' σ3 H3 X'.xe J3 (fp4 fr3) st3 go) λ r s4 ⟨u,hr,h4⟩=>?_))));subst hr;refine wpAny_bind (nof (thn h4 λ _ s5 ⟨x,H5,I5,r5,y5,st5,fr5⟩=>?_));have I5':=I5.pinned (fp4 fr5) (T.obj _ _ st5);refine wpAny_bind (nof (thn (hg' _ s5 σ3 H5 x u _ I5' r5 (step x H5 y5)) λ _ s6 ⟨σ6,H6,I6,q6⟩=>?_));refine wpAny_bind (nof (thn (ht' _ s6 σ6 H6 _ I6 q6) λ ok s7 ⟨H7,I7,q7⟩=>?_))
   have again:∀ {s8:[47]} {σ8:L2.St} {H8:Hp},Inv X' ([] ++ sz0 fp s5.heap) σ8 H8 s8->(∃ m',m' < n /\ W (i + 1) m' σ8 H8)->∃ m,m < n /\ ∃ i σ' H',Inv X' [] σ' H' s8 /\ tn i s8.heap /\ (∀ b ∈ fp,H' b=none) /\ W i m σ' H':=λ {s8 σ8 H8} I8 ⟨m',hm,w8⟩=>by
    refine ⟨m',hm,i + 1,σ8,H8,I8.unpinned,T.keep _ _ _ st5 λ b hb o e=>(I8.pin (b,o) [85]).1,λ b hb=>?_,w8⟩;obtain ⟨o,e,d⟩:=T.obj _ _ st5 b hb;exact (I8.pin (b,o) [85]).2.1
   cases ok with
   | false=>exact wpAny_pure ⟨rfl,again I7 q7⟩
   | true =>
    refine wpAny_bind (wpAny_bind (nof (thn (he' _ s7 σ6 H7 _ I7 q7) λ xv s8 ⟨y,H8,I8,r8,ys,q8,hlen,q9⟩=>wpAny_bind (nof ?_))));refine thn (wk1 (X:=X') _ s8 σ6 H8 (.ref p0) [y] (.ref p0) [xv] (λ v H9=>v=.non /\ H9=upd H8 p0 (.lst (ys ++ [y]))) I8 rfl (.cons r8 .nil) ⟨p0,ys,y,rfl,rfl,q8,hlen,rfl,rfl⟩) λ rv s9 ⟨v9,H9,I9,_,_,e9⟩=>?_;subst e9;exact wpAny_pure (wpAny_pure ⟨rfl,again I9 q9⟩)
 exact codeAny_compStart_list (loop _ I4 st4) (T.self X.A 0 _ _ _ st4 (loop _ I4 st4))
theorem su3 {g:TG} {tc:TT} {te:TE} (hc:[82]) (S:CompSc X NN scope cl js) (hi:PI X target iter wi)
    (hg:∀ C fp s₀ H₀ pn,PG [22] target g) (ht:∀ C fp s₀ H₀ pn,PTs [22] ifs tc) (he:∀ C fp s₀ H₀ pn,PE [22] elt te)
    (hs:∀ x,foldedSetIterable iter X.env x=pure x):PE X [27] (ve2 js wi g tc te):=by
 intro pins s σ H Q I h;rw [eval_ListComp];refine uq2 (use:=none) (Q':=EP X pins σ Q) hc S hi hg ht he hs I h λ p0 C H' s' m' I5 hn hC n1 n2 n3 n4 q=>⟨m',hn,λ h' sb=>?_⟩;exact ⟨.ref p0,H',I5.turned (t':=s'.toks) (it:=C) (λ b o hb e=>sb.extBut b o hb e) hC n1 (.inr n2) n3 n4,rfl,q⟩
end
theorem vk3:bootBuiltins "len" = some (.builtin "len"):=by decide +kernel
theorem uo0:bootBuiltins "isinstance" = some (.builtin "isinstance"):=by decide +kernel
theorem sw1:bootBuiltins "tuple" = some (.type "tuple"):=by decide +kernel
theorem uk3:bootBuiltins "int" = some (.type "int"):=by decide +kernel
theorem vf5:bootBuiltins "str" = some (.type "str"):=by decide +kernel
theorem xb4:bootBuiltins "bool" = some (.type "bool"):=by decide +kernel
theorem sa4:bootBuiltins "list" = some (.type "list"):=by decide +kernel
theorem uf5:bootBuiltins "set" = some (.type "set"):=by decide +kernel
theorem xg5:bootBuiltins "all" = some (.builtin "all"):=by decide +kernel
theorem tf5:bootBuiltins "min" = some (.builtin "min"):=by decide +kernel
theorem sf5:bootBuiltins "max" = some (.builtin "max"):=by decide +kernel
theorem sx0:bootBuiltins "sorted" = some (.builtin "sorted"):=by decide +kernel
def RTs (X:Cx) (ifs:[67]) (t:TT3):Prop:=∃ tv,PTs X ifs tv /\ RdT X.K tv t
theorem up3:RTs X [] tt3:=⟨_,us3,λ σ H Q ρ μ Q3 s m h k=>k _ _ _ h [38] m⟩
theorem vp3 {c:Expr} {t:TT3} (h:RT X c t):RTs X [c] t:=let ⟨tv,p,r⟩:=h; ⟨tv,vs3 p,r⟩
theorem wz2 {ρ:St3} (s:RSt K H ρ σ) (js:List (Option Nat)):RSt K H (js.map λ j=>j.bind (getI ρ)) (sw0 js σ):=by
 refine ⟨by simp [sw0],λ i d e=>?_⟩;rw [tp1,getElem?_map] at e;unfold sw0;rw [getElem?_map];cases q:js[i]? with
 | none=>simp_all
 | some o =>
  rw [q] at e;cases o with
  | none=>simp at e
  | some j =>
   have e':getI ρ j=some d:=by simpa using e
   obtain ⟨v,h1,h2⟩:=s.at' j d e'
   simp_all
theorem RdE.comp {g:TG} {tc:TT} {te:TE} {g3:TG3} {tc3:TT3} {te3:TE3} (ri:RdI K wi ti) (rg:RdG K g g3) (rt:RdT K tc tc3) (re:RdE K te te3):RdE K (ve2 js wi g tc te) (xe0 js ti g3 tc3 te3):=by
 intro σ H Q ρ μ Q3 s m h k;refine ri σ H _ ρ μ _ s m h λ l S μ1 J H1 h1 k1 m1 ok p hp=>?_;obtain ⟨W,w0,hS,hn,hs⟩:=h1 p (m1.free hp);have kn:Kp H1 (upd H1 p (.lst [])):=Kp.new hp;refine ⟨λ i n σ2 H2=>n=l.length - i /\ i<=l.length /\ ∃ ρ2 μ2 ys,RSt K H2 ρ2 σ2 /\ RelM K μ2 H2 /\ Kp H1 H2 /\ W (l.drop i) ys ρ2 μ2,⟨l.length,rfl,Nat.zero_le _,_,_,[],(wz2 [63] js).mono kn,m1.newL hp .nil,kn,w0⟩,?_⟩;rintro i n σ2 H2 ⟨rfl,hi,ρ2,μ2,ys,s2,m2,k2,w2⟩;obtain ⟨hS2,hp2⟩:=hS _ _ _ _ w2;by_cases hlt:i < l.length
 ·rw [List.drop_eq_getElem_cons hlt] at w2;obtain ⟨hz,h2⟩:=hs _ _ _ _ _ w2;obtain ⟨ok1,_⟩:=ok i H2 μ2 k2 m2 hS2;obtain ⟨go,yl⟩:=ok1 l[i] (getElem?_eq_getElem hlt);refine .inr ⟨go,λ x H3 y=>?_⟩;obtain ⟨k3,m3,r3⟩:=yl x H3 y;refine rg x l[i] σ2 H3 _ ρ2 μ2 _ (s2.mono k3) m3 r3 h2 λ ρ4 μ4 σ4 H4 h4 k4 s4 m4=>?_;refine rt σ4 H4 _ ρ4 μ4 _ s4 m4 h4 λ b μ5 H5 h5 k5 m5=>?_;have k15:Kp H1 H5:=k2.trans (k3.trans (k4.trans k5));cases b with
  | false=>exact ⟨l.length - (i + 1),by omega,rfl,hlt,ρ4,μ5,ys,s4.mono k5,m5,k15,h5⟩
  | true =>
   refine re σ4 H5 _ ρ4 μ5 _ (s4.mono k5) m5 h5 λ d μ6 v H6 h6 k6 r6 m6=>?_;obtain ⟨vs,hv,rv⟩:=m6 p ys h6.1;refine ⟨vs,hv,by rw [<- rv.length]; exact hz,l.length - (i + 1),by omega,rfl,hlt,ρ4,_,_,((s4.mono k5).mono k6).mono (Kp.wr hv),m6.wr hv (rv.append (.cons r6 .nil)),(k15.trans k6).trans (Kp.wr hv),h6.2⟩
 ·have e:i=l.length:=by omega
  subst e;rw [List.drop_length] at w2;exact .inl ⟨(ok _ H2 μ2 k2 m2 hS2).2 [18],k _ _ _ _ (hn _ _ _ w2) (k1.trans k2) [66] m2⟩
section
variable {tc:TT3} 
theorem zt0 (hc:[82]) (S:CompSc X NN scope cl js) (hi:RI X target iter ti) (hg:∀ C fp s₀ H₀ pn,RG [22] target g)
    (ht:∀ C fp s₀ H₀ pn,RTs [22] ifs tc) (he:∀ C fp s₀ H₀ pn,RE [22] elt te)
    (hs:∀ x,foldedSetIterable iter X.env x=pure x):RE X [27] (xe0 js ti g tc te):=by
 obtain ⟨wi,pi,ri⟩:=hi
 let gU:TG:=λ v σ H Q=>∀ (r:TG3),r=g->∃ d ρ μ Q3,RSt X.K H ρ σ /\ RelM X.K μ H /\ RelD X.K H d v /\ g d ρ μ Q3 /\ (∀ ρ' μ' σ' H',Q3 ρ' μ'->Kp H H'->RSt X.K H' ρ' σ'->RelM X.K μ' H'->Q σ' H')
 let tU:TT:=λ σ H Q=>∃ ρ μ Q3,RSt X.K H ρ σ /\ RelM X.K μ H /\ tc ρ μ Q3 /\ (∀ b μ' H',Q3 b μ'->Kp H H'->RelM X.K μ' H'->Q b H')
 let eU:TE:=λ σ H Q=>∃ ρ μ Q3,RSt X.K H ρ σ /\ RelM X.K μ H /\ te ρ μ Q3 /\ Ks X.K H Q3 Q
 have hg':∀ C fp s₀ H₀ pn,PG [22] target gU:=λ C fp s₀ H₀ pn=>by
  obtain ⟨tv,p,r⟩:=hg C fp s₀ H₀ pn;intro pins s σ H v u Q I rv h;obtain ⟨d,ρ,μ,Q3,a1,a2,a3,a4,a5⟩:=h g rfl;exact p pins s σ H v u Q I rv (r v d σ H Q ρ μ Q3 a1 a2 a3 a4 a5)
 have ht':∀ C fp s₀ H₀ pn,PTs [22] ifs tU:=λ C fp s₀ H₀ pn=>by
  obtain ⟨tv,p,r⟩:=ht C fp s₀ H₀ pn;intro pins s σ H Q I h;obtain ⟨ρ,μ,Q3,a1,a2,a3,a4⟩:=h;exact p pins s σ H Q I (r σ H Q ρ μ Q3 a1 a2 a3 a4)
 have he':∀ C fp s₀ H₀ pn,PE [22] elt eU:=λ C fp s₀ H₀ pn=>by
  obtain ⟨tv,p,r⟩:=he C fp s₀ H₀ pn;intro pins s σ H Q I h;obtain ⟨ρ,μ,Q3,a1,a2,a3,a4⟩:=h;exact p pins s σ H Q I (r σ H Q ρ μ Q3 a1 a2 a3 a4)
 exact ⟨_,su3 hc S pi hg' ht' he' hs,RdE.comp ri (λ v d σ H Q ρ μ Q3 a1 a2 a3 a4 a5 _ _=>⟨d,ρ,μ,Q3,a1,a2,a3,a4,a5⟩) (λ σ H Q ρ μ Q3 a1 a2 a3 a4=>⟨ρ,μ,Q3,a1,a2,a3,a4⟩) (λ σ H Q ρ μ Q3 a1 a2 a3 a4=>⟨ρ,μ,Q3,a1,a2,a3,a4⟩)⟩
theorem zf1 (hf:∀ y ∈ scope.names,y.2 ≠ .free) (hcl:∀ y ∈ scope.names,y.2 ≠ .cell) (hn:∀ y ∈ scope.names,y.2=.local->scope.names.lookup y.1=some .local) (hi:RI X target iter ti) (hg:∀ C fp s₀ H₀ pn,RG (wc0 X NN scope [] C fp s₀ H₀ pn) target g)
    (ht:∀ C fp s₀ H₀ pn,RTs (wc0 X NN scope [] C fp s₀ H₀ pn) ifs tc) (he:∀ C fp s₀ H₀ pn,RE (wc0 X NN scope [] C fp s₀ H₀ pn) elt te) (hc:X.calm=true:=by rfl) (hk:scope.kind=.function:=by rfl)
    (hs:∀ x,foldedSetIterable iter X.env x=pure x:=by intro _; rfl):RE X [27] (xe0 (NN.map λ _=>none) ti g tc te) :=
 zt0 hc (CompSc.closed hf hcl hk hn) hi hg ht he hs
end
mutual
inductive TupK (K:Fg):List D->Addr->Prop where
 | mk {a:Addr} {l:List D} {its:Array Value} {n:Nat} {od:Option Addr} {sl:Array (Option Value)}:K.lookup a=some ⟨.type "tuple",od,.seq its n,sl⟩->its.size<=sizeLine->ItK K l its.toList->TupK K l a
inductive ItK (K:Fg):List D->List Value->Prop where
 | nil:ItK K [] []
 | int {i:Int} {t:Tok} {l:List D} {us:List Value}:ItK K l us->ItK K (.int i :: l) (.int i t :: us)
 | str {x:Str} {t:Tok} {l:List D} {us:List Value}:ItK K l us->ItK K (.str x :: l) (.str x t :: us)
 | bl {b:Bool} {l:List D} {us:List Value}:ItK K l us->ItK K (.bl b :: l) (.bool b :: us)
 | tup {a:Addr} {l' l:List D} {us:List Value}:TupK K l' a->ItK K l us->ItK K (.ktp l' :: l) (.ref a :: us)
end
mutual
theorem TupK.rel {K:Fg}:∀ {l:List D} {a:Addr},TupK K l a->∀ H,RelD K H (.ktp l) (.ref a)
 | _,_,.mk h1 h2 h3,H=>by
  obtain ⟨vs,r,rd⟩:=h3.rel;exact .ktp (.inr ⟨_,_,_,h1,rfl,rfl,h2,r⟩) (rd H)
theorem ItK.rel {K:Fg}:∀ {l:List D} {us:[25]},ItK K l us->∃ vs,Vals vs us /\ ∀ H,RelDs K H l vs
 | _,_,.nil=>⟨[],.nil,λ _=>.nil⟩
 | _,_,.int h=>let ⟨vs,r,rd⟩:=h.rel; ⟨_,.cons (show RelV (.int _) _ from ⟨_,rfl⟩) r,λ H=>.cons (.int _) (rd H)⟩
 | _,_,.str h=>let ⟨vs,r,rd⟩:=h.rel; ⟨_,.cons (show RelV (.str _) _ from ⟨_,rfl⟩) r,λ H=>.cons (.str _) (rd H)⟩
 | _,_,.bl h=>let ⟨vs,r,rd⟩:=h.rel; ⟨_,.cons (show RelV (.bl _) _ from rfl) r,λ H=>.cons (.bl _) (rd H)⟩
 | _,_,.tup h0 h=>let ⟨vs,r,rd⟩:=h.rel; ⟨_,.cons (show RelV (.ref _) _ from rfl) r,λ H=>.cons (h0.rel H) (rd H)⟩
end
section
variable {h:Heap} 
theorem yc5 {t:Tok} (X:K.In h) (G:h.Ns mainGlobals mg) (e:nsIn K mainGlobals x=some (some (.int i t))):Gd K mg x (.int i):=⟨_,.int i,mg_of X G e,⟨_,rfl⟩,λ _=>.int i⟩
theorem xc5 {i:Str} {t:Tok} (X:K.In h) (G:h.Ns mainGlobals mg) (e:nsIn K mainGlobals x=some (some (.str i t))):Gd K mg x (.str i):=⟨_,.str i,mg_of X G e,⟨_,rfl⟩,λ _=>.str i⟩
theorem wi3 {a:Addr} {l:List D} (X:K.In h) (G:h.Ns mainGlobals mg) (e:nsIn K mainGlobals x=some (some (.ref a))) (r:TupK K l a):Gd K mg x (.ktp l):=⟨_,.ref a,mg_of X G e,rfl,λ H=>r.rel H⟩
end
theorem xl1 {K:Fg} {H:Hp}:∀ ns:List Int,RelDs K H (ns.map D.int) (ns.map V.int)
 | []=>.nil
 | n :: r=>.cons (.int n) (xl1 r)
theorem zy2 {a:Addr} {ns:[64]} (hO:Only H) (hS:SqL K H a (ns.map V.int)) (h:sp [.fls (ns.map D.int)] (λ _=>none) (λ d _=>d=.bl true)) :
    lift K sp [.ref a] H (λ v _=>v=.bl true) λ _ _ _=>False:=by
 have hF:SqF K H a (ns.map V.int):=by
  rcases hS with (h1 | ⟨o,h1⟩) | h1
  ·rcases hO a with z | ⟨o,xs,z⟩
   ·simp_all
   simp_all
  ·exact .inl ⟨o,h1⟩
  ·exact .inr h1
 refine ⟨_,_,_,.cons (.fls hF (xl1 ns)) .nil,⟨λ p o e=>(by cases e)⟩,h,λ d μ' v H' q _ r _=>?_⟩;subst q;cases r;rfl
open PySem.AutoSeq1 (wpAny_loadPart')
section
theorem q_mul:RO X (binaryOp .Mult) mulR:=by
 refine ⟨_,vv3,λ x y v u H Q μ Q3 m rx ry h k=>?_⟩;unfold mulR at h;split at h
 ·cases rx;cases ry;exact ⟨_,_,rfl,rfl,h.1,k _ _ _ _ h.2 [38] (.int _) m⟩
 ·exact h.elim
theorem wr2:CallR X (.type "int") (λ xs H Q=>∃ z n,xs=[.str z] /\ PySem.intText? z=some n /\ z.length<=640 /\ Q (.int n) H):=by
 intro pins s σ H xs us Q I r h;obtain ⟨z,n,rfl,e,hl,q⟩:=h;obtain ⟨u,rfl,t,rfl⟩:=wu0 r;exact PySem.W.KIN.call_text e hl ⟨.int n,H,I.tok _,⟨_,rfl⟩,q⟩
theorem q_int:RC X (.type "int") intR:=by
 refine ⟨_,call_int1.or wr2,λ xs vs H Q μ Q3 m r h k=>?_⟩;cases r with
 | nil=>exact False.elim h
 | cons r1 r2 =>
  cases r2 with
  | cons _ _=>cases r1 <;> exact False.elim h
  | nil =>
   cases r1 with
   | int i=>exact .inl (.inl ⟨i,rfl,k _ _ _ _ h [38] (.int _) m⟩)
   | bl b=>exact .inl (.inr ⟨b,rfl,k _ _ _ _ h [38] (.int _) m⟩)
   | str z =>
    dsimp only [intR] at h;cases e:PySem.intText? z with
    | none=>simp_all
    | some n =>
     rw [e] at h;exact .inr ⟨z,n,rfl,e,h.1,k _ _ _ _ h.2 [38] (.int _) m⟩
   | _=>exact False.elim h
theorem zp3:∀ (n d:Nat) (o:Option Int),HT.sIx n d o=sIx3 n d o
 | _,_,none=>rfl
 | _,_,some _=>rfl
theorem RelDs.cut {l:List D} (r:RelDs K H l vs) (lo hi:Option Int):RelDs K H (cut3 l lo hi) (cutV vs lo hi):=by
 unfold cut3 cutV;rw [<- r.length];simp only [zp3];exact (r.drop _).take _
def RdP (K:Fg) (tv:TO) (t:TO3):Prop:=∀ σ H Q ρ μ Q3,RSt K H ρ σ->RelM K μ H->t ρ μ Q3->(∀ o μ' H',Q3 o μ'->Kp H H'->RelM K μ' H'->Q o H')->tv σ H Q
def RP (X:Cx) (e:Option Expr) (t:TO3):Prop:=∃ tv,PO X e tv /\ RdP X.K tv t
theorem th2:RP X none np3:=⟨_,xu3,λ σ H Q ρ μ Q3 s m h k=>k _ _ _ h [38] m⟩
theorem uh2 (h:RE X e te):RP X (some e) (pt3 te):=by
 obtain ⟨tv,p,r⟩:=h;refine ⟨_,ut3 p,λ σ H Q ρ μ Q3 s m h k=>r σ H _ ρ μ _ s m h λ d μ1 v H1 h1 k1 r1 m1=>?_⟩;cases r1 with
 | int i=>exact ⟨i,rfl,k _ _ _ h1 k1 m1⟩
 | _=>exact False.elim h1
def RL (X:Cx) (r3:D->Option Int->Option Int->Mu->VK3->Prop):Prop:=∃ r,SlR X r /\ ∀ x v lo hi H Q μ Q3,RelM X.K μ H->RelD X.K H x v->r3 x lo hi μ Q3->Ks X.K H Q3 Q->r v lo hi H Q
def rSlS:V->Option Int->Option Int->Hp->VK->Prop:=λ x lo hi H Q=>∃ z:Str,x=.str z /\ z.length<=sizeLine /\ Q (.str ⟨(cut3 z.cps.toList lo hi).toArray⟩) H
theorem ti4 (lo hi:Option Int) (n:Nat):Builtin.Str.strSliceIndices lo hi 1 n=sliceRange ((sIx3 n 0 lo:Nat):Int) ((sIx3 n n hi:Nat):Int) 1:=by
 unfold Builtin.Str.strSliceIndices
 have a1:∀ (d:Nat) (v:Option Int),(match v with | none=>((d:Nat):Int) | some i=>(if (1:Int) > 0 then max 0 (min (if i < 0 then i + (n:Int) else i) (n:Int)) else max (-1) (min (if i < 0 then i + (n:Int) else i) ((n:Int) - 1))))=((sIx3 n d v:Nat):Int):=λ d v=>by
  cases v with
  | none=>rfl
  | some i =>
   simp only [sIx3,show (1:Int) > 0 by decide,if_true];by_cases h:i < 0
   ·simp_all;omega
   ·simp only [h,if_false]; omega
 have e1:=a1 0 lo;have e2:=a1 n hi;simp only [show (1:Int) > 0 by decide,if_true] at e1 e2 ⊢;rw [<- e1,<- e2];rfl
theorem uj4 (n:Nat) (o:Option Int):sIx3 n n o<=n:=by
 cases o with
 | none=>exact Nat.le_refl _
 | some v =>
  show (if v < 0 then (v + (n:Int)).toNat else min v.toNat n)<=n;split <;> omega
theorem vj4:SlR X rSlS:=by
 intro pins s σ H x v vl vu lo hi sl Q I rx hs pl pu h;obtain ⟨z,rfl,hz,q⟩:=h;obtain ⟨t,rfl⟩:=rx;refine ⟨"str",_,F.slot_str_getitem.lookup,typeIs_str _ _ _,?_⟩
 have hl:∃ l:Option (Int × Tok),partValue l=vl /\ l.map (·.1)=lo:=by
  cases pl with
  | none=>exact ⟨none,rfl,rfl⟩
  | int i t=>exact ⟨some (i,t),rfl,rfl⟩
 have hu:∃ u:Option (Int × Tok),partValue u=vu /\ u.map (·.1)=hi:=by
  cases pu with
  | none=>exact ⟨none,rfl,rfl⟩
  | int i t=>exact ⟨some (i,t),rfl,rfl⟩
 obtain ⟨l,rfl,rfl⟩:=hl;obtain ⟨u,rfl,rfl⟩:=hu;refine wpAny_getItem_str_slice (l:=l) (u:=u) (st:=none) hs rfl ?_
 have e:(slicePicked z l u none).filterMap (z.cps[·]?)=cut3 z.cps.toList (l.map (·.1)) (u.map (·.1)):=by
  unfold slicePicked;show (Builtin.Str.strSliceIndices _ _ 1 z.length).filterMap (z.cps[·]?)=_;rw [ti4,sliceRange_one,pick_run];rfl
 unfold sliceMade;split
 ·next hw =>
  have hlen:(slicePicked z l u none).length=z.length:=by
   simp_all
  have ez:cut3 z.cps.toList (l.map (·.1)) (u.map (·.1))=z.cps.toList:=by
   have h1:(Builtin.Str.strSliceIndices (l.map (·.1)) (u.map (·.1)) 1 z.length).length=z.length:=hlen;rw [ti4,sliceRange_one,length_map,length_range] at h1;have h2:=uj4 z.length (u.map (·.1));have hs:z.length=z.cps.size:=rfl;unfold cut3;rw [length_toList,<- hs];rcases Nat.eq_zero_or_pos z.length with h0 | h0
   ·have:z.cps.toList=[]:=List.eq_nil_of_length_eq_zero [21];rw [this]; simp
   ·have ha:sIx3 z.length 0 (l.map (·.1))=0:=by omega
    rw [ha,List.drop_zero];exact take_of_length_le [36]
  rw [ez] at q;exact ⟨.str z,H,I,⟨t,rfl⟩,q⟩
 ·rw [e];refine ⟨?_,.str _,H,I.tok _,⟨_,rfl⟩,q⟩;refine Nat.le_trans ?_ hz;show (cut3 z.cps.toList (l.map (·.1)) (u.map (·.1))).toArray.size<=z.cps.size;rw [size_toArray];unfold cut3
  simp_all;omega
theorem q_sl:RL X slR:=by
 refine ⟨_,sl_list.or vj4,λ x v lo hi H Q μ Q3 m rx h k=>?_⟩;unfold slR at h;split at h
 ·cases rx;exact .inr ⟨_,rfl,h.1,k _ _ _ _ h.2 [38] (.str _) m⟩
 ·cases rx;split at h
  ·next l e =>
   obtain ⟨vs,hv,rs⟩:=m _ l e;exact .inl ⟨_,vs,rfl,SqL.of hv,λ t ht=>k _ _ _ _ (h t (m.free ht)) (Kp.new ht) (.ref t) (m.newL ht (rs.cut lo hi))⟩
  ·exact h.elim
 ·exact h.elim
theorem xt1 {lo hi:Option Expr} {tl th:TO3} {p2:Pos} {r3:D->Option Int->Option Int->Mu->VK3->Prop} (hr:RL X r3) (he:RE X e te) (hl:RP X lo tl) (hu:RP X hi th):RE X (.Subscript e (.Slice lo hi none p2) pos) (sl3 r3 te tl th):=by
 obtain ⟨r,pr,rr⟩:=hr;obtain ⟨va,pa,ra⟩:=he;obtain ⟨vb,pb,rb⟩:=hl;obtain ⟨vc,pc,rc⟩:=hu
 exact ⟨_,zx2 pr pa pb pc,λ σ H Q ρ μ Q3 s m h k=>ra σ H _ ρ μ _ s m h λ x μ1 v H1 h1 k1 r1 m1=>rb σ H1 _ ρ μ1 _ [63] m1 h1 λ l μ2 H2 h2 k2 m2=>rc σ H2 _ ρ μ2 _ ([63].mono k2) m2 h2 λ u μ3 H3 h3 k3 m3 =>
  rr x v l u H3 Q μ3 Q3 m3 (r1.mono (k2.trans k3)) h3 (k.after (k1.trans (k2.trans k3)))⟩
theorem ws2 {K:Fg} {H:Hp}:∀ {l:List D} {vs:List V} {bs:List Bool},RelDs K H l vs->bls? l=some bs->vs=bs.map V.bl
 | _,_,bs,.nil,e=>by simp [bls?] at e; subst e; rfl
 | _,_,bs,.cons h r,e=>by
  cases h with
  | bl x =>
   simp only [bls?] at e;split at e
   ·next ys e1 =>
    simp only [Option.some.injEq] at e;subst e;rw [ws2 r e1]; rfl
   ·cases e
  | _=>simp [bls?] at e
theorem vq1:∀ {bs:List Bool} {us:[25]},Vals (bs.map V.bl) us->us=bs.map Value.bool
 | [],_,r=>by cases r; rfl
 | b :: bs,_,r=>by
  cases r with
  | cons r1 r2=>cases r1; rw [vq1 r2]; rfl
theorem we2 (prog:[60]) (w:World) (A:Around) (bs:List Bool):TruthOf prog w A (λ i v=>(bs.map Value.bool).toArray[i]?=some v) (λ i=>bs.getD i false):=by
 intro i v s Q E hP hQ;have hP':(bs.map Value.bool)[i]?=some v:=by simpa using hP
 rw [getElem?_map] at hP';cases e:bs[i]? with
 | none=>simp_all
 | some b =>
  rw [e] at hP';simp only [Option.map_some,Option.some.injEq] at hP';subst hP';refine wpAny_truthy_bool ?_
  simp_all
theorem xj2 (bs:List Bool):(List.range bs.length).all (λ i=>bs.getD i false)=bs.all id:=by
 rw [Bool.eq_iff_iff,all_eq_true,all_eq_true];constructor
 ·intro h x hx;obtain ⟨i,hi,rfl⟩:=List.mem_iff_getElem.mp hx
  simp_all
 ·intro h i hi;have hi':=List.mem_range.mp hi;rw [List.getD_eq_getElem?_getD,getElem?_eq_getElem hi'];exact h _ (getElem_mem hi')
theorem vr2 (hc:[82]):CallR X (.builtin "all") (λ xs H Q=>∃ (p:Addr) (bs:List Bool),xs=[.ref p] /\ SqL X.K H p (bs.map V.bl) /\ Q (.bl (bs.all id)) H):=by
 intro pins s σ H xs us Q I r h;obtain ⟨p,bs,rfl,hq,q⟩:=h;obtain ⟨u,rfl,rx⟩:=wu0 r;cases rx;obtain ⟨its,r',pl,hz⟩:=I.list hq;have eu:=vq1 r';subst eu;refine call_all_walk (wpAny_pyIter_list pl.isList ?_);have hlt:p < s.heap.objs.size:=by obtain ⟨o,ho,_⟩:=pl.isList; exact Heap.lt_size ho
 refine ⟨_,_,_,_,_,_,_,rfl,Walks.list (A:=X.A.in1) (I.ok.hd hc) _ p (Nat.ne_of_lt hlt) _,⟨[53],pl.isList.at λ o e=>Heap.get?_push_of_some _ e⟩,we2 _ _ _ bs,λ h' tk hk=>?_⟩;have e:(bs.map Value.bool).toArray.size=bs.length:=by simp
 rw [e,xj2];refine ⟨.bl _,H,I.kept (t':=tk) λ b o eb=>hk b o ?_ (Heap.get?_push_of_some _ eb),rfl,q⟩;intro z;rw [mem_singleton] at z;rw [z] at eb;exact absurd (Heap.lt_size eb) (Nat.lt_irrefl _)
theorem RdC.bools {f:List Bool->Bool} {r3:C3} (hr:∀ ds μ Q3,r3 ds μ Q3->∃ p l bs,ds=[.ref p] /\ μ p=some (.lst l) /\ bls? l=some bs /\ Q3 (.bl (f bs)) μ) :
    RdC K (λ xs H Q=>∃ (p:Addr) (bs:List Bool),xs=[.ref p] /\ SqL K H p (bs.map V.bl) /\ Q (.bl (f bs)) H) r3:=λ xs vs H Q μ Q3 m r h k=>by
 obtain ⟨p,l,bs,rfl,e,e1,q⟩:=hr _ _ _ h;cases r with
 | cons r1 r2 =>
  cases r2;cases r1;obtain ⟨us,hv,rs⟩:=m p l e;have ev:=ws2 rs e1;subst ev;exact ⟨p,bs,rfl,SqL.of hv,k _ _ _ _ q [38] (.bl _) m⟩
theorem q_all (hc:X.calm=true:=by rfl):RC X (.builtin "all") allR:=by
 refine ⟨_,vr2 hc,RdC.bools λ ds μ Q3 h=>?_⟩;unfold allR at h;split at h
 ·split at h
  ·next p _ l e =>
   split at h
   ·simp_all
   ·exact h.elim
  ·exact h.elim
 ·exact h.elim
end
end Pv
namespace Ms
open PySem.W PyProof.Rows
def run (lt:Nat->Nat->Bool) {α:Type}:KasT α->α
 | .ret a=>a
 | .ask i j k=>run lt (k (lt i j))
theorem vk0 (lt:Nat->Nat->Bool) {α β:Type} (f:α->KasT β):∀ t:KasT α,run lt (t.bind f)=run lt (f (run lt t))
 | .ret _=>rfl
 | .ask i j k=>vk0 lt f (k (lt i j))
structure Ord (lt:Nat->Nat->Bool):Prop where
 ir:∀ a,lt a a=false
 tr:∀ a b c,lt a b=true->lt b c=true->lt a c=true
 ng:∀ a b c,lt a c=true->lt a b=true \/ lt b c=true
variable {p:[76]} {n N:Nat}
section
variable {lt:Nat->Nat->Bool} (O:Ord lt)
abbrev at' (p:[76]) (i:Nat):Nat:=p.getD i 0
def le (lt:Nat->Nat->Bool) (a b:Nat):Prop:=lt b a=false
include O
theorem le_rf (a:Nat):le lt a a:=O.ir a
theorem uy0 {a b c:Nat} (h:le lt a b) (k:le lt b c):le lt a c:=by
 unfold le at *;cases e:lt c a with
 | false=>rfl
 | true =>
  rcases O.ng c b a e with h1 | h1
  ·simp_all
  simp_all
theorem ym2 {a b:Nat} (h:lt a b=true):le lt a b:=by
 unfold le;cases e:lt b a with
 | false=>rfl
 | true=>have:=O.tr a b a h e; rw [O.ir] at this; cases this
omit O
def Up (lt:Nat->Nat->Bool) (p:[76]) (n:Nat):Prop:=∀ a b,a<=b->b < n->le lt (at' p a) (at' p b)
def Dn (lt:Nat->Nat->Bool) (p:[76]) (n:Nat):Prop:=∀ a b,a<=b->b < n->le lt (at' p b) (at' p a)
theorem ug5 {q:[76]} {i j:Nat} (h:p[i]?=q[j]?):at' p i=at' q j:=by
 simp_all
theorem yy0 {i j:Nat} (hj:j<=p.size) (k:Nat):at' (kas_rev p i j) k=if i<=k /\ k < j then at' p (i + j - 1 - k) else at' p k:=by
 have h:=getElem?_mirror_all (xs:=p) (i:=i) hj k;split
 ·next c=>rw [if_pos c] at h; exact ug5 h
 ·next c=>rw [if_neg c] at h; exact ug5 h
theorem zl3 {k l:Nat} (hk:k < p.size) (hl:l<=k) (i:Nat):at' (bubble p k (k - l)) i=if i=l then at' p k else if l < i /\ i<=k then at' p (i - 1) else at' p i:=by
 have h:=getElem?_bubble (xs:=p) hk (k - l) [5] i;rw [show k - (k - l)=l by omega] at h;by_cases c:i=l
 ·simp_all
 ·rw [if_neg c] at h ⊢;by_cases c2:l < i /\ i<=k
  ·simp_all
  simp [*]
include O
theorem ue4 (p:[76]):Up lt p 1:=λ a b h1 h2=>by
 have e1:a=0:=by omega
 have e2:b=0:=by omega
 subst e1 e2;exact le_rf O _
theorem tl3 (h:Up lt p n) (h1:1<=n) (k:le lt (at' p (n - 1)) (at' p n)):Up lt p (n + 1):=λ a b hab hb=>by
 by_cases e:b=n
 ·subst e;by_cases e2:a=b
  ·subst e2; exact le_rf O _
  ·exact uy0 O (h a (b - 1) [5] [5]) k
 ·exact h a b hab [5]
theorem wx0 (h:Dn lt p n) (h1:1<=n) (k:le lt (at' p n) (at' p (n - 1))):Dn lt p (n + 1):=λ a b hab hb=>by
 by_cases e:b=n
 ·subst e;by_cases e2:a=b
  ·subst e2; exact le_rf O _
  ·exact uy0 O k (h a (b - 1) [5] [5])
 ·exact h a b hab [5]
theorem yt2 (p:[76]):∀ (f n:Nat),1<=n->Up lt p n->n<=run lt (kas_asc p f n) /\ run lt (kas_asc p f n)<=n + f /\ Up lt p (run lt (kas_asc p f n)) /\ (run lt (kas_asc p f n) < n + f->lt (at' p (run lt (kas_asc p f n))) (at' p (run lt (kas_asc p f n) - 1))=true)
 | 0,n,h1,h=>⟨Nat.le_refl _,Nat.le_refl _,h,λ z=>absurd z (Nat.lt_irrefl _)⟩
 | f + 1,n,h1,h=>by
  cases e:lt (at' p n) (at' p (n - 1)) with
  | true =>
   have r:run lt (kas_asc p (f + 1) n)=n:=by
    show run lt (if lt (at' p n) (at' p (n - 1))=true then .ret n else kas_asc p f (n + 1))=n;rw [e]; rfl
   simp_all
  | false =>
   have r:run lt (kas_asc p (f + 1) n)=run lt (kas_asc p f (n + 1)):=by
    show run lt (if lt (at' p n) (at' p (n - 1))=true then .ret n else kas_asc p f (n + 1))=_;rw [e]; rfl
   rw [r];obtain ⟨a1,a2,a3,a4⟩:=yt2 p f (n + 1) [5] (tl3 O h h1 e);exact ⟨by omega,by omega,a3,λ z=>a4 [5]⟩
omit O
def Eqs (lt:Nat->Nat->Bool) (p:[76]) (n q:Nat):Prop:=∀ a b,n - (q + 1)<=a->a < n->n - (q + 1)<=b->b < n->le lt (at' p a) (at' p b)
include O
theorem yi2 {q:Nat} (hn:n<=p.size) (hq:q + 1<=n) (h:Eqs lt p n q) (k:Nat):le lt (at' (kas_rev p (n - (q + 1)) n) k) (at' p k) /\ le lt (at' p k) (at' (kas_rev p (n - (q + 1)) n) k):=by
 rw [yy0 hn];split
 ·next c=>exact ⟨h _ _ [5] [5] c.1 c.2,h _ _ c.1 c.2 [5] [5]⟩
 ·exact ⟨le_rf O _,le_rf O _⟩
theorem xp2 {p':[76]} (h:Dn lt p n) (e:∀ k,le lt (at' p' k) (at' p k) /\ le lt (at' p k) (at' p' k)):Dn lt p' n:=λ a b hab hb =>
 uy0 O (e b).1 (uy0 O (h a b hab hb) (e a).2)
omit O
structure DOk (lt:Nat->Nat->Bool) (p0:Array Nat) (N:Nat) (r:Array Nat × Nat × Nat) (n:Nat):Prop where
 perm:r.1.Perm p0
 lo:n<=r.2.1
 hi:r.2.1<=N
 dn:Dn lt r.1 r.2.1
 q:r.2.2 + 1<=r.2.1
 eqs:Eqs lt r.1 r.2.1 r.2.2
include O
theorem xh1 (p0:[76]):∀ (f:Nat) (p:[76]) (n q:Nat),p.Perm p0->n + f<=p0.size->Dn lt p n->q + 1<=n->Eqs lt p n q->DOk lt p0 (n + f) (run lt (kas_desc f p n q)) n
 | 0,p,n,q,hp,hs,h,hq,he=>⟨hp,Nat.le_refl _,Nat.le_refl _,h,hq,he⟩
 | f + 1,p,n,q,hp,hs,h,hq,he=>by
  have hsz:p.size=p0.size:=hp.size_eq;cases e:lt (at' p n) (at' p (n - 1)) with
  | true =>
   have one:∀ p':Array Nat,Eqs lt p' (n + 1) 0:=λ p' a b a1 a2 b1 b2=>by
    have e1:a=n:=by omega
    have e2:b=n:=by omega
    subst e1 e2; exact le_rf O _
   by_cases c:q > 0
   ·have r:run lt (kas_desc (f + 1) p n q)=run lt (kas_desc f (kas_rev p (n - (q + 1)) n) (n + 1) 0):=by
      show run lt (if lt (at' p n) (at' p (n - 1))=true then (if q > 0 then kas_desc f (kas_rev p (n - (q + 1)) n) (n + 1) 0 else kas_desc f p (n + 1) 0) else _)=_
      simp_all
    rw [r];have lk:=yi2 O [5] hq he;have d:=xh1 p0 f (kas_rev p (n - (q + 1)) n) (n + 1) 0 ((mirror_perm _ _ _ _).trans hp) [5] (xp2 O (wx0 O h [5] (ym2 O e)) lk) [5] (one _);exact ⟨d.perm,by have:=d.lo; omega,by have:=d.hi; omega,d.dn,d.q,d.eqs⟩
   ·have r:run lt (kas_desc (f + 1) p n q)=run lt (kas_desc f p (n + 1) 0):=by
      show run lt (if lt (at' p n) (at' p (n - 1))=true then (if q > 0 then kas_desc f (kas_rev p (n - (q + 1)) n) (n + 1) 0 else kas_desc f p (n + 1) 0) else _)=_
      simp_all
    rw [r];have d:=xh1 p0 f p (n + 1) 0 hp [5] (wx0 O h [5] (ym2 O e)) [5] (one _);exact ⟨d.perm,by have:=d.lo; omega,by have:=d.hi; omega,d.dn,d.q,d.eqs⟩
  | false =>
   cases e2:lt (at' p (n - 1)) (at' p n) with
   | true =>
    have r:run lt (kas_desc (f + 1) p n q)=(p,n,q):=by
     show run lt (if lt (at' p n) (at' p (n - 1))=true then _ else (KasT.ask (at' p (n - 1)) (at' p n) λ d=>if d=true then .ret (p,n,q) else kas_desc f p (n + 1) (q + 1)))=_;rw [e,if_neg [14]];show run lt (if lt (at' p (n - 1)) (at' p n)=true then .ret (p,n,q) else kas_desc f p (n + 1) (q + 1))=_;rw [e2]; rfl
    rw [r];exact ⟨hp,Nat.le_refl _,by simp,h,hq,he⟩
   | false =>
    have r:run lt (kas_desc (f + 1) p n q)=run lt (kas_desc f p (n + 1) (q + 1)):=by
     show run lt (if lt (at' p n) (at' p (n - 1))=true then _ else (KasT.ask (at' p (n - 1)) (at' p n) λ d=>if d=true then .ret (p,n,q) else kas_desc f p (n + 1) (q + 1)))=_;rw [e,if_neg [14]];show run lt (if lt (at' p (n - 1)) (at' p n)=true then .ret (p,n,q) else kas_desc f p (n + 1) (q + 1))=_
     simp_all
    rw [r]
    have he':Eqs lt p (n + 1) (q + 1):=λ a b a1 a2 b1 b2=>by
     by_cases ca:a=n
     ·subst ca;by_cases cb:b=a
      ·subst cb; exact le_rf O _
      ·exact uy0 O e2 (he (a - 1) b [5] [5] [5] [5])
     ·by_cases cb:b=n
      ·subst cb; exact uy0 O (he a (b - 1) [5] [5] [5] [5]) e
      ·exact he a b [5] [5] [5] [5]
    have d:=xh1 p0 f p (n + 1) (q + 1) hp [5] (wx0 O h [5] e2) [5] he';exact ⟨d.perm,by have:=d.lo; omega,by have:=d.hi; omega,d.dn,d.q,d.eqs⟩
omit O
structure ROk (lt:Nat->Nat->Bool) (p0:Array Nat) (N:Nat) (r:Nat × Array Nat):Prop where
 perm:r.2.Perm p0
 lo:1<=r.1
 hi:r.1<=N
 up:Up lt r.2 r.1
theorem wd5 (hn:n<=p.size) (h:Dn lt p n):Up lt (kas_rev p 0 n) n:=λ a b hab hb=>by
 rw [yy0 hn,yy0 hn,if_pos [75],if_pos [75]];exact h _ _ [5] [5]
include O
theorem zr1 {p0:[76]} (hp:p.Perm p0) (hN:N<=p0.size) (h1:1<=n) (hn:n<=N) (h:Dn lt p n):ROk lt p0 N (run lt (kas_tail3 n N p)):=by
 have hsz:p.size=p0.size:=hp.size_eq;have u:=wd5 [5] h;unfold kas_tail3;rw [vk0];obtain ⟨a1,a2,a3,_⟩:=yt2 O (kas_rev p 0 n) (N - n) n h1 u;exact ⟨(mirror_perm _ _ _ _).trans hp,by show 1<=run lt _; omega,by show run lt _<=N; omega,a3⟩
theorem vx0 {p0:[76]} (hp:p.Perm p0) (hN:N<=p0.size) (hn:n + 1<=N) (h:Dn lt p (n + 1)):ROk lt p0 N (run lt (kas_descPart n N p)):=by
 have hsz:p.size=p0.size:=hp.size_eq;unfold kas_descPart;rw [vk0]
 have one:Eqs lt p (n + 1) 0:=λ a b a1 a2 b1 b2=>by
  have e1:a=n:=by omega
  have e2:b=n:=by omega
  subst e1 e2; exact le_rf O _
 have d:=xh1 O p0 (N - (n + 1)) p (n + 1) 0 hp [5] h [5] one;generalize run lt (kas_desc (N - (n + 1)) p (n + 1) 0)=r at d;obtain ⟨p',n',q'⟩:=r;have d1:=d.lo;have d2:=d.hi;have d3:=d.q;dsimp only at d1 d2 d3;have hs':p'.size=p0.size:=d.perm.size_eq;show ROk lt p0 N (run lt (if q' > 0 then kas_tail3 n' N (kas_rev p' (n' - (q' + 1)) n') else kas_tail3 n' N p'));split
 ·have lk:=yi2 O (p:=p') (n:=n') (q:=q') [5] d3 d.eqs;exact zr1 O ((mirror_perm _ _ _ _).trans d.perm) hN [5] [5] (xp2 O d.dn lk)
 ·exact zr1 O d.perm hN [5] [5] d.dn
theorem xb3 (hN:N<=p.size) (h1:1<=N):ROk lt p N (run lt (kas_count N p)):=by
 unfold kas_count;rw [vk0];obtain ⟨a1,a2,a3,a4⟩:=yt2 O p (N - 1) 1 [18] (ue4 O p);generalize run lt (kas_asc p (N - 1) 1)=n at a1 a2 a3 a4;by_cases c:n=N
 ·rw [if_pos [36]];exact ⟨Array.Perm.refl _,by show 1<=n; omega,by show n<=N; omega,a3⟩
 ·rw [if_neg (by simpa using c)];have lt1:=a4 [5];by_cases c2:n > 1
  ·rw [if_pos c2];show ROk lt p N (run lt (if lt (at' p 0) (at' p (n - 1))=true then .ret (n,p) else kas_descPart n N (kas_rev p 0 n)));cases e:lt (at' p 0) (at' p (n - 1)) with
   | true =>
    rw [if_pos rfl];exact ⟨Array.Perm.refl _,by show 1<=n; omega,by show n<=N; omega,a3⟩
   | false =>
    rw [if_neg [14]];have eq:∀ a b,a < n->b < n->le lt (at' p a) (at' p b):=λ a b ha hb=>uy0 O (a3 a (n - 1) [5] [5]) (uy0 O e (a3 0 b [5] hb));refine vx0 O (mirror_perm _ _ _ _) hN [5] ?_
    have d0:Dn lt (kas_rev p 0 n) n:=λ a b hab hb=>by
     rw [yy0 [5],yy0 [5],if_pos [75],if_pos [75]];exact eq _ _ [5] [5]
    refine wx0 O d0 [5] ?_;rw [yy0 [5],yy0 [5],if_neg [5],if_pos [75]];exact uy0 O (ym2 O lt1) (eq _ _ [5] [5])
  ·rw [if_neg c2];have e1:n=1:=by omega
   subst e1;refine vx0 O (Array.Perm.refl _) hN [5] ?_
   have d0:Dn lt p 1:=λ a b h1 h2=>by
    have e1:a=0:=by omega
    have e2:b=0:=by omega
    subst e1 e2; exact le_rf O _
   exact wx0 O d0 [18] (ym2 O lt1)
theorem uf1 {p:[76]} {k:Nat} (h:Up lt p k):∀ (f l r:Nat),l<=r->r<=k->r - l<=f->(∀ a,a < l->le lt (at' p a) (at' p k))->(∀ b,r<=b->b < k->lt (at' p k) (at' p b)=true) ->
    run lt (kas_place p k f l r)<=k /\ (∀ a,a < run lt (kas_place p k f l r)->le lt (at' p a) (at' p k)) /\ ∀ b,run lt (kas_place p k f l r)<=b->b < k->lt (at' p k) (at' p b)=true
 | 0,l,r,hlr,hrk,hf,h1,h2=>⟨by show l<=k; omega,h1,λ b hb1 hb2=>h2 b (by have:l<=b:=hb1; omega) hb2⟩
 | f + 1,l,r,hlr,hrk,hf,h1,h2=>by
  by_cases c:l ≥ r
  ·have e:run lt (kas_place p k (f + 1) l r)=l:=by
     show run lt (if l ≥ r then .ret l else _)=l;rw [if_pos c]; rfl
   rw [e];exact ⟨by omega,h1,λ b hb1 hb2=>h2 b [5] hb2⟩
  ·cases e:lt (at' p k) (at' p ((l + r) / 2)) with
   | true =>
    have e2:run lt (kas_place p k (f + 1) l r)=run lt (kas_place p k f l ((l + r) / 2)):=by
     show run lt (if l ≥ r then .ret l else .ask (at' p k) (at' p ((l + r) / 2)) λ c=>if c=true then kas_place p k f l ((l + r) / 2) else kas_place p k f ((l + r) / 2 + 1) r)=_;rw [if_neg c];show run lt (if lt (at' p k) (at' p ((l + r) / 2))=true then _ else _)=_;rw [e,if_pos rfl]
    rw [e2];refine uf1 h f l ((l + r) / 2) [5] [5] [5] h1 λ b hb1 hb2=>?_;have z:=h ((l + r) / 2) b hb1 hb2;rcases O.ng (at' p k) (at' p b) (at' p ((l + r) / 2)) e with y | y
    ·exact y
    ·unfold le at z; simp_all
   | false =>
    have e2:run lt (kas_place p k (f + 1) l r)=run lt (kas_place p k f ((l + r) / 2 + 1) r):=by
     show run lt (if l ≥ r then .ret l else .ask (at' p k) (at' p ((l + r) / 2)) λ c=>if c=true then kas_place p k f l ((l + r) / 2) else kas_place p k f ((l + r) / 2 + 1) r)=_;rw [if_neg c];show run lt (if lt (at' p k) (at' p ((l + r) / 2))=true then _ else _)=_
     simp_all
    rw [e2];exact uf1 h f ((l + r) / 2 + 1) r [5] hrk [5] (λ a ha=>uy0 O (h a ((l + r) / 2) [5] [5]) e) h2
theorem sk3 {p0:[76]}:∀ (f:Nat) (p:[76]) (k:Nat),p.Perm p0->1<=k->k + f<=p0.size->Up lt p k->(run lt (kas_bin f p k)).Perm p0 /\ Up lt (run lt (kas_bin f p k)) (k + f)
 | 0,p,k,hp,h1,hs,h=>⟨hp,h⟩
 | f + 1,p,k,hp,h1,hs,h=>by
  have hsz:p.size=p0.size:=hp.size_eq
  have e:run lt (kas_bin (f + 1) p k)=run lt (kas_bin f (bubble p k (k - run lt (kas_place p k k 0 k))) (k + 1)):=by
   show run lt ((kas_place p k k 0 k).bind λ l=>kas_bin f (bubble p k (k - l)) (k + 1))=_;rw [vk0]
  rw [e];obtain ⟨b1,b2,b3⟩:=uf1 O h k 0 k [5] [18] [5] (λ a ha=>absurd ha (Nat.not_lt_zero _)) (λ b hb1 hb2=>by omega);generalize run lt (kas_place p k k 0 k)=l at b1 b2 b3
  have u:Up lt (bubble p k (k - l)) (k + 1):=λ a b hab hb=>by
   rw [zl3 [5] b1,zl3 [5] b1];by_cases ca:a=l
   ·rw [if_pos ca];by_cases cb:b=l
    ·rw [if_pos cb]; exact le_rf O _
    ·rw [if_neg cb,if_pos [75]]; exact ym2 O (b3 _ [5] [5])
   ·rw [if_neg ca];by_cases cb:b=l
    ·rw [if_pos cb,if_neg [5]]; exact b2 _ [5]
    ·rw [if_neg cb];by_cases ca2:l < a /\ a<=k
     ·rw [if_pos ca2,if_pos [75]]; exact h _ _ [5] [5]
     ·rw [if_neg ca2];by_cases cb2:l < b /\ b<=k
      ·rw [if_pos cb2]; exact h _ _ [5] [5]
      ·rw [if_neg cb2]; exact h _ _ [5] [5]
  have z:=sk3 f (bubble p k (k - l)) (k + 1) ((bubble_perm _ _ _).trans hp) [5] [5] u;rw [show k + 1 + f=k + (f + 1) by omega] at z;exact z
theorem sort_ok (hn:1<=n):(run lt (kas_sort n)).Perm (List.toArray (List.range n)) /\ Up lt (run lt (kas_sort n)) n:=by
 have hs:(List.toArray (List.range n)).size=n:=by simp
 unfold kas_sort;rw [vk0];have c:=xb3 O (p:=List.toArray (List.range n)) (N:=n) [5] hn;generalize run lt (kas_count n (List.toArray (List.range n)))=r at c;obtain ⟨m,p⟩:=r;have c1:=c.lo;have c2:=c.hi;dsimp only at c1 c2;show (run lt (if m < n then kas_bin (n - max m 1) p (max m 1) else .ret p)).Perm _ /\ Up lt (run lt (if m < n then kas_bin (n - max m 1) p (max m 1) else .ret p)) n;rw [show max m 1=m by omega];by_cases e:m < n
 ·rw [if_pos e];have z:=sk3 O (n - m) p m c.perm c1 [5] c.up
  simp_all
 ·rw [if_neg e];have e2:m=n:=by omega
  subst e2;exact ⟨c.perm,c.up⟩
end
def Bd (N:Nat) {α:Type} (P:α->Prop):KasT α->Prop
 | .ret a=>P a
 | .ask i j k=>i < N /\ j < N /\ ∀ b,Bd N P (k b)
theorem Bd.bind {N:Nat} {α β:Type} {P:α->Prop} {R:β->Prop} {f:α->KasT β} (hf:∀ a,P a->Bd N R (f a)):∀ t:KasT α,Bd N P t->Bd N R (t.bind f)
 | .ret a,h=>hf a h
 | .ask i j k,h=>⟨h.1,h.2.1,λ b=>Bd.bind hf (k b) (h.2.2 b)⟩
theorem Bd.wp {N:Nat} {lt:Nat->Nat->Bool} {cmp:Nat->Nat->(Bool->PySem.Shared->Prop)->PySem.Shared->Prop} {s:PySem.Shared} (hc:∀ i j C,i < N->j < N->C (lt i j) s->cmp i j C s) {α:Type} {P:α->Prop} {Q:α->PySem.Shared->Prop} :
    ∀ t:KasT α,Bd N P t->Q (run lt t) s->t.kasWp cmp Q s
 | .ret _,_,q=>q
 | .ask i j k,h,q=>hc i j _ h.1 h.2.1 (Bd.wp hc (k (lt i j)) (h.2.2 _) q)
variable {m:Nat}
section
theorem ul0 (hN:1<=N) (hp:p.Perm [39]) (k:Nat):at' p k < N:=by
 show p.getD k 0 < N;rw [Array.getD_eq_getD_getElem?];cases e:p[k]? with
 | none=>exact hN
 | some x =>
  have h1:x ∈ p:=Array.mem_of_getElem? e;have h2:x ∈ List.toArray (List.range N):=hp.mem_iff.mp h1;simpa using h2
theorem us2 (hN:1<=N) {p:[76]} (hp:p.Perm [39]):∀ f n,Bd N (λ _=>True) (kas_asc p f n)
 | 0,_=>trivial
 | f + 1,n=>⟨ul0 hN hp _,ul0 hN hp _,λ b=>by
  show Bd N _ (if b=true then .ret n else kas_asc p f (n + 1));split
  ·trivial
  ·exact us2 hN hp f (n + 1)⟩
theorem sh1 (hN:1<=N):∀ f (p:[76]) n q,p.Perm ([39])->Bd N (λ r=>r.1.Perm [39]) (kas_desc f p n q)
 | 0,_,_,_,hp=>hp
 | f + 1,p,n,q,hp=>⟨ul0 hN hp _,ul0 hN hp _,λ b=>by
  show Bd N _ (if b=true then (if q > 0 then kas_desc f (kas_rev p (n - (q + 1)) n) (n + 1) 0 else kas_desc f p (n + 1) 0) else _);split
  ·split
   ·exact sh1 hN f _ _ _ ((mirror_perm _ _ _ _).trans hp)
   ·exact sh1 hN f _ _ _ hp
  ·refine ⟨ul0 hN hp _,ul0 hN hp _,λ d=>?_⟩;show Bd N _ (if d=true then .ret (p,n,q) else kas_desc f p (n + 1) (q + 1));split
   ·exact hp
   ·exact sh1 hN f _ _ _ hp⟩
theorem xx1 (hN:1<=N) (hp:p.Perm [39]):Bd N (λ r=>r.2.Perm [39]) (kas_tail3 n m p):=by
 have hr:(kas_rev p 0 n).Perm [39]:=(mirror_perm _ _ _ _).trans hp;unfold kas_tail3;refine Bd.bind (P:=λ _=>True) (f:=λ m=>.ret (m,kas_rev p 0 n)) (λ a _=>?_) _ (us2 hN hr _ _);exact hr
theorem xy0 (hN:1<=N) (hp:p.Perm [39]):Bd N (λ r=>r.2.Perm [39]) (kas_descPart n m p):=by
 refine Bd.bind (λ r hr=>?_) _ (sh1 hN _ _ _ _ hp);show Bd N _ (if r.2.2 > 0 then kas_tail3 r.2.1 m (kas_rev r.1 (r.2.1 - (r.2.2 + 1)) r.2.1) else kas_tail3 r.2.1 m r.1);split
 ·exact xx1 hN ((mirror_perm _ _ _ _).trans hr)
 ·exact xx1 hN hr
theorem uc3 (hN:1<=N) (hp:p.Perm [39]):Bd N (λ r=>r.2.Perm [39]) (kas_count m p):=by
 refine Bd.bind (λ n _=>?_) _ (us2 hN hp _ _);split
 ·exact hp
 ·split
  ·refine ⟨ul0 hN hp _,ul0 hN hp _,λ b=>?_⟩;show Bd N _ (if b=true then .ret (n,p) else kas_descPart n m (kas_rev p 0 n));split
   ·exact hp
   ·exact xy0 hN ((mirror_perm _ _ _ _).trans hp)
  ·exact xy0 hN hp
theorem th1 (hN:1<=N) {p:[76]} {k:Nat} (hp:p.Perm [39]):∀ f l r,Bd N (λ _=>True) (kas_place p k f l r)
 | 0,_,_=>trivial
 | f + 1,l,r=>by
  show Bd N _ (if l ≥ r then .ret l else .ask (at' p k) (at' p ((l + r) / 2)) λ c=>if c=true then kas_place p k f l ((l + r) / 2) else kas_place p k f ((l + r) / 2 + 1) r);split
  ·trivial
  ·refine ⟨ul0 hN hp _,ul0 hN hp _,λ b=>?_⟩;show Bd N _ (if b=true then kas_place p k f l ((l + r) / 2) else kas_place p k f ((l + r) / 2 + 1) r);split
   ·exact th1 hN hp f _ _
   ·exact th1 hN hp f _ _
theorem xl3 (hN:1<=N):∀ f (p:[76]) k,p.Perm ([39])->Bd N (λ _=>True) (kas_bin f p k)
 | 0,_,_,_=>trivial
 | f + 1,p,k,hp=>Bd.bind (λ l _=>xl3 hN f _ _ ((bubble_perm _ _ _).trans hp)) _ (th1 hN hp _ _ _)
theorem bd_sort (hN:1<=N):Bd N (λ _=>True) (kas_sort N):=by
 refine Bd.bind (λ r hr=>?_) _ (uc3 hN (Array.Perm.refl _));split
 ·exact xl3 hN _ _ _ hr
 ·trivial
end
end Ms
namespace Pv
open PySem PySem.Spec PySem.W PyProof.Rows L2
abbrev T3:=Int × Int × Int
def lt3 (a b:T3):Bool:=decide (a.1 < b.1) || (a.1 == b.1 && (decide (a.2.1 < b.2.1) || (a.2.1 == b.2.1 && decide (a.2.2 < b.2.2))))
def IsT3 (h:Heap) (v:Value) (t:T3):Prop:=∃ a o t1 t2 t3 n,v=.ref a /\ h.get? a=some o /\ o.cls=.type "tuple" /\ o.data=.seq #[.int t.1 t1,.int t.2.1 t2,.int t.2.2 t3] n
variable {h:Heap} {v:Value}
theorem IsT3.one {t u:T3} (i:IsT3 h v t) (k:IsT3 h v u):t=u:=by
 obtain ⟨a,o,t1,t2,t3,n,rfl,e2,_,e4⟩:=i;obtain ⟨b,q,u1,u2,u3,m,f1,f2,_,f4⟩:=k;cases f1;rw [e2] at f2;cases f2;rw [e4] at f4;obtain ⟨x,y,z⟩:=t
 simp_all
theorem lt3_iff {a b:T3}:lt3 a b=true ↔ a.1 < b.1 \/ a.1=b.1 /\ (a.2.1 < b.2.1 \/ a.2.1=b.2.1 /\ a.2.2 < b.2.2):=by simp [lt3]
theorem wz4 {a b c:Int} {P Q R:Prop} (h:a < b \/ a=b /\ P) (k:b < c \/ b=c /\ Q) (f:P->Q->R):a < c \/ a=c /\ R:=by
 rcases h with h | ⟨rfl,p⟩
 ·omega
 ·exact k.imp id λ ⟨e,q⟩=>⟨e,f p q⟩
theorem vz4 {a c:Int} (b:Int) {P Q R:Prop} (h:a < c \/ a=c /\ R) (f:R->P \/ Q):(a < b \/ a=b /\ P) \/ (b < c \/ b=c /\ Q):=by
 rcases Int.lt_trichotomy a b with p | rfl | p
 ·exact .inl (.inl p)
 ·rcases h with h | ⟨e,r⟩
  ·exact .inr (.inl h)
  simp_all
 omega
theorem tw3 (ts:[50]):Ms.Ord λ i j=>lt3 (ts.getD i (0,0,0)) (ts.getD j (0,0,0)) where
 ir:=λ a=>by simp [lt3]
 tr:=λ a b c h k=>lt3_iff.mpr (wz4 (lt3_iff.mp h) (lt3_iff.mp k) λ p q=>wz4 p q Int.lt_trans)
 ng:=λ a b c h=>by
  rw [lt3_iff,lt3_iff];refine vz4 _ (lt3_iff.mp h) λ r=>vz4 _ r λ x=>?_;omega
variable {prog:[60]} {w:World} {A:Around} {E:[7]} {s:[47]}
section
theorem ui5 {x y:Value} {a b:T3} {Q:Bool->Shared->Prop} (hx:IsT3 s.heap x a) (hy:IsT3 s.heap y b) (h:Q (lt3 a b) s):wpAny [8] A (keyLt' (tuples' true) x y) Q E s:=by
 obtain ⟨x,ox,t1,t2,t3,n,rfl,ex,_,dx⟩:=hx;obtain ⟨y,oy,u1,u2,u3,m,rfl,ey,_,dy⟩:=hy;obtain ⟨a1,a2,a3⟩:=a;obtain ⟨b1,b2,b3⟩:=b;refine kat_lt ex dx ey dy ?_;refine kat_cons (wpAny_eqBool_int ?_);by_cases c1:a1=b1
 ·rw [show (a1 == b1)=true from beq_iff_eq.mpr c1];refine kat_yes (kat_cons (wpAny_eqBool_int ?_));by_cases c2:a2=b2
  ·rw [show (a2 == b2)=true from beq_iff_eq.mpr c2];refine kat_yes (kat_cons (wpAny_eqBool_int ?_));by_cases c3:a3=b3
   ·rw [show (a3 == b3)=true from beq_iff_eq.mpr c3];refine kat_yes (kat_nil ?_);have e:lt3 (a1,a2,a3) (b1,b2,b3)=false:=by subst c1 c2 c3; simp [lt3]
    simp_all
   ·rw [show (a3 == b3)=false from by simpa using c3];have e:lt3 (a1,a2,a3) (b1,b2,b3)=decide (a3 < b3):=by subst c1 c2; simp [lt3]
    rw [e] at h;exact kat_no (kat_one _ _ (lt_int h))
  ·rw [show (a2 == b2)=false from by simpa using c2];have e:lt3 (a1,a2,a3) (b1,b2,b3)=decide (a2 < b2):=by subst c1; simp [lt3,c2]
   rw [e] at h;exact kat_no (kat_one _ _ (lt_int h))
 ·rw [show (a1 == b1)=false from by simpa using c1];have e:lt3 (a1,a2,a3) (b1,b2,b3)=decide (a1 < b1):=by simp [lt3,c1]
  rw [e] at h;exact kat_no (oneLt_int h)
end
abbrev ltI (ts:[50]):Nat->Nat->Bool:=λ i j=>lt3 (ts.getD i (0,0,0)) (ts.getD j (0,0,0))
abbrev outV (vs:[25]) (p:[76]):List Value:=p.toList.map λ i=>vs.getD i Value.none
theorem tb2 (vs:[25]):outV vs (List.toArray (List.range vs.length))=vs:=by
 apply List.ext_getElem
 ·simp
 simp_all
variable {n:Nat}
theorem no_lt {vs:Array Value} {C:Prop} (h:(seqObj "list" vs n).cls=Value.type "tuple"):C:=by
 simp_all
structure SK (prog:Program) (w:World) (vs:List Value) (lt:Nat->Nat->Bool) (κ:SortKind) (J:Heap->Prop) (U:Nat):Prop where
 od:Ms.Ord lt
 kd:2<=vs.length->∀ {A:Around} {E:Value->Shared->Prop} (s:Shared) {Q:SortKind->Shared->Prop},J s.heap->Q κ s->wpAny (model prog w) A (keyKind' vs.toArray) Q E s
 sm:∀ (i j:Nat) v,vs[i]?=some v->vs[j]?=some v->∀ k,lt i k=lt j k /\ lt k i=lt k j
 cm:∀ {A:Around} (s:Shared) (i j:Nat) x y,A.units<=U->J s.heap->vs[i]?=some x->vs[j]?=some y->∀ C:Bool->Shared->Prop,C (lt i j) s->wpAny (model prog w) A (keyLt' κ x y) C (λ _ _=>False) s
variable {vs:[25]} {U:Nat}
section
variable {lt:Nat->Nat->Bool} {κ:SortKind} {J:Heap->Prop} 
theorem ul2 {a:Addr} {P:PySem.Fin->Shared->Prop} (K:SK prog w vs lt κ J U) (hU:A.units<=U) (ho:s.heap.get? a=some (seqObj "list" vs.toArray n)) (hJ:∀ h':Heap,(∀ b o,b ≠ a->s.heap.get? b=some o->h'.get? b=some o)->J h') (h64:vs.length < 64)
    (h:∀ (p:[76]) (h':Heap) (c:Nat),p.Perm (List.toArray (List.range vs.length))->Ms.Up lt p vs.length->(∀ b o,b ≠ a->s.heap.get? b=some o->h'.get? b=some o) ->
     h'.get? a=some (seqObj "list" (outV vs p).toArray c)->P (.done (.ret .none)) [54]) :
    wpAny [8] A (Builtin.«list.sort» ⟨[.ref a],[]⟩) P E s:=by
 have hz:vs.length<=sizeLine:=Nat.le_of_lt (Nat.lt_trans h64 [14]);have ha:a < s.heap.objs.size:=Heap.lt_size ho;obtain ⟨e1,ho1⟩:∃ e1,(s.heap.update a (Obj.mapSeq λ _=>(#[]:Array Value))).get? a=some (seqObj "list" #[] e1):=⟨_,get?_update_seq ho λ _=>#[]⟩
 have kp:∀ b o,b ≠ a->s.heap.get? b=some o->(((s.heap.update a (Obj.mapSeq λ _=>(#[]:Array Value))).push (seqObj "tuple" vs.toArray 0)).push (seqObj "list" #[] 0)).get? b=some o:=λ b o hb e =>
  Heap.get?_push_of_some _ (Heap.get?_push_of_some _ (by rw [Heap.get?_update_ne _ _ _ _ hb]; exact e))
 have ht3:=hJ _ kp;have hoN:=Heap.get?_push_of_some (seqObj "list" #[] 0) (Heap.get?_push_of_some (seqObj "tuple" vs.toArray 0) ho1);generalize hN:((s.heap.update a (Obj.mapSeq λ _=>(#[]:Array Value))).push (seqObj "tuple" vs.toArray 0)).push (seqObj "list" #[] 0)=hp3 at kp ht3 hoN
 have fin:∀ (p:[76]),p.Perm (List.toArray (List.range vs.length))->Ms.Up lt p vs.length->P (.done (.ret .none)) { s with heap:=hp3.update a (Obj.mapSeq λ _=>(outV vs p).toArray) }:=λ p hp hu=>by
  refine h p _ _ hp hu (λ b o hb e=>by rw [Heap.get?_update_ne _ _ _ _ hb]; exact kp b o hb e) (get?_update_seq hoN λ _=>(outV vs p).toArray)
 have szO:∀ p:Array Nat,p.Perm (List.toArray (List.range vs.length))->(outV vs p).toArray.size<=sizeLine + 1:=λ p hp=>by
  have:=hp.size_eq;simp at this;simp;omega
 rw [list_sort_plain];refine wpAny_bind (listItems_at ho rfl (wpAny_bind (listUpdate_at ho rfl ?_ (by simpa using hz) (Nat.zero_le _))));refine wpAny_bind (seqEpoch_at ho1 rfl (wpAny_bind (wpAny_newTuple ?_ (by simpa using hz))));refine wpAny_bind (wpAny_newList (wpAny_holding ?_) (Nat.zero_le _));show wpAny [8] A _ P E { s with heap:=((s.heap.update a (Obj.mapSeq λ _=>(#[]:Array Value))).push (seqObj "tuple" vs.toArray 0)).push (seqObj "list" #[] 0) };rw [hN];dsimp only;by_cases c:vs.toArray.size < 2
 ·rw [if_pos c,if_pos c];refine wpAny_bind [28];rw [StateT.run_pure];refine wpAny_bind [28]
  have id1:(arrOf (SortSt.mk' general' (vs.toArray.zip vs.toArray) #[] 7 none)).map (·.2)=(outV vs (List.toArray (List.range vs.length))).toArray:=by
   rw [tb2];show (vs.toArray.zip vs.toArray).map (·.2)=vs.toArray;apply Array.toList_inj.mp;simp [List.map_snd_zip]
  dsimp only;rw [id1];have pr:=Array.Perm.refl (List.toArray (List.range vs.length));refine wpAny_bind (seqEpoch_at hoN rfl (wpAny_bind (listUpdate_at hoN rfl ?_ (Nat.zero_le _) (szO _ pr))));simp only [bne_self_eq_false,Bool.false_eq_true,if_false];refine wpAny_pure (fin _ pr ?_);intro x y hxy hy;have:x=y:=by simp at c; omega
  subst this;exact Ms.le_rf K.od _
 ·rw [if_neg c,if_neg c];have c2:2<=vs.length:=by simp at c; omega
  refine wpAny_bind (K.kd c2 { s with heap:=hp3 } ht3 ?_);have srt:=Ms.sort_ok K.od (n:=vs.length) [5];have vg:∀ i,i < vs.length->vs[i]?=some (vs.getD i .none):=λ i hi=>by rw [List.getD_eq_getElem?_getD,getElem?_eq_getElem hi]; rfl
  refine wpAny_bind (wpAny_mono (kat_run (ks:=vs) (Q:=λ st' s'=>s'={ s with heap:=hp3 } /\ ∃ p:Array Nat,arrOf st'=p.map (kas_item (vs.toArray.zip vs.toArray)) /\ failedOf st'=none /\ p=Ms.run lt (kas_sort vs.length)) (G:=λ p s'=>s'={ s with heap:=hp3 } /\ p=Ms.run lt (kas_sort vs.length)) rfl c2 h64
   (λ p st' s' _ b2 b3 b4=>⟨b4.1,p,b2,b3,b4.2⟩) ?_) ?_ λ _ _ z=>z)
  ·refine Ms.Bd.wp (N:=vs.length) (lt:=lt) (λ i j C hi hj hc=>?_) _ (Ms.bd_sort [5]) ⟨rfl,rfl⟩;exact K.cm { s with heap:=hp3 } i j _ _ hU ht3 (vg i hi) (vg j hj) C hc
  ·rintro ⟨⟨⟩,st'⟩ s' ⟨rfl,p,hp1,hp2,rfl⟩;obtain ⟨pp,pu⟩:=srt;dsimp only;rw [kat_snds rfl hp1];refine wpAny_bind (seqEpoch_at hoN rfl (wpAny_bind (listUpdate_at hoN rfl ?_ (Nat.zero_le _) (szO _ pp))));rw [hp2];simp only [bne_self_eq_false,Bool.false_eq_true,if_false];exact wpAny_pure (fin _ pp pu)
end
def Lw {α β:Type} (R:β->α->Prop):List β->List α->Prop
 | [],[]=>True
 | v :: vs,t :: ts=>R v t /\ Lw R vs ts
 | _,_=>False
theorem Lw.mono {α β:Type} {R S:β->α->Prop} (k:∀ v t,R v t->S v t):∀ {vs:List β} {ts:List α},Lw R vs ts->Lw S vs ts
 | [],[],_=>trivial
 | [],_ :: _,i=>i.elim
 | _ :: _,[],i=>i.elim
 | _ :: _,_ :: _,i=>⟨k _ _ i.1,i.2.mono k⟩
theorem Lw.len {α β:Type} {R:β->α->Prop}:∀ {vs:List β} {ts:List α},Lw R vs ts->vs.length=ts.length
 | [],[],_=>rfl
 | [],_ :: _,i=>i.elim
 | _ :: _,[],i=>i.elim
 | _ :: _,_ :: _,i=>congrArg (· + 1) i.2.len
theorem Lw.get {α:Type} {R:Value->α->Prop} {d:α}:∀ {vs:[25]} {ts:List α},Lw R vs ts->∀ i,i < vs.length->R (vs.getD i .none) (ts.getD i d)
 | [],[],_,i,hi=>absurd hi (Nat.not_lt_zero _)
 | [],_ :: _,z,_,_=>z.elim
 | _ :: _,[],z,_,_=>z.elim
 | _ :: _,_ :: _,z,0,_=>z.1
 | _ :: _,_ :: _,z,i + 1,hi=>z.2.get i (Nat.lt_of_succ_lt_succ hi)
structure TupI {α:Type} (Is:Heap->Value->α->Prop) (lt:α->α->Bool) (d:α):Prop where
 kept:∀ {h h':Heap} {v t},(∀ b o,h.get? b=some o->o.cls=.type "tuple" -> h'.get? b=some o)->Is h v t->Is h' v t
 one:∀ {h v t u},Is h v t->Is h v u->t=u
 ord:∀ ts:List α,Ms.Ord λ i j=>lt (ts.getD i d) (ts.getD j d)
 fst:∀ {h v t},Is h v t->∃ a o i t1 r n,v=.ref a /\ h.get? a=some o /\ o.cls=.type "tuple" /\ o.data=.seq (.int i t1 :: r).toArray n
 lt':∀ {prog w A} {E:Value->Shared->Prop} {s x y a b} {Q:Bool->Shared->Prop},Is s.heap x a->Is s.heap y b->Q (lt a b) s->wpAny (model prog w) A (keyLt' (tuples' true) x y) Q E s
section
variable {α:Type} {Is:Heap->Value->α->Prop} {lt:α->α->Bool} {d:α} {ts:List α}
theorem TupI.firsts (T:TupI Is lt d) {h:Heap}:∀ {vs:[25]} {ts:List α},Lw (Is h) vs ts->∃ fs,KatTups h vs fs /\ fs.length=vs.length /\ ∀ v ∈ fs,∃ i t,v=Value.int i t
 | [],[],_=>⟨[],trivial,rfl,λ _ hv=>nomatch hv⟩
 | [],_ :: _,z=>z.elim
 | _ :: _,[],z=>z.elim
 | v :: vs,t :: ts,z=>by
  obtain ⟨fs,f1,f2,f3⟩:=T.firsts z.2;obtain ⟨a,o,i,t1,r,n,rfl,e2,e3,e4⟩:=T.fst z.1;refine ⟨.int i t1 :: fs,KatTups.cons e2 e3 e4 rfl f1,by simp_all,λ x hx=>?_⟩;rcases List.mem_cons.mp hx with rfl | hx
  ·simp
  ·exact f3 x hx
theorem TupI.at (T:TupI Is lt d) (z:Lw (Is h) vs ts) {i:Nat} (e:vs[i]?=some v):Is h v (ts.getD i d):=by
 have g:=z.get (d:=d) i (List.getElem?_eq_some_iff.mp e).1
 simp_all
theorem TupI.sk (T:TupI Is lt d) (z:Lw (Is h) vs ts):SK prog w vs (λ i j=>lt (ts.getD i d) (ts.getD j d)) (tuples' true) (λ h=>Lw (Is h) vs ts) U where
 od:=T.ord ts
 kd:=λ h2 {A E} s {Q} z q=>by
  obtain ⟨fs,f1,f2,f3⟩:=T.firsts z;refine kat_kind f1 [5] (T:=.type "int") (λ v hv=>?_) [14] ?_
  ·obtain ⟨i,t,rfl⟩:=f3 v hv;exact Looks.of_pure rfl
  assumption
 sm:=λ i j v e1 e2 k=>by
  rw [T.one (T.at z e1) (T.at z e2)];trivial
 cm:=λ {A} s i j x y _ z e1 e2 C hc=>T.lt' (T.at z e1) (T.at z e2) hc
theorem TupI.keep (T:TupI Is lt d) {h':Heap} {a:Addr} {us:Array Value} (ho:h.get? a=some (seqObj "list" us n)) (k:∀ b o,b ≠ a->h.get? b=some o->h'.get? b=some o) (z:Lw (Is h) vs ts):Lw (Is h') vs ts :=
 z.mono λ _ _=>T.kept λ b o e ec=>k b o (λ z=>by subst z; rw [ho] at e; cases e; exact no_lt ec) e
end
abbrev T3s (h:Heap):List Value->List T3->Prop:=Lw (IsT3 h)
theorem ti3:TupI IsT3 lt3 (0,0,0) where
 kept:=λ k ⟨a,o,t1,t2,t3,n,e1,e2,e3,e4⟩=>⟨a,o,t1,t2,t3,n,e1,k _ _ e2 e3,e3,e4⟩
 one:=IsT3.one
 ord:=tw3
 fst:=λ ⟨a,o,t1,t2,t3,n,e1,e2,e3,e4⟩=>⟨a,o,_,t1,_,n,e1,e2,e3,e4⟩
 lt':=ui5
abbrev V3s (K:Fg) (H:Hp):List V->List T3->Prop:=Lw λ v t=>∃ a,v=.ref a /\ H a=some (.tup [.int t.1,.int t.2.1,.int t.2.2])
variable {X:Cx}
section
theorem tq1 {pins:[19]} {σ:L2.St} {H:Hp} {s:[47]} (I:[13]):∀ {vs:List V} {ts:[50]} {us:[25]},V3s X.K H vs ts->Vals vs us->T3s s.heap us ts
 | [],[],_,_,.nil=>trivial
 | [],_ :: _,_,z,_=>z.elim
 | _ :: _,[],_,z,_=>z.elim
 | v :: vs,t :: ts,_,z,.cons r rs=>by
  obtain ⟨⟨a,rfl,hq⟩,z⟩:=z;refine ⟨?_,tq1 I z rs⟩;cases r;obtain ⟨its,rv,⟨o,p1,p2,n,p3⟩,_⟩:=I.tuple (SqT.of hq);cases rv with
  | cons r1 rv =>
   cases rv with
   | cons r2 rv =>
    cases rv with
    | cons r3 rv =>
     cases rv;obtain ⟨t1,rfl⟩:=r1;obtain ⟨t2,rfl⟩:=r2;obtain ⟨t3,rfl⟩:=r3;exact ⟨a,o,t1,t2,t3,n,rfl,p1,p2,p3⟩
theorem zu0 {vs:List V} {us:[25]} (r:Vals vs us):∀ (l:[88]),(∀ i ∈ l,i < vs.length)->Vals (l.map λ i=>vs.getD i .non) (l.map λ i=>us.getD i Value.none)
 | [],_=>.nil
 | i :: l,h=>by
  refine .cons ?_ (zu0 r l λ j hj=>h j (mem_cons_of_mem _ hj));have hi:=h i [65];obtain ⟨u,e,z⟩:=Vals.get r (i:=i) (x:=vs.getD i .non) [36]
  simp_all
end
def encT (t:T3):D:=.tup [.int t.1,.int t.2.1,.int t.2.2]
def t3?:D->Option T3
 | .tup [.int a,.int b,.int c]=>some (a,b,c)
 | _=>none
theorem ui4 {d:D} {t:T3} (h:t3? d=some t):d=encT t:=by
 unfold t3? at h;split at h
 ·cases h; rfl
 ·cases h
theorem uq1 {K:Fg} {H:Hp}:∀ {ts:[50]} {vs:List V},RelDs K H [16] vs->V3s K H vs ts
 | [],_,.nil=>trivial
 | t :: ts,_,.cons r rs=>by
  refine ⟨?_,uq1 rs⟩;cases r with
  | tup hq r2 =>
   cases r2 with
   | cons x r2 =>
    cases r2 with
    | cons y r2 =>
     cases r2 with
     | cons z r2 =>
      cases r2;cases x;cases y;cases z
      simp_all
def le3 (a b:T3):Prop:=lt3 b a=false
variable {q:[76]}
section
variable {α:Type} {d0:α} {enc:α->D} {lt:α->α->Bool}
theorem sp0 {K:Fg} {H:Hp} {ts:List α} {vs:List V} (r:RelDs K H (ts.map enc) vs):∀ (l:[88]),(∀ i ∈ l,i < vs.length)->RelDs K H ((l.map λ i=>ts.getD i d0).map enc) (l.map λ i=>vs.getD i .non)
 | [],_=>.nil
 | i :: l,h=>by
  refine .cons ?_ (sp0 r l λ j hj=>h j (mem_cons_of_mem _ hj));have hi:=h i [65];have hl:=r.length;rw [length_map] at hl;obtain ⟨v,e,z⟩:=r.get (i:=i) (d:=enc (ts.getD i d0)) [36]
  simp_all
theorem xj1 {ts:List α} (h:q.Perm (List.toArray (List.range ts.length))):(q.toList.map λ i=>ts.getD i d0).Perm ts:=by
 have h1:q.toList.Perm (List.range ts.length):=h.toList;refine (h1.map _).trans (List.Perm.of_eq ?_);apply List.ext_getElem
 ·simp
 simp_all
theorem sf2 {ts:List α} (h:q.Perm (List.toArray (List.range ts.length))) (u:Ms.Up (λ i j=>lt (ts.getD i d0) (ts.getD j d0)) q ts.length):(q.toList.map λ i=>ts.getD i d0).Pairwise λ a b=>lt b a=false:=by
 have sz:q.size=ts.length:=by have:=h.size_eq; simpa using this
 rw [List.pairwise_iff_getElem];intro i j hi hj hij;simp only [length_map,length_toList] at hi hj;have z:=u i j (Nat.le_of_lt hij) [5];simp only [List.getElem_map,Array.getElem_toList];have e1:Ms.at' q i=q[i]:=by simp_all
 have e2:Ms.at' q j=q[j]:=by simp_all
 rw [e1,e2] at z;exact z
end
theorem ss1 {K:Fg} {H:Hp}:∀ {ts:[50]} {vs:List V},V3s K H vs ts->RelDs K H [16] vs
 | [],[],_=>.nil
 | [],_ :: _,z=>z.elim
 | _ :: _,[],z=>z.elim
 | t :: ts,v :: vs,z=>by
  obtain ⟨⟨a,rfl,hq⟩,z⟩:=z;exact .cons (.tup hq (.cons (.int _) (.cons (.int _) (.cons (.int _) .nil)))) (ss1 z)
theorem wv1:∀ {ns:[64]} {us:[25]},Vals (ns.map V.int) us->IntsAre us ns
 | [],_,.nil=>.nil
 | n :: ns,_,.cons r t=>by
  obtain ⟨u,rfl⟩:=r;exact .cons n u (wv1 t)
theorem vx1:∀ {ns:[64]} {us:[25]},IntsAre us ns->Vals (ns.map V.int) us
 | _,_,.nil=>.nil
 | _,_,.cons n t h=>.cons ⟨t,rfl⟩ (vx1 h)
section
def xt4 (K:Fg):List V->Hp->VK->Prop:=λ xs H Q=>∃ p ns,xs=[.ref p] /\ SqL K H p (ns.map V.int) /\ ns.length < 64 /\ ∀ ms:List Int,ms.Perm ns->ms.Pairwise (· <= ·)->∀ r,H r=none->Q (.ref r) (upd H r (.lst (ms.map V.int)))
theorem yd2:CallR X (.builtin "sorted") (xt4 X.K):=by
 intro pins s σ H xs us Q I r h;obtain ⟨p,ns,rfl,hq,h64,k⟩:=h;cases r with
 | cons r rr =>
  cases rr;cases r;obtain ⟨its,rv,pl,hz⟩:=I.list hq;have hl:=rv.length;rw [length_map] at hl hz;refine sorted_ints pl.isList (wv1 rv) [5] λ out ms a1 a2 a3=>?_;obtain ⟨c,hc⟩:=sortedAll_at s.heap its out;have nw:s.heap.objs.size<=s.heap.objs.size + 1:=Nat.le_succ _;refine ⟨.ref _,_,I.laid (t':=s.toks) (λ b o e=>sortedAll_old e) nw (show ObjOk X.prog X.w _ (sortedAll s.heap its out) _ (.lst (ms.map V.int)) from ⟨by rw [length_map,a2.length_eq]; exact hz,out.toList,c,vx1 a1,by simpa using hc⟩),rfl,k ms a2 a3 _ (I.hok.fresh nw)⟩
end
def un1:C3:=λ ds μ Q=>match ds with
 | [.ref p]=>match μ p with
  | some (.lst l)=>match ints? l with
   | some ns=>ns.length < 64 /\ ∀ ms:List Int,ms.Perm ns->ms.Pairwise (· <= ·)->∀ r,μ r=none->Q (.ref r) (updM μ r (.lst (ms.map D.int)))
   | none=>False
  | _=>False
 | _=>False
theorem tj1 {K:Fg} {H:Hp}:∀ ms:List Int,RelDs K H (ms.map D.int) (ms.map V.int)
 | []=>.nil
 | n :: r=>.cons (.int n) (tj1 r)
section
theorem ys3:RC X (.builtin "sorted") un1:=by
 refine ⟨_,yd2,λ xs vs H Q μ Q3 m r h k=>?_⟩;unfold un1 at h;split at h
 ·next p =>
  split at h
  ·next l e =>
   split at h
   ·next ns e2 =>
    cases r with
    | cons r1 rr =>
     cases rr;cases r1;obtain ⟨us,hv,rv⟩:=m p _ e;have el:=ut0 rv e2;subst el;refine ⟨p,ns,rfl,SqL.of hv,h.1,λ ms a1 a2 r hr=>?_⟩;exact k _ _ _ _ (h.2 ms a1 a2 r (m.free hr)) (Kp.new hr) (.ref r) (m.newL hr (tj1 ms))
   ·exact h.elim
  ·exact h.elim
 ·exact h.elim
end
end Pv
namespace L2
open PySem PySem.Spec PyProof.Rows
section
variable {X:Cx}
def srep (z:Str) (k:Nat):Str:=⟨(List.replicate k z.cps).foldl (· ++ ·) #[]⟩
def rSm:R2:=λ x y H Q=>∃ z k,x=.str z /\ y=.int k /\ (1 < k /\ k<=1000) /\ (0 < z.length /\ z.length<=1000) /\ Q (.str (srep z k.toNat)) H
theorem xw1 (x:Str):∀ (n:Nat) (a:[76]),((List.replicate n x.cps).foldl (· ++ ·) a).size=a.size + x.length * n
 | 0,a=>by simp
 | n + 1,a=>by
  rw [List.replicate_succ,foldl_cons,xw1 x n,Array.size_append,Nat.mul_succ];show a.size + x.cps.size + x.length * n=_;have:x.cps.size=x.length:=rfl;omega
theorem wv3:OpR X (binaryOp .Mult) rSm:=by
 intro pins s σ H x y v u Q I rx ry h;obtain ⟨z,k,rfl,rfl,⟨k1,k2⟩,⟨z1,z2⟩,q⟩:=h;obtain ⟨t,rfl⟩:=rx;obtain ⟨t',rfl⟩:=ry;have hm:z.length * k.toNat<=1000000:=Nat.le_trans (Nat.mul_le_mul z2 (show k.toNat<=1000 by omega)) [14];have hs:z.length * k.toNat<=sizeLine:=Nat.le_trans hm [14];have c1:¬ k < 1:=by omega
 have c2:(k == 1 || z.length == 0)=false:=by
  simp_all;omega
 refine P.mul_str [57] (λ _ _=>?_) (λ _ _=>by unfold Builtin.Str.tooLong; simp; exact hs) ?_
 ·have h1:(1000:Int)<=(2 ^ 63 - 1) / k:=(Int.le_ediv_iff_mul_le [5]).mpr [5];omega
 ·rw [if_neg c1,c2]
  have el:(⟨(List.replicate k.toNat z.cps).foldl (· ++ ·) #[]⟩:Str).length=z.length * k.toNat:=by
   show Array.size _=_;rw [xw1]; simp
  exact ⟨by omega,.str _,H,I.tok _,⟨_,rfl⟩,q⟩
end
end L2
namespace Pv
open PySem L2
def xg2:R3:=λ x y μ Q=>match x,y with
 | .str z,.int k=>(1 < k /\ k<=1000) /\ (0 < z.length /\ z.length<=1000) /\ Q (.str (L2.srep z k.toNat)) μ
 | _,_=>False
def sixR:R3:=λ x y μ Q=>match x,y with
 | .str z,.int i=>z.length<=sizeLine /\ ∃ c,L2.atI z.cps.toList i=some c /\ Q (.str ⟨#[c]⟩) μ
 | _,_=>False
section
variable {X:Cx}
theorem zj2:RO X (binaryOp .Mult) xg2:=by
 refine ⟨_,wv3,λ x y v u H Q μ Q3 m rx ry h k=>?_⟩;unfold xg2 at h;split at h
 ·cases rx;cases ry;exact ⟨_,_,rfl,rfl,h.1,h.2.1,k _ _ _ _ h.2.2 [38] (.str _) m⟩
 ·exact h.elim
theorem q_six:RX X sixR:=by
 refine ⟨_,xb5,λ x y v u H Q μ Q3 m rx ry h k=>?_⟩;unfold sixR at h;split at h
 ·cases rx;cases ry;obtain ⟨h1,c,h2,h3⟩:=h;exact ⟨_,_,c,rfl,rfl,h1,h2,k _ _ _ _ h3 [38] (.str _) m⟩
 ·exact h.elim
end
end Pv
namespace Pv
open PySem PySem.Spec PyProof.Rows L2
open PySem.AutoSeq1 (wpAny_loadPart')
variable {X:Cx}
section
theorem xo4 {i j:Nat} {x y:Str} {a b:Expr} {ta:TA3} {px py pt pos:Pos} {kt k2 pt2} (hN:X.N.Nodup) (ha:RA X [a,b] ta) (hc:X.calm=true:=by rfl) (hi:X.N[i]?=some x:=by rfl) (hj:X.N[j]?=some y:=by rfl) (hij:i ≠ j:=by decide)
    (hx:X.env.scope.names.lookup x=some .local:=by rfl) (hy:X.env.scope.names.lookup y=some .local:=by rfl)
    (hw:swappedStores [.Tuple [.Name x px,.Name y py] kt pt] (.Tuple [a,b] k2 pt2) X.env=pure (some [x,y]):=by rfl)
    (hs:swapsWithSole [.Tuple [.Name x px,.Name y py] kt pt] (.Tuple [a,b] k2 pt2) pos.line X.env=pure false:=by rfl) :
    RS X (.Assign [.Tuple [.Name x px,.Name y py] kt pt] (.Tuple [a,b] k2 pt2) pos) (par3 i j ta):=by
 obtain ⟨va,pa,ra⟩:=ha;refine ⟨_,uu4 hc hN hi hj hij hx hy pa hw hs,λ σ H D ρ μ D3 s m h k=>ra σ H _ ρ μ _ s m h λ ds μ1 vs H1 h1 k1 r1 m1=>?_⟩;cases r1 with
 | nil=>exact False.elim h1
 | cons r1 r2 =>
  cases r2 with
  | nil=>exact False.elim h1
  | cons r2 r3 =>
   cases r3 with
   | cons _ _=>exact False.elim h1
   | nil=>exact ⟨_,_,rfl,k.nx _ _ _ _ h1 k1 (([63].set i r1).set j r2) m1⟩
end
open PySem.AutoSeq1 (wpAny_loadPart')
theorem ndlt (x y:Int):(!decide (x < y))=decide (y<=x):=by
 by_cases h:x < y
 ·simp_all
 simp_all
theorem xy3 (p q:Addr) (a b:T3) (t1 t2 t3 u1 u2 u3:Tok) (n m:Nat) (dd dd2:Option Addr) (sl sl2:Array (Option Value)) :
    Meets (Builtin.«tuple.__ge__» ⟨[.ref p,.ref q],[]⟩) (λ A R s=>s.heap.get? p=some { cls:=.type "tuple",dict:=dd,data:=.seq #[.int a.1 t1,.int a.2.1 t2,.int a.2.2 t3] n,slots:=sl } /\ s.heap.get? q=some { cls:=.type "tuple",dict:=dd2,data:=.seq #[.int b.1 u1,.int b.2.1 u2,.int b.2.2 u3] m,slots:=sl2 } ∧
     R (.ok (.ret (.bool (!lt3 a b)))) s) :=
 .of_wp λ prog w A R s h=>by
  obtain ⟨hp,g,dr,tk,os⟩:=s; obtain ⟨hl,hb,h⟩:=h;obtain ⟨a1,a2,a3⟩:=a;obtain ⟨b1,b2,b3⟩:=b;have f2:=AutoSeq1.sub_tuple_tuple;have ge:∀ (x y:Int) (tx ty:Tok) {Q:[7]} {E:[7]} {A:Around} {s:[47]},Q (.bool (decide (y<=x))) s->wpAny [8] A (richCompare .GtE (.int x tx) (.int y ty)) Q E s:=λ x y tx ty Q E A s hq=>ge_int hq;have eqb:∀ (x y:Int) (tx ty:Tok) {Q:Bool->Shared->Prop} {E:[7]} {A:Around} {s:[47]},Q (x == y) s->wpAny [8] A (eqBool (.int x tx) (.int y ty)) Q E s:=λ x y tx ty Q E A s hq=>wpAny_eqBool_int hq
  wp_walk using wpAny_loadPart' hl,wpAny_loadPart' hb,eqb a1 b1 t1 u1
  by_cases h1:a1=b1
  ·rw [show (a1 == b1)=true by simpa using h1]
   wp_walk using eqb a2 b2 t2 u2
   by_cases h2:a2=b2
   ·rw [show (a2 == b2)=true by simpa using h2]
    wp_walk using eqb a3 b3 t3 u3
    by_cases h3:a3=b3
    ·rw [show (a3 == b3)=true by simpa using h3]
     wp_walk
     have h':R (.ok (.ret (.bool true))) ⟨hp,g,dr,tk,os⟩:=by simpa [lt3,h1,h2,h3] using h
     exact ⟨_,rfl,h'⟩
    ·rw [show (a3 == b3)=false by simpa using h3]
     wp_walk using ge a3 b3 t3 u3
     have e:(!lt3 (a1,a2,a3) (b1,b2,b3))=decide (b3<=a3):=by rw [show lt3 (a1,a2,a3) (b1,b2,b3)=decide (a3 < b3) by subst h1 h2; simp [lt3],ndlt]
     simp_all
   ·rw [show (a2 == b2)=false by simpa using h2]
    wp_walk using ge a2 b2 t2 u2
    have e:(!lt3 (a1,a2,a3) (b1,b2,b3))=decide (b2<=a2):=by rw [show lt3 (a1,a2,a3) (b1,b2,b3)=decide (a2 < b2) by subst h1; simp [lt3,h2],ndlt]
    simp_all
  ·rw [show (a1 == b1)=false by simpa using h1]
   wp_walk using ge a1 b1 t1 u1
   have e:(!lt3 (a1,a2,a3) (b1,b2,b3))=decide (b1<=a1):=by rw [show lt3 (a1,a2,a3) (b1,b2,b3)=decide (a1 < b1) by simp [lt3,h1],ndlt]
   simp_all
section
def ge3R:R3:=λ x y μ Q=>match t3? x,t3? y with
 | some a,some b=>Q (.bl (!lt3 a b)) μ
 | _,_=>False
def rGe3 (K:Fg):R2:=λ x y H Q=>∃ p q a b,x=.ref p /\ y=.ref q /\ SqT K H p [.int a.1,.int a.2.1,.int a.2.2] /\ SqT K H q [.int b.1,.int b.2.1,.int b.2.2] /\ Q (.bl (!lt3 a b)) H
theorem ve4 {x y z:V} {us:[25]} (r:Vals [x,y,z] us):∃ a b c,us=[a,b,c] /\ RelV x a /\ RelV y b /\ RelV z c:=by
 cases r with
 | cons r1 r =>
  cases r with
  | cons r2 r =>
   cases r with
   | cons r3 r=>cases r; exact ⟨_,_,_,rfl,r1,r2,r3⟩
theorem ux4 (hu:X.A.units < cLine):OpR X (compareOp .GtE) (rGe3 X.K):=by
 intro pins s σ H x y v u Q I rx ry h;obtain ⟨p,q,a,b,rfl,rfl,ha,hb,k⟩:=h;cases rx;cases ry;obtain ⟨its,r1,⟨⟨c1,d1,e1,l1⟩,o1,o2,n1,o3⟩,_⟩:=I.tuple ha;obtain ⟨its2,r2,⟨⟨c2,d2,e2,l2⟩,o4,o5,n2,o6⟩,_⟩:=I.tuple hb;obtain ⟨_,_,_,rfl,⟨t1,rfl⟩,⟨t2,rfl⟩,⟨t3,rfl⟩⟩:=ve4 r1;obtain ⟨_,_,_,rfl,⟨u1,rfl⟩,⟨u2,rfl⟩,⟨u3,rfl⟩⟩:=ve4 r2;dsimp only at o2 o3 o5 o6;subst o2 o3 o5 o6;exact richCompare_meets_room (op:=.GtE) (T := "tuple") ⟨_,o1,rfl⟩ ⟨_,o4,rfl⟩ PySem.F.slot_tuple_ge PySem.F.entry_tuple_ge (PySem.F.args_tuple_ge_2 _ _) (xy3 p q a b t1 t2 t3 u1 u2 u3 n1 n2 d1 d2 l1 l2) ⟨o1,o4,by simp,⟨.bl (!lt3 a b),H,I,rfl,k⟩⟩ hu
theorem q_ge3 (hu:[68]):RO X (compareOp .GtE) ge3R:=by
 refine ⟨_,ux4 [5],λ x y v u H Q μ Q3 m rx ry h k=>?_⟩;unfold ge3R at h;split at h
 ·next a b ea eb =>
  rw [ui4 ea] at rx;rw [ui4 eb] at ry;obtain ⟨p,rfl,hp⟩:=(uq1 (ts:=[a]) (.cons rx .nil)).1;obtain ⟨q,rfl,hq⟩:=(uq1 (ts:=[b]) (.cons ry .nil)).1;exact ⟨p,q,a,b,rfl,rfl,SqT.of hp,SqT.of hq,k _ _ _ _ h [38] (.bl _) m⟩
 ·exact h.elim
end
end Pv
namespace L2
open PySem PySem.Spec PyProof.Rows
variable {u:Value} {y:V}
section
variable {κ:Type} [DecidableEq κ]
def valV (kvs:List (κ × V)) (k:κ):Option V:=(kvs.find? λ kv=>decide (kv.1=k)).map (·.2)
def putK (kvs:List (κ × V)) (k:κ) (v:V):List (κ × V) :=
 if (kvs.any λ kv=>decide (kv.1=k))=true then kvs.map (λ kv=>if kv.1=k then (kv.1,v) else kv) else kvs ++ [(k,v)]
theorem zs0 {p:κ × V} {r:List (κ × V)} {k:κ} (e:p.1=k):valV (p :: r) k=some p.2:=by simp [valV,find?_cons,e]
theorem us0 {p:κ × V} {r:List (κ × V)} {k:κ} (e:¬ p.1=k):valV (p :: r) k=valV r k:=by simp [valV,find?_cons,e]
theorem vb1 (k:κ):∀ kvs:List (κ × V),(kvs.any λ kv=>decide (kv.1=k))=(valV kvs k).isSome
 | []=>rfl
 | p :: r=>by
  rw [any_cons];by_cases e:p.1=k
  ·simp only [zs0 e,decide_eq_true e,Bool.true_or,Option.isSome_some]
  ·rw [us0 e,decide_eq_false e,Bool.false_or]; exact vb1 k r
theorem ww0 (kvs:List (κ × V)) (k:κ) (v:V):(putK kvs k v).length<=kvs.length + 1:=by
 unfold putK;split
 ·rw [length_map]; omega
 ·rw [length_append,length_cons,length_nil]; omega
theorem RelO.isSome_eq {o:Option V} {u:Option Value} (r:RelO o u):o.isSome=u.isSome:=by
 cases o with
 | none=>cases u with
  | none=>rfl
  | some _=>exact (show False from r).elim
 | some _=>cases u with
  | none=>exact (show False from r).elim
  | some _=>rfl
theorem RelO.getD {o:Option V} {u:Option Value} {d:V} {d':Value} (r:RelO o u) (rd:RelV d d'):RelV (o.getD d) (u.getD d'):=by
 cases o with
 | none=>cases u with
  | none=>exact rd
  | some _=>exact (show False from r).elim
 | some _=>cases u with
  | none=>exact (show False from r).elim
  | some _=>exact r
theorem KV.val {kvs:List (κ × V)} {vs:List (κ × Value)} (r:KV kvs vs) (k:κ):RelO (valV kvs k) (valueAt vs k):=by
 unfold KV at r
 induction r with
 | nil=>exact True.intro
 | @cons p q ps qs h t ih =>
  obtain ⟨h1,h2⟩:=h;by_cases e:p.1=k
  ·have e':q.1=k:=h1.symm.trans e;have b:valueAt (q :: qs) k=some q.2:=by simp [valueAt,find?_cons,e']
   rw [zs0 e,b]; exact h2
  ·have e':¬ q.1=k:=λ z=>e (h1.trans z);have b:valueAt (q :: qs) k=valueAt qs k:=by simp [valueAt,find?_cons,e']
   rw [us0 e,b]; exact ih
theorem KV.any {kvs:List (κ × V)} {vs:List (κ × Value)} (r:KV kvs vs) (k:κ):(kvs.any λ kv=>decide (kv.1=k))=vs.any λ kv=>decide (kv.1=k):=by
 unfold KV at r
 induction r with
 | nil=>rfl
 | cons h t ih=>rw [any_cons,any_cons,ih,h.1]
theorem KV.repl {kvs:List (κ × V)} {vs:List (κ × Value)} (r:KV kvs vs) (k:κ) (ry:RelV y u) :
    KV (kvs.map λ kv=>if kv.1=k then (kv.1,y) else kv) (vs.map λ kv=>if kv.1=k then (kv.1,u) else kv):=by
 unfold KV at r ⊢
 induction r with
 | nil=>exact .nil
 | @cons p q ps qs h t ih =>
  rw [map_cons,map_cons];refine .cons ?_ ih;obtain ⟨h1,h2⟩:=h;by_cases e:p.1=k
  ·rw [if_pos e,if_pos (h1.symm.trans e)]; exact ⟨h1,ry⟩
  ·rw [if_neg e,if_neg (λ z=>e (h1.trans z))]; exact ⟨h1,h2⟩
theorem KV.put {kvs:List (κ × V)} {vs:List (κ × Value)} (r:KV kvs vs) (k:κ) (ry:RelV y u):KV (putK kvs k y) (stored vs k u):=by
 unfold putK stored;rw [r.any k];by_cases e:(vs.any λ kv=>decide (kv.1=k))=true
 ·rw [if_pos e,if_pos e]; exact r.repl k ry
 ·rw [if_neg e,if_neg e]; exact Paired.snoc r ⟨rfl,ry⟩
theorem KV.length {kvs:List (κ × V)} {vs:List (κ × Value)} (r:KV kvs vs):kvs.length=vs.length:=Paired.length r
end
variable {P:[60]} {w:World}
theorem um2 {k:Key} (r:RelV (kV k) u):(td0 P w).is k u=true:=by
 cases k with
 | inl i=>obtain ⟨t,e⟩:=(show ∃ t,u=Value.int i t from r); subst e; exact xp1 P w i t
 | inr x=>obtain ⟨t,e⟩:=(show ∃ t,u=Value.str x t from r); subst e; exact so1 P w x t
theorem sk1 {P:[60]} {w:World}:∀ {ks:List Key} {us:[25]},Vals (ks.map kV) us->ItemsAre (td0 P w) ks us
 | [],_,r=>by rw [map_nil] at r; cases r; exact .nil
 | k :: ks,_,r=>by
  rw [map_cons] at r;cases r with
  | cons h t=>exact .cons (um2 h) (sk1 t)
abbrev KT (H:Hp):List (List Key × V)->List (List Key × Addr × Value)->Prop:=Paired λ p q=>p.1=q.1 /\ H q.2.1=some (.tup (p.1.map kV)) /\ RelV p.2 q.2.2
variable {H:Hp} {kvs:List (List Key × V)} {xs:List (List Key × Addr × Value)}
theorem KT.val (r:KT H kvs xs) (k:List Key):RelO (valV kvs k) ((atKey xs k).map (·.2)):=by
 induction r with
 | nil=>exact True.intro
 | @cons p q ps qs h t ih =>
  obtain ⟨h1,_,h2⟩:=h;by_cases e:p.1=k
  ·have e':q.1=k:=h1.symm.trans e;have b:atKey (q :: qs) k=some q.2:=by simp [atKey,find?_cons,e']
   rw [zs0 e,b]; exact h2
  ·have e':¬ q.1=k:=λ z=>e (h1.trans z);have b:atKey (q :: qs) k=atKey qs k:=by simp [atKey,find?_cons,e']
   rw [us0 e,b]; exact ih
theorem KT.repl (r:KT H kvs xs) (k:List Key) (ry:RelV y u) :
    KT H (kvs.map λ kv=>if kv.1=k then (kv.1,y) else kv) (xs.map (putAt k u)):=by
 induction r with
 | nil=>exact .nil
 | @cons p q ps qs h t ih =>
  rw [map_cons,map_cons];refine .cons ?_ ih;obtain ⟨h1,h2,h3⟩:=h;unfold putAt;by_cases e:p.1=k
  ·rw [if_pos e,if_pos (h1.symm.trans e)]; exact ⟨h1,h2,ry⟩
  ·rw [if_neg e,if_neg (λ z=>e (h1.trans z))]; exact ⟨h1,h2,h3⟩
variable {b:Addr}
theorem KT.put (r:KT H kvs xs) (k:List Key) (hb:H b=some (.tup (k.map kV))) (ry:RelV y u) :
    KT H (putK kvs k y) (storedH xs k b u):=by
 have e:(kvs.any λ kv=>decide (kv.1=k))=(atKey xs k).isSome:=by
  rw [vb1,(r.val k).isSome_eq,Option.isSome_map]
 unfold putK storedH;rw [e];by_cases q:(atKey xs k).isSome=true
 ·rw [if_pos q,if_pos q]; exact r.repl k ry
 ·rw [if_neg q,if_neg q]; exact Paired.snoc r ⟨rfl,hb,ry⟩
variable {H':Hp}
theorem KT.keeps (r:KT H kvs xs) (ht:∀ b ys,H b=some (.tup ys)->H' b=some (.tup ys)):KT H' kvs xs :=
 Paired.mapP r λ _ _ z=>⟨z.1,ht _ _ z.2.1,z.2.2⟩
variable {A:Around} {E:[7]} {s:[47]} {h:Heap} {ep:Nat} {a:Addr} {Q:Unit->Shared->Prop}
section
variable {prog:[60]} {K:Type} [DecidableEq K] {knd:HeapKind prog w K} 
def DHe (knd:HeapKind prog w K) (h:Heap) (d:Addr) (xs:List (K × Addr × Value)) (ep:Nat):Prop :=
 ∃ o es,h.get? d=some o /\ o.ExactDict /\ o.data=.dict es ep /\ es.toList=xs.map (entryOfKey knd) /\ (∀ x ∈ xs,knd.is h x.1 x.2.1) /\ (xs.map (·.1)).Nodup
theorem DHe.of {d:Addr} {xs:List (K × Addr × Value)} (x:DHe knd h d xs ep):h.DictOfH knd d xs:=by
 obtain ⟨o,es,a⟩:=x; exact ⟨o,es,ep,a⟩
theorem DHe.new {d:Addr} {xs:List (K × Addr × Value)} {k:K} {v:Value} {o:Obj} {es:Array DictEntry} {hs:Int} (ho:s.heap.get? d=some o) (hc:o.ExactDict) (hd:o.data=.dict es ep) (he:es.toList=xs.map (entryOfKey knd))
    (his:∀ x ∈ xs,knd.is s.heap x.1 x.2.1) (hn:(xs.map (·.1)).Nodup) (hkey:knd.is s.heap k a) (hno:∀ (j:Nat) (p:Addr × Value),xs[j]? ≠ some (k,p)) (eh:entryOfKey knd (k,a,v)=⟨hs,.ref a,v⟩) :
    DHe knd (s.heap.update d (Obj.mapDictKeys (·.push ⟨hs,.ref a,v⟩))) d (storedH xs k a v) (ep + 1):=by
 have hnot:k ∉ xs.map (·.1):=not_mem_keys_of_get hno;rw [storedH_new (atKey_none_of_get hno)];refine ⟨_,_,Heap.get?_update_self _ ho (Obj.isFreed_of_dict (Obj.data_mapDictKeys hd _)),hc.mapDictKeys _,Obj.data_mapDictKeys hd _,by simp [he,eh],λ c mc=>?_,?_⟩
 ·rcases List.mem_append.mp mc with mc | mc; · exact knd.keeps (his c mc) ho hd [77]
  rw [mem_singleton] at mc; subst mc; exact knd.keeps hkey ho hd [77]
 ·rw [map_append,List.nodup_append]; refine ⟨hn,by simp,λ c mc c' mc'=>?_⟩;have e':c'=k:=by simpa using mc'
  subst e'; exact λ e=>hnot (e ▸ mc)
theorem yz3 {d:Addr} {xs:List (K × Addr × Value)} {k:K} {v:Value} (hu:knd.room A) (hkey:knd.is s.heap k a) (hm:DHe knd s.heap d xs ep) (hsz:xs.length<=sizeLine)
    (hQ:∀ h' ep',ep'=(if (atKey xs k).isSome then ep else ep + 1)->DHe knd h' d (storedH xs k a v) ep'->Heap.SameBut d s.heap h'->Q () { s with heap:=h',toks:=s.toks + knd.draws k }) :
    wpAny [8] A (dictSet d (.ref a) v) Q E s:=by
 obtain ⟨o,es,ho,hc,hd,he,his,hn⟩:=hm;unfold dictSet; try with_reducible refine wpAny_holding ?_
 refine wpAny_bind (knd.pyHash hu hkey ?_); unfold dictSetHashed; try with_reducible refine wpAny_holding ?_
 refine wpAny_bind (wpAny_dictFind_heap (s:={ s with toks:=s.toks + knd.draws k }) hu hkey ho hd he his hn (λ hno=>?_) λ j p hj=>?_)
 ·exact wpAny_bind (wpAny_rule (wpAny_updateDictKeys (hz:=by have e:=size_of_entries he; omega) (s:={ s with toks:=s.toks + knd.draws k }) ho hd (hQ _ (ep + 1) (by rw [atKey_none_of_get hno]; rfl) (DHe.new ho hc hd he his hn hkey hno rfl) [77])))
 ·have ak:=atKey_of_get hn hj;refine wpAny_bind (wpAny_rule (wpAny_bind (wpAny_updateDict (s:={ s with toks:=s.toks + knd.draws k }) ho hd (wpAny_point (hQ _ ep (by rw [ak]; rfl) ⟨_,_,Heap.get?_update_self _ ho (Obj.isFreed_of_dict (Obj.data_mapDict hd _)),hc.mapDict _,Obj.data_mapDict hd _,?_,?_,?_⟩ [77])))))
  ·rw [storedH_old ak]; have z:=modify_map_putAt (entryOfKey knd) (λ e:DictEntry=>{ e with val:=v }) k v (λ _ _=>rfl) hn hj;rw [<- he] at z; obtain ⟨l⟩:=es; simpa using z
  ·rw [storedH_old ak]; intro c mc; obtain ⟨y,my,rfl⟩:=List.mem_map.mp mc; unfold putAt; split <;> exact knd.keeps (his y my) ho hd [77]
  ·rw [storedH_old ak,keys_map_putAt]; exact hn
theorem sj4 {d:Addr} {xs:List (K × Addr × Value)} {k:K} {v:Value} (hu:knd.room A.in1) (hkey:knd.is s.heap k a) (hm:DHe knd s.heap d xs ep) (hsz:xs.length<=sizeLine)
    (hQ:∀ h' ep',ep'=(if (atKey xs k).isSome then ep else ep + 1)->DHe knd h' d (storedH xs k a v) ep'->Heap.SameBut d s.heap h'->Q () { s with heap:=h',toks:=s.toks + knd.draws k }) :
    wpAny [8] A (setItem (.ref d) (.ref a) v) Q E s:=by
 have ty:=hm.of.typeIs;unfold setItem; try with_reducible refine wpAny_holding ?_
 refine wpAny_bind (wpAny_sequenceKey ty [14] (wpAny_bind (wpAny_callSpecial?_slot (name:=Str.ofString "__setitem__") ty slot_dict_setitem (wpAny_call_entry slot_dict_setitem ty entry_dict_setitem ?_ (args_dict_setitem _ _ _)))));refine (show wpAny _ _ (Builtin.Dict.notOrdered "__setitem__" ⟨[.ref d,.ref a,v],[]⟩ >>= _) _ _ s from wpAny_bind (wpAny_notOrdered_dict ty ?_));exact (show wpAny _ _ (dictSet d (.ref a) v >>= _) _ _ s from wpAny_bind (yz3 hu hkey hm hsz λ h' ep' e1 dd hs=>wpAny_pure ⟨.none,rfl,wpAny_pure (hQ h' ep' e1 dd hs)⟩))
end
theorem xx3 {κ:Type} [DecidableEq κ] (kvs:List (κ × V)) (k:κ) (v:V):(putK kvs k v).length=if (valV kvs k).isSome then kvs.length else kvs.length + 1:=by
 unfold putK; rw [vb1]; split <;> simp
variable {ne:Nat}
section
theorem ts4 {u:HO} (ok:HOk P w H h) (e:Rd H a u):ObjOk P w H h a u:=e.ok ok
theorem ua3 {kvs:List (Key × V)} (ok:HOk P w H h) (e:Rd H a (.dK kvs)):kvs.length<=sizeLine /\ (a == sysModules)=false /\ ∃ vs,KV kvs vs /\ h.DictOf (td0 P w) a vs :=
 show ObjOk P w H h a (.dK kvs) from ts4 ok e
theorem dk_of {kvs:List (Key × V)} (ok:HOk P w H h) (e:H a=some (.dK kvs)):kvs.length<=sizeLine /\ (a == sysModules)=false /\ ∃ vs,KV kvs vs /\ h.DictOf (td0 P w) a vs:=ua3 ok (.inl e)
theorem uk1 {ks:List Key} (ok:HOk P w H h) (e:H a=some (.tup (ks.map kV))):(tupleKind (td0 P w)).is h ks a:=by
 obtain ⟨_,its,r,o,h1,h2,n,h3⟩:=(show ObjOk P w H h a (.tup (ks.map kV)) from ok a _ e);exact ⟨o,its.toArray,n,h1,h2,h3,by simpa using sk1 r⟩
theorem xd2 (ok:HOk P w H h) (e:Rd H a (.dT kvs ne)):kvs.length<=sizeLine /\ (a == sysModules)=false ∧
    ∃ xs,KT H kvs xs /\ DHe (tupleKind (td0 P w)) h a xs ne:=by
 obtain ⟨z,y,xs,r,o,es,ep,h1,h2,h3,h4,h5,h6⟩:=(show ObjOk P w H h a (.dT kvs ne) from ts4 ok e);subst h6;refine ⟨z,y,xs,r,o,es,h1,h2,h3,h4,λ x hx=>?_,h5⟩
 have all:∀ {l:List (List Key × V)} {m:List (List Key × Addr × Value)},KT H l m->∀ x ∈ m,(tupleKind (td0 P w)).is h x.1 x.2.1:=by
  intro l m q
  induction q with
  | nil=>intro x hx; exact nomatch hx
  | @cons p q ps qs hq t ih =>
   intro x hx;rcases List.mem_cons.mp hx with e | hx
   ·subst e;exact uk1 ok (by rw [<- hq.1]; exact hq.2.1)
   ·exact ih x hx
 exact all r x hx
theorem xz3 (ok:HOk P w H h) (e:∃ ne,Rd H a (.dT kvs ne)):kvs.length<=sizeLine /\ (a == sysModules)=false /\ ∃ xs,KT H kvs xs /\ h.DictOfH (tupleKind (td0 P w)) a xs:=by
 obtain ⟨ne,e⟩:=e; obtain ⟨z,y,xs,r,d⟩:=xd2 ok e; exact ⟨z,y,xs,r,d.of⟩
end
def DGet (H:Hp) (a:Addr) (y:V) (r:Option V):Prop :=
 (∃ kvs k,Rd H a (.dK kvs) /\ y=kV k /\ r=valV kvs k) \/ ∃ kvs k b,(∃ ne,Rd H a (.dT kvs ne)) /\ y=.ref b /\ H b=some (.tup (k.map kV)) /\ r=valV kvs k
def DPut (H:Hp) (a:Addr) (y v:V) (H':Hp):Prop :=
 (∃ kvs k,H a=some (.dK kvs) /\ y=kV k /\ kvs.length < sizeLine /\ H'=upd H a (.dK (putK kvs k v))) ∨
 ∃ kvs k b ne,H a=some (.dT kvs ne) /\ y=.ref b /\ H b=some (.tup (k.map kV)) /\ kvs.length < sizeLine /\ H'=upd H a (.dT (putK kvs k v) (if (valV kvs k).isSome then ne else ne + 1))
variable {k:List Key}
theorem DGet.t (e:H a=some (.dT kvs ne)) (eb:H b=some (.tup (k.map kV))):DGet H a (.ref b) (valV kvs k):=.inr ⟨kvs,k,b,⟨ne,.inl e⟩,rfl,eb,rfl⟩
theorem DPut.t {v:V} (e:H a=some (.dT kvs ne)) (eb:H b=some (.tup (k.map kV))) (hl:kvs.length < sizeLine) :
    DPut H a (.ref b) v (upd H a (.dT (putK kvs k v) (if (valV kvs k).isSome then ne else ne + 1))):=.inr ⟨kvs,k,b,ne,e,rfl,eb,hl,rfl⟩
variable {X:Cx} {pins:[19]} {σ:St} {h':Heap}
section
variable {v:V} {r:Value} {o:Option V} 
theorem Inv.big (I:[13]):sysModules < s.heap.objs.size:=by
 have h:mainGlobals < s.heap.objs.size:=(I.mod.glob.keeps I.bk).lt;exact Nat.lt_trans [14] h
theorem d_in {Q:[7]} (hu:A.units + 1 < cLine) (I:[13]) (g:DGet H a y o) (ry:RelV y u) (h:∀ s',Inv X pins σ H s'->Q (.bool o.isSome) s') :
    wpAny [11] A (compareOp .In u (.ref a)) Q E s:=by
 rcases g with ⟨kvs,k,e,ey,l⟩ | ⟨kvs,k,b,e,ey,eb,l⟩
 ·subst ey;obtain ⟨z,hd,vs,rel,dd⟩:=ua3 I.hok e;refine wpAny_in_of (um2 ry) hd dd.mapOf ?_;rw [<- (rel.val k).isSome_eq,<- l];exact h _ (I.tok _)
 ·subst ey;cases (show u=Value.ref b from ry);obtain ⟨z,hd,xs,rel,dd⟩:=xz3 I.hok e;refine wpAny_in_heap (tupleKind_room_in1 hu) (uk1 I.hok eb) hd dd ?_;have q:=(rel.val k).isSome_eq;rw [Option.isSome_map] at q;rw [<- q,<- l];exact h _ (I.tok _)
theorem wz3 {Q:[7]} (hu:A.units + 1 < cLine) (I:[13]) (g:DGet H a y o) (ry:RelV y u) (h:∀ s',Inv X pins σ H s'->Q (.bool (!o.isSome)) s') :
    wpAny [11] A (compareOp .NotIn u (.ref a)) Q E s:=by
 rcases g with ⟨kvs,k,e,ey,l⟩ | ⟨kvs,k,b,e,ey,eb,l⟩
 ·subst ey;obtain ⟨z,hd,vs,rel,dd⟩:=ua3 I.hok e;refine wpAny_notIn_of (um2 ry) hd dd.mapOf ?_;rw [<- (rel.val k).isSome_eq,<- l];exact h _ (I.tok _)
 ·subst ey;cases (show u=Value.ref b from ry);obtain ⟨z,hd,xs,rel,dd⟩:=xz3 I.hok e;refine wpAny_notIn_heap (tupleKind_room_in1 hu) (uk1 I.hok eb) hd dd ?_;have q:=(rel.val k).isSome_eq;rw [Option.isSome_map] at q;rw [<- q,<- l];exact h _ (I.tok _)
theorem yq2 {t':Nat} {ob:HO} (I:[13]) (mu:Mut (H a)) (hs:Heap.SameBut a s.heap h') (he:∃ q,h'.get? a=some q) (new:ObjOk X.prog X.w (upd H a ob) h' a ob) :
    Inv X pins σ (upd H a ob) { s with heap:=h',toks:=t' } :=
 I.write (x:=a) (e:=a) mu (.inl rfl) (λ b q hb z=>(hs.2 b hb).trans z) he new
theorem vd5 {kvs:List (Key × V)} {vs:List (Key × Value)} (z:kvs.length<=sizeLine) (hd:(a == sysModules)=false) (rel:KV kvs vs) (dd:h'.DictOf (td0 P w) a vs) :
    ObjOk P w H' h' a (.dK kvs):=⟨z,hd,vs,rel,dd⟩
theorem zq2 (hu:A.units + 1 < cLine) (I:[13]) (g:DPut H a y v H') (ry:RelV y u) (rv:RelV v r) (h:∀ s',Inv X pins σ H' s'->Q () s') :
    wpAny [11] A (setItem (.ref a) u r) Q E s:=by
 rcases g with ⟨kvs,k,e,ey,l,eH⟩ | ⟨kvs,k,b,ne,e,ey,eb,l,eH⟩
 ·subst ey eH;obtain ⟨z,hd,vs,rel,dd⟩:=dk_of I.hok e;have hz:vs.length<=sizeLine:=by rw [<- rel.length]; exact z
  have hl:(putK kvs k v).length<=sizeLine:=by have:=ww0 kvs k v; omega
  refine wpAny_setItem_pairs (hsz:=hz) (um2 ry) dd λ h' dd' hs=>h _ ?_;have he:∃ q,h'.get? a=some q:=let ⟨q,_,_,hq,_⟩:=dd'; ⟨q,hq⟩
  exact yq2 I (by rw [e]; exact True.intro) hs he (vd5 hl hd (rel.put k rv) dd')
 ·subst ey eH;cases (show u=Value.ref b from ry);obtain ⟨z,hd,xs,rel,dd⟩:=xd2 I.hok (.inl e);have hz:xs.length<=sizeLine:=by rw [<- Paired.length rel]; exact z
  have hl:(putK kvs k v).length<=sizeLine:=by have:=ww0 kvs k v; omega
  refine sj4 (tupleKind_room_in1 hu) (uk1 I.hok eb) dd hz λ h' ep' e1 dd' hs=>h _ ?_;obtain ⟨q,es,hq,h2,h3,h4,_,h5⟩:=dd';have e2:ep'=if (valV kvs k).isSome then ne else ne + 1:=by rw [e1,(rel.val k).isSome_eq,Option.isSome_map]
  refine yq2 I (by rw [e]; exact True.intro) hs ⟨q,hq⟩ ⟨hl,hd,_,(rel.put k eb rv).keeps λ c ys ec=>?_,q,es,ep',hq,h2,h3,h4,h5,e2⟩;rw [xc0 (wl2 ec e (λ z=>nomatch z))];exact ec
end
def wk5 (td ty tv:TE):TS:=λ D σ H=>tv σ H λ v H1=>td σ H1 λ x H2=>ty σ H2 λ y H3=>∃ a H4,x=.ref a /\ DPut H3 a y v H4 /\ D.nx σ H4
variable {pos:Pos}
section
variable {o i e value:Expr} {pos' tpos:Pos} {td ty tv:TE}
theorem vt3 (hu:X.A.units + 1 < cLine) (ho:PE X o td) (hi:PE X i ty) (hv:PE X value tv) (hs:swapsWith value (some (.Subscript o i pos')) pos.line X.env=pure false) :
    PS X (.Assign [.Subscript o i pos'] value pos) (wk5 td ty tv):=by
 intro pins s σ H D I h;refine wpAny_Assign_Subscript (thn (hv pins s σ H _ I h) λ r s1 ⟨v,H1,I1,rv,q1⟩=>thn (ho pins s1 σ H1 _ I1 q1) λ u s2 ⟨x,H2,I2,rx,q2⟩=>thn (hi pins s2 σ H2 _ I2 q2) λ iv s3 ⟨y,H3,I3,ry,a,H4,ex,g,q3⟩=>?_) hs;subst ex;obtain rfl:u=Value.ref a:=rx;exact zq2 hu I3 g ry rv λ s4 I4=>⟨σ,H4,I4,q3⟩
end
theorem va3 (h:Heap) (hb:sysModules < h.objs.size):ObjOk P w H (h.push { cls:=.type "dict",data:=.dict #[] }) h.objs.size (.dT [] 0) :=
 ⟨Nat.zero_le _,beq_eq_false_iff_ne.mpr (Ne.symm (Nat.ne_of_lt hb)),[],.nil,_,#[],0,Heap.get?_push_size _ rfl,⟨rfl,rfl,rfl⟩,rfl,rfl,nodup_nil,rfl⟩
def zi4:TE:=λ _ H Q=>∀ p,H p=none->Q [66] (upd H p (.dT [] 0))
section
theorem wx2:PE X (.Dict [] [] pos) zi4:=λ pins s σ H Q I h =>
 wpAny_Dict_empty ⟨.ref s.heap.objs.size,_,I.laid (a:=s.heap.objs.size) (o:=.dT [] 0) (t':=s.toks) (λ _ _ q=>Heap.get?_push_of_some _ q) [18] (va3 s.heap I.big),rfl,h _ (I.hok.fresh [18])⟩
end
section
variable {d:V} {r:Value} {o:Option V} 
theorem td5 {Q:[7]} (hu:A.units + 1 < cLine) (I:[13]) (g:DGet H a y o) (ry:RelV y u) (rd:RelV d r) (h:∀ w' s',Inv X pins σ H s'->RelV (o.getD d) w'->Q w' s') :
    wpAny [11] A (call (.builtin "dict.get") [.ref a,u,r]) Q E s:=by
 rcases g with ⟨kvs,k,e,ey,l⟩ | ⟨kvs,k,b,e,ey,eb,l⟩
 ·subst ey;obtain ⟨z,hd,vs,rel,dd⟩:=ua3 I.hok e;refine call_meetsIn slot_dict_get dd.typeIs entry_dict_get (PySem.F.args_dict_get_3 _ _ _) (meets_dict_get_default (td0 X.prog X.w) a (um2 ry) hd r) ⟨_,dd.mapOf,h _ _ (I.tok _) ?_⟩;rw [l];exact (rel.val k).getD rd
 ·subst ey;cases (show u=Value.ref b from ry);obtain ⟨z,hd,xs,rel,dd⟩:=xz3 I.hok e;refine call_meetsIn slot_dict_get dd.typeIs entry_dict_get (PySem.F.args_dict_get_3 _ _ _) (meetsH_dict_get_default (tupleKind (td0 X.prog X.w)) a b hd r) ⟨tupleKind_room_in1 hu,k,xs,uk1 I.hok eb,dd,h _ _ (I.tok _) ?_⟩;rw [l];exact (rel.val k).getD rd
end
end L2
namespace Pv
open PySem PySem.Spec PyProof.Rows L2
def keyI:D->Option (List Int)
 | .tup l=>ints? l
 | _=>none
def valL (kvs:[41]) (k:[64]):Option D:=(kvs.find? λ kv=>decide (kv.1=k)).map (·.2)
def putL (kvs:[41]) (k:[64]) (y:D):List (List Int × D):=if (kvs.any λ kv=>decide (kv.1=k))=true then kvs.map (λ kv=>if kv.1=k then (kv.1,y) else kv) else kvs ++ [(k,y)]
def dnl3:TE3:=λ _ μ Q=>∀ p,μ p=none->Q [66] (updM μ p (.dcl false []))
def dinR (neg:Bool):R3:=λ y x μ Q=>match x,keyI y with
 | .ref p,some k=>match μ p with
  | some (.dcl _ kvs)=>Q (.bl (if neg then !(valL kvs k).isSome else (valL kvs k).isSome)) μ
  | _=>False
 | _,_=>False
def vm0 (to ti tv:TE3):TS3:=λ D' ρ μ=>tv ρ μ λ v μ1=>to ρ μ1 λ x μ2=>ti ρ μ2 λ y μ3=>match x,keyI y with
 | .ref p,some k=>match μ3 p with
  | some (.dcl b kvs)=>kvs.length < 90000 /\ D'.nx ρ (updM μ3 p (.dcl b (putL kvs k v)))
  | _=>False
 | _,_=>False
variable {H:Hp} {p:Addr} {ne:Nat}
theorem Kp.wrD {o:HO} {xs:List (List Key × V)} (h:H p=some (.dT xs ne)):Kp H (upd H p o) :=
 ⟨λ b ys q=>by rw [xc0 (wl2 q h (by intro z; cases z))]; exact q,λ b o u q=>by rw [xc0 (wl2 q h (by intro z; cases z))]; exact q⟩
variable {K:Fg} {μ:Mu} {kvs:[41]} {vs:List (List Key × V)} {b0:Bool}
theorem RelM.newC (h:H p=none) (r:RelKl K H kvs vs) (cl:b0=false->ne=vs.length) (m:RelM K μ H):RelM K (updM μ p (.dcl b0 kvs)) (upd H p (.dT vs ne)):=m.put (Kp.new h) (.dcl r cl)
theorem RelM.wrC {ws:List (List Key × V)} {n2:Nat} (h:H p=some (.dT ws ne)) (r:RelKl K H kvs vs) (c0:b0=false->n2=vs.length) (m:RelM K μ H):RelM K (updM μ p (.dcl b0 kvs)) (upd H p (.dT vs n2)):=m.put (Kp.wrD h) (.dcl r c0)
theorem su1:∀ {a b:[64]},kL a=kL b->a=b
 | [],[],_=>rfl
 | [],_ :: _,h=>by cases h
 | _ :: _,[],h=>by cases h
 | x :: a,y :: b,h=>by
  have h':(Sum.inl x:Key) :: kL a=Sum.inl y :: kL b:=h;injection h' with h1 h2
  cases h1;rw [su1 h2]
theorem RelKl.len {l:[41]} (r:RelKl K H l vs):l.length=vs.length:=by
 induction r with
 | nil=>rfl
 | cons _ _ ih=>simp_all
theorem RelKl.any {K:Fg} {H:Hp} {t:[64]} {l:[41]} {vs:List (List Key × V)} (r:RelKl K H l vs):(vs.any λ kv=>decide (kv.1=kL t))=l.any λ kv=>decide (kv.1=t):=by
 induction r with
 | nil=>rfl
 | cons _ _ ih =>
  rw [any_cons,any_cons,ih];congr 1;rw [decide_eq_decide];exact ⟨su1,λ h=>congrArg kL h⟩
theorem RelKl.val {t:[64]} {l:[41]} (r:RelKl K H l vs):(valL l t=none /\ valV vs (kL t)=none) \/ ∃ d v,valL l t=some d /\ valV vs (kL t)=some v /\ RelD K H d v:=by
 induction r with
 | nil=>exact .inl ⟨rfl,rfl⟩
 | cons h _ ih =>
  rename_i t' d' v' l' vs' _;by_cases c:t'=t
  ·subst c;exact .inr ⟨d',v',by simp [valL],zs0 rfl,h⟩
  ·have e1:valL ((t',d') :: l') t=valL l' t:=by simp [valL,c]
   rw [e1,us0 (p:=(kL t',v')) (λ z=>c (su1 z))];exact ih
variable {y:D} {v:V}
theorem RelKl.rep {t:[64]} (ry:RelD K H y v) {l:[41]} (r:RelKl K H l vs):RelKl K H (l.map λ kv=>if kv.1=t then (kv.1,y) else kv) (vs.map λ kv=>if kv.1=kL t then (kv.1,v) else kv):=by
 induction r with
 | nil=>exact .nil
 | cons h _ ih =>
  rename_i t' d' v' l' vs' _;rw [map_cons,map_cons];by_cases c:t'=t
  ·rw [if_pos c,if_pos (by rw [c])]; exact .cons ry ih
  ·rw [if_neg c,if_neg (λ z=>c (su1 z))]; exact .cons h ih
theorem RelKl.snoc {t:[64]} (ry:RelD K H y v) {l:[41]} (r:RelKl K H l vs):RelKl K H (l ++ [(t,y)]) (vs ++ [(kL t,v)]):=by
 induction r with
 | nil=>exact .cons ry .nil
 | cons h _ ih=>exact .cons h ih
theorem RelKl.put {t:[64]} (ry:RelD K H y v) {l:[41]} (r:RelKl K H l vs):RelKl K H (putL l t y) (putK vs (kL t) v):=by
 unfold putL putK;rw [r.any];split
 ·exact r.rep ry
 ·exact r.snoc ry
theorem zv1 {K:Fg} {H:Hp}:∀ {l:List D} {vs:List V} {k:[64]},RelDs K H l vs->ints? l=some k->vs=(kL k).map kV
 | _,_,k,.nil,e=>by simp [ints?] at e; subst e; rfl
 | _,_,k,.cons h r,e=>by
  cases h with
  | int x =>
   simp only [ints?] at e;split at e
   ·next ys e1 =>
    simp only [Option.some.injEq] at e;subst e;rw [zv1 r e1]; rfl
   ·cases e
  | _=>simp [ints?] at e
theorem wp1 {k:[64]} (r:RelD K H y v) (e:keyI y=some k):∃ b,v=.ref b /\ H b=some (.tup ((kL k).map kV)):=by
 cases r with
 | tup hq rs=>exact ⟨_,rfl,by rw [<- zv1 rs e]; exact hq⟩
 | _=>simp [keyI] at e
variable {X:Cx} {to:TE3}
section
variable {pos pos':Pos}
theorem yp4:RE X (.Dict [] [] pos) dnl3:=⟨_,wx2,λ σ H Q ρ μ Q3 s m h k p hp=>k _ _ _ _ (h p (m.free hp)) (Kp.new hp) [66] (m.newC hp .nil λ _=>rfl)⟩
theorem q_din (neg:Bool) (hu:[68]):RO X (compareOp (if neg then .NotIn else .In)) (dinR neg):=by
 refine ⟨λ y x H Q=>∃ a o,x=.ref a /\ DGet H a y o /\ Q (.bl (if neg then !o.isSome else o.isSome)) H,?_,λ y x b a H Q μ Q3 m ry rx h k=>?_⟩
 ·intro pins s σ H y x u v Q I ry rx h;obtain ⟨a,o,rfl,g,q⟩:=h;cases rx;cases neg with
  | true=>exact wz3 [5] I g ry λ s' I'=>⟨.bl (!o.isSome),H,I',rfl,q⟩
  | false=>exact d_in [5] I g ry λ s' I'=>⟨.bl o.isSome,H,I',rfl,q⟩
 ·unfold dinR at h;split at h
  ·next p kk ek =>
   split at h
   ·next b0 kvs e =>
    cases rx;obtain ⟨ws,n9,hw,rk,cl⟩:=m.dcl p _ kvs e;obtain ⟨b',rfl,hb⟩:=wp1 ry ek;refine ⟨p,_,rfl,DGet.t (k:=kL kk) hw hb,?_⟩
    have es:(valV ws (kL kk)).isSome=(valL kvs kk).isSome:=by
     rcases rk.val (t:=kk) with ⟨z1,z2⟩ | ⟨d,w,z1,z2,_⟩ <;> rw [z1,z2] <;> rfl
    rw [es];exact k _ _ _ _ h [38] (.bl _) m
   ·exact h.elim
  ·exact h.elim
theorem tt4 (hu:[68]):RO X (compareOp .In) (dinR false):=q_din false hu
theorem vq3 {o i value:Expr} {ti tv:TE3} (hu:[68]) (ho:RE X o to) (hi:RE X i ti) (hv:RE X value tv) (hs:swapsWith value (some (.Subscript o i pos')) pos.line X.env=pure false:=by rfl) :
    RS X (.Assign [.Subscript o i pos'] value pos) (vm0 to ti tv):=by
 obtain ⟨vo,po,ro⟩:=ho;obtain ⟨vi,pi,ri⟩:=hi;obtain ⟨vv,pv,rv⟩:=hv
 refine ⟨_,vt3 [5] po pi pv hs,λ σ H D ρ μ D3 s m h k=>rv σ H _ ρ μ _ s m h λ y μ1 v H1 h1 k1 r1 m1=>ro σ H1 _ ρ μ1 _ [63] m1 h1 λ d μ2 x H2 h2 k2 r2 m2 =>
  ri σ H2 _ ρ μ2 _ (s.mono (k1.trans k2)) m2 h2 λ kd μ3 b H3 h3 k3 r3 m3=>?_⟩
 split at h3
 ·next p kk ek =>
  split at h3
  ·next b0 kvs e =>
   cases r2;obtain ⟨ws,n9,hw,rk,cl⟩:=m3.dcl p _ kvs e;obtain ⟨b',rfl,hb⟩:=wp1 r3 ek;have hl:=rk.len;have hz:(90000:Nat) < sizeLine:=by decide
   refine ⟨p,_,rfl,DPut.t (k:=kL kk) hw hb [5],?_⟩;exact k.nx _ _ _ _ h3.2 (k1.trans (k2.trans (k3.trans (Kp.wrD hw)))) (s.mono (k1.trans (k2.trans (k3.trans (Kp.wrD hw))))) (m3.wrC hw (rk.put (r1.mono (k2.trans k3))) λ z=>by rw [xx3,cl z])
  ·exact h3.elim
 ·exact h3.elim
end
def gdf3 (to:TE3) (t:TA3):TE3:=λ ρ μ Q=>to ρ μ λ x μ1=>match x with
 | .ref p=>match μ1 p with
  | some (.dcl _ _)=>t ρ μ1 λ ds μ2=>match ds with
   | [y,d]=>match keyI y,μ2 p with
    | some k,some (.dcl _ kvs)=>(match valL kvs k with
     | some v=>Q v μ2
     | none=>Q d μ2)
    | _,_=>False
   | _=>False
  | _=>False
 | _=>False
def rGd:V->List V->Hp->VK->Prop:=λ x vs H Q=>∃ a kvs k b v n,x=.ref a /\ vs=[.ref b,v] /\ H a=some (.dT kvs n) /\ H b=some (.tup (k.map kV)) ∧
 (∀ u,valV kvs k=some u->Q u H) /\ (valV kvs k=none->Q v H)
section
theorem mt_gd (hu:X.A.units + 1 < cLine):MtM X "dict.get" rGd:=by
 intro pins s σ H x vs v us Q I rx rv h;obtain ⟨d,kvs,k,b,v0,n,rfl,rfl,e,eb,q1,q2⟩:=h;cases rx;cases rv with
 | cons r1 r2 =>
 cases r2 with
 | cons r2 r3 =>
 cases r3;rename_i u1 u2;cases (show u1=Value.ref b from r1);refine td5 hu I (DGet.t e eb) rfl r2 λ w' s' I' rw'=>?_;cases ev:valV kvs k with
 | none=>exact ⟨v0,H,I',by rw [ev] at rw'; exact rw',q2 ev⟩
 | some w''=>exact ⟨w'',H,I',by rw [ev] at rw'; exact rw',q1 _ ev⟩
variable {o e:Expr} {es:[67]} {t:TA3} {apos cpos:Pos}
theorem uk5 (hu:[68]) (ho:RE X o to) (ha:RA X (e :: es) t) (hbase:attributeBase o "get" X.env (eval o X.env)=eval o X.env:=by rfl)
    (hfew:([81].all (λ x=>!x.1) && [70].all (λ x=>x.1.isSome)
     && decide [29])=true:=by rfl)
    (hline:(apos.endLine == cpos.line)=true:=by rfl) (hs:starEach (e :: es) X.env=[26] :: starEach es X.env:=by rfl) (hplain:(backTo cpos [31]).any (·.1)=false:=by rfl) :
    RE X (.Call (.Attribute o "get" apos) (e :: es) [] cpos) (gdf3 to t):=by
 obtain ⟨va,pa,ra⟩:=ho;obtain ⟨vb,pb,rb⟩:=ha;refine ⟨_,yv3 PySem.F.plainAttrs_dict slot_dict_get PySem.F.type_dict_get (mt_gd [5]) pa pb hbase hfew hline hs hplain,λ σ H Q ρ μ Q3 s m h k=>ra σ H _ ρ μ _ s m h λ x μ1 v H1 h1 k1 r1 m1=>?_⟩;split at h1
 ·next p =>
  split at h1
  ·next b0 kvs0 e0 =>
   cases r1;obtain ⟨ws0,n0,hw0,_⟩:=m1.dcl p b0 kvs0 e0;refine ⟨.inr (.inr (.inl ⟨rfl,.inr ⟨ws0,n0,hw0⟩⟩)),rb σ H1 _ ρ μ1 _ [63] m1 h1 λ ds μ2 vs H2 h2 k2 r2 m2=>?_⟩;split at h2
   ·next y d =>
    cases r2 with
    | cons ry r2 =>
    cases r2 with
    | cons rd r2 =>
    cases r2;split at h2
    ·next kk b1 kvs ek e =>
     obtain ⟨ws,n1,hw,rk,_⟩:=m2.dcl p b1 kvs e;obtain ⟨b,rfl,hb⟩:=wp1 ry ek;refine ⟨p,ws,kL kk,b,_,n1,rfl,rfl,hw,hb,λ u eu=>?_,λ eu=>?_⟩
     ·rcases rk.val (t:=kk) with ⟨_,z2⟩ | ⟨d',w',z1,z2,rd'⟩
      ·rw [eu] at z2; cases z2
      ·rw [eu] at z2; cases z2; rw [z1] at h2; exact k _ _ _ _ h2 (k1.trans k2) rd' m2
     ·rcases rk.val (t:=kk) with ⟨z1,_⟩ | ⟨d',w',_,z2,_⟩
      ·rw [z1] at h2; exact k _ _ _ _ h2 (k1.trans k2) rd m2
      ·rw [eu] at z2; cases z2
    ·exact h2.elim
   ·exact h2.elim
  ·exact h1.elim
 ·exact h1.elim
end
end Pv
namespace Pv
open PySem PySem.Spec PySem.W PyProof.Rows L2
def DG (h:Heap) (d:Addr) (es:Array DictEntry) (ep:Nat):Prop:=∃ o,h.get? d=some o /\ o.ExactDict /\ o.data=.dict es ep
variable {d:Addr} {es:Array DictEntry} {ep:Nat}
theorem DG.keep {h h':Heap} (x:DG h d es ep) (k:∀ o,h.get? d=some o->h'.get? d=some o):DG h' d es ep:=by
 obtain ⟨o,a,b⟩:=x;exact ⟨o,k o a,b⟩
variable {s:[47]}
theorem DG.ty (x:DG s.heap d es ep):s.TypeIs (.ref d) "dict" := by
 obtain ⟨o,a,b,_⟩:=x;exact ⟨o,a,b.1⟩
variable {Q:Option Value->Shared->Prop}
section
variable {prog:[60]} {w:World} {A:Around} {E:[7]} {it:Addr} {i:Nat}
theorem vp2 {Q:[7]} (lo:(d == sysModules)=false) (x:DG s.heap d es ep) (q:Q [71] { s with heap:=s.heap.push { cls:=.type "dict_keyiterator",data:=.fields #[.ref d,.int 0 0,.int es.size 0,.int ep 0] } }) :
    wpAny [8] A (pyIter (.ref d)) Q E s:=by
 have ty:=x.ty;obtain ⟨o,e1,e2,e3⟩:=x;refine wpAny_pyIter_slot ty F.slot_dict_iter (wpAny_call_entry F.slot_dict_iter ty F.entry_dict_iter ?a (F.args_dict_iter_1 _))
 case a =>
  unfold Builtin.«dict.__iter__»;refine wpAny_bind ?_; unfold Builtin.Dict.dictSlotNone;refine wpAny_bind (wpAny_notOrdered_dict ty (show wpAny _ _ (pure (Value.ref d)) _ _ s from wpAny_pure ?_));show wpAny _ _ (Builtin.Dict.showsAll d >>= _) _ _ s; unfold Builtin.Dict.showsAll;rw [if_neg [36]];refine wpAny_bind (wpAny_pure (wpAny_bind (wpAny_dictEntries e1 e3 (wpAny_bind (wpAny_dictEpoch e1 e3 ?_)))));refine wpAny_bind (wpAny_newObj_type (wpAny_pure ⟨_,rfl, "dict_keyiterator",_,⟨_,Heap.get?_push_size _ rfl,rfl⟩,F.slot_dict_keyiterator_next.lookup,q⟩))
theorem wp2 (hi:s.heap.IsKeyIter it d i es.size ep) (x:DG s.heap d es ep) (lt:i < es.size)
    (q:∀ h',h'.IsKeyIter it d (i + 1) es.size ep->Heap.SameBut it s.heap h'->Q (some es[i].key) [54]):wpAny [8] A (pyNext (.ref it)) Q E s:=by
 obtain ⟨o,a1,a2,a3⟩:=id hi;obtain ⟨od,e1,e2,e3⟩:=x;have ty:=hi.typeIs;have own0:Builtin.Dict_items.ownsTuple "dict_keyiterator" = false:=by decide
 unfold pyNext;refine wpAny_bind (wpAny_attempt (wpAny_callSpecial?_slot (name:=Str.ofString "__next__") ty F.slot_dict_keyiterator_next (wpAny_call_entry F.slot_dict_keyiterator_next ty F.entry_dict_keyiterator_next ?a (F.args_dict_keyiterator_next_1 _))))
 case a =>
  refine wpAny_bind (wpAny_pure (wpAny_bind (wpAny_bind ?_)))
  first | refine wpAny_bind (wpAny_typeNameOfWhole_keyiter ty [28]) | refine wpAny_bind (wpAny_typeNameOf_keyiter ty [28])
  refine wpAny_bind (wpAny_fieldsOf a1 a3 ?_); simp only [own0,Bool.false_eq_true,if_false];show wpAny _ _ (if (Value.ref d == Value.none)=true then _ else _) _ _ s; rw [if_neg (show ¬ ((Value.ref d == Value.none)=true) from Bool.false_ne_true)];refine wpAny_bind (wpAny_pure (wpAny_bind (wpAny_dictEntries e1 e3 ?_))); rw [if_neg [17]];refine wpAny_bind (wpAny_pure (wpAny_bind (wpAny_dictEpoch e1 e3 ?_))); rw [if_neg [17]];refine wpAny_pure ?_;simp only [show ¬ ((i:Int) < 0) from by omega,if_false,Int.toNat_natCast,Array.getElem?_eq_getElem lt];refine wpAny_bind ?_
  first | refine wpAny_bind (wpAny_typeNameOfWhole_keyiter ty [28]) | refine wpAny_bind (wpAny_typeNameOf_keyiter ty [28])
  refine wpAny_bind (wpAny_isOneOf_keyiter ty (show wpAny _ _ (setField (.ref it) 1 (rawInt ((i:Int) + 1)) >>= _) _ _ s from wpAny_bind (wpAny_setField a1 a3 [17] ?_)));have hi':(s.heap.update it (Obj.mapFields (·.setIfInBounds 1 (rawInt ((i:Int) + 1))))).IsKeyIter it d (i + 1) es.size ep:=⟨_,Heap.get?_update_self _ a1 (Obj.isFreed_of_fields (Obj.data_mapFields a3 _)),(Obj.cls_mapFields ..).trans a2,by rw [Obj.data_mapFields a3]; simp [rawInt]⟩;refine wpAny_bind (wpAny_holding (wpAny_bind (wpAny_isOneOf_keyiter (s:={ s with heap:=s.heap.update it (Obj.mapFields (·.setIfInBounds 1 (rawInt ((i:Int) + 1)))) }) hi'.typeIs ?_)));show wpAny _ _ (pure es[i].key) _ _ _;exact wpAny_pure (wpAny_pure ⟨_,rfl,wpAny_pure (q _ hi' [77])⟩)
theorem tj3 (hh:A.handled=none) (hi:s.heap.IsKeyIter it d i es.size ep) (x:DG s.heap d es ep) (ge:es.size<=i)
    (q:∀ h',Heap.ExtBut it s.heap h'->Q none [54]):wpAny [8] A (pyNext (.ref it)) Q E s:=by
 obtain ⟨o,a1,a2,a3⟩:=id hi;obtain ⟨od,e1,e2,e3⟩:=x;have ty:=hi.typeIs;have own0:Builtin.Dict_items.ownsTuple "dict_keyiterator" = false:=by decide
 unfold pyNext;refine wpAny_bind (wpAny_attempt (wpAny_callSpecial?_slot (name:=Str.ofString "__next__") ty F.slot_dict_keyiterator_next (wpAny_call_entry F.slot_dict_keyiterator_next ty F.entry_dict_keyiterator_next ?a (F.args_dict_keyiterator_next_1 _))))
 case a =>
  refine wpAny_bind (wpAny_pure (wpAny_bind (wpAny_bind ?_)))
  first | refine wpAny_bind (wpAny_typeNameOfWhole_keyiter ty [28]) | refine wpAny_bind (wpAny_typeNameOf_keyiter ty [28])
  refine wpAny_bind (wpAny_fieldsOf a1 a3 ?_); simp only [own0,Bool.false_eq_true,if_false];show wpAny _ _ (if (Value.ref d == Value.none)=true then _ else _) _ _ s; rw [if_neg (show ¬ ((Value.ref d == Value.none)=true) from Bool.false_ne_true)];refine wpAny_bind (wpAny_pure (wpAny_bind (wpAny_dictEntries e1 e3 ?_))); rw [if_neg [17]];refine wpAny_bind (wpAny_pure (wpAny_bind (wpAny_dictEpoch e1 e3 ?_))); rw [if_neg [17]];refine wpAny_pure ?_;simp only [show ¬ ((i:Int) < 0) from by omega,if_false,Int.toNat_natCast,Array.getElem?_eq_none ge];refine wpAny_bind ?_
  first | refine wpAny_bind (wpAny_typeNameOfWhole_keyiter ty [28]) | refine wpAny_bind (wpAny_typeNameOf_keyiter ty [28])
  show wpAny _ _ (setField (.ref it) 0 .none >>= _) _ _ s; refine wpAny_bind (wpAny_setField a1 a3 [17] ?_);show wpAny _ _ (newExc (.type "StopIteration") [] >>= _) _ _ _; refine wpAny_bind ?_; simp only [newExc,newTuple];refine wpAny_bind (wpAny_newObj_type (wpAny_bind (m:=firstArgMember _ _) (wpAny_of_eq (a:=Value.none) (by rfl) (wpAny_newObj_type ?_ (by size_fits)))) (by size_fits));simp only [raiseNew]; refine wpAny_bind (wpAny_handled ?_); rw [show A.in1.handled=none from hh];refine wpAny_bind (wpAny_pure (wpAny_throw ?_)); refine wpAny_bind (wpAny_isInstance (T := "StopIteration") (b:=true) ⟨_,Heap.get?_push_size _ rfl,rfl⟩ isSubtype_stop ?_);exact wpAny_pure (q _ (([77].extBut.push _).push _))
theorem ta3 (hh:A.handled=none) (I d:Addr) (ne:d ≠ I):Walks prog w A I [I,d] [I] es.size (λ i v=>∃ e,es[i]?=some e /\ v=e.key) (λ i h=>h.IsKeyIter I d i es.size ep /\ DG h d es ep) where
 sub:=λ b hb=>by simp_all
 frame:=λ _ _ _ z hk=>⟨z.1.at λ o e=>hk I [17] o e,z.2.keep λ o e=>hk d [17] o e⟩
 item:=λ i s Q E hi z q=>by
  refine wp2 z.1 z.2 hi λ h' k1 k2=>?_;exact q _ h' s.toks ⟨es[i],by simp [hi],rfl⟩ ⟨k1,z.2.keep λ o e=>k2.extBut d o ne e⟩ λ b o hb e=>k2.extBut b o (λ y=>hb (by simp [y])) e
 done:=λ s Q E z q=>tj3 hh z.1 z.2 [18] λ h' k=>q h' s.toks λ b o hb e=>k b o (λ y=>hb (by simp [y])) e
 self:=λ _ _ _ _ z q=>wpAny_pyIter_keyiter z.1 q
theorem ud5 (lo:(d == sysModules)=false):KdlSrc prog w "dict" d d es.size (λ i v=>∃ e,es[i]?=some e /\ v=e.key) (λ h=>DG h d es ep) where
 type:=λ _ x=>x.ty
 there:=λ _ x=>by obtain ⟨o,a,_⟩:=x; exact ⟨Heap.lt_size a,Heap.lt_size a⟩
 keep:=λ _ _ x k=>x.keep λ o e=>k d (.inl rfl) o e
 notList:=by decide
 notTuple:=by decide
 hint:=λ _ _ _ _ x q=>kdl_hint_dict x.ty q
 iter:=λ _ s hh x=>by
  have hl:d < s.heap.objs.size:=by obtain ⟨o,a,_⟩:=x; exact Heap.lt_size a
  exact ⟨_,_,(λ _ _ q=>vp2 lo x q),ta3 hh _ d (Nat.ne_of_lt hl),⟨[53],x.keep λ o e=>Heap.get?_push_of_some _ e⟩⟩
end
end Pv
namespace Pv
open PySem PySem.Spec PyProof.Rows L2
def Itd (a:Addr) (n m:Nat):It :=
 ⟨λ i H=>∃ kvs,H a=some (.dT kvs m) /\ kvs.length=n /\ i < n,λ i H x H'=>H'=H /\ ∃ kvs k v b,H a=some (.dT kvs m) /\ kvs[i]?=some (k,v) /\ x=.ref b /\ H b=some (.tup (k.map kV)),
  λ i H=>∃ kvs,H a=some (.dT kvs m) /\ kvs.length=n /\ n<=i⟩
theorem uh3 {H:Hp}:∀ {kvs:List (List Key × V)} {xs:List (List Key × Addr × Value)},KT H kvs xs->∀ (i:Nat) x,xs[i]?=some x->∃ v,kvs[i]?=some (x.1,v) /\ H x.2.1=some (.tup (x.1.map kV))
 | _,_,.nil,i,x,e=>by simp at e
 | _,_,.cons (a:=p) (b:=q) h r,0,x,e=>by
  simp at e; subst e;exact ⟨p.2,by rw [List.getElem?_cons_zero,<- h.1],by simp_all⟩
 | _,_,.cons h r,i + 1,x,e=>by
  rw [List.getElem?_cons_succ] at e ⊢;exact uh3 r i x e
variable {P:[60]} {w:World} {tg:Expr}
theorem ye2 {K:[56]} (a it:Addr) (n m:Nat):Turn P w K tg (Itd a n m) [it] it (λ i h=>h.IsKeyIter it a i n m) where
 mem:=by simp
 obj:=λ i h st b hb=>by
  have e:b=it:=by simpa using hb
  subst e;obtain ⟨o,e,c,d⟩:=st
  simp_all
 keep:=λ i h h' st k=>by
  obtain ⟨o,e,c,d⟩:=st;exact ⟨o,k it [17] o e,c,d⟩
 item:=by
  intro X hP hw hK hc i pins s σ H E I hf st hg;subst hP hw hK;obtain ⟨f0,f1,f2,f3,f4,f5⟩:=hf it [17];obtain ⟨kvs,e,el,hi⟩:=hg;obtain ⟨z,hd,xs,rel,o,es,ho,hc1,hd1,he,_⟩:=xd2 I.hok (.inl e);have l1:xs.length=n:=by rw [<- Paired.length rel]; exact el
  have l2:es.size=n:=by rw [<- length_toList,he,length_map,l1]
  have st':s.heap.IsKeyIter it a i es.size m:=by rw [l2]; exact st
  refine wp2 st' ⟨o,ho,hc1,hd1⟩ [5] λ h' hst hk=>?_;rw [l2] at hst;have hx:xs[i]?=some (xs[i]'(by omega)):=getElem?_eq_getElem _
  have ek:(es[i]'(by omega)).key=.ref (xs[i]'(by omega)).2.1:=by
   have q:es.toList[i]?=some (entryOfKey (tupleKind (td0 X.prog X.w)) (xs[i]'(by omega))):=by simp_all
   rw [getElem?_toList,Array.getElem?_eq_getElem [5]] at q;cases q':es[i]'(by omega) with
   | mk a1 a2 a3=>rw [q'] at q; cases q; rfl
  obtain ⟨v,kg,kh⟩:=uh3 rel i _ hx;have I1:Inv X pins σ H [54]:=I.turned (t':=s.toks) (λ b o hb e=>hk.extBut b o hb e) f0 f1 f3 f4 f5;obtain ⟨o1,e1,c1,d1⟩:=id hst;refine ⟨_,rfl,tn2 (s:=[54]) e1 c1 d1 [14] ⟨.ref _,H,I1,ek,⟨rfl,kvs,_,v,_,e,kg,rfl,kh⟩,hst,λ b hb=>(hf b hb).1⟩⟩
 done:=by
  intro X hP hw hK hc i pins s σ H E I hf st hg;subst hP hw hK;obtain ⟨f0,f1,f2,f3,f4,f5⟩:=hf it [17];obtain ⟨kvs,e,el,hi⟩:=hg;obtain ⟨z,hd,xs,rel,o,es,ho,hc1,hd1,he,_⟩:=xd2 I.hok (.inl e);have l1:xs.length=n:=by rw [<- Paired.length rel]; exact el
  have l2:es.size=n:=by rw [<- length_toList,he,length_map,l1]
  have st':s.heap.IsKeyIter it a i es.size m:=by rw [l2]; exact st
  exact tj3 (I.ok.hd hc) st' ⟨o,ho,hc1,hd1⟩ [5] λ h' hk=>⟨rfl,I.turned (t':=s.toks) (λ b o hb e=>hk b o hb e) f0 f1 f3 f4 f5⟩
 self:=λ A i s Q E st h=>wpAny_pyIter_keyiter st h
variable {K:Fg} {X:Cx} {H:Hp}
section
def iDct (tl:TE):TI:=λ σ H R=>tl σ H λ x H1=>∃ a kvs m,x=.ref a /\ H1 a=some (.dT kvs m) /\ R (Itd a kvs.length m) H1
theorem zu3 {l:Expr} {tl:TE} (hl:PE X l tl):PI X tg l (iDct tl):=by
 intro pins s σ H R I h;refine thn (hl pins s σ H _ I h) λ v s1 ⟨x,H1,I1,r1,q1⟩=>?_
 have fp:∀ b ∈ [s1.heap.objs.size],FpOk X pins H1 b:=λ b hb=>by
  have e:b=s1.heap.objs.size:=by simpa using hb
  subst e;exact I1.fpOk [18] (I1.hok.fresh [18])
 obtain ⟨a,kvs,m,rfl,e,q⟩:=q1;cases r1;obtain ⟨z,hd,xs,rel,o,es,ho,hc1,hd1,he,_⟩:=xd2 I1.hok (.inl e);have l2:es.size=kvs.length:=by rw [<- length_toList,he,length_map]; exact (Paired.length rel).symm
 refine vp2 hd ⟨o,ho,hc1,hd1⟩ ?_;rw [l2];exact ⟨s1.heap.objs.size,[s1.heap.objs.size],_,_,H1,rfl,I1.kept (t':=s1.toks) λ b o e=>Heap.get?_push_of_some _ e,ye2 a _ _ _,[53],fp,q⟩
def tupI (k:[64]):D:=.tup (k.map .int)
theorem tz0 {K:Fg} {H:Hp}:∀ k:List Int,RelDs K H (k.map .int) ((kL k).map kV)
 | []=>.nil
 | i :: k=>.cons (.int i) (tz0 k)
theorem RelKl.get {l:[41]} {vs:List (List Key × V)} (r:RelKl K H l vs):∀ (i:Nat) k v,vs[i]?=some (k,v)->∃ t d,l[i]?=some (t,d) /\ k=kL t:=by
 induction r with
 | nil=>simp
 | cons h _ ih =>
  intro i k v e;cases i with
  | zero=>simp_all
  | succ i=>simp_all
theorem zz2 {H0:Hp} {a:Addr} {l:[41]}:ItOk K (Itd a l.length l.length) (l.map λ kv=>tupI kv.1) (λ μ=>μ a=some (.dcl false l)) H0:=λ i H μ k m s=>by
 obtain ⟨vs,n9,h,r,cl⟩:=m.dcl a _ l s;obtain rfl:n9=l.length:=(cl rfl).trans r.len.symm;have hl:=r.len;refine ⟨λ d e=>?_,λ hl'=>⟨vs,h,hl.symm,by simpa using hl'⟩⟩;rw [getElem?_map] at e
 have hi:i < l.length:=by
  rcases Nat.lt_or_ge i l.length with c | c
  ·exact c
  simp_all
 refine ⟨⟨vs,h,hl.symm,hi⟩,λ x H2 y=>?_⟩;obtain ⟨rfl,kvs,kk,v,b,e1,e2,rfl,e3⟩:=y;rw [h] at e1;cases e1;obtain ⟨t,dd,e4,rfl⟩:=r.get i kk v e2;rw [e4] at e;cases e;exact ⟨Kp.refl _,m,.tup e3 (tz0 t)⟩
def isd3 (t:TE3):TI3:=λ ρ μ R=>t ρ μ λ d μ1=>match d with
 | .ref p=>match μ1 p with
  | some (.dcl false l)=>R (l.map λ kv=>tupI kv.1) (λ μ=>μ p=some (.dcl false l)) μ1
  | _=>False
 | _=>False
theorem vo4 {a:Expr} {ta:TE3} (ha:RE X a ta):RI X tg a (isd3 ta):=by
 obtain ⟨va,pa,ra⟩:=ha;refine ⟨_,zu3 pa,λ σ H R ρ μ R3 s m h k=>ra σ H _ ρ μ _ s m h λ d μ1 v H1 h1 k1 r1 m1=>?_⟩;split at h1
 ·next p =>
  split at h1
  ·next l e =>
   cases r1;obtain ⟨vs,n9,hv,rv,cl⟩:=m1.dcl p _ l e;obtain rfl:n9=l.length:=(cl rfl).trans rv.len.symm;refine ⟨p,vs,_,rfl,hv,?_⟩;rw [<- rv.len];exact k _ _ _ _ _ h1 k1 m1 zz2
  ·exact h1.elim
 ·exact h1.elim
end
def ys0 (cells:List (Str × Addr)):List (Str × NameKind)->List (Str × Addr)->List (Str × Addr)
 | [],acc=>acc
 | (n,k) :: r,acc=>if k == .free then ys0 cells r ((n,(cells.lookup n).getD 0) :: acc) else ys0 cells r acc
variable {scope:Scope}
theorem zh1 {env:Env} (h:∀ y ∈ scope.names,y.2=.free->(env.cells.lookup y.1).isSome=true):closureFor scope env=pure (ys0 env.cells scope.names []):=by
 unfold closureFor
 have key:∀ (l:List (Str × NameKind)) (acc:List (Str × Addr)),(∀ y ∈ l,y.2=.free->(env.cells.lookup y.1).isSome=true) ->
     (forIn l acc (λ x r=>if (x.2 == NameKind.free)=true then do let c <- cellOf env x.1; pure (ForInStep.yield ((x.1,c) :: r)) else pure (ForInStep.yield r)):Sem (List (Str × Addr)))=pure (ys0 env.cells l acc):=by
  intro l
  induction l with
  | nil=>intro acc _; rfl
  | cons y r ih =>
   intro acc hl;obtain ⟨n,k⟩:=y;rw [List.forIn_cons];have ih':=λ a=>ih a λ z hz=>hl z (mem_cons_of_mem _ hz);by_cases hk:k=.free
   ·subst hk;have hs:=hl (n,.free) [65] rfl;obtain ⟨c,hc⟩:=Option.isSome_iff_exists.mp hs;have ec:cellOf env n=pure c:=by unfold cellOf; rw [hc]
    simp only [ys0,ec,pure_bind,beq_self_eq_true,if_true,hc,Option.getD_some];exact ih' _
   ·have hk':(k == NameKind.free)=false:=by simpa using hk
    simp only [ys0,hk',Bool.false_eq_true,if_false,pure_bind];exact ih' _
 have:=key scope.names [] h
 simp_all
theorem ux0 {cells:List (Str × Addr)} {x:Str} {c:Addr}:∀ (l:List (Str × NameKind)) (acc:List (Str × Addr)),(∀ y ∈ l,y.2=.free->(cells.lookup y.1).isSome=true)->(acc.lookup x=some c->cells.lookup x=some c) ->
    (ys0 cells l acc).lookup x=some c->cells.lookup x=some c
 | [],acc,_,ha,h=>ha h
 | (n,k) :: r,acc,hl,ha,h=>by
  unfold ys0 at h;split at h
  ·next hk =>
   refine ux0 r _ (λ z hz=>hl z (mem_cons_of_mem _ hz)) (λ h2=>?_) h;rw [lookup_cons] at h2;split at h2
   ·next e =>
    have e':x=n:=eq_of_beq e;subst e';obtain ⟨c',hc⟩:=Option.isSome_iff_exists.mp (hl (x,k) [65] (eq_of_beq hk))
    simp_all
   ·exact ha h2
  ·exact ux0 r acc (λ z hz=>hl z (mem_cons_of_mem _ hz)) ha h
theorem tx0 {cells:List (Str × Addr)} {x:Str}:∀ (l:List (Str × NameKind)) (acc:List (Str × Addr)),((∃ c,acc.lookup x=some c) \/ (x,NameKind.free) ∈ l)->∃ c,(ys0 cells l acc).lookup x=some c
 | [],acc,h=>by
  rcases h with h | h
  ·exact h
  ·cases h
 | (n,k) :: r,acc,h=>by
  unfold ys0;split
  ·next hk =>
   refine tx0 r _ ?_;by_cases e:x=n
   ·simp_all
   ·rcases h with ⟨c,h⟩ | h
    ·left;refine ⟨c,?_⟩;rw [lookup_cons];have:(x == n)=false:=by simpa using e
     rw [this]; exact h
    simp_all
  ·next hk =>
   refine tx0 r acc ?_;rcases h with h | h
   ·exact .inl h
   ·rcases List.mem_cons.mp h with h | h
    ·simp_all
    ·exact .inr h
theorem CompSc.free {X:Cx} {NN:[35]} {scope:Scope} {js:List (Option Nat)} (hcell:∀ y ∈ scope.names,y.2 ≠ .cell) (hk:scope.kind=.function) (hfn:X.env.scope.kind=.function)
    (hn:∀ y ∈ scope.names,y.2=.local->scope.names.lookup y.1=some .local) (hfree:∀ y ∈ scope.names,y.2=.free->X.env.scope.names.lookup y.1=some .cell) (hlook:∀ y ∈ scope.names,y.2=.free->scope.names.lookup y.1=some .free)
    (hcl:∀ x,X.env.scope.names.lookup x=some .cell->(X.env.cells.lookup x).isSome=true) (len:js.length=NN.length)
    (hout:∀ i ∈ List.range js.length,∀ j,js.getD i none=some j->∃ x,NN[i]?=some x /\ X.N[j]?=some x /\ scope.names.lookup x=some .free) :
    CompSc X NN scope (ys0 X.env.cells scope.names []) js where
 clos:=zh1 λ y hy e=>hcl _ (hfree y hy e)
 cell:=hcell
 kind:=hk
 names:=hn
 sub:=λ x c h=>ux0 scope.names [] (λ y hy e=>hcl _ (hfree y hy e)) (λ h=>by simp at h) h
 has:=λ x h=>by
  refine tx0 scope.names [] (.inr ?_)
  have hm:∃ k,(x,k) ∈ scope.names /\ (k=.free \/ k=.cell):=by
   have key:∀ kk,(relabel scope X.env).names.lookup x=some kk->(kk=.cell \/ kk=.free)->∃ k,(x,k) ∈ scope.names /\ (k=.free \/ k=.cell):=λ kk hkk hc=>by
    have hmem:=zh0 hkk;obtain ⟨⟨n,k⟩,hy,e⟩:=List.mem_map.mp hmem;dsimp only at e;split at e
    ·next hq =>
     cases e;simp only [Bool.and_eq_true] at hq;exact ⟨k,hy,.inl (by simpa using hq.1.1)⟩
    ·cases e;exact ⟨kk,hy,hc.symm⟩
   rcases h with h | h
   ·simp_all
   simp_all
  obtain ⟨k,hk1,hk2⟩:=hm;rcases hk2 with rfl | rfl
  ·exact hk1
  ·exact absurd rfl (hcell _ hk1)
 len:=len
 out:=λ i j h=>by
  have hi:i < js.length:=by
   rcases Nat.lt_or_ge i js.length with z | z
   ·exact z
   simp_all
  obtain ⟨x,e1,e2,e3⟩:=hout i (List.mem_range.mpr hi) j [36];have hf:=hfree (x,.free) (zh0 e3) rfl;refine ⟨x,e1,e2,.inr (.inl hf),by rw [hf]; simp,?_⟩;left
  have key:∀ (l:List (Str × NameKind)),l.lookup x=some .free->(l.map λ (n,k)=>if (k == NameKind.free && X.env.scope.kind == .function && X.env.kindOf n == some .cell) then (n,NameKind.cell) else (n,k)).lookup x=some .cell:=λ l=>by
   induction l with
   | nil=>intro h; simp at h
   | cons y r ih =>
    obtain ⟨n,k⟩:=y;intro h;rw [lookup_cons] at h;rw [map_cons,lookup_cons];by_cases e:x=n
    ·subst e;simp only [beq_self_eq_true,Option.some.injEq] at h;subst h
     have hkind:(X.env.kindOf x == some NameKind.cell)=true:=by
      show (X.env.scope.names.lookup x == some NameKind.cell)=true;rw [hf]; rfl
     simp [hfn,hkind]
    ·have e':(x == n)=false:=by simpa using e
     rw [e'] at h;have ih':=ih h;by_cases hq:(k == NameKind.free && X.env.scope.kind == ScopeKind.function && X.env.kindOf n == some NameKind.cell)=true
     ·simp only [hq,if_true,e']; exact ih'
     ·simp only [hq,Bool.false_eq_true,if_false,e']; exact ih'
  exact key _ e3
variable {NN:[35]} {js:List (Option Nat)}
theorem yh1 {CX:CXT} {mg:[24]} {base:Heap} {N:[35]} {qual:Str} {sc:Scope} {f:Addr} {cdv:Value} {A:Around} {outer:List Env} {s:[47]} {E:XK} 
    (hcell:∀ y ∈ scope.names,y.2 ≠ .cell:=by decide +kernel) (hk:scope.kind=.function:=by rfl) (hfn:sc.kind=.function:=by rfl)
    (hn:∀ y ∈ scope.names,y.2=.local->scope.names.lookup y.1=some .local:=by decide +kernel) (hfree:∀ y ∈ scope.names,y.2=.free->sc.names.lookup y.1=some .cell:=by decide +kernel)
    (hlook:∀ y ∈ scope.names,y.2=.free->scope.names.lookup y.1=some .free:=by decide +kernel) (len:js.length=NN.length:=by rfl)
    (hout:∀ i ∈ List.range js.length,∀ j ∈ (js.getD i none).toList,∃ x ∈ NN[i]?.toList,N[j]?=some x /\ scope.names.lookup x=some .free:=by decide +kernel) :
    CompSc (cxOf CX P w K mg base N qual sc f cdv A outer s H E).nox NN scope (ys0 (cxOf CX P w K mg base N qual sc f cdv A outer s H E).nox.env.cells scope.names []) js :=
 CompSc.free (X:=(cxOf CX P w K mg base N qual sc f cdv A outer s H E).nox) hcell hk hfn hn hfree hlook (λ x h=>by
  obtain ⟨c,hc⟩:=wh1 (n:=_) h
  exact Option.isSome_iff_exists.mpr ⟨c,hc⟩) len λ i hi j hj=>by
   obtain ⟨x,h1,h2,h3⟩:=hout i hi j (by rw [hj]; simp);exact ⟨x,by simpa using h1,h2,h3⟩
variable {cl:List (Str × Addr)} {i:Nat} {x:Str} {px apos pos:Pos} {ifs:[67]}
section
theorem zt3 {elt target iter:Expr} {wi:TI} {g:TG} {tc:TT} {te:TE} (hN:X.N.Nodup) (hi':X.N[i]?=some x) (hl:X.env.scope.names.lookup x=some .local) (hc:[82]) (S:CompSc X NN scope cl js) (hi:PI X target iter wi)
    (hg:∀ C fp s₀ H₀ pn,PG [22] target g) (ht:∀ C fp s₀ H₀ pn,PTs [22] ifs tc) (he:∀ C fp s₀ H₀ pn,PE [22] elt te)
    (hs:∀ x,foldedSetIterable iter X.env x=pure x) (hw:swapsWith [27] (some (.Name x px)) apos.line X.env=pure true) :
    PS X (.Assign [.Name x px] [27] apos) (tAsg (ve2 js wi g tc te) (xa3 i)):=by
 intro pins s σ H D I h;rw [exec_Assign_Name_used _ _ _ _ hw];refine wpAny_bind (wpAny_standAt (wpAny_bind ?_));show wpAny _ _ (comprehension [27] scope X.env (firstIterPos [⟨target,iter,ifs,0⟩] pos) (newList []) (firstAsync [⟨target,iter,ifs,0⟩]) (firstIter [⟨target,iter,ifs,0⟩] X.env) (some (assign (.Name x px) X.env)) >>= λ _=>pure ()) _ _ s;refine wpAny_bind (wpAny_mono (uq2 (use:=some (assign (.Name x px) X.env)) (Q':=λ _ s'=>SP X pins D .next s') hc S hi hg ht he hs I h λ p0 C H' s' m' I5 hn hC n1 n2 n3 n4 q=>?_) (λ _ s' hq=>wpAny_pure (wpAny_pure hq)) λ _ _ e=>e);show wpAny _ _ (assign (.Name x px) X.env (.ref p0)) _ _ s';refine wpAny_assign_Name (wi1 I5 hN hi' (.inl hl) (v:=.ref p0) rfl (λ s2 I6 ⟨b,sb,hb⟩=>?_) (.inr hl))
 have nb:C ≠ b:=by
  rcases hb with hb | hb
  ·rw [hb]; exact n1
  ·exact Ne.symm (n3 x b hb)
 exact ⟨m',hn.sameBut sb nb,λ h' sb'=>⟨_,H',I6.turned (t':=s2.toks) (λ b o hb e=>sb'.extBut b o hb e) hC n1 (.inr n2) n3 n4,q⟩⟩
end
section
variable {elt target iter:Expr} {ti:TI3} {g:TG3} {tc:TT3} {te:TE3} 
theorem vs1 (hN:X.N.Nodup) (hc:[82]) (S:CompSc X NN scope cl js) (hi:RI X target iter ti) (hg:∀ C fp s₀ H₀ pn,RG [22] target g)
    (ht:∀ C fp s₀ H₀ pn,RTs [22] ifs tc) (he:∀ C fp s₀ H₀ pn,RE [22] elt te)
    (hs:∀ x,foldedSetIterable iter X.env x=pure x) (hi':X.N[i]?=some x:=by rfl) (hl:X.env.scope.names.lookup x=some .local:=by rfl)
    (hw:swapsWith [27] (some (.Name x px)) apos.line X.env=pure true:=by rfl):RS X (.Assign [.Name x px] [27] apos) (set3 i (xe0 js ti g tc te)):=by
 obtain ⟨wi,pi,ri⟩:=hi
 let gU:TG:=λ v σ H Q=>∀ (r:TG3),r=g->∃ d ρ μ Q3,RSt X.K H ρ σ /\ RelM X.K μ H /\ RelD X.K H d v /\ g d ρ μ Q3 /\ (∀ ρ' μ' σ' H',Q3 ρ' μ'->Kp H H'->RSt X.K H' ρ' σ'->RelM X.K μ' H'->Q σ' H')
 let tU:TT:=λ σ H Q=>∃ ρ μ Q3,RSt X.K H ρ σ /\ RelM X.K μ H /\ tc ρ μ Q3 /\ (∀ b μ' H',Q3 b μ'->Kp H H'->RelM X.K μ' H'->Q b H')
 let eU:TE:=λ σ H Q=>∃ ρ μ Q3,RSt X.K H ρ σ /\ RelM X.K μ H /\ te ρ μ Q3 /\ Ks X.K H Q3 Q
 have hg':∀ C fp s₀ H₀ pn,PG [22] target gU:=λ C fp s₀ H₀ pn=>by
  obtain ⟨tv,p,r⟩:=hg C fp s₀ H₀ pn;intro pins s σ H v u Q I rv h;obtain ⟨d,ρ,μ,Q3,a1,a2,a3,a4,a5⟩:=h g rfl;exact p pins s σ H v u Q I rv (r v d σ H Q ρ μ Q3 a1 a2 a3 a4 a5)
 have ht':∀ C fp s₀ H₀ pn,PTs [22] ifs tU:=λ C fp s₀ H₀ pn=>by
  obtain ⟨tv,p,r⟩:=ht C fp s₀ H₀ pn;intro pins s σ H Q I h;obtain ⟨ρ,μ,Q3,a1,a2,a3,a4⟩:=h;exact p pins s σ H Q I (r σ H Q ρ μ Q3 a1 a2 a3 a4)
 have he':∀ C fp s₀ H₀ pn,PE [22] elt eU:=λ C fp s₀ H₀ pn=>by
  obtain ⟨tv,p,r⟩:=he C fp s₀ H₀ pn;intro pins s σ H Q I h;obtain ⟨ρ,μ,Q3,a1,a2,a3,a4⟩:=h;exact p pins s σ H Q I (r σ H Q ρ μ Q3 a1 a2 a3 a4)
 have rd:RdE X.K (ve2 js wi gU tU eU) (xe0 js ti g tc te):=RdE.comp ri (λ v d σ H Q ρ μ Q3 a1 a2 a3 a4 a5 _ _=>⟨d,ρ,μ,Q3,a1,a2,a3,a4,a5⟩) (λ σ H Q ρ μ Q3 a1 a2 a3 a4=>⟨ρ,μ,Q3,a1,a2,a3,a4⟩) (λ σ H Q ρ μ Q3 a1 a2 a3 a4=>⟨ρ,μ,Q3,a1,a2,a3,a4⟩);exact ⟨_,zt3 hN hi' hl hc S pi hg' ht' he' hs hw,λ σ H D ρ μ D3 s m h k=>rd σ H _ ρ μ _ s m h λ d μ1 v H1 h1 k1 r1 m1=>k.nx _ _ _ _ h1 k1 ([63].set i r1) m1⟩
theorem yv2 (hN:X.N.Nodup) (hf:∀ y ∈ scope.names,y.2 ≠ .free) (hcl:∀ y ∈ scope.names,y.2 ≠ .cell) (hn:∀ y ∈ scope.names,y.2=.local->scope.names.lookup y.1=some .local) (hi:RI X target iter ti) (hg:∀ C fp s₀ H₀ pn,RG (wc0 X NN scope [] C fp s₀ H₀ pn) target g)
    (ht:∀ C fp s₀ H₀ pn,RTs (wc0 X NN scope [] C fp s₀ H₀ pn) ifs tc) (he:∀ C fp s₀ H₀ pn,RE (wc0 X NN scope [] C fp s₀ H₀ pn) elt te) (hc:X.calm=true:=by rfl) (hk:scope.kind=.function:=by rfl)
    (hs:∀ x,foldedSetIterable iter X.env x=pure x:=by intro _; rfl) (hi':X.N[i]?=some x:=by rfl) (hl:X.env.scope.names.lookup x=some .local:=by rfl)
    (hw:swapsWith [27] (some (.Name x px)) apos.line X.env=pure true:=by rfl):RS X (.Assign [.Name x px] [27] apos) (set3 i (xe0 (NN.map λ _=>none) ti g tc te)) :=
 vs1 hN hc (CompSc.closed hf hcl hk hn) hi hg ht he hs hi' hl hw
end
end Pv
namespace Pv
open PySem
abbrev Rise (xs:[76]):Prop:=xs.toList.Pairwise (· < ·)
variable {xs:[76]} {i:Nat}
theorem tp0 (h:Rise xs) {j a b:Nat} (hi:xs[i]?=some a) (hj:xs[j]?=some b) (l:i < j):a < b:=by
 have h':=List.pairwise_iff_getElem.mp h;rw [<- getElem?_toList] at hi hj;obtain ⟨hi1,hi2⟩:=List.getElem?_eq_some_iff.mp hi;obtain ⟨hj1,hj2⟩:=List.getElem?_eq_some_iff.mp hj;rw [<- hi2,<- hj2];exact h' i j hi1 hj1 l
theorem xu0 (xs:[76]) (j:Nat) (h:Rise xs):∀ (fuel lo hi:Nat),hi - lo<=fuel->lo<=hi->hi<=xs.size->(∀ i a,i < lo->xs[i]?=some a->a < j)->(∀ i a,hi<=i->xs[i]?=some a->j<=a) ->
    (∀ i a,xs[i]?=some a->(i < SetTable.below.go xs j fuel lo hi ↔ a < j)) /\ SetTable.below.go xs j fuel lo hi<=xs.size
 | 0,lo,hi,f,l1,l2,a1,a2=>by
  have e:lo=hi:=by omega
  subst e;unfold SetTable.below.go;refine ⟨λ i a q=>⟨λ c=>a1 i a c q,λ c=>?_⟩,l2⟩;by_cases z:i < lo
  ·exact z
  ·have:=a2 i a [5] q; omega
 | fuel + 1,lo,hi,f,l1,l2,a1,a2=>by
  unfold SetTable.below.go;split
  ·next c =>
   have m1:(lo + hi) / 2 < hi:=by omega
   have m2:lo<=(lo + hi) / 2:=by omega
   have hm:xs[(lo + hi) / 2]?=some (xs.getD ((lo + hi) / 2) j):=by
    have:(lo + hi) / 2 < xs.size:=by omega
    simp_all
   dsimp only;split
   ·next c2 =>
    refine xu0 xs j h fuel _ _ [5] [5] l2 (λ i a z q=>?_) a2;by_cases y:i=(lo + hi) / 2
    ·subst y; simp_all
    ·exact Nat.lt_trans (tp0 h q hm [5]) c2
   ·next c2 =>
    refine xu0 xs j h fuel _ _ [5] [5] [5] a1 (λ i a z q=>?_);by_cases y:i=(lo + hi) / 2
    ·subst y; simp_all
    ·have:=tp0 h hm q [5]; omega
  ·next c =>
   have e:lo=hi:=by omega
   subst e;refine ⟨λ i a q=>⟨λ c=>a1 i a c q,λ c=>?_⟩,l2⟩;by_cases z:i < lo
   ·exact z
   ·have:=a2 i a [5] q; omega
theorem sk0 (h:Rise xs) (j:Nat) {a:Nat} (q:xs[i]?=some a):i < SetTable.below xs j ↔ a < j :=
 (xu0 xs j h xs.size 0 xs.size [5] [5] [18] (λ _ _ z=>absurd z (Nat.not_lt_zero _)) (λ i a z q=>by simp_all)).1 i a q
theorem so0 (h:Rise xs) (j:Nat):SetTable.below xs j<=xs.size :=
 (xu0 xs j h xs.size 0 xs.size [5] [5] [18] (λ _ _ z=>absurd z (Nat.not_lt_zero _)) (λ i a z q=>by simp_all)).2
theorem xp0 (h:Rise xs) {j:Nat} (q:xs[i]?=some j):SetTable.below xs j=i:=by
 have h1:=sk0 h j q;have h2:=so0 h j;by_cases c:SetTable.below xs j < i
 ·have hi:=(Array.getElem?_eq_some_iff.mp q).1;obtain ⟨a,ha⟩:∃ a,xs[SetTable.below xs j]?=some a:=⟨_,Array.getElem?_eq_getElem [5]⟩;have h3:=sk0 h j ha;have h4:=tp0 h ha q c;omega
 ·omega
theorem vk1 {j:Nat} (h:j ∈ xs.toList):∃ i:Nat,xs[i]?=some j:=by
 obtain ⟨i,hi⟩:=List.mem_iff_getElem?.mp h;exact ⟨i,by simp_all⟩
theorem zb1 {j:Nat} (h:xs[i]?=some j):j ∈ xs.toList:=List.mem_iff_getElem?.mpr ⟨i,by simp_all⟩
theorem wm0 (h:Rise xs) (j:Nat):SetTable.has xs j=true ↔ j ∈ xs.toList:=by
 unfold SetTable.has;constructor
 ·intro z; exact zb1 (eq_of_beq z)
 ·intro z;obtain ⟨i,hi⟩:=vk1 z;rw [xp0 h hi,hi];simp
theorem yj1 {t:SetTable} (h:Rise t.place) {j:Nat}:t.slot j=.live i ↔ t.place[i]?=some j:=by
 unfold SetTable.slot;dsimp only;constructor
 ·intro z;split at z
  ·simp_all
  ·split at z <;> cases z
 ·intro z;rw [xp0 h z,z];simp
theorem wz0 {t:SetTable} (h:Rise t.place) (hd:Rise t.dummies) {j:Nat} (dj:j ∈ t.dummies.toList->j ∉ t.place.toList):t.slot j=.dummy ↔ j ∈ t.dummies.toList:=by
 unfold SetTable.slot;dsimp only;constructor
 ·intro z;split at z
  ·cases z
  ·split at z
   ·next c=>exact (wm0 hd j).mp c
   ·cases z
 ·intro z;rw [if_neg,if_pos ((wm0 hd j).mpr z)];intro c;exact dj z (zb1 (eq_of_beq c))
theorem zz0 {t:SetTable} (h:Rise t.place) (hd:Rise t.dummies) {j:Nat}:t.slot j=.empty ↔ j ∉ t.place.toList /\ j ∉ t.dummies.toList:=by
 unfold SetTable.slot;dsimp only;constructor
 ·intro z;split at z
  ·cases z
  ·next c =>
   split at z
   ·cases z
   ·next c2 =>
    refine ⟨λ m=>c ?_,λ m=>c2 ((wm0 hd j).mpr m)⟩;obtain ⟨i,hi⟩:=vk1 m;rw [xp0 h hi,hi];simp
 ·rintro ⟨z1,z2⟩;rw [if_neg (λ c=>z1 (zb1 (eq_of_beq c))),if_neg (λ c=>z2 ((wm0 hd j).mp c))]
def mkT (mask:Nat):SetTable:={ SetTable.fresh 0 0 false with mask:=mask }
def trS (mask:Nat) (h:Int):Nat->SetTable.Probe
 | 0=>(mkT mask).probeStart h
 | n + 1=>(mkT mask).advance (trS mask h n)
abbrev tr (mask:Nat) (h:Int) (n:Nat):Nat:=(trS mask h n).j
theorem yn1 (t:SetTable) (p:SetTable.Probe) (d:Option Nat):t.advance { p with dummy:=d }={ t.advance p with dummy:=d }:=by
 unfold SetTable.advance;dsimp only;split <;> rfl
def seg (mask i perturb:Nat):SetTable.Probe:={ j:=i,more:=SetTable.runEnd mask i - i,i:=i,perturb:=perturb,dummy:=none }
theorem run9 (mask i:Nat):SetTable.runEnd mask i - i<=9:=by unfold SetTable.runEnd; split <;> omega
theorem xn4 (mask i:Nat):i<=SetTable.runEnd mask i:=by unfold SetTable.runEnd; split <;> omega
theorem yn4 (mask i:Nat) (h:i<=mask):SetTable.runEnd mask i<=mask:=by unfold SetTable.runEnd; split <;> omega
theorem ye1 {mask:Nat} {h:Int} {n i p:Nat} (e:trS mask h n=seg mask i p):∀ k,k<=SetTable.runEnd mask i - i->trS mask h (n + k)={ seg mask i p with j:=i + k,more:=SetTable.runEnd mask i - i - k }
 | 0,_=>e
 | k + 1,hk=>by
  have ih:=ye1 e k [5];show (mkT mask).advance (trS mask h (n + k))=_;rw [ih];unfold SetTable.advance;dsimp only [seg];rw [if_pos [5]];congr 1
variable {mask p:Nat} {h:Int}
theorem xt0 {n:Nat} (e:trS mask h n=seg mask i p):trS mask h (n + (SetTable.runEnd mask i - i) + 1)=seg mask (SetTable.leap mask i p).1 (SetTable.leap mask i p).2:=by
 have ih:=ye1 e _ [18];show (mkT mask).advance (trS mask h (n + (SetTable.runEnd mask i - i)))=_;rw [ih];unfold SetTable.advance;dsimp only [seg];rw [if_neg [5]];rfl
def lp (mask:Nat):Nat->Nat × Nat->Nat × Nat
 | 0,x=>x
 | k + 1,x=>lp mask k (SetTable.leap mask x.1 x.2)
theorem zf3 {mask:Nat} {h:Int}:∀ (K:Nat) {n i p:Nat},trS mask h n=seg mask i p->∃ m,n<=m /\ m<=n + 10 * K /\ trS mask h m=seg mask (lp mask K (i,p)).1 (lp mask K (i,p)).2
 | 0,n,i,p,e=>⟨n,Nat.le_refl _,Nat.le_refl _,e⟩
 | K + 1,n,i,p,e=>by
  obtain ⟨m,h1,h2,h3⟩:=zf3 K (xt0 e);have:=run9 mask i;exact ⟨m,by omega,by omega,h3⟩
theorem vh3 (mask:Nat):∀ (a b:Nat) (x:Nat × Nat),lp mask (a + b) x=lp mask b (lp mask a x)
 | 0,b,x=>by rw [Nat.zero_add]; rfl
 | a + 1,b,x=>by rw [show a + 1 + b=(a + b) + 1 by omega]; exact vh3 mask a b _
theorem wh3 (mask:Nat):∀ (k:Nat) (x:Nat × Nat),x.2 < 32 ^ k->(lp mask k x).2=0
 | 0,x,h=>by simp at h; exact h
 | k + 1,x,h=>wh3 mask k _ (by show x.2 / 32 < 32 ^ k; omega)
def f0 (mask i:Nat):Nat:=(i * 5 + 1) % (mask + 1)
def fN (mask:Nat):Nat->Nat->Nat
 | 0,i=>i
 | k + 1,i=>fN mask k (f0 mask i)
theorem tl2 (mask:Nat):∀ (k i:Nat),lp mask k (i,0)=(fN mask k i,0)
 | 0,i=>rfl
 | k + 1,i=>by
  show lp mask k (SetTable.leap mask i 0)=_;have:SetTable.leap mask i 0=(f0 mask i,0):=by rfl
  rw [this,tl2 mask k];rfl
theorem zl1 (mask:Nat):∀ (a b i:Nat),fN mask (a + b) i=fN mask b (fN mask a i)
 | 0,b,i=>by rw [Nat.zero_add]; rfl
 | a + 1,b,i=>by rw [show a + 1 + b=(a + b) + 1 by omega]; exact zl1 mask a b _
def okM:List Nat:=[7,15,31,63,127,255,511,1023,2047,4095]
def gs:Nat->Nat
 | 0=>0
 | r + 1=>5 * gs r + 1
theorem vn2:∀ r,5 ^ r=4 * gs r + 1
 | 0=>rfl
 | r + 1=>by rw [Nat.pow_succ,vn2 r]; show _=4 * (5 * gs r + 1) + 1; omega
theorem un2:∀ a b,gs (a + b)=gs a * 5 ^ b + gs b
 | a,0=>by simp [gs]
 | a,b + 1=>by
  show 5 * gs (a + b) + 1=_;rw [un2 a b,Nat.pow_succ];show _=gs a * (5 ^ b * 5) + (5 * gs b + 1);rw [Nat.mul_add,<- Nat.mul_assoc,Nat.mul_comm 5 (gs a),Nat.mul_assoc (gs a) 5,Nat.mul_comm 5 (5 ^ b)];omega
theorem wn2:∀ k,∃ o,gs (2 ^ k)=2 ^ k * (2 * o + 1)
 | 0=>⟨0,rfl⟩
 | k + 1=>by
  obtain ⟨o,e⟩:=wn2 k;refine ⟨o + (2 * o + 1) * gs (2 ^ k),?_⟩
  have h:gs (2 ^ (k + 1))=gs (2 ^ k) * (4 * gs (2 ^ k) + 2):=by
   rw [show 2 ^ (k + 1)=2 ^ k + 2 ^ k by omega,un2,vn2]
   grind
  rw [h,Nat.pow_succ,e];generalize 2 ^ k=P
  grind
variable {x e:Nat}
theorem uw3 {P:Nat} (hP:0 < P) (h:x % P=e % P):x % (P * 2)=e % (P * 2) \/ (x + P) % (P * 2)=e % (P * 2):=by
 rw [Nat.mod_mul,Nat.mod_mul,Nat.mod_mul,h,Nat.add_mod_right,h,Nat.add_div_right _ hP];rcases Nat.mod_two_eq_zero_or_one (x / P) with a | a <;> rcases Nat.mod_two_eq_zero_or_one (e / P) with b | b
 ·left; rw [a,b]
 ·right; rw [b,show (x / P + 1) % 2=1 by omega]
 ·right; rw [b,show (x / P + 1) % 2=0 by omega]
 ·left; rw [a,b]
theorem tv1:∀ k e,∃ r,r < 2 ^ k /\ gs r % 2 ^ k=e % 2 ^ k
 | 0,e=>⟨0,by decide,by simp [Nat.mod_one]⟩
 | k + 1,e=>by
  obtain ⟨r,hr,h⟩:=tv1 k e;have hP:0 < 2 ^ k:=Nat.two_pow_pos k;rw [Nat.pow_succ];rcases uw3 hP h with q | q
  ·exact ⟨r,by omega,q⟩
  ·refine ⟨2 ^ k + r,by omega,?_⟩;obtain ⟨o,eo⟩:=wn2 k;rw [un2,vn2,eo,<- q];generalize 2 ^ k=P at *;have:P * (2 * o + 1) * (4 * gs r + 1) + gs r=(gs r + P) + P * 2 * (o + (2 * o + 1) * (2 * gs r)):=by grind
   simp_all
theorem wy3 (mask:Nat):∀ r,fN mask r 0=gs r % (mask + 1)
 | 0=>by rfl
 | r + 1=>by
  rw [zl1 mask r 1 0,wy3 mask r];show f0 mask (gs r % (mask + 1))=(5 * gs r + 1) % (mask + 1);unfold f0;rw [Nat.add_mod (gs r % (mask + 1) * 5),Nat.mul_mod,Nat.mod_mod,<- Nat.mul_mod,<- Nat.add_mod,Nat.mul_comm]
theorem sv3:∀ m ∈ okM,∃ k,m + 1=2 ^ k:=by
 intro m hm;simp only [okM,mem_cons,not_mem_nil,or_false] at hm;rcases hm with rfl | rfl | rfl | rfl | rfl | rfl | rfl | rfl | rfl | rfl
 ·exact ⟨3,rfl⟩
 ·exact ⟨4,rfl⟩
 ·exact ⟨5,rfl⟩
 ·exact ⟨6,rfl⟩
 ·exact ⟨7,rfl⟩
 ·exact ⟨8,rfl⟩
 ·exact ⟨9,rfl⟩
 ·exact ⟨10,rfl⟩
 ·exact ⟨11,rfl⟩
 ·exact ⟨12,rfl⟩
theorem we5 (hm:mask ∈ okM) (hi:i<=mask) (he:e<=mask):∃ r,r<=mask /\ fN mask r i=e:=by
 obtain ⟨k,hk⟩:=sv3 mask hm
 have h2:fN mask (mask + 1) 0=0:=by
  obtain ⟨o,eo⟩:=wn2 k;rw [wy3,hk,eo,Nat.mul_mod_right]
 have g:∀ x,x<=mask->∃ r,r<=mask /\ fN mask r 0=x:=λ x hx=>by
  obtain ⟨r,hr,h⟩:=tv1 k x;refine ⟨r,by omega,?_⟩;rw [wy3,hk,h,Nat.mod_eq_of_lt [5]]
 obtain ⟨a,ha,ea⟩:=g i hi;obtain ⟨b,hb,eb⟩:=g e he;by_cases c:a<=b
 ·refine ⟨b - a,by omega,?_⟩;have:=zl1 mask a (b - a) 0
  simp_all
 ·refine ⟨mask + 1 - a + b,by omega,?_⟩;have h3:=zl1 mask a (mask + 1 - a) 0;rw [show a + (mask + 1 - a)=mask + 1 by omega,h2,ea] at h3;rw [zl1,<- h3,eb]
theorem tz4 {mask:Nat}:∀ (k:Nat) (x:Nat × Nat),x.1<=mask->(lp mask k x).1<=mask
 | 0,x,h=>h
 | k + 1,x,_=>tz4 k _ (by show (x.1 * 5 + 1 + x.2 / 32) % (mask + 1)<=mask; have:=Nat.mod_lt (x.1 * 5 + 1 + x.2 / 32) (show mask + 1 > 0 by omega); omega)
theorem vu1 (hm:mask ∈ okM) (hi:i<=mask) (hp:p < 2 ^ 64) (he:e<=mask):∃ K,K<=13 + mask /\ (lp mask K (i,p)).1=e:=by
 have h1:=wh3 mask 13 (i,p) (Nat.lt_of_lt_of_le hp [14]);have h2:=tz4 13 (i,p) hi;obtain ⟨r,hr,er⟩:=we5 hm h2 he;refine ⟨13 + r,by omega,?_⟩;rw [vh3,show lp mask 13 (i,p)=((lp mask 13 (i,p)).1,0) from Prod.ext rfl h1,tl2,er]
theorem vs2 (h:Int):SetTable.bits h < 2 ^ 64:=by
 unfold SetTable.bits;omega
theorem vi1 (mask:Nat) (h:Int):trS mask h 0=seg mask (SetTable.bits h % (mask + 1)) (SetTable.bits h):=rfl
theorem yf4 (h:Int) (n:Nat):∃ n0 i p k,n=n0 + k /\ trS mask h n0=seg mask i p /\ i<=mask /\ p < 2 ^ 64 /\ k<=SetTable.runEnd mask i - i:=by
 induction n with
 | zero=>exact ⟨0,_,_,0,rfl,vi1 mask h,by have:=Nat.mod_lt (SetTable.bits h) (show mask + 1 > 0 by omega); omega,vs2 h,Nat.zero_le _⟩
 | succ n ih =>
  obtain ⟨n0,i,p,k,e1,e2,e3,e4,e5⟩:=ih;by_cases c:k + 1<=SetTable.runEnd mask i - i
  ·exact ⟨n0,i,p,k + 1,by omega,e2,e3,e4,c⟩
  ·refine ⟨n0 + (SetTable.runEnd mask i - i) + 1,_,_,0,by omega,xt0 e2,?_,?_,Nat.zero_le _⟩
   ·show (i * 5 + 1 + p / 32) % (mask + 1)<=mask; have:=Nat.mod_lt (i * 5 + 1 + p / 32) (show mask + 1 > 0 by omega); omega
   ·show p / 32 < 2 ^ 64; omega
theorem ym3 (h:Int) (n:Nat):tr mask h n<=mask:=by
 obtain ⟨n0,i,p,k,e1,e2,e3,e4,e5⟩:=yf4 (mask:=mask) h n;subst e1;show (trS mask h (n0 + k)).j<=mask;rw [ye1 e2 k e5];show i + k<=mask;have:=yn4 mask i e3;omega
theorem yr1 (hm:mask ∈ okM) (h:Int) (n:Nat) (he:e<=mask):∃ m,n<=m /\ m < n + 10 * SetTable.turns mask /\ tr mask h m=e:=by
 obtain ⟨n0,i,p,k,e1,e2,e3,e4,e5⟩:=yf4 (mask:=mask) h n;have e6:=xt0 e2;have l1:(SetTable.leap mask i p).1<=mask:=by show (i * 5 + 1 + p / 32) % (mask + 1)<=mask; have:=Nat.mod_lt (i * 5 + 1 + p / 32) (show mask + 1 > 0 by omega); omega
 obtain ⟨K,hK,eK⟩:=vu1 hm l1 (show (SetTable.leap mask i p).2 < 2 ^ 64 by show p / 32 < 2 ^ 64; omega) he;obtain ⟨m,h1,h2,h3⟩:=zf3 K e6;have:=run9 mask i;refine ⟨m,by omega,by unfold SetTable.turns; omega,?_⟩;show (trS mask h m).j=e;rw [h3];exact eK
def Occ (t:SetTable) (j:Nat):Prop:=j ∈ t.place.toList \/ j ∈ t.dummies.toList
structure TOk (t:SetTable) (hs:List Int):Prop where
 ris:Rise t.place
 rid:Rise t.dummies
 dj:∀ j,j ∈ t.dummies.toList->j ∉ t.place.toList
 inP:∀ j,j ∈ t.place.toList->j<=t.mask
 inD:∀ j,j ∈ t.dummies.toList->j<=t.mask
 msk:t.mask ∈ okM
 sz:t.place.size=hs.length
 reach:∀ (i j:Nat) (h:Int),t.place[i]?=some j->hs[i]?=some h->∃ m,tr t.mask h m=j /\ ∀ l,l < m->Occ t (tr t.mask h l)
variable {hs:[64]}
theorem TOk.occ {t:SetTable} (k:TOk t hs) (j:Nat):Occ t j ↔ t.slot j ≠ .empty:=by
 rw [Ne,zz0 k.ris k.rid];unfold Occ;constructor
 ·rintro (z | z) ⟨a,b⟩
  ·exact a z
  ·exact b z
 ·intro z;by_cases c:j ∈ t.place.toList
  ·exact .inl c
  simp_all
theorem vg3:∀ (M:Nat) (L:[88]),(∀ e,e < M->e ∈ L)->M<=L.length
 | 0,_,_=>Nat.zero_le _
 | M + 1,L,h=>by
  have h1:=h M (Nat.lt_succ_self _);have h2:=vg3 M (L.erase M) λ e he=>(List.mem_erase_of_ne (Nat.ne_of_lt he)).mpr (h e (Nat.lt_succ_of_lt he));rw [List.length_erase_of_mem h1] at h2;have:=List.length_pos_of_mem h1;omega
theorem TOk.hole {t:SetTable} (k:TOk t hs) (r:t.fill<=t.mask):∃ e,e<=t.mask /\ t.slot e=.empty:=by
 refine Classical.byContradiction λ c=>?_
 have:=vg3 (t.mask + 1) (t.place.toList ++ t.dummies.toList) λ e he=>by
  have h1:Occ t e:=(k.occ e).mpr λ z=>c ⟨e,by omega,z⟩;exact List.mem_append.mpr h1
 rw [length_append] at this;simp only [length_toList] at this;unfold SetTable.fill at r;omega
def Sk (t:SetTable) (hashAt:Nat->Int) (h:Int) (n m:Nat):Prop:=∀ l,n<=l->l < m->t.slot (tr t.mask h l) ≠ .empty /\ ∀ i,t.slot (tr t.mask h l)=.live i->hashAt i ≠ h
def DumOk (t:SetTable) (h:Int) (d:Option Nat) (n:Nat):Prop:=∀ x,d=some x->∃ l,l < n /\ tr t.mask h l=x /\ t.slot x=.dummy
theorem DumOk.up {t:SetTable} {d:Option Nat} {n m:Nat} (k:DumOk t h d n) (l:n<=m):DumOk t h d m:=λ x e=>by
 obtain ⟨a,b,c⟩:=k x e;exact ⟨a,by omega,c⟩
theorem Sk.cons {t:SetTable} {hashAt:Nat->Int} {h:Int} {n m:Nat} (a:t.slot (tr t.mask h n) ≠ .empty) (b:∀ i,t.slot (tr t.mask h n)=.live i->hashAt i ≠ h) (k:Sk t hashAt h (n + 1) m):Sk t hashAt h n m:=λ l h1 h2=>by
 by_cases c:l=n
 ·simp_all
 ·exact k l [5] h2
theorem up1 (t:SetTable) (hashAt:Nat->Int) (h:Int):∀ (fuel n:Nat) (d:Option Nat),DumOk t h d n->(∃ m,n<=m /\ m < n + fuel /\ t.slot (tr t.mask h m)=.empty) ->
    (∃ m d',SetTable.probe.go t hashAt h fuel { trS t.mask h n with dummy:=d }=some (.empty (tr t.mask h m) d') /\ n<=m /\ t.slot (tr t.mask h m)=.empty /\ Sk t hashAt h n m /\ DumOk t h d' m) ∨
    (∃ m i d',SetTable.probe.go t hashAt h fuel { trS t.mask h n with dummy:=d }=some (.candidate (tr t.mask h m) i { trS t.mask h (m + 1) with dummy:=d' }) /\ n<=m /\ t.slot (tr t.mask h m)=.live i /\ hashAt i=h /\ Sk t hashAt h n m /\ DumOk t h d' m)
 | 0,n,d,k,c=>by omega
 | fuel + 1,n,d,k,c=>by
  have nx:t.slot (tr t.mask h n) ≠ .empty->∃ m,n + 1<=m /\ m < n + 1 + fuel /\ t.slot (tr t.mask h m)=.empty:=λ z=>by
   obtain ⟨m,a,b,e⟩:=c;refine ⟨m,?_,by omega,e⟩;by_cases y:m=n
   ·simp_all
   ·omega
  unfold SetTable.probe.go;dsimp only;cases hs:t.slot (tr t.mask h n) with
  | empty=>exact .inl ⟨n,d,rfl,Nat.le_refl _,hs,λ l a b=>by omega,k⟩
  | dummy =>
   dsimp only;have e1:t.advance { trS t.mask h n with dummy:=some (tr t.mask h n) }={ trS t.mask h (n + 1) with dummy:=some (tr t.mask h n) }:=yn1 t (trS t.mask h n) _;rw [e1];have k':DumOk t h (some (tr t.mask h n)) (n + 1):=λ x e=>by cases e; exact ⟨n,Nat.lt_succ_self _,rfl,hs⟩
   have e2:t.slot (tr t.mask h n) ≠ .empty:=by simp_all
   have e3:∀ i,t.slot (tr t.mask h n)=.live i->hashAt i ≠ h:=λ i z=>by simp_all
   rcases up1 t hashAt h fuel (n + 1) _ k' (nx e2) with ⟨m,d',a1,a2,a3,a4,a5⟩ | ⟨m,i,d',a1,a2,a3,a4,a5,a6⟩
   ·exact .inl ⟨m,d',a1,by omega,a3,a4.cons e2 e3,a5⟩
   ·exact .inr ⟨m,i,d',a1,by omega,a3,a4,a5.cons e2 e3,a6⟩
  | live i =>
   dsimp only;have e1:t.advance { trS t.mask h n with dummy:=d }={ trS t.mask h (n + 1) with dummy:=d }:=yn1 t (trS t.mask h n) _;rw [e1];have e2:t.slot (tr t.mask h n) ≠ .empty:=by simp_all
   by_cases c2:hashAt i=h
   ·rw [if_pos (by simpa using c2)];exact .inr ⟨n,i,d,rfl,Nat.le_refl _,hs,c2,λ l a b=>by omega,k⟩
   ·rw [if_neg (by simpa using c2)];have e3:∀ i,t.slot (tr t.mask h n)=.live i->hashAt i ≠ h:=λ i' z=>by simp_all
    rcases up1 t hashAt h fuel (n + 1) _ (k.up (Nat.le_succ _)) (nx e2) with ⟨m,d',a1,a2,a3,a4,a5⟩ | ⟨m,i,d',a1,a2,a3,a4,a5,a6⟩
    ·exact .inl ⟨m,d',a1,by omega,a3,a4.cons e2 e3,a5⟩
    ·exact .inr ⟨m,i,d',a1,by omega,a3,a4,a5.cons e2 e3,a6⟩
theorem TOk.probe {t:SetTable} {hs:[64]} (k:TOk t hs) (r:t.fill<=t.mask) (hashAt:Nat->Int) (h:Int) (n:Nat) (d:Option Nat) (kd:DumOk t h d n) :
    (∃ m d',t.probe hashAt h { trS t.mask h n with dummy:=d }=some (.empty (tr t.mask h m) d') /\ n<=m /\ t.slot (tr t.mask h m)=.empty /\ Sk t hashAt h n m /\ DumOk t h d' m) ∨
    (∃ m i d',t.probe hashAt h { trS t.mask h n with dummy:=d }=some (.candidate (tr t.mask h m) i { trS t.mask h (m + 1) with dummy:=d' }) /\ n<=m /\ t.slot (tr t.mask h m)=.live i /\ hashAt i=h /\ Sk t hashAt h n m /\ DumOk t h d' m):=by
 obtain ⟨e,he,ee⟩:=k.hole r;obtain ⟨m,h1,h2,h3⟩:=yr1 k.msk h n he;exact up1 t hashAt h _ n d kd ⟨m,h1,h2,by rw [h3]; exact ee⟩
theorem ua1 {α:Type} {xs:List α} {x:α} (hp:p<=xs.length) (h:i < p):(xs.take p ++ x :: xs.drop p)[i]?=xs[i]?:=by
 rw [List.getElem?_append_left [36],List.getElem?_take_of_lt h]
theorem sa1 {α:Type} {xs:List α} {x:α} (hp:p<=xs.length):(xs.take p ++ x :: xs.drop p)[p]?=some x:=by
 simp_all
theorem ta1 {α:Type} {xs:List α} {x:α} (hp:p<=xs.length) (h:p<=i):(xs.take p ++ x :: xs.drop p)[i + 1]?=xs[i]?:=by
 rw [List.getElem?_append_right [57],length_take,show i + 1 - min p xs.length=(i - p) + 1 by omega,List.getElem?_cons_succ,getElem?_drop];congr 1;omega
def insL {α:Type} (xs:List α) (p:Nat) (x:α):List α:=xs.take p ++ x :: xs.drop p
theorem tt0 {α:Type} (xs:List α) (p:Nat) (x y:α):y ∈ insL xs p x ↔ y=x \/ y ∈ xs:=by
 have e:xs=xs.take p ++ xs.drop p:=(take_append_drop p xs).symm;unfold insL;rw [mem_append,mem_cons];constructor
 ·rintro (z | z | z)
  ·exact .inr (mem_of_mem_take z)
  ·exact .inl z
  ·exact .inr (mem_of_mem_drop z)
 ·rintro (z | z)
  ·exact .inr (.inl z)
  ·rw [e] at z;rcases List.mem_append.mp z with z | z
   ·exact .inl z
   simp_all
theorem wi0 {α:Type} (xs:List α) (p:Nat) (x:α):(insL xs p x).length=xs.length + 1:=by
 unfold insL
 simp_all;omega
theorem uv1 {α β:Type} (f:α->β) (xs:List α) (p:Nat) (x:α):(insL xs p x).map f=insL (xs.map f) p (f x):=by
 unfold insL;simp
theorem sv2 (h:Rise xs) {j:Nat} (hn:j ∉ xs.toList):(insL xs.toList (SetTable.below xs j) j).Pairwise (· < ·):=by
 have b:∀ {i a:Nat},xs[i]?=some a->(i < SetTable.below xs j ↔ a < j):=λ q=>sk0 h j q;have hb:=so0 h j;have e:xs.toList=xs.toList.take (SetTable.below xs j) ++ xs.toList.drop (SetTable.below xs j):=(take_append_drop _ _).symm;have h':=h;unfold Rise at h';rw [e] at h';obtain ⟨h1,h2,h3⟩:=List.pairwise_append.mp h';unfold insL;refine List.pairwise_append.mpr ⟨h1,List.pairwise_cons.mpr ⟨λ x hx=>?_,h2⟩,λ x hx y hy=>?_⟩
 ·obtain ⟨i,hi⟩:=List.mem_iff_getElem?.mp hx;rw [getElem?_drop,getElem?_toList] at hi;have:=b hi;have ne:x ≠ j:=λ z=>hn (by subst z; exact zb1 hi);omega
 ·have hxl:x < j:=by
    obtain ⟨i,hi⟩:=List.mem_iff_getElem?.mp hx
    have hlt:i < SetTable.below xs j:=by
     have:=(List.getElem?_eq_some_iff.mp hi).1;rw [length_take] at this;omega
    rw [List.getElem?_take_of_lt hlt,getElem?_toList] at hi;exact (b hi).mp hlt
  rcases List.mem_cons.mp hy with rfl | hy
  ·exact hxl
  ·exact h3 x hx y hy
theorem uy3 (h:Rise xs) {j:Nat} (hp:xs[p]?=some j) (x:Nat):x ∈ (SetTable.eraseAt xs p).toList ↔ x ∈ xs.toList /\ x ≠ j:=by
 have hpl:=(Array.getElem?_eq_some_iff.mp hp).1
 have e:(SetTable.eraseAt xs p).toList=xs.toList.take p ++ xs.toList.drop (p + 1):=by
  simp [SetTable.eraseAt,List.extract_eq_take_drop,take_of_length_le]
 rw [e,mem_append];constructor
 ·rintro (z | z)
  ·obtain ⟨i,hi⟩:=List.mem_iff_getElem?.mp z
   have hlt:i < p:=by
    have:=(List.getElem?_eq_some_iff.mp hi).1
    simp_all;omega
   rw [List.getElem?_take_of_lt hlt,getElem?_toList] at hi;exact ⟨zb1 hi,Nat.ne_of_lt (tp0 h hi hp hlt)⟩
  ·obtain ⟨i,hi⟩:=List.mem_iff_getElem?.mp z;rw [getElem?_drop,getElem?_toList] at hi;exact ⟨zb1 hi,Nat.ne_of_gt (tp0 h hp hi [5])⟩
 ·rintro ⟨z,ne⟩;obtain ⟨i,hi⟩:=vk1 z;have hil:=(Array.getElem?_eq_some_iff.mp hi).1;by_cases c:i < p
  ·exact .inl (List.mem_iff_getElem?.mpr ⟨i,by simp_all⟩)
  ·have:i ≠ p:=λ y=>by simp_all
   exact .inr (List.mem_iff_getElem?.mpr ⟨i - (p + 1),by rw [getElem?_drop,show p + 1 + (i - (p + 1))=i by omega,getElem?_toList]; exact hi⟩)
theorem sg1 (xs:[76]) (p:Nat):(SetTable.eraseAt xs p).toList=xs.toList.take p ++ xs.toList.drop (p + 1):=by
 simp [SetTable.eraseAt,List.extract_eq_take_drop,take_of_length_le]
theorem xw2 (h:Rise xs) (p:Nat):Rise (SetTable.eraseAt xs p):=by
 unfold Rise;rw [sg1];have e:xs.toList=xs.toList.take p ++ xs.toList.drop p:=(take_append_drop p xs.toList).symm;refine List.Pairwise.sublist ?_ h
 conv=>rhs; rw [e]
 refine List.Sublist.append (List.Sublist.refl _) ?_;rw [<- List.drop_drop];exact List.drop_sublist _ _
theorem ym0 {t:SetTable} (k:Rise t.dummies) (j x:Nat):x ∈ (t.put j).1.dummies.toList ↔ x ∈ t.dummies.toList /\ x ≠ j:=by
 show x ∈ (if SetTable.has t.dummies j then SetTable.eraseAt t.dummies (SetTable.below t.dummies j) else t.dummies).toList ↔ _;by_cases c:SetTable.has t.dummies j=true
 ·rw [if_pos c];obtain ⟨i,hi⟩:=vk1 ((wm0 k j).mp c);rw [xp0 k hi];exact uy3 k hi x
 ·rw [if_neg c];exact ⟨λ z=>⟨z,λ y=>by subst y; exact c ((wm0 k x).mpr z)⟩,λ z=>z.1⟩
theorem wf0 (t:SetTable) (j:Nat):(t.put j).1.place.toList=insL t.place.toList (SetTable.below t.place j) j:=SetTable.toList_insertAt _ _ _
theorem TOk.put {t:SetTable} {hs:[64]} (k:TOk t hs) {x:Nat} {h:Int} (hx:x ∉ t.place.toList) (hr:∃ m,tr t.mask h m=x /\ ∀ l,l < m->Occ t (tr t.mask h l)) :
    TOk (t.put x).1 (insL hs (SetTable.below t.place x) h):=by
 have hb:=so0 k.ris x;have sz:=k.sz
 have oc:∀ j,Occ t j->Occ (t.put x).1 j:=λ j o=>by
  unfold Occ;rw [wf0,tt0,ym0 k.rid];by_cases c:j=x
  ·exact .inl (.inl c)
  ·exact o.elim (λ z=>.inl (.inr z)) λ z=>.inr ⟨z,c⟩
 have hxm:x<=t.mask:=by obtain ⟨m,e,_⟩:=hr; rw [<- e]; exact ym3 h m
 refine ⟨?_,?_,λ j a b=>?_,λ j a=>?_,λ j a=>?_,k.msk,?_,λ i j h' a b=>?_⟩
 ·unfold Rise; rw [wf0]; exact sv2 k.ris hx
 ·show Rise (if SetTable.has t.dummies x then SetTable.eraseAt t.dummies (SetTable.below t.dummies x) else t.dummies);split
  ·exact xw2 k.rid _
  ·exact k.rid
 ·rw [ym0 k.rid] at a;rw [wf0,tt0] at b;rcases b with rfl | b
  ·exact a.2 rfl
  ·exact k.dj j a.1 b
 ·rw [wf0,tt0] at a;rcases a with rfl | a
  ·exact hxm
  ·exact k.inP j a
 ·rw [ym0 k.rid] at a;exact k.inD j a.1
 ·rw [<- length_toList,wf0,wi0,wi0,length_toList,sz]
 ·have lp:SetTable.below t.place x<=t.place.toList.length:=by omega
  have lh:SetTable.below t.place x<=hs.length:=by omega
  rw [<- getElem?_toList,wf0] at a;show ∃ m,tr t.mask h' m=j /\ ∀ l,l < m->Occ (t.put x).1 (tr t.mask h' l);unfold insL at a b;by_cases c:i < SetTable.below t.place x
  ·rw [ua1 lp c,getElem?_toList] at a;rw [ua1 lh c] at b;obtain ⟨m,e,o⟩:=k.reach i j h' a b;exact ⟨m,e,λ l hl=>oc _ (o l hl)⟩
  ·by_cases c2:i=SetTable.below t.place x
   ·subst c2;rw [sa1 lp] at a;rw [sa1 lh] at b;cases a;cases b;obtain ⟨m,e,o⟩:=hr;exact ⟨m,e,λ l hl=>oc _ (o l hl)⟩
   ·obtain ⟨i',rfl⟩:∃ i',i=i' + 1:=⟨i - 1,by omega⟩;rw [ta1 lp [5],getElem?_toList] at a;rw [ta1 lh [5]] at b;obtain ⟨m,e,o⟩:=k.reach i' j h' a b;exact ⟨m,e,λ l hl=>oc _ (o l hl)⟩
theorem uw2 {t:SetTable} (k:TOk t hs) :(t.put x).1.fill<=t.fill + 1:=by
 unfold SetTable.fill;have h1:(t.put x).1.place.size=t.place.size + 1:=by rw [<- length_toList,wf0,wi0,length_toList]
 have h2:(t.put x).1.dummies.size<=t.dummies.size:=by
  show (if SetTable.has t.dummies x then SetTable.eraseAt t.dummies (SetTable.below t.dummies x) else t.dummies).size<=_;split
  ·rw [<- length_toList,sg1,length_append,length_take,List.length_drop,length_toList]; omega
  omega
 omega
theorem ub2 {t:SetTable} (k:TOk t hs) (hd:t.slot x=.dummy):(t.put x).1.fill<=t.fill:=by
 unfold SetTable.fill;have h1:(t.put x).1.place.size=t.place.size + 1:=by rw [<- length_toList,wf0,wi0,length_toList]
 have m:=(wz0 k.ris k.rid (k.dj x)).mp hd;obtain ⟨i,hi⟩:=vk1 m;have hil:=(Array.getElem?_eq_some_iff.mp hi).1
 have h2:(t.put x).1.dummies.size + 1<=t.dummies.size:=by
  show (if SetTable.has t.dummies x then SetTable.eraseAt t.dummies (SetTable.below t.dummies x) else t.dummies).size + 1<=_;rw [if_pos ((wm0 k.rid x).mpr m),xp0 k.rid hi,<- length_toList,sg1,length_append,length_take,List.length_drop,length_toList];omega
 omega
theorem yl1 (mask:Nat) (h:Int) (owner:Array (Option Nat)):∀ (fuel n i p:Nat),trS mask h n=seg mask i p->(∃ K,K < fuel /\ owner.getD (lp mask K (i,p)).1 (some 0)=none) ->
    ∃ m,SetTable.layClean.free mask owner fuel i p=some (tr mask h m) /\ n<=m /\ owner.getD (tr mask h m) (some 0)=none /\ ∀ l,n<=l->l < m->owner.getD (tr mask h l) (some 0) ≠ none
 | 0,n,i,p,e,c=>by omega
 | fuel + 1,n,i,p,e,c=>by
  have trk:∀ k,k<=SetTable.runEnd mask i - i->tr mask h (n + k)=i + k:=λ k hk=>by
   show (trS mask h (n + k)).j=_;rw [ye1 e k hk]
  have rl:=xn4 mask i;unfold SetTable.layClean.free;cases hf:(List.range (SetTable.runEnd mask i + 1 - i)).find? (λ k=>(owner.getD (i + k) (some 0)).isNone) with
  | some k =>
   dsimp only;obtain ⟨h1,h2,h3⟩:=List.find?_range_eq_some.mp hf;have h2':k < SetTable.runEnd mask i + 1 - i:=List.mem_range.mp h2;refine ⟨n + k,by rw [trk k [5]],by omega,by rw [trk k [5]]; simpa using h1,λ l a b=>?_⟩;obtain ⟨l',rfl⟩:∃ l',l=n + l':=⟨l - n,by omega⟩;rw [trk l' [5]];have:=h3 l' [5];intro z
   simp_all
  | none =>
   dsimp only;have h1:=List.find?_range_eq_none.mp hf
   have h1':∀ k,k<=SetTable.runEnd mask i - i->owner.getD (i + k) (some 0) ≠ none:=λ k hk z=>by
    have:=h1 k [5]
    simp_all
   have c':∃ K,K < fuel /\ owner.getD (lp mask K (SetTable.leap mask i p)).1 (some 0)=none:=by
    obtain ⟨K,a,b⟩:=c;cases K with
    | zero=>exact absurd b (h1' 0 (Nat.zero_le _))
    | succ K=>exact ⟨K,by omega,b⟩
   obtain ⟨m,a1,a2,a3,a4⟩:=yl1 mask h owner fuel _ _ _ (xt0 e) c';refine ⟨m,a1,by omega,a3,λ l b1 b2=>?_⟩;by_cases z:l<=n + (SetTable.runEnd mask i - i)
   ·obtain ⟨l',rfl⟩:∃ l',l=n + l':=⟨l - n,by omega⟩
    simp_all
   ·exact a4 l [5] b2
theorem yj3 {α β:Type} {f:α->Option β}:∀ {L:List α},(∀ j ∈ L,f j ≠ none)->(L.filterMap f).length=L.length
 | [],_=>rfl
 | j :: L,h=>by
  have h1:=h j [65];obtain ⟨b,hb⟩:∃ b,f j=some b:=by cases hq:f j with | none=>exact absurd hq h1 | some b=>exact ⟨b,rfl⟩
  rw [List.filterMap_cons_some hb,length_cons,length_cons,yj3 λ x hx=>h x (mem_cons_of_mem _ hx)]
theorem ug1 {α β:Type} {f g:α->Option β}:∀ {L:List α},(∀ j ∈ L,f j=g j)->L.filterMap f=L.filterMap g
 | [],_=>rfl
 | j :: L,h=>by
  rw [List.filterMap_cons,List.filterMap_cons,h j [65],ug1 λ x hx=>h x (mem_cons_of_mem _ hx)]
theorem xj3 {f g:Nat->Option Nat} {x k:Nat} (e1:f x=none) (e2:g x=some k) (e3:∀ y,y ≠ x->g y=f y):∀ {L:[88]},L.Nodup->x ∈ L->(L.filterMap g).Perm (k :: L.filterMap f)
 | [],_,h=>by cases h
 | y :: L,nd,h=>by
  obtain ⟨n1,n2⟩:=List.nodup_cons.mp nd;by_cases c:y=x
  ·subst c;rw [List.filterMap_cons_some e2,List.filterMap_cons_none e1];refine List.Perm.cons _ (List.Perm.of_eq ?_);exact ug1 λ j hj=>e3 j λ z=>n1 (z ▸ hj)
  ·have ih:=xj3 e1 e2 e3 n2 (by rcases List.mem_cons.mp h with rfl | h; exact absurd rfl c; exact h);have e:=e3 y c;cases hf:f y with
   | none=>simp_all
   | some b =>
    rw [List.filterMap_cons_some (by rw [e,hf]),List.filterMap_cons_some hf];exact (List.Perm.cons _ ih).trans (List.Perm.swap _ _ _)
structure OwnOk (mask:Nat) (hs:List Int) (owner:Array (Option Nat)):Prop where
 sz:owner.size=mask + 1
 perm:((List.range (mask + 1)).filterMap λ j=>owner.getD j none).Perm (List.range hs.length)
 reach:∀ j k,owner.getD j none=some k->∃ h,hs[k]?=some h /\ ∃ m,tr mask h m=j /\ ∀ l,l < m->owner.getD (tr mask h l) none ≠ none
variable {owner:Array (Option Nat)}
theorem sz2 {j:Nat} (h:j < owner.size) (a b:Option Nat):owner.getD j a=owner.getD j b:=by simp_all
theorem OwnOk.step (hm:mask ∈ okM) (k:OwnOk mask hs owner) (hl:hs.length<=mask) (h:Int) :
    ∃ x,SetTable.layClean.free mask owner (SetTable.turns mask) (SetTable.bits h % (mask + 1)) (SetTable.bits h)=some x /\ OwnOk mask (hs ++ [h]) (owner.setIfInBounds x (some hs.length)):=by
 have sz:=k.sz
 obtain ⟨e,he,ee⟩:∃ e,e<=mask /\ owner.getD e none=none:=by
  refine Classical.byContradiction λ c=>?_;have h1:=yj3 (f:=λ j=>owner.getD j none) (L:=List.range (mask + 1)) λ j hj z=>c ⟨j,by have:=List.mem_range.mp hj; omega,z⟩;rw [k.perm.length_eq,length_range,length_range] at h1;omega
 have hi:SetTable.bits h % (mask + 1)<=mask:=by have:=Nat.mod_lt (SetTable.bits h) (show mask + 1 > 0 by omega); omega
 obtain ⟨K,hK,eK⟩:=vu1 hm hi (vs2 h) he;obtain ⟨m,a1,a2,a3,a4⟩:=yl1 mask h owner (SetTable.turns mask) 0 _ _ (vi1 mask h) ⟨K,by unfold SetTable.turns; omega,by rw [eK,sz2 [5] _ none]; exact ee⟩;have ml:∀ l,tr mask h l < owner.size:=λ l=>by have:=ym3 (mask:=mask) h l; omega
 have a3':owner.getD (tr mask h m) none=none:=by simp_all
 have gx:(owner.setIfInBounds (tr mask h m) (some hs.length)).getD (tr mask h m) none=some hs.length:=by
  simp_all
 have gy:∀ y,y ≠ tr mask h m->(owner.setIfInBounds (tr mask h m) (some hs.length)).getD y none=owner.getD y none:=λ y hy=>by
  by_cases c:y < owner.size
  ·simp [Array.getD,c,Array.getElem_setIfInBounds,Ne.symm hy]
  simp_all
 have mono:∀ y,owner.getD y none ≠ none->(owner.setIfInBounds (tr mask h m) (some hs.length)).getD y none ≠ none:=λ y hy=>by
  by_cases c:y=tr mask h m
  ·simp_all
  simp_all
 refine ⟨tr mask h m,a1,by simp_all,?_,λ j q e=>?_⟩
 ·refine (xj3 a3' gx gy List.nodup_range (List.mem_range.mpr (by have:=ml m; omega))).trans ?_;rw [length_append,List.length_singleton];exact ((List.Perm.cons _ k.perm).trans (List.perm_append_singleton _ _).symm).trans (List.Perm.of_eq List.range_succ.symm)
 ·by_cases c:j=tr mask h m
  ·subst c;rw [gx] at e;cases e;refine ⟨h,by simp,m,rfl,λ l hl=>mono _ ?_⟩
   simp_all
  ·rw [gy j c] at e;obtain ⟨h',b1,m',b2,b3⟩:=k.reach j q e;refine ⟨h',?_,m',b2,λ l hl=>mono _ (b3 l hl)⟩;rw [List.getElem?_append_left (List.getElem?_eq_some_iff.mp b1).1];exact b1
theorem sn2 {mask:Nat} (hm:mask ∈ okM):∀ (rest done:[64]) (owner:Array (Option Nat)),OwnOk mask done owner->done.length + rest.length<=mask + 1 ->
    ∃ owner',List.foldl (λ acc h=>do
     let (owner,k) <- acc
     let j <- SetTable.layClean.free mask owner (SetTable.turns mask) (SetTable.bits h % (mask + 1)) (SetTable.bits h)
     pure (owner.setIfInBounds j (some k),k + 1)) (some (owner,done.length)) rest=some (owner',done.length + rest.length) /\ OwnOk mask (done ++ rest) owner'
 | [],done,owner,k,_=>⟨owner,rfl,by simp_all⟩
 | h :: rest,done,owner,k,hl=>by
  rw [length_cons] at hl;obtain ⟨x,e,k'⟩:=k.step hm [5] h;obtain ⟨o',e',k''⟩:=sn2 hm rest (done ++ [h]) _ k' (by rw [length_append,List.length_singleton]; omega);refine ⟨o',?_,by simp_all⟩;rw [length_append,List.length_singleton] at e';rw [foldl_cons,length_cons,show done.length + (rest.length + 1)=done.length + 1 + rest.length by omega,<- e']
  simp_all
theorem own0 (mask:Nat):OwnOk mask [] (Array.replicate (mask + 1) none):=by
 have g:∀ j,(Array.replicate (mask + 1) (none:Option Nat)).getD j none=none:=λ j=>by
  by_cases c:j < mask + 1 <;> simp [Array.getD,c]
 refine ⟨by simp,?_,λ j k e=>by simp_all⟩
 simp_all
theorem zp1 (hm:mask ∈ okM) (hs:Array Int) (hl:hs.size<=mask + 1):∃ owner,SetTable.layClean mask hs=some owner /\ OwnOk mask hs.toList owner:=by
 obtain ⟨o,e,k⟩:=sn2 hm hs.toList [] _ (own0 mask) (by simpa using hl);refine ⟨o,?_,by simpa using k⟩;unfold SetTable.layClean
 simp_all
theorem yx3 (hm:mask ∈ okM) (hs:Array Int) (hl:hs.size<=mask + 1) (fi mo:Nat) (le pl:Bool) :
    ∃ t' order,SetTable.laid mask fi mo le pl hs=some (t',order) /\ t'.mask=mask /\ t'.dummies = #[] /\ t'.led=le /\ t'.plain=pl /\ t'.finger=fi /\ t'.moves=mo /\ order.toList.Perm (List.range hs.size) /\ TOk t' (order.toList.map λ k=>hs.getD k 0):=by
 obtain ⟨o,e,k⟩:=zp1 hm hs hl;unfold SetTable.laid;rw [e];refine ⟨_,_,rfl,rfl,rfl,rfl,rfl,rfl,rfl,?_,?_⟩
 ·have:(((List.range (mask + 1)).filterMap λ j=>(o.getD j none).map (j,·)).map (·.2))=(List.range (mask + 1)).filterMap λ j=>o.getD j none:=by
    rw [List.map_filterMap];refine ug1 λ j _=>?_;cases o.getD j none <;> rfl
  simp only [List.toList_toArray];rw [this];simpa using k.perm
 ·generalize hlv:((List.range (mask + 1)).filterMap λ j=>(o.getD j none).map (j,·))=live
  have lget:∀ x,x ∈ live->x.1<=mask /\ o.getD x.1 none=some x.2:=λ x hx=>by
   rw [<- hlv] at hx;obtain ⟨j,hj,ej⟩:=List.mem_filterMap.mp hx;cases hq:o.getD j none with
   | none=>simp_all
   | some b=>rw [hq] at ej; cases ej; exact ⟨by have:=List.mem_range.mp hj; show j<=mask; omega,hq⟩
  have lin:∀ j q,j<=mask->o.getD j none=some q->j ∈ live.map (·.1):=λ j q hj eq=>by
   rw [<- hlv];exact List.mem_map.mpr ⟨(j,q),List.mem_filterMap.mpr ⟨j,List.mem_range.mpr [5],by rw [eq]; rfl⟩,rfl⟩
  have pw:(live.map (·.1)).Pairwise (· < ·):=by
   rw [<- hlv,List.map_filterMap,List.pairwise_filterMap];refine List.pairwise_lt_range.imp_of_mem ?_
   simp_all
  refine ⟨by omega,List.Pairwise.nil,λ j z=>by simp at z,λ j z=>?_,λ j z=>by simp at z,hm,by simp,λ i j h a b=>?_⟩
  ·have z':j ∈ live.map (·.1):=by simpa using z
   obtain ⟨x,hx,rfl⟩:=List.mem_map.mp z';exact (lget x hx).1
  ·have a':(live.map (·.1))[i]?=some j:=by simpa using a
   have b':((live.map (·.2)).map λ k=>hs.getD k 0)[i]?=some h:=by simpa using b
   rw [getElem?_map] at a' b';rw [getElem?_map] at b';cases hx:live[i]? with
   | none=>simp_all
   | some x =>
    rw [hx] at a' b';have a2:x.1=j:=by simpa using a'
    have b2:hs.getD x.2 0=h:=by simpa using b'
    obtain ⟨g1,g2⟩:=lget x (mem_of_getElem? hx);obtain ⟨h',c1,m,c2,c3⟩:=k.reach _ _ g2
    have hh:h'=h:=by
     simp_all
    subst hh;refine ⟨m,by rw [c2,a2],λ l hl=>.inl ?_⟩;have c4:=c3 l hl;cases hq:o.getD (tr mask h' l) none with
    | none=>exact absurd hq c4
    | some q=>simpa using lin _ q (ym3 h' l) hq
theorem wj1:∀ n,n < 64->SetTable.sizeAbove (n * 4) - 1 ∈ okM /\ n * 5 < (SetTable.sizeAbove (n * 4) - 1) * 3 /\ SetTable.sizeAbove (n * 4)<=2048:=by
 trivial
end Pv
namespace Pv
open PySem PySem.Spec PySem.W PyProof.Rows L2
def kI (t:T3):List Int:=[t.1,t.2.1,t.2.2]
theorem th3 {a b:T3} (h:kI a=kI b):a=b:=by
 obtain ⟨a1,a2,a3⟩:=a;obtain ⟨b1,b2,b3⟩:=b;simp only [kI,List.cons.injEq,and_true] at h
 simp_all
variable {a b:Addr} {prog:[60]} {w:World} {A:Around} {E:[7]} {s:[47]} {k:T3} {Q:Bool->Shared->Prop} {h h':Heap}
section
abbrev TK (prog:[60]) (w:World) (h:Heap) (t:T3) (a:Addr):Prop:=IsTupleKey (intKind prog w) h (kI t) a
def hT (prog:[60]) (w:World) (t:T3):Int:=tupleKeyHash (intKind prog w) (kI t)
theorem vx3 {Q:Int->Shared->Prop} (hu:A.units < cLine) (i:TK prog w s.heap k b) (h:∀ tk,Q (hT prog w k) { s with toks:=tk }):wpAny [8] A (pyHash (.ref b)) Q E s:=wpAny_pyHash_tuple hu i (h _)
theorem IsT3.key {t:T3} (i:IsT3 h (.ref a) t):TK prog w h t a:=by
 obtain ⟨a',o,t1,t2,t3,n,e1,e2,e3,e4⟩:=i;cases e1;exact ⟨o,_,n,e2,e3,e4,.cons (intKind_is ..) (.cons (intKind_is ..) (.cons (intKind_is ..) .nil))⟩
theorem TK.t3 {h:Heap} {a:Addr} {t:T3} (i:TK prog w h t a):IsT3 h (.ref a) t:=by
 obtain ⟨o,items,n,e1,e2,e3,e4⟩:=i;obtain ⟨it⟩:=items;dsimp only at e4
 have f:∀ {k:Int} {v:Value},(intKind prog w).is k v=true->∃ tk,v=.int k tk:=λ {k v} z=>by
  cases v <;> simp [intKind,Value.isInt] at z
  simp_all
 unfold kI at e4;cases e4 with
 | cons a1 e4 =>
  cases e4 with
  | cons a2 e4 =>
   cases e4 with
   | cons a3 e4 =>
    cases e4;obtain ⟨t1,rfl⟩:=f a1;obtain ⟨t2,rfl⟩:=f a2;obtain ⟨t3,rfl⟩:=f a3;exact ⟨a,o,t1,t2,t3,n,rfl,e1,e2,e3⟩
theorem TK.kept {t:T3} (k:∀ o,h.get? a=some o->o.cls=.type "tuple" -> h'.get? a=some o) (i:TK prog w h t a):TK prog w h' t a:=by
 obtain ⟨o,items,n,e1,e2,e3⟩:=i;exact ⟨o,items,n,k o e1 e2,e2,e3⟩
theorem yt0 (h:Q true s):wpAny [8] A (isSame (.ref a) (.ref a)) Q E s:=by
 unfold isSame;dsimp only;rw [if_pos (beq_self_eq_true a)];exact wpAny_pure h
theorem TK.items {t:T3} (i:TK prog w h t a):∃ o t1 t2 t3 n,h.get? a=some o /\ o.cls=.type "tuple" /\ o.data=.seq #[.int t.1 t1,.int t.2.1 t2,.int t.2.2 t3] n:=by
 obtain ⟨a',o,t1,t2,t3,n,e1,e2,e3,e4⟩:=i.t3
 simp_all
theorem wk3 {t:T3} (i:TK prog w s.heap t a) (h:Q false s):wpAny [8] A (ofAClassStatement 8 (.ref a)) Q E s:=by
 have ty:=i.typeIs;obtain ⟨o,t1,t2,t3,n,e1,e2,e3⟩:=i.items;unfold ofAClassStatement;refine wpAny_bind (wpAny_typeOf ty ?_);dsimp only;rw [if_pos [14]];refine wpAny_bind [28];rw [if_neg [14]];refine wpAny_bind (wpAny_seqItems e1 e3 ?_);dsimp only;refine wpAny_bind ?_;rw [<- Array.forIn_toList];refine wpAny_forIn_list _ (λ rest r s'=>r.1=none /\ s'=s /\ ∀ v ∈ rest,carriedByValue v=true) _ ?_ ?_ _ _ ⟨rfl,rfl,by simp [carriedByValue]⟩
 ·rintro v rest r s' ⟨hr,rfl,hall⟩;have hv:=hall v mem_cons_self
  have hq:ofAClassStatement 7 v=pure false:=by
   cases v with
   | ref a=>trivial
   | _=>rfl
  rw [hq];refine wpAny_bind [28];simp only [Bool.false_eq_true,if_false];exact wpAny_pure ⟨rfl,rfl,λ u hu'=>hall u (mem_cons_of_mem _ hu')⟩
 ·rintro ⟨r1,r2⟩ s' ⟨hr,rfl,_⟩;simp only at hr;subst hr;exact wpAny_pure h
theorem xp3 {stored:[25]} (i:TK prog w s.heap k b) (hs:∀ v ∈ stored,∃ t a,v=.ref a /\ TK prog w s.heap t a) (h:Q false s) :
    wpAny [8] A (searchCouldBeSeen (.ref b) stored) Q E s:=by
 unfold searchCouldBeSeen;refine wpAny_bind ?_;refine wpAny_forIn_list _ (λ rest r s'=>r.1=none /\ s'=s /\ ∀ v ∈ rest,∃ t a,v=.ref a /\ TK prog w s.heap t a) _ ?_ ?_ _ _ ⟨rfl,rfl,hs⟩
 ·rintro v rest r s' ⟨hr,rfl,hall⟩;obtain ⟨t,a,rfl,hv⟩:=hall v mem_cons_self;have tl:=λ u hu'=>hall u (mem_cons_of_mem _ hu');dsimp only;split
  ·exact wpAny_pure ⟨rfl,rfl,tl⟩
  ·refine wpAny_bind (wpAny_eqIsQuiet_tuple i ?_);simp only [Bool.not_true,Bool.false_eq_true,if_false];refine wpAny_bind (wpAny_eqIsQuiet_tuple hv ?_);simp only [Bool.not_true,Bool.false_eq_true,if_false];refine wpAny_bind (wk3 i ?_);simp only [Bool.false_eq_true,if_false];refine wpAny_bind (wk3 hv ?_);simp only [Bool.false_eq_true,if_false];exact wpAny_pure ⟨rfl,rfl,tl⟩
 ·rintro ⟨r1,r2⟩ s' ⟨hr,rfl,_⟩;simp only at hr;subst hr;exact wpAny_pure h
theorem vc3 {t:T3} (i:TK prog w s.heap t a) (h:Q true s):wpAny [8] A (hashByValue 8 (.ref a)) Q E s:=by
 have ty:=i.typeIs;obtain ⟨o,t1,t2,t3,n,e1,e2,e3⟩:=i.items;unfold hashByValue;refine wpAny_bind (wpAny_specialOf ty F.slot_tuple_hash.lookup ?_);show wpAny _ _ (seqItems? (.ref a) >>= _) _ _ s;refine wpAny_bind (wpAny_seqItems e1 e3 ?_);refine wpAny_bind ?_;show wpAny _ _ (forIn #[Value.int t.1 t1,.int t.2.1 t2,.int t.2.2 t3] _ _) _ _ s;rw [<- Array.forIn_toList];refine wpAny_forIn_list _ (λ rest r s'=>r.1=none /\ s'=s /\ ∀ v ∈ rest,∃ i t,v=Value.int i t) _ ?_ ?_ _ _ ⟨rfl,rfl,by simp⟩
 ·rintro v rest r s' ⟨hr,rfl,hall⟩;obtain ⟨j,tk,rfl⟩:=hall v mem_cons_self;have hq:hashByValue 7 (.int j tk)=pure true:=by rfl
  rw [hq];refine wpAny_bind [28];simp only [Bool.not_true,Bool.false_eq_true,if_false];exact wpAny_pure ⟨rfl,rfl,λ u hu'=>hall u (mem_cons_of_mem _ hu')⟩
 ·rintro ⟨r1,r2⟩ s' ⟨hr,rfl,_⟩;simp only at hr;subst hr;exact wpAny_pure h
end
def bT (prog:[60]) (w:World):Bool:=[8].w.params.followText "set-order"
abbrev ent (hf:T3->Int) (x:T3 × Addr):Int × Value:=(hf x.1,.ref x.2)
structure SetIs (prog:Program) (w:World) (hf:T3->Int) (h:Heap) (a:Addr) (o:Obj) (es:Array (Int × Value)) (ep:Nat) (t:SetTable) (xs:List (T3 × Addr)):Prop where
 ho:h.get? a=some o
 ex:o.ExactSet
 hd:o.data=.set es ep t
 el:es.toList=xs.map (ent hf)
 ks:∀ x ∈ xs,TK prog w h x.1 x.2
 nd:(xs.map (·.1)).Nodup
 ok:TOk t (xs.map λ x=>hf x.1)
 rm:t.fill<=t.mask
 pl:t.plain=true
 le:t.led = !bT prog w
variable {ep n:Nat} {xs:List (T3 × Addr)} {hf:T3->Int} {d:Option Nat} {adding:Bool}
section
variable {o:Obj} {es:Array (Int × Value)} {t:SetTable} 
theorem SetIs.at (S:SetIs prog w hf h a o es ep t xs) (i:Nat):es[i]?=(xs[i]?).map (ent hf):=by rw [<- getElem?_toList,S.el,getElem?_map]
theorem SetIs.size {h:Heap} (S:SetIs prog w hf h a o es ep t xs):es.size=xs.length:=by rw [<- length_toList,S.el,length_map]
theorem SetIs.fits {h:Heap} (S:SetIs prog w hf h a o es ep t xs):t.fits es.size=true:=by
 have h1:=S.ok.sz;have h2:=S.size;have h3:=S.rm;rw [length_map] at h1;simp [SetTable.fits,h1,h2,h3]
theorem SetIs.odd (S:SetIs prog w hf h a o es ep t xs):t.gaveWay=false:=by
 have:∀ m ∈ okM,(m % 2 == 0)=false:=by decide
 exact this _ S.ok.msk
theorem yk1 {f:Nat->Int} {h:Int} {hs:[64]} {r:Option SetTable.Met} (k:TOk t hs) (rm:t.fill<=t.mask) (kd:DumOk t h d n) (e:t.probe f h { trS t.mask h n with dummy:=d }=r) :
    (∃ m d',r=some (.empty (tr t.mask h m) d') /\ n<=m /\ t.slot (tr t.mask h m)=.empty /\ Sk t f h n m /\ DumOk t h d' m) ∨
    (∃ m i d',r=some (.candidate (tr t.mask h m) i { trS t.mask h (m + 1) with dummy:=d' }) /\ n<=m /\ t.slot (tr t.mask h m)=.live i /\ f i=h /\ Sk t f h n m /\ DumOk t h d' m):=by
 subst e;exact k.probe rm f h n d kd
def Hist (hf:T3->Int) (t:SetTable) (xs:List (T3 × Addr)) (k:T3) (n:Nat):Prop:=∀ l,l < n->t.slot (tr t.mask (hf k) l) ≠ .empty /\ ∀ i,t.slot (tr t.mask (hf k) l)=.live i->∀ x,xs[i]?=some x->x.1 ≠ k
theorem sn1 {Q:SetFound->Shared->Prop} (hu:A.units < cLine) (S:SetIs prog w hf s.heap a o es ep t xs) (hk:TK prog w s.heap k b)
    (found:∀ i b',xs[i]?=some (k,b')->Q (.there (if adding then none else some i)) s)
    (free:∀ sl wd,k ∉ xs.map (·.1)->sl ∉ t.place.toList->(∃ m,tr t.mask (hf k) m=sl /\ ∀ l,l < m->Occ t (tr t.mask (hf k) l))->(wd=true->t.slot sl=.dummy)->Q (.free sl wd) s)
    {fuel:Nat} {stand:Option SetTable.Probe} (kd:DumOk t (hf k) d n) (hist:Hist hf t xs k n) (st:stand.getD (t.probeStart (hf k))={ trS t.mask (hf k) n with dummy:=d })
    (ih:∀ (n':Nat) (d':Option Nat) (stand':Option SetTable.Probe),n < n'->DumOk t (hf k) d' n'->Hist hf t xs k n'->stand'.getD (t.probeStart (hf k))={ trS t.mask (hf k) n' with dummy:=d' } ->
     wpAny [8] A (setSearchFrom a (.ref b) (hf k) adding fuel stand') Q E s) :
    wpAny [8] A (setSearchFrom a (.ref b) (hf k) adding (fuel + 1) stand) Q E s:=by
 have hist':∀ {f:Nat->Int} {m:Nat},(∀ i,f i=((es[i]?).map (·.1)).getD 0)->Sk t f (hf k) n m->∀ l,l < m->t.slot (tr t.mask (hf k) l) ≠ .empty /\ ∀ i,t.slot (tr t.mask (hf k) l)=.live i->∀ x,xs[i]?=some x->x.1 ≠ k:=λ {f m} hf sk l hl=>by
  by_cases c:l < n
  ·exact hist l c
  ·obtain ⟨b1,b2⟩:=sk l [5] hl;refine ⟨b1,λ i e x hx z=>b2 i e ?_⟩;rw [hf,S.at,hx,Option.map_some,Option.map_some,Option.getD_some,<- z]
 unfold setSearchFrom;refine wpAny_bind [44];dsimp only;rw [S.odd,st];simp only [Bool.false_eq_true,if_false];split
 ·next met heq =>
  rcases yk1 S.ok S.rm kd heq with ⟨m,d',e,a1,a2,a3,a4⟩ | ⟨m,i,d',e,a1,a2,a3,a4,a5⟩
  ·cases e;have H:=hist' (λ _=>rfl) a3
   have nk:k ∉ xs.map (·.1):=λ z=>by
    obtain ⟨x,hx,ek⟩:=List.mem_map.mp z;obtain ⟨i,hi⟩:=List.mem_iff_getElem?.mp hx;have hlt:i < t.place.size:=by rw [S.ok.sz,length_map]; exact (List.getElem?_eq_some_iff.mp hi).1
    have hp:t.place[i]?=some t.place[i]:=Array.getElem?_eq_getElem hlt;obtain ⟨m',q1,q2⟩:=S.ok.reach i _ (hf k) hp [36];have hl:=(yj1 S.ok.ris).mpr hp;rw [<- q1] at hl;by_cases c:m' < m
    ·exact (H m' c).2 i hl x hi ek
    ·by_cases c2:m=m'
     ·simp_all
     ·exact (S.ok.occ _).mp (q2 m [5]) a2
   have oc:∀ l,l < m->Occ t (tr t.mask (hf k) l):=λ l hl=>(S.ok.occ _).mpr (H l hl).1;cases d' with
   | none=>exact wpAny_pure (free _ false nk ((zz0 S.ok.ris S.ok.rid).mp a2).1 ⟨m,rfl,oc⟩ (λ z=>by cases z))
   | some x =>
    obtain ⟨l,b1,b2,b3⟩:=a4 x rfl;dsimp only;rw [b3];simp only [bne_self_eq_false,Bool.and_false,Bool.false_eq_true,if_false];refine wpAny_pure (free x true nk (S.ok.dj x ((wz0 S.ok.ris S.ok.rid (S.ok.dj x)).mp b3)) ⟨l,b2,λ l' hl=>oc l' [5]⟩ (λ _=>b3))
  ·cases e;have H:=hist' (λ _=>rfl) a4;have hp:=(yj1 S.ok.ris).mp a2;have hlt:i < xs.length:=by have:=(Array.getElem?_eq_some_iff.mp hp).1; rw [S.ok.sz,length_map] at this; exact this
   obtain ⟨x,hx⟩:∃ x,xs[i]?=some x:=⟨_,getElem?_eq_getElem hlt⟩;have he:es[i]?=some (ent hf x):=by rw [S.at,hx]; rfl
   have hkx:=S.ks x (mem_of_getElem? hx);have sm:t.sameMemory t.moves t.mask=some true:=by unfold SetTable.sameMemory; simp
   have sto:∀ v ∈ List.map (λ x=>x.snd) (Array.filter (λ x=>x.fst == hf k) es).toList,∃ t a,v=.ref a /\ TK prog w s.heap t a:=λ v hv=>by
    obtain ⟨y,hy,rfl⟩:=List.mem_map.mp hv
    have hy':y ∈ es.toList:=by
     simp_all
    rw [S.el] at hy';obtain ⟨z,hz,rfl⟩:=List.mem_map.mp hy';exact ⟨z.1,z.2,rfl,S.ks z hz⟩
   dsimp only;split
   ·refine wpAny_bind (xp3 hk sto ?_);simp only [Bool.false_eq_true,if_false];rw [he];dsimp only;refine wpAny_bind (wpAny_holding (wpAny_eqBool_tuple hu hkx hk ?_));refine wpAny_bind [44];dsimp only;by_cases c:x.1=k
    ·rw [decide_eq_true (congrArg kI c)];have fd:=found i x.2 (by rw [hx,<- c]);cases adding
     ·rw [sm];simp only [Bool.false_and,Bool.false_eq_true,if_false,if_true];rw [a2];dsimp only;rw [he];dsimp only;refine wpAny_bind (yt0 (wpAny_bind [28]));exact wpAny_pure fd
     ·exact wpAny_pure fd
    ·rw [decide_eq_false (λ z=>c (th3 z)),sm];simp only [Bool.and_false,Bool.false_eq_true,if_false,if_true];rw [a2];dsimp only;rw [he];dsimp only;refine wpAny_bind (yt0 (wpAny_bind [28]));refine ih (m + 1) d' _ [5] (a5.up (Nat.le_succ _)) (λ l hl=>?_) rfl;by_cases c2:l < m
     ·exact H l c2
     ·have:l=m:=by omega
      subst this;refine ⟨[36],λ i' z y hy=>?_⟩
      simp_all
   ·rw [he];dsimp only;refine wpAny_bind (wpAny_holding (wpAny_eqBool_tuple hu hkx hk ?_));refine wpAny_bind [44];dsimp only;by_cases c:x.1=k
    ·rw [decide_eq_true (congrArg kI c)];have fd:=found i x.2 (by rw [hx,<- c]);cases adding
     ·rw [sm];simp only [Bool.false_and,Bool.false_eq_true,if_false,if_true];rw [a2];dsimp only;rw [he];dsimp only;refine wpAny_bind (yt0 (wpAny_bind [28]));exact wpAny_pure fd
     ·exact wpAny_pure fd
    ·rw [decide_eq_false (λ z=>c (th3 z)),sm];simp only [Bool.and_false,Bool.false_eq_true,if_false,if_true];rw [a2];dsimp only;rw [he];dsimp only;refine wpAny_bind (yt0 (wpAny_bind [28]));refine ih (m + 1) d' _ [5] (a5.up (Nat.le_succ _)) (λ l hl=>?_) rfl;by_cases c2:l < m
     ·exact H l c2
     ·have:l=m:=by omega
      subst this;refine ⟨[36],λ i' z y hy=>?_⟩
      simp_all
 ·next hne =>
  rcases yk1 S.ok S.rm kd rfl with ⟨m,d',e,a1,a2,a3,a4⟩ | ⟨m,i,d',e,a1,a2,a3,a4,a5⟩
  ·exact (hne _ e).elim
  simp_all
theorem ug2 {Q:SetFound->Shared->Prop} (hu:A.units < cLine) (S:SetIs prog w hf s.heap a o es ep t xs) (hk:TK prog w s.heap k b)
    (found:∀ i b',xs[i]?=some (k,b')->Q (.there (if adding then none else some i)) s)
    (free:∀ sl wd,k ∉ xs.map (·.1)->sl ∉ t.place.toList->(∃ m,tr t.mask (hf k) m=sl /\ ∀ l,l < m->Occ t (tr t.mask (hf k) l))->(wd=true->t.slot sl=.dummy)->Q (.free sl wd) s)
    (N:Nat) (hN:t.slot (tr t.mask (hf k) N)=.empty) (r:Nat):∀ (fuel n:Nat) (d:Option Nat) (stand:Option SetTable.Probe),N < n + r->r<=fuel->DumOk t (hf k) d n->Hist hf t xs k n ->
    stand.getD (t.probeStart (hf k))={ trS t.mask (hf k) n with dummy:=d } ->
    wpAny [8] A (setSearchFrom a (.ref b) (hf k) adding fuel stand) Q E s:=by
 induction r with
 | zero =>
  intro fuel n d stand h1 h2 kd hist st;exact absurd hN (hist N [5]).1
 | succ r ih =>
  intro fuel n d stand h1 h2 kd hist st;cases fuel with
  | zero=>omega
  | succ fuel=>exact sn1 hu S hk found free kd hist st λ n' d' stand' a1 a2 a3 a4=>ih fuel n' d' stand' [5] [5] a2 a3 a4
end
section
variable {o:Obj} {es:Array (Int × Value)} {t:SetTable} 
theorem zg1:∀ m ∈ okM,7<=m /\ m<=4095:=by decide
theorem vj1 {Q:SetFound->Shared->Prop} (hu:A.units < cLine) (S:SetIs prog w hf s.heap a o es ep t xs) (hk:TK prog w s.heap k b)
    (found:∀ i b',xs[i]?=some (k,b')->Q (.there (if adding then none else some i)) s)
    (free:∀ sl wd,k ∉ xs.map (·.1)->sl ∉ t.place.toList->(∃ m,tr t.mask (hf k) m=sl /\ ∀ l,l < m->Occ t (tr t.mask (hf k) l))->(wd=true->t.slot sl=.dummy)->Q (.free sl wd) s) :
    wpAny [8] A (setSearch a (.ref b) (hf k) adding) Q E s:=by
 obtain ⟨e,he,ee⟩:=S.ok.hole S.rm;obtain ⟨N,_,h2,h3⟩:=yr1 S.ok.msk (hf k) 0 he;have hm:=zg1 _ S.ok.msk;unfold SetTable.turns at h2;unfold setSearch;refine ug2 hu S hk found free N (by rw [h3]; exact ee) (N + 1) _ 0 none none [5] [5] (λ x z=>by cases z) (λ l hl=>absurd hl (Nat.not_lt_zero _)) ?_;rfl
theorem yp3 (b:Addr) (es:Array (Int × Value)):byScan (.ref b) es=false:=by rfl
theorem SetIs.store (S:SetIs prog w hf h a o es ep t xs) {xs':List (T3 × Addr)} {es':Array (Int × Value)} {t':SetTable} (el:es'.toList=xs'.map (ent hf)) (ks:∀ x ∈ xs',TK prog w h x.1 x.2) (nd:(xs'.map (·.1)).Nodup)
    (ok:TOk t' (xs'.map λ x=>hf x.1)) (rm:t'.fill<=t'.mask) (pl:t'.plain=true) (le:t'.led = !bT prog w) :
    SetIs prog w hf (h.update a (Obj.putSet es' t')) a { o with data:=.set es' (ep + 1) t' } es' (ep + 1) t' xs':=by
 have hg:(h.update a (Obj.putSet es' t')).get? a=some { o with data:=.set es' (ep + 1) t' }:=by
  have:=Heap.get?_update_self (Obj.putSet es' t') S.ho (by rw [putSet_of es' t' S.hd]; rfl);rw [putSet_of es' t' S.hd] at this; exact this
 refine ⟨hg,S.ex,rfl,el,λ x hx=>(ks x hx).kept λ o' e1 e2=>?_,nd,ok,rm,pl,le⟩;rw [Heap.get?_update_ne _ _ _ _ (λ z=>?_)]
 ·exact e1
 ·rw [z,S.ho] at e1;cases e1;rw [S.ex.1] at e2;trivial
theorem yh5 {α β:Type} {m m':Sem α} {g:α->Sem β} {Q:β->Shared->Prop} (e:m=m') (h:wpAny [8] A (m' >>= g) Q E s):wpAny [8] A (m >>= g) Q E s:=by rw [e]; exact h
theorem ya5 {α:Type} {fe:α->Int × Value} {xs:List α} {es:Array (Int × Value)} (d:α) {mk fi mo:Nat} {le pl:Bool} (m1:mk ∈ okM) (hl:xs.length<=mk + 1) (eel:es.toList=xs.map (fe)) :
    ∃ t' order,∃ xs':List α,SetTable.laid mk fi mo le pl (es.map (·.1))=some (t',order) /\ (order.filterMap λ k=>es[k]?).toList=xs'.map (fe) /\ xs'.Perm xs /\ (order.filterMap λ k=>es[k]?).size=es.size /\ TOk t' (xs'.map λ x=>(fe x).1) /\ t'.mask=mk /\ t'.dummies = #[] /\ t'.led=le /\ t'.plain=pl /\ order.toList.Perm (List.range xs.length):=by
 have sz:es.size=xs.length:=by rw [<- length_toList,eel,length_map]
 have hat:∀ i:Nat,es[i]?=(xs[i]?).map (fe):=λ i=>by rw [<- getElem?_toList,eel,getElem?_map]
 obtain ⟨t',order,e1,e2,e3,e4,e5,e6,e7,e8,e9⟩:=yx3 m1 (es.map (·.1)) [36] fi mo le pl;rw [Array.size_map,sz] at e8;have olt:∀ k ∈ order.toList,k < xs.length:=λ k hk=>List.mem_range.mp (e8.mem_iff.mp hk)
 have fm:∀ (l:[88]),(∀ k ∈ l,k < xs.length)->l.filterMap (λ k=>es[k]?)=(l.map λ k=>xs.getD k d).map (fe):=λ l=>by
  induction l with
  | nil=>intro _; rfl
  | cons k l ih =>
   simp_all
 have fm':(order.filterMap λ k=>es[k]?).toList=(order.toList.map λ k=>xs.getD k d).map (fe):=by simp_all
 have pm:(order.toList.map λ k=>xs.getD k d).Perm xs:=by
  refine (e8.map _).trans (List.Perm.of_eq ?_);apply List.ext_getElem
  ·simp
  simp_all
 have hz:(order.filterMap λ k=>es[k]?).size=es.size:=by rw [<- length_toList,fm',length_map,pm.length_eq,sz]
 have hok:TOk t' ((order.toList.map λ k=>xs.getD k d).map λ x=>(fe x).1):=by
  have:(order.toList.map λ k=>(es.map (·.1)).getD k 0)=(order.toList.map λ k=>xs.getD k d).map λ x=>(fe x).1:=by
   simp_all
  rw [<- this];exact e9
 exact ⟨t',order,_,e1,fm',pm,hz,hok,e2,e3,e4,e5,e8⟩
theorem zi2 {Q:Unit->Shared->Prop} {wd:Nat} (S:SetIs prog w hf s.heap a o es ep t xs) (m1:SetTable.sizeAbove wd - 1 ∈ okM) (m2:xs.length * 5 < (SetTable.sizeAbove wd - 1) * 3) (m3:SetTable.sizeAbove wd<=2048)
    (h:∀ h' o' es' ep' t' xs',Heap.SameBut a s.heap h'->SetIs prog w hf h' a o' es' ep' t' xs'->xs'.Perm xs->t'.fill * 5 < t'.mask * 3->t'.mask=SetTable.sizeAbove wd - 1->t'.dummies = #[]->Q () [54]) :
    wpAny [8] A (setRelay a wd) Q E s:=by
 have sz:=S.size;have mm:=zg1 _ m1;have sl:SetTable.sizeAbove wd<=sizeLine:=by rw [sizeLine_eq]; omega
 obtain ⟨t',order,xs',e1,fm',pm,hz,hok,e2,e3,e4,e5,_⟩:=ya5 (fe:=ent hf) ((0,0,0),0) (fi:=t.finger) (mo:=t.movedTo (SetTable.sizeAbove wd - 1)) (le:=t.led) (pl:=t.plain) m1 [5] S.el;have el:t.relaid (es.map (·.1)) wd=some (t',order):=e1
 have rm:t'.fill * 5 < t'.mask * 3:=by
  have h1:=hok.sz;rw [length_map,pm.length_eq] at h1;unfold SetTable.fill
  simp_all
 have hm:=zg1 _ hok.msk;unfold setRelay;refine wpAny_bind [44];dsimp only;rw [if_neg [5],el];refine yh5 (m':=if ((order.filterMap λ k=>es[k]?).size != es.size)=true then (unsupported "internal:set-table-lost-an-element" >>= λ (_:PUnit)=>pure ((order.filterMap λ k=>es[k]?),t')) else pure ((order.filterMap λ k=>es[k]?),t')) rfl ?_;rw [hz];simp only [bne_self_eq_false,Bool.false_eq_true,if_false];refine wpAny_bind (wpAny_pure (wpAny_storeSet_of S.ho S.hd ?_ [57]));exact h _ _ _ _ _ _ (Heap.SameBut.update _ a _) (S.store fm' (λ x hx=>S.ks x (pm.mem_iff.mp hx)) ((pm.map _).nodup_iff.mpr S.nd) hok (show t'.fill<=t'.mask by omega) (by rw [e5]; exact S.pl) (by rw [e4]; exact S.le)) pm rm e2 e3
theorem zw2 {Q:Unit->Shared->Prop} (S:SetIs prog w hf s.heap a o es ep t xs) (hn:xs.length < 64) (en:n=xs.length)
    (h:∀ h' o' es' ep' t' xs',Heap.SameBut a s.heap h'->SetIs prog w hf h' a o' es' ep' t' xs'->xs'.Perm xs->t'.fill * 5 < t'.mask * 3->Q () [54]) :
    wpAny [8] A (setRelay a (n * 4)) Q E s:=by
 subst en;obtain ⟨m1,m2,m3⟩:=wj1 _ hn;exact zi2 S m1 m2 m3 λ h' o' es' ep' t' xs' q1 q2 q3 q4 _ _=>h h' o' es' ep' t' xs' q1 q2 q3 q4
def SetG (prog:[60]) (w:World) (hf:T3->Int) (h:Heap) (a:Addr) (xs:List (T3 × Addr)):Prop:=∃ o es ep t,SetIs prog w hf h a o es ep t xs /\ t.fill * 5 < t.mask * 3
theorem xh5 (hu:A.units < cLine) (S:SetG prog w hf s.heap a xs) (hk:TK prog w s.heap k b) (hn:xs.length + 1 < 64)
    (old:k ∈ xs.map (·.1)->Q false s)
    (new:k ∉ xs.map (·.1)->∀ h' xs',Heap.SameBut a s.heap h'->SetG prog w hf h' a xs'->xs'.Perm ((k,b) :: xs)->Q true [54]):wpAny [8] A (setAddHashed a (.ref b) (hf k)) Q E s:=by
 obtain ⟨o,es,ep,t,S,rm5⟩:=S;have hm:=zg1 _ S.ok.msk;have sz:=S.size;unfold setAddHashed setAddHashedIn;refine wpAny_holding (wpAny_bind [44]);dsimp only;rw [yp3];simp only [Bool.false_eq_true,if_false];refine wpAny_bind (vj1 hu S hk (λ i b' e=>?_) λ sl wd nk ns rc wdd=>?_)
 ·exact wpAny_pure (old (List.mem_map.mpr ⟨_,mem_of_getElem? e,rfl⟩))
 ·dsimp only;refine wpAny_bind [44];dsimp only;have ok':=S.ok.put ns rc;have f1:=uw2 S.ok (x:=sl);have pl':(t.put sl).1.plain=true:=S.pl;have mk':(t.put sl).1.mask=t.mask:=rfl;rw [pl'];simp only [if_true];refine wpAny_bind (vc3 hk ?_);simp only [if_true]
  have el':(SetTable.insertAt es (t.put sl).2 (hf k,Value.ref b)).toList=(insL xs (SetTable.below t.place sl) (k,b)).map (ent hf):=by
   rw [SetTable.toList_insertAt,uv1,S.el];rfl
  have pm:(insL xs (SetTable.below t.place sl) (k,b)).Perm ((k,b) :: xs):=by
   unfold insL;exact List.perm_middle.trans (List.Perm.cons _ (List.Perm.of_eq (take_append_drop _ _)))
  have sz':(SetTable.insertAt es (t.put sl).2 (hf k,Value.ref b)).size=xs.length + 1:=by rw [<- length_toList,el',length_map,wi0]
  have S':=S.store el' (λ x hx=>by
   rcases (tt0 _ _ _ _).mp hx with rfl | hx
   ·exact hk
   ·exact S.ks x hx) ((pm.map _).nodup_iff.mpr (List.nodup_cons.mpr ⟨nk,S.nd⟩)) (by rw [uv1]; exact ok') (by rw [mk']; omega) pl' S.le
  refine wpAny_bind (wpAny_storeSet_of S.ho S.hd ?_ (by rw [sz',sizeLine_eq]; omega));have sb:=Heap.SameBut.update s.heap a (Obj.putSet (SetTable.insertAt es (t.put sl).2 (hf k,Value.ref b)) (t.put sl).1);split
  ·next c =>
   have gr:SetTable.grown (es.size + 1)=(xs.length + 1) * 4:=by unfold SetTable.grown; simp_all;omega
   rw [gr];refine wpAny_bind (zw2 S' (by rw [wi0]; omega) (by rw [wi0]) λ h' o' es' ep' t' xs' q1 q2 q3 q4=>wpAny_pure ?_);exact new nk h' xs' (sb.trans q1) ⟨_,_,_,_,q2,q4⟩ (q3.trans pm)
  ·next c =>
   refine wpAny_pure (new nk _ _ sb ⟨_,_,_,_,S',?_⟩ pm);cases wd with
   | true =>
    have f2:=ub2 S.ok (wdd rfl);omega
   | false =>
    simp only [Bool.not_false,Bool.true_and,SetTable.tooFull,decide_eq_true_eq] at c;omega
end
def Got (P:Nat->Value->Prop) (ks:Nat->T3) (i:Nat) (xs:List (T3 × Addr)):Prop:=(∀ x ∈ xs,∃ j,j < i /\ P j (.ref x.2) /\ ks j=x.1) /\ ∀ j,j < i->ks j ∈ xs.map (·.1)
def KpH (h h':Heap):Prop:=∀ b o,h.get? b=some o->h'.get? b=some o
variable {P:Nat->Value->Prop} {ks:Nat->T3} {i:Nat} {J:Nat->Heap->Prop}
section
variable {R:Result->Shared->Prop} 
theorem SetG.nd {h:Heap} {a:Addr} {xs:List (T3 × Addr)} (S:SetG prog w hf h a xs):(xs.map (·.1)).Nodup:=by
 obtain ⟨o,es,ep,t,S,_⟩:=S;exact S.nd
theorem SetG.keep (S:SetG prog w hf h a xs) (k1:∀ o,h.get? a=some o->h'.get? a=some o) (k2:∀ x ∈ xs,TK prog w h' x.1 x.2):SetG prog w hf h' a xs:=by
 obtain ⟨o,es,ep,t,S,q⟩:=S;exact ⟨o,es,ep,t,⟨k1 o S.ho,S.ex,S.hd,S.el,k2,S.nd,S.ok,S.rm,S.pl,S.le⟩,q⟩
theorem Got.len (g:Got P ks i xs) (hi:i<=n) (nd:(xs.map (·.1)).Nodup) (B:∀ l:List T3,l.Nodup->(∀ x ∈ l,∃ j,j < n /\ ks j=x)->l.length < 63):xs.length < 63:=by
 have:=B _ nd λ x hx=>by
  obtain ⟨y,hy,rfl⟩:=List.mem_map.mp hx;obtain ⟨j,h1,_,h2⟩:=g.1 y hy;exact ⟨j,by omega,h2⟩
 simp_all
theorem zh5 {I S:Addr} {fp wr:List Addr} {St:Nat->Heap->Prop} {h0:Heap} (W:Walks prog w A.in1 I fp wr n P St) (hS:S ∉ fp)
    (low:∀ b ∈ S :: wr,h0.objs.size<=b) (kj:∀ i h h',i<=n->J i h->KpH h0 h'->(∀ o,h.get? S=some o->h'.get? S=some o)->J i h')
    (ad:∀ i v (s:[47]) (Q:Bool->Shared->Prop) (E:[7]),i < n->P i v->KpH h0 s.heap->J i s.heap->(∀ b h' tk,Heap.SameBut S s.heap h'->J (i + 1) h'->Q b [59])->wpAny [8] A.in1 (setAdd S v) Q E s) :
    ∀ (k i:Nat) (s:[47]),n - i=k->i<=n->St i s.heap->KpH h0 s.heap->J i s.heap->(∀ h' tk,KpH h0 h'->J n h'->R (.ok (.ret .none)) [59]) ->
     codeAny [8] A (.builtin "set.update.loop" ⟨[.ref S,.ref I],[]⟩) R s:=by
 have nw:S ∉ wr:=λ h=>hS (W.sub _ h)
 have nl:∀ {b:Addr} {o:Obj},h0.get? b=some o->b ∉ wr /\ b ≠ S:=λ {b o} e =>
  ⟨λ z=>absurd (Heap.lt_size e) (Nat.not_lt.mpr (low b (mem_cons_of_mem _ z))),λ z=>absurd (Heap.lt_size e) (Nat.not_lt.mpr (low b [36]))⟩
 intro k
 induction k with
 | zero =>
  intro i s hk hi st kp sg q;have:i=n:=by omega
  subst this;refine codeAny_builtin F.entry_set_update_loop ?_;rw [Around.under_plainId F.plain_set_update_loop _];show wpAny _ A.in1 (pyNext (.ref I) >>= _) _ _ s;refine wpAny_bind (W.done s _ _ st λ h1 tk km=>?_);show wpAny _ A.in1 (ret Value.none) _ _ _;have kp1:KpH h0 h1:=λ b o e=>km b o (nl e).1 (kp b o e);exact wpAny_pure (q h1 tk kp1 (kj _ _ _ hi sg kp1 λ o e=>km S o nw e))
 | succ k ih =>
  intro i s hk hi st kp sg q;have lt:i < n:=by omega
  refine codeAny_builtin F.entry_set_update_loop ?_;rw [Around.under_plainId F.plain_set_update_loop _];show wpAny _ A.in1 (pyNext (.ref I) >>= _) _ _ s;refine wpAny_bind (W.item i s _ _ lt st λ v h1 tk hP st1 km=>?_);have kp1:KpH h0 h1:=λ b o e=>km b o (nl e).1 (kp b o e);show wpAny _ A.in1 (holding [v] (setAdd S v) >>= _) _ _ _;refine wpAny_bind (wpAny_holding (ad i v { s with heap:=h1,toks:=tk } _ _ lt hP kp1 (kj _ _ _ hi sg kp1 λ o e=>km S o nw e) λ b h2 tk2 sb sg2=>?_));have kp2:KpH h0 h2:=λ b o e=>by rw [sb.2 b (nl e).2]; exact kp1 b o e
  refine wpAny_pure ⟨plainId_quiet F.plain_set_update_loop _,ih (i + 1) { s with heap:=h2,toks:=tk2 } [5] lt (W.frame _ h1 _ st1 λ b hb o e=>?_) kp2 sg2 λ h' tk' a b=>q h' tk' a b⟩;rw [sb.2 b (λ z=>hS [36])]; exact e
def nset (b:Bool):Obj:={ cls:=.type "set",dict:=none,data:=.set #[] 0 (.fresh 0 0 b) }
theorem to3 (v:Value) {Q1:[7]} (h:Q1 [71] { s with heap:=s.heap.push (nset (!bT prog w)) }):codeAny [8] A (.call (.builtin "set.__new__") ⟨[.type "set",v],[]⟩) (wants Q1 E) s:=by
 refine codeAny_of_tree ?_;show wpAny _ A.in1 (do checkBuiltinCall "set.__new__" ⟨[.type "set",v],[]⟩; again (.builtin "set.__new__" ⟨[.type "set",v],[]⟩)) _ _ s;refine wpAny_bind (wpAny_of_eq (F.newCall_set_1 v) (wpAny_pure ⟨plainId_quiet F.plain_set_new _,codeAny_builtin F.entry_set_new ?_⟩));rw [Around.under_plainId F.plain_set_new _]; unfold Builtin.«set.__new__» Builtin.Frozenset.newClass;have ss:=sub_set_self;obtain ⟨hp,g,d,tk,os⟩:=s;dsimp only; wp_walk;refine wpAny_askSetting [28]; dsimp only; simp only [newObj];refine wpAny_bind (wpAny_alloc [28]); exact wpAny_pure h
theorem set0 (e:h.get? a=some (nset (!bT prog w))):SetG prog w hf h a []:=by
 refine ⟨_,#[],0,.fresh 0 0 (!bT prog w),⟨e,?_,rfl,rfl,(λ x hx=>nomatch hx),nodup_nil,?_,(show 0<=7 by decide),rfl,rfl⟩,(show 0 * 5 < 7 * 3 by decide)⟩
 ·trivial
 ·refine ⟨by simp [Rise,SetTable.fresh],by simp [Rise,SetTable.fresh],(λ j h=>by trivial),(λ j h=>by trivial),(λ j h=>by trivial),(show 7 ∈ okM by decide),rfl,(λ i j h z=>by trivial)⟩
theorem yj5 {l:Addr} {items:Array Value} {Q:[7]} (hh:A.handled=none) (hl:s.heap.IsList l items)
    (kj:∀ i h h',i<=items.size->J i h->KpH s.heap h'->(∀ o,h.get? s.heap.objs.size=some o->h'.get? s.heap.objs.size=some o)->J i h')
    (ad:∀ i v (s':[47]) (Q:Bool->Shared->Prop) (E:[7]),i < items.size->items[i]?=some v->KpH s.heap s'.heap->J i s'.heap->(∀ b h' tk,Heap.SameBut s.heap.objs.size s'.heap h'->J (i + 1) h'->Q b { s' with heap:=h',toks:=tk })->wpAny [8] A.in1.in1.in1 (setAdd s.heap.objs.size v) Q E s')
    (j0:∀ h:Heap,h.get? s.heap.objs.size=some (nset (!bT prog w))->J 0 h)
    (h:∀ (h':Heap) (tk:Nat),KpH s.heap h'->J items.size h'->Q [71] [59]) :
    wpAny [8] A (call (.type "set") [.ref l]) Q E s:=by
 obtain ⟨c,tl,emro⟩:=F.called_set.mro;have e0:=F.called_set.made;have e1:=F.called_set.sub;refine wpAny_call (codeAny_of_tree ?_); show wpAny _ _ (callAny (.type "set") _) _ _ _;refine wpAny_pure ⟨Code.quiet_builtin _ [20],codeAny_builtin F.entry_type_call ?_⟩; rw [Around.under_plain (weight_type_call_type "set" [.ref l] []) rfl];have e2:=F.called_set.notType;have e3:=F.called_set.canCreate;have e4:=F.typeCall_set_1 (.ref l)
 repeat (any_goals (first | assumption | wp_step))
 refine codeAny_mono (to3 (.ref l) (E:=E) (Q1:=λ obj s1=>obj=.ref s.heap.objs.size /\ s1={ s with heap:=s.heap.push (nset (!bT prog w)) }) ⟨rfl,rfl⟩) λ r s1 hr=>?_;cases r with
 | error e=>exact hr
 | ok fl =>
  cases fl with
  | ret obj =>
   obtain ⟨rfl,rfl⟩:=hr;have gS:(s.heap.push (nset (!bT prog w))).get? s.heap.objs.size=some (nset (!bT prog w)):=Heap.get?_push_size _ rfl;have tS:Shared.TypeIs { s with heap:=s.heap.push (nset (!bT prog w)) } [71] "set" := ⟨_,gS,rfl⟩;have e5:=F.called_set.init.lookup;have e6:=F.called_set.init.bind [71]
   repeat (any_goals (first | assumption | wp_step))
   refine codeAny_mono (codeAny_call_builtin (R:=wants (λ r s2=>r=.none /\ ∃ h' tk,s2=[59] /\ KpH s.heap h' /\ J items.size h') E) F.called_set.init.plain F.entry_set_init (check_set_init_1 tS ?_)) λ r2 s2 hr2=>?_
   ·obtain ⟨ol,gl,cl,nl,dl⟩:=hl;obtain ⟨ocls,odict,odata,oslots⟩:=ol;simp only at cl dl;subst cl; subst dl;have gl':(s.heap.push (nset (!bT prog w))).get? l=some { cls:=.type "list",dict:=odict,data:=.seq items nl,slots:=oslots }:=Heap.get?_push_of_some _ gl;have f1:=F.sub_list_set;have f2:=F.sub_list_frozenset;have f3:(Value.type "list" == Value.type "dict")=false:=by decide
    have il:(s.heap.push (nset (!bT prog w))).IsList l items:=⟨_,gl',rfl,nl,rfl⟩;unfold Builtin.«set.__init__» noKeywords Builtin.Frozenset.updateFrom;generalize hPI:pyIter=PI
    wp_walk
    subst hPI; refine wpAny_pyIter_list il ?_; refine wpAny_bind (wpAny_runValue ?_);have ls:l < s.heap.objs.size:=Heap.lt_size gl;have z1:(s.heap.push (nset (!bT prog w))).objs.size=s.heap.objs.size + 1:=Heap.size_push ..;have ni:l ≠ (s.heap.push (nset (!bT prog w))).objs.size:=by rw [z1]; exact Nat.ne_of_lt (Nat.lt_succ_of_lt ls)
    refine zh5 (A:=A.in1.in1) (h0:=s.heap) (J:=J) (Walks.list (show A.in1.in1.in1.handled=none by simp [hh]) _ l ni items) (S:=s.heap.objs.size) ?_ ?_ kj (λ i v s' Q E lt e=>ad i v s' Q E lt e) (items.size - 0) 0 _ [5] (Nat.zero_le _) ?_ ?_ ?_ ?_
    ·rw [z1];intro z
     simp_all
    ·simp
    ·exact ⟨[53],il.push _⟩
    ·exact λ b o e=>Heap.get?_push_of_some _ (Heap.get?_push_of_some _ e)
    ·exact j0 _ (Heap.get?_push_of_some _ gS)
    ·intro h' tk kp sg;show wpAny _ _ _ _ _ _;refine wpAny_pure ?_;show wpAny _ _ (ret Value.none) _ _ _;exact wpAny_pure ⟨rfl,h',tk,rfl,kp,sg⟩
   ·cases r2 with
    | error e=>exact hr2
    | ok fl2 =>
     cases fl2 with
     | ret r =>
      obtain ⟨rfl,h',tk,rfl,kp,sg⟩:=hr2
      repeat (any_goals (first | assumption | wp_step))
      exact h _ _ kp sg
     | _=>exact hr2.elim
  | _=>exact hr.elim
theorem xe1 {l:Addr} {items:Array Value} {Q:[7]} (hh:A.handled=none) (hu:A.units + 16 < cLine) (hl:s.heap.IsList l items)
    (hi:∀ i v,i < items.size->items[i]?=some v->∃ b,v=.ref b /\ TK prog w s.heap (ks i) b) (B:∀ l:List T3,l.Nodup->(∀ x ∈ l,∃ j,j < items.size /\ ks j=x)->l.length < 63)
    (h:∀ (h':Heap) (tk:Nat) xs,KpH s.heap h'->SetG prog w (hT prog w) h' s.heap.objs.size xs->Got (λ i v=>items[i]?=some v) ks items.size xs->Q [71] [59]) :
    wpAny [8] A (call (.type "set") [.ref l]) Q E s:=by
 have tkk:∀ {i:Nat} {xs:List (T3 × Addr)} {h:Heap},i<=items.size->Got (λ i v=>items[i]?=some v) ks i xs->KpH s.heap h->∀ x ∈ xs,TK prog w h x.1 x.2:=λ {i xs h} hn g k x hx=>by
  obtain ⟨j,a1,a2,a3⟩:=g.1 x hx;obtain ⟨b,e,t⟩:=hi j _ [5] a2;cases e;rw [<- a3];exact t.kept λ o e _=>k _ o e
 refine yj5 (J:=λ i h=>∃ xs,SetG prog w (hT prog w) h s.heap.objs.size xs /\ Got (λ i v=>items[i]?=some v) ks i xs) hh hl (λ i h h' hn ⟨xs,sg,g⟩ kp ks'=>⟨xs,sg.keep ks' (tkk hn g kp),g⟩) (λ i v s' Q E lt hP kp ⟨xs,sg,g⟩ q=>?_) (λ h e=>⟨[],set0 e,(λ x hx=>nomatch hx),λ j hj=>absurd hj (Nat.not_lt_zero _)⟩) λ h' tk kp ⟨xs,sg,g⟩=>h h' tk xs kp sg g;obtain ⟨b,rfl,tb0⟩:=hi i v lt hP;have tb:TK prog w s'.heap (ks i) b:=tb0.kept λ o e _=>kp b o e;have ln:=g.len (Nat.le_of_lt lt) sg.nd B;have ua:A.in1.in1.in1.units < cLine:=by simp_all;omega
 unfold setAdd;refine wpAny_holding (wpAny_bind (vx3 ua tb λ tk2=>?_));refine xh5 (hf:=hT prog w) (s:={ s' with toks:=tk2 }) ua sg tb [5] (λ old=>?_) (λ new h2 xs2 sb sg2 pm=>?_)
 ·refine q _ s'.heap tk2 (Heap.SameBut.refl _ _) ⟨xs,sg,λ x hx=>?_,λ j hj=>?_⟩
  ·obtain ⟨j,a1,a2⟩:=g.1 x hx;exact ⟨j,by omega,a2⟩
  ·by_cases c:j < i
   ·exact g.2 j c
   ·rw [show j=i by omega]; exact old
 ·refine q _ h2 tk2 sb ⟨xs2,sg2,λ x hx=>?_,λ j hj=>?_⟩
  ·rcases List.mem_cons.mp (pm.mem_iff.mp hx) with rfl | hx
   ·exact ⟨i,by omega,hP,rfl⟩
   ·obtain ⟨j,a1,a2⟩:=g.1 x hx;exact ⟨j,by omega,a2⟩
  ·refine (pm.map (·.1)).mem_iff.mpr ?_;by_cases c:j < i
   ·exact mem_cons_of_mem _ (g.2 j c)
   ·rw [show j=i by omega]; simp
end
theorem yx2 {α β:Type} {f:α->β} {l m:List β} (p:l.Perm m):∀ xs:List α,m=xs.map f->∃ ys:List α,ys.Perm xs /\ l=ys.map f:=by
 induction p with
 | nil=>simp
 | cons a _ ih =>
  intro xs e;cases xs with
  | nil=>cases e
  | cons x xs =>
   rw [map_cons] at e;injection e with e1 e2
   obtain ⟨ys,p,q⟩:=ih xs e2;exact ⟨x :: ys,p.cons x,by simp_all⟩
 | swap a b l =>
  intro xs e
  match xs,e with
  | x :: y :: xs,e =>
   simp only [map_cons,List.cons.injEq] at e;obtain ⟨e1,e2,e3⟩:=e;exact ⟨y :: x :: xs,.swap x y xs,by simp_all⟩
 | trans _ _ i1 i2 =>
  intro xs e;obtain ⟨ys,p,q⟩:=i2 xs e;obtain ⟨zs,p',q'⟩:=i1 ys q;exact ⟨zs,p'.trans p,q'⟩
theorem yw1 {α:Type}:∀ {l:List α} {i:Nat} (h:i < l.length),(l[i] :: l.eraseIdx i).Perm l
 | x :: l,0,_=>List.Perm.refl _
 | x :: l,i + 1,h=>(List.Perm.swap _ _ _).trans ((yw1 (l:=l) (i:=i) (by simpa using h)).cons x)
theorem sj2 {α:Type} (next:Nat->Nat):∀ (fuel k:Nat) (left:List α) (out:Array α),left.length<=fuel->(pickOrder.go next fuel k left out).toList.Perm (out.toList ++ left)
 | 0,k,left,out,h=>by
  have:left=[]:=List.length_eq_zero_iff.mp [5];subst this;unfold pickOrder.go;simp
 | fuel + 1,k,left,out,h=>by
  unfold pickOrder.go;by_cases c:left=[]
  ·subst c;simp
  ·have lt:next k % left.length < left.length:=Nat.mod_lt _ (List.length_pos_iff.mpr c)
   rw [getElem?_eq_getElem lt];dsimp only;refine (sj2 next fuel (k + 1) _ _ (by rw [List.length_eraseIdx_of_lt lt]; omega)).trans ?_;rw [Array.toList_push,List.append_assoc];refine List.Perm.append_left _ ?_;exact yw1 lt
theorem tj2 {α:Type} (next:Nat->Nat) (xs:Array α):(pickOrder next xs).toList.Perm xs.toList:=by
 have:=sj2 next xs.size 0 xs.toList #[] [17]
 assumption
theorem vg5 {xs:[76]} (h:Rise xs):SetTable.below xs 0=0:=by
 by_cases c:SetTable.below xs 0=0
 ·exact c
 ·have hl:=so0 h 0;have hz:0 < xs.size:=by omega
  have q:xs[0]?=some xs[0]:=Array.getElem?_eq_getElem hz;have:=(sk0 h 0 q).mp [5];omega
theorem wg5 {xs:[76]} (h:Rise xs) {j:Nat} (q:xs[i]?=some j):SetTable.below xs (j + 1)=i + 1:=by
 have h1:=(sk0 h (j + 1) q).mpr [5];have hl:=so0 h (j + 1);by_cases c:i + 1 < SetTable.below xs (j + 1)
 ·have hz:i + 1 < xs.size:=by omega
  have q2:xs[i + 1]?=some xs[i + 1]:=Array.getElem?_eq_getElem hz;have a:=(sk0 h (j + 1) q2).mp c;have b:=tp0 h q q2 [5];omega
 ·omega
theorem slot_sit:Slot "set_iterator" "__next__" "set_iterator.__next__" := by
 refine .of (owner := "set_iterator") (n := "__next__") ?_ ?_ ?_ ?_ ?_ ?_
 ·rfl
 ·decide +kernel
 ·decide +kernel
 ·decide +kernel
 ·trivial
 rfl
theorem sr1:Slot "set_iterator" "__iter__" "set_iterator.__iter__" := by
 refine .of (owner := "set_iterator") (n := "__iter__") ?_ ?_ ?_ ?_ ?_ ?_
 ·rfl
 ·decide +kernel
 ·decide +kernel
 ·decide +kernel
 ·trivial
 rfl
theorem vl1:entryFor table "set_iterator.__next__" = some Builtin.«set_iterator.__next__» := by exact entryFor_of_tree (by kernel_rfl)
theorem so2:entryFor table "set_iterator.__iter__" = some Builtin.«dict_keyiterator.__iter__» := by refine entryFor_alias (id' := "dict_keyiterator.__iter__") (by kernel_rfl) ?_ [20] (by kernel_rfl); rfl
theorem wx1 (a:Value):argsOk "set_iterator.__next__" ⟨[a],[]⟩:=by
 rfl
theorem yd3 (a:Value):argsOk "set_iterator.__iter__" ⟨[a],[]⟩:=by
 rfl
theorem tc2:entryFor table "set.__iter__" = some Builtin.«frozenset.__iter__» := by exact entryFor_alias (id' := "frozenset.__iter__") (by kernel_rfl) rfl [20] (by kernel_rfl)
def SIt (h:Heap) (it a:Addr) (sl i n ep:Nat):Prop:=∃ o,h.get? it=some o /\ o.cls=.type "set_iterator" /\ o.data=.fields #[rawInt sl,rawInt i,.ref a,rawInt n,rawInt ep]
variable {it:Addr} {sl:Nat}
theorem SIt.keep (x:SIt h it a sl i n ep) (k:∀ o,h.get? it=some o->h'.get? it=some o):SIt h' it a sl i n ep:=by
 obtain ⟨o,e1,e2⟩:=x;exact ⟨o,k o e1,e2⟩
theorem SIt.ty (x:SIt s.heap it a sl i n ep):s.TypeIs (.ref it) "set_iterator" := by
 obtain ⟨o,e1,e2,_⟩:=x;exact ⟨o,e1,e2⟩
theorem wo2 {o:Obj} {vs:Array Value} {c:Value} (e1:h.get? it=some o) (e2:o.cls=c) (e3:o.data=.fields vs) (j:Nat) (x:Value) :
    ∃ o',(h.update it (Obj.mapFields (·.setIfInBounds j x))).get? it=some o' /\ o'.cls=c /\ o'.data=.fields (vs.setIfInBounds j x) :=
 ⟨_,Heap.get?_update_self _ e1 (Obj.isFreed_of_fields (Obj.data_mapFields e3 _)),(Obj.cls_mapFields ..).trans e2,Obj.data_mapFields e3 _⟩
structure SObj (prog:Program) (w:World) (h:Heap) (a:Addr) (o:Obj) (es:Array (Int × Value)) (ep:Nat) (t:SetTable):Prop where
 ho:h.get? a=some o
 ex:o.ExactSet
 hd:o.data=.set es ep t
 fits:t.fits es.size=true
 ris:Rise t.place
 sz:t.place.size=es.size
 pl:t.plain=true
 le:t.led = !bT prog w
theorem SObj.keep {o:Obj} {es:Array (Int × Value)} {t:SetTable} (S:SObj prog w h a o es ep t) (k:∀ o,h.get? a=some o->h'.get? a=some o):SObj prog w h' a o es ep t :=
 ⟨k o S.ho,S.ex,S.hd,S.fits,S.ris,S.sz,S.pl,S.le⟩
theorem SetIs.obj {o:Obj} {es:Array (Int × Value)} {t:SetTable} (S:SetIs prog w hf h a o es ep t xs):SObj prog w h a o es ep t :=
 ⟨S.ho,S.ex,S.hd,S.fits,S.ok.ris,by have h1:=S.ok.sz; have h2:=S.size; simp_all,S.pl,S.le⟩
section
variable {o:Obj} {es:Array (Int × Value)} {t:SetTable}
theorem uu2 {Q:[7]} (S:SObj prog w s.heap a o es ep t)
    (q:Q [71] { s with heap:=s.heap.push { cls:=.type "set_iterator",data:=.fields #[rawInt (0:Nat),rawInt (0:Nat),.ref a,rawInt es.size,rawInt ep] } }):wpAny [8] A (pyIter (.ref a)) Q E s:=by
 have ty:s.TypeIs (.ref a) "set" := ⟨o,S.ho,S.ex.1⟩;refine wpAny_pyIter_slot ty F.slot_set_iter (wpAny_call_entry F.slot_set_iter ty tc2 ?_ (F.args_set_iter_1 _));unfold Builtin.«frozenset.__iter__» Builtin.Frozenset.slot0 slotArgs;simp only [List.isEmpty_nil,Bool.not_true,Bool.false_eq_true,↓reduceIte,bind_assoc,length_nil,bne_self_eq_false];unfold Builtin.Frozenset.addrOf Builtin.Frozenset.sizeOf;refine wpAny_bind [28]
 try dsimp only
 refine wpAny_bind [28];refine wpAny_bind (wpAny_bind (wpAny_setEntries_of S.ho S.hd S.fits [28]))
 have dr:wpAny [8] A.in1 (setDrawn a) (λ b s'=>b=false /\ s'=s) E s:=by
  unfold setDrawn setsByText;refine wpAny_bind [44];dsimp only;refine wpAny_bind (wpAny_bind (wpAny_askSetting (wpAny_pure (wpAny_pure ⟨?_,rfl⟩))));show (!_ && (!t.plain && _))=false;rw [S.pl];simp
 refine wpAny_bind (wpAny_mono dr (λ b s' h=>?_) λ _ _ h=>h);obtain ⟨rfl,rfl⟩:=h;simp only [Bool.false_eq_true,if_false];refine wpAny_bind [28];refine wpAny_bind (wpAny_setEpoch_of S.ho S.hd S.fits ?_);refine wpAny_bind (wpAny_newObj_type (wpAny_pure ⟨_,rfl, "set_iterator",_,⟨_,Heap.get?_push_size _ rfl,rfl⟩,slot_sit.lookup,q⟩))
def ordS (prog:[60]) (w:World) (a:Addr) (ep:Nat) (es:Array (Int × Value)):Array (Int × Value):=if bT prog w=true then pickOrder ([8].w.params.setOrder a ep) es else es
theorem tt1:(ordS prog w a ep es).toList.Perm es.toList:=by
 unfold ordS;split
 ·exact tj2 _ _
 rfl
theorem sf1:(ordS prog w a ep es).size=es.size:=by
 have:=(tt1 (prog:=prog) (w:=w) (a:=a) (ep:=ep) (es:=es)).length_eq;simpa using this
theorem vz0 {Q:Option (Value × Nat)->Shared->Prop} (S:SObj prog w s.heap a o es ep t) (hb:bT prog w=false->SetTable.below t.place sl=i)
    (some':∀ e nx,(ordS prog w a ep es)[i]?=some e->(bT prog w=false->SetTable.below t.place nx=i + 1)->Q (some (e.2,nx)) s) (none':(ordS prog w a ep es)[i]?=none->Q none s) :
    wpAny [8] A (setNext a sl i ep) Q E s:=by
 unfold setNext setsByText;refine wpAny_bind [44];dsimp only;refine wpAny_bind (wpAny_bind (wpAny_askSetting [28]));unfold ordS at some' none';by_cases c:bT prog w=true
 ·rw [if_pos (show [8].w.params.followText "set-order" = true from c)];rw [if_pos c] at some' none';rw [if_neg [17]];refine wpAny_bind ?_;unfold setWalk setsByText;refine wpAny_bind [44];dsimp only;refine wpAny_bind (wpAny_bind (wpAny_askSetting [28]));rw [if_pos (show [8].w.params.followText "set-order" = true from c)];refine wpAny_bind (wpAny_askSetting (wpAny_pure [28]));show Q (Option.map _ (pickOrder ([8].w.params.setOrder a ep) es)[i]?) s;cases e:(pickOrder ([8].w.params.setOrder a ep) es)[i]? with
  | none=>exact none' e
  | some v=>simp [*]
 ·have cf:bT prog w=false:=by simpa using c
  rw [if_neg (show ¬ [8].w.params.followText "set-order" = true from c)];rw [if_neg c] at some' none';split
  ·next dr =>
   have:(!t.plain && decide (es.size > 1))=true:=dr;rw [S.pl] at this;cases this
  ·refine wpAny_bind ?_;show wpAny _ _ (ite (_=true) _ (pure PUnit.unit)) _ _ _;rw [if_neg (by rw [S.le,cf]; simp)];refine wpAny_pure [28];rw [hb cf];cases e:es[i]? with
   | none=>exact none' e
   | some v =>
    have hlt:i < t.place.size:=by
     have h1:=S.sz;have:=(Array.getElem?_eq_some_iff.mp e).1;omega
    have q:t.place[i]?=some t.place[i]:=Array.getElem?_eq_getElem hlt;rw [q];exact some' v _ e (λ _=>wg5 S.ris q)
theorem vu2 {Q:Option Value->Shared->Prop} (S:SObj prog w s.heap a o es ep t) (hi:SIt s.heap it a sl i es.size ep) (hb:bT prog w=false->SetTable.below t.place sl=i) (lt:i < es.size)
    (q:∀ h' e nx,(ordS prog w a ep es)[i]?=some e->SIt h' it a nx (i + 1) es.size ep->(bT prog w=false->SetTable.below t.place nx=i + 1)->Heap.SameBut it s.heap h'->Q (some e.2) [54]):wpAny [8] A (pyNext (.ref it)) Q E s:=by
 obtain ⟨oi,a1,a2,a3⟩:=id hi;have ty:=hi.ty;unfold pyNext;refine wpAny_bind (wpAny_attempt (wpAny_callSpecial?_slot (name:=Str.ofString "__next__") ty slot_sit (wpAny_call_entry slot_sit ty vl1 ?a (wx1 _))))
 case a =>
  unfold Builtin.«set_iterator.__next__»;refine wpAny_bind (m:=slotArgs "__next__" 0 _) [28];refine wpAny_bind (wpAny_fieldsOf a1 a3 ?_);show wpAny _ _ (setEntries a >>= _) _ _ s;refine wpAny_bind (wpAny_setEntries_of S.ho S.hd S.fits ?_);rw [if_neg [17]];show wpAny _ _ (setNext a sl i ep >>= _) _ _ s;refine wpAny_bind (vz0 S hb (λ e nx e1 e2=>?_) λ e=>?_)
  ·show wpAny _ _ (setField (.ref it) 0 (rawInt nx) >>= _) _ _ s;refine wpAny_bind (wpAny_setField a1 a3 [17] ?_);obtain ⟨o1,b1,b2,b3⟩:=wo2 a1 a2 a3 0 (rawInt nx);show wpAny _ _ (setField (.ref it) 1 (rawInt ((i:Int) + 1)) >>= _) _ _ _;refine wpAny_bind (wpAny_setField b1 b3 [17] ?_);obtain ⟨o2,c1,c2,c3⟩:=wo2 b1 b2 b3 1 (rawInt ((i:Int) + 1));show wpAny _ _ (ret e.2) _ _ _;exact wpAny_pure ⟨_,rfl,wpAny_pure (q _ e nx e1 ⟨o2,c1,c2,c3⟩ e2 ([77].trans [77]))⟩
  ·rw [Array.getElem?_eq_getElem (by rw [sf1]; exact lt)] at e;cases e
theorem sn3 {Q:Option Value->Shared->Prop} (hh:A.handled=none) (S:SObj prog w s.heap a o es ep t) (hi:SIt s.heap it a sl es.size es.size ep) (hb:bT prog w=false->SetTable.below t.place sl=es.size)
    (q:∀ h',Heap.ExtBut it s.heap h'->Q none [54]):wpAny [8] A (pyNext (.ref it)) Q E s:=by
 obtain ⟨oi,a1,a2,a3⟩:=id hi;have ty:=hi.ty;unfold pyNext;refine wpAny_bind (wpAny_attempt (wpAny_callSpecial?_slot (name:=Str.ofString "__next__") ty slot_sit (wpAny_call_entry slot_sit ty vl1 ?a (wx1 _))))
 case a =>
  unfold Builtin.«set_iterator.__next__»;refine wpAny_bind (m:=slotArgs "__next__" 0 _) [28];refine wpAny_bind (wpAny_fieldsOf a1 a3 ?_);show wpAny _ _ (setEntries a >>= _) _ _ s;refine wpAny_bind (wpAny_setEntries_of S.ho S.hd S.fits ?_);rw [if_neg [17]];show wpAny _ _ (setNext a sl es.size ep >>= _) _ _ s;refine wpAny_bind (vz0 S hb (λ e nx e1 e2=>?_) λ e=>?_)
  ·rw [Array.getElem?_eq_none (by rw [sf1]; exact Nat.le_refl _)] at e1;cases e1
  ·show wpAny _ _ (setField (.ref it) 2 .none >>= _) _ _ s; refine wpAny_bind (wpAny_setField a1 a3 [17] ?_);show wpAny _ _ (newExc (.type "StopIteration") [] >>= _) _ _ _; refine wpAny_bind ?_; simp only [newExc,newTuple];refine wpAny_bind (wpAny_newObj_type (wpAny_bind (m:=firstArgMember _ _) (wpAny_of_eq (a:=Value.none) (by rfl) (wpAny_newObj_type ?_ (by size_fits)))) (by size_fits));simp only [raiseNew]; refine wpAny_bind (wpAny_handled ?_); rw [show A.in1.handled=none from hh];refine wpAny_bind (wpAny_pure (wpAny_throw ?_)); refine wpAny_bind (wpAny_isInstance (T := "StopIteration") (b:=true) ⟨_,Heap.get?_push_size _ rfl,rfl⟩ isSubtype_stop ?_);exact wpAny_pure (q _ (([77].extBut.push _).push _))
theorem wu2 {Q:[7]} (hi:SIt s.heap it a sl i n ep) (h:Q (.ref it) s):wpAny [8] A (pyIter (.ref it)) Q E s:=by
 have ty:=hi.ty;refine wpAny_pyIter_slot ty sr1 (wpAny_call_entry sr1 ty so2 ?_ (yd3 _));show wpAny _ _ (ret (.ref it)) _ _ s;exact wpAny_pure ⟨_,rfl, "set_iterator",_,ty,slot_sit.lookup,h⟩
theorem uz2 (ty:s.TypeIs (.ref a) "set") (h:Q false s):wpAny [8] A (Builtin.List.listLengthHint (.ref a)) Q E s:=by
 unfold Builtin.List.listLengthHint;refine wpAny_bind (wpAny_specialOf ty PySem.F.slot_set_len.lookup ?_); generalize hid:("set.__len__" : String)=id0; wp_delta;rw [show splitId id0=some ("set", "__len__") from by subst hid; decide +kernel]; subst hid;refine wpAny_bind (wpAny_isInstance (T := "set") (b:=true) ty (by rfl) ?_);refine wpAny_ite_split (λ c=>absurd c [14]) (λ _=>?_); refine wpAny_ite_split (λ _=>?_) (λ c=>absurd [20] c);exact wpAny_bind (wpAny_typeOf ty (wpAny_pure h))
theorem yg2 (hh:A.handled=none) (I a:Addr) (ne:a ≠ I):Walks prog w A I [I,a] [I] es.size (λ i v=>∃ e,(ordS prog w a ep es)[i]?=some e /\ v=e.2)
    (λ i h=>∃ sl,SIt h I a sl i es.size ep /\ (bT prog w=false->SetTable.below t.place sl=i) /\ SObj prog w h a o es ep t) where
 sub:=λ b hb=>by simp_all
 frame:=λ _ _ _ z hk=>by
  obtain ⟨sl,z1,z2,z3⟩:=z;exact ⟨sl,z1.keep λ o e=>hk I [17] o e,z2,z3.keep λ o e=>hk a [17] o e⟩
 item:=λ i s Q E hi z q=>by
  obtain ⟨sl,z1,z2,z3⟩:=z;refine vu2 z3 z1 z2 hi λ h' e nx a1 a2 a3 a4=>?_;exact q _ h' s.toks ⟨e,a1,rfl⟩ ⟨nx,a2,a3,z3.keep λ o e=>a4.extBut a o ne e⟩ λ b o hb e=>a4.extBut b o (λ y=>hb (by simp [y])) e
 done:=λ s Q E z q=>by
  obtain ⟨sl,z1,z2,z3⟩:=z;exact sn3 hh z3 z1 z2 λ h' k=>q h' s.toks λ b o hb e=>k b o (λ y=>hb (by simp [y])) e
 self:=λ _ _ _ _ z q=>by
  obtain ⟨sl,z1,_⟩:=z;exact wu2 z1 q
theorem uo3:KdlSrc prog w "set" a a es.size (λ i v=>∃ e,(ordS prog w a ep es)[i]?=some e /\ v=e.2) (λ h=>SObj prog w h a o es ep t) where
 type:=λ _ x=>⟨o,x.ho,x.ex.1⟩
 there:=λ _ x=>⟨Heap.lt_size x.ho,Heap.lt_size x.ho⟩
 keep:=λ _ _ x k=>x.keep λ o e=>k a (.inl rfl) o e
 notList:=by decide
 notTuple:=by decide
 hint:=λ _ _ _ _ x q=>uz2 ⟨o,x.ho,x.ex.1⟩ q
 iter:=λ _ s hh x=>by
  have hl:=Heap.lt_size x.ho;exact ⟨_,_,(λ _ _ q=>uu2 x q),yg2 hh _ a (Nat.ne_of_lt hl),⟨0,[53],(λ _=>vg5 x.ris),x.keep λ o e=>Heap.get?_push_of_some _ e⟩⟩
theorem xn2 {acc:Array Value} (h:ItemsOf (λ i v=>∃ e,(ordS prog w a ep es)[i]?=some e /\ v=e.2) acc es.size):acc.toList=(ordS prog w a ep es).toList.map (·.2):=by
 obtain ⟨h1,h2⟩:=h;have h3:=sf1 (prog:=prog) (w:=w) (a:=a) (ep:=ep) (es:=es);apply List.ext_getElem?;intro i;rw [getElem?_map,getElem?_toList,getElem?_toList];by_cases c:i < es.size
 ·obtain ⟨e,e1,e2⟩:=h2 i (acc[i]'(by omega)) [17]
  simp_all
 simp_all
theorem we3:∀ {h:Heap} {ys:List (T3 × Addr)},(∀ x ∈ ys,TK prog w h x.1 x.2)->T3s h (ys.map λ x=>Value.ref x.2) (ys.map (·.1))
 | _,[],_=>trivial
 | _,x :: ys,k=>⟨(k x [65]).t3,we3 λ y hy=>k y (mem_cons_of_mem _ hy)⟩
theorem zy1 {Q:[7]} (hh:A.handled=none) (S:SetG prog w hf s.heap a xs) (h64:xs.length < 64)
    (h:∀ (ys:List (T3 × Addr)) (p:[76]) (h1 h':Heap) (c tk:Nat),ys.Perm xs->p.Perm (List.toArray (List.range ys.length))->Ms.Up (ltI (ys.map (·.1))) p ys.length->(∀ b o,s.heap.get? b=some o->h1.get? b=some o)->(∀ b o,h1.get? b=some o->h'.get? b=some o) ->
     h'.get? h1.objs.size=some (seqObj "list" (outV (ys.map λ x=>Value.ref x.2) p).toArray c)->Q (.ref h1.objs.size) [59]) :
    wpAny [8] A (call (.builtin "sorted") [.ref a]) Q E s:=by
 obtain ⟨o,es,ep,t,S,_⟩:=S;have zs:=S.size;have hz:es.size<=sizeLine:=by rw [sizeLine_eq]; omega
 obtain ⟨ys,py,ey⟩:=yx2 (f:=ent hf) (tt1 (prog:=prog) (w:=w) (a:=a) (ep:=ep) (es:=es)) xs S.el;refine Calls.call_function_entry kind_sorted plain_sorted entry_sorted (args_sorted1 _) ?_;unfold Builtin.«sorted»;refine wpAny_bind (m:=checkCount "sorted" 1 1 _) (wpAny_pure (wpAny_bind (kdu_collect (uo3 (o:=o) (t:=t)) hh S.obj hz λ h1 tk acc k1 ia=>?_)));rw [xn2 ia,ey,map_map,show ((λ x:Int × Value=>x.2) ∘ ent hf)=(λ x:T3 × Addr=>Value.ref x.2) from rfl];have l0:=py.length_eq;have l1:(ys.map λ x=>Value.ref x.2).length=ys.length:=length_map _;refine wpAny_bind (wpAny_newList ?_ [5]);have k2:∀ b o,s.heap.get? b=some o->(h1.push (seqObj "list" (ys.map λ x=>Value.ref x.2).toArray 0)).get? b=some o:=λ b o q=>Heap.get?_push_of_some _ (k1 b o q);have zo:(h1.push (seqObj "list" (ys.map λ x=>Value.ref x.2).toArray 0)).get? h1.objs.size=some (seqObj "list" (ys.map λ x=>Value.ref x.2).toArray 0):=Heap.get?_push_size _ rfl;have tt:=Lw.mono (λ _ _=>ti3.kept λ b o e _=>k2 b o e) (we3 (prog:=prog) (w:=w) (h:=s.heap) (ys:=ys) λ x hx=>S.ks x (py.mem_iff.mp hx));show wpAny _ _ _ _ _ { s with heap:=h1.push (seqObj "list" (ys.map λ x=>Value.ref x.2).toArray 0),toks:=tk };refine wpAny_bind (wpAny_holding (wpAny_call_entry slot_list_sort ⟨_,zo,rfl⟩ entry_list_sort (ul2 (s:={ s with heap:=h1.push (seqObj "list" (ys.map λ x=>Value.ref x.2).toArray 0),toks:=tk }) (ti3.sk tt) [18] zo (λ h' g=>ti3.keep zo g tt) [5] λ p h' c a1 a2 a3 a4=>⟨_,rfl,?_⟩) (args_list_sort _)));rw [l1] at a1 a2;exact wpAny_pure ⟨_,rfl,h ys p h1 h' c tk py a1 a2 k1 (λ b o q=>a3 b o (Nat.ne_of_lt (Heap.lt_size q)) (Heap.get?_push_of_some _ q)) a4⟩
end
abbrev vT (t:T3):List V:=[.int t.1,.int t.2.1,.int t.2.2]
def SB (ts:[50]):Prop:=∀ l:List T3,l.Nodup->(∀ x ∈ l,x ∈ ts)->l.length < 63
abbrev TSt:=L2.St->Hp->(List (T3 × Addr)->Hp->Prop)->Prop
def SE (X:Cx) (pins:[19]) (σ:L2.St) (R:List (T3 × Addr)->Hp->Prop) (u:Value) (s':[47]):Prop :=
 ∃ a xs H',u=.ref a /\ Inv X pins σ H' s' /\ FpOk X pins H' a /\ SetG X.prog X.w (hT X.prog X.w) s'.heap a xs /\ (∀ x ∈ xs,H' x.2=some (.tup (vT x.1))) /\ xs.length < 63 /\ R xs H'
def PSt (X:Cx) (e:Expr) (t:TSt):Prop :=
 ∀ (pins:[19]) (s:[47]) (σ:L2.St) (H:Hp) (R:List (T3 × Addr)->Hp->Prop),Inv X pins σ H s->t σ H R->wpAny [11] X.A (eval e X.env) (SE X pins σ R) X.xe s
theorem ve3 {prog:[60]} {w:World} {h:Heap}:∀ {us:[25]} {ts:[50]} {i:Nat} {v:Value},T3s h us ts->us[i]?=some v->i < ts.length /\ ∃ b,v=.ref b /\ TK prog w h (ts.getD i (0,0,0)) b
 | [],[],i,v,_,e=>by simp at e
 | [],_ :: _,_,_,z,_=>z.elim
 | _ :: _,[],_,_,z,_=>z.elim
 | u :: us,t :: ts,0,v,z,e=>by
  simp only [List.getElem?_cons_zero,Option.some.injEq] at e;subst e;obtain ⟨a,o,t1,t2,t3,n,rfl,e2⟩:=id z.1;exact ⟨by simp,a,rfl,(show TK prog w h t a from IsT3.key z.1)⟩
 | u :: us,t :: ts,i + 1,v,z,e=>by
  simp only [List.getElem?_cons_succ] at e;obtain ⟨h1,b,h2,h3⟩:=ve3 (prog:=prog) (w:=w) z.2 e
  simp_all
theorem xe3 {K:Fg} {H:Hp}:∀ {vs:List V} {ts:[50]} {us:[25]} {i:Nat} {b:Addr},V3s K H vs ts->Vals vs us->us[i]?=some (.ref b)->H b=some (.tup (vT (ts.getD i (0,0,0))))
 | [],[],_,i,b,_,.nil,e=>by simp at e
 | [],_ :: _,_,_,_,z,_,_=>z.elim
 | _ :: _,[],_,_,_,z,_,_=>z.elim
 | v :: vs,t :: ts,_,0,b,z,.cons r rs,e=>by
  simp only [List.getElem?_cons_zero,Option.some.injEq] at e;subst e;obtain ⟨⟨a,rfl,hq⟩,_⟩:=z;cases r;exact hq
 | v :: vs,t :: ts,_,i + 1,b,z,.cons r rs,e=>by
  simp only [List.getElem?_cons_succ] at e;exact (show H b=some (.tup (vT (ts.getD i (0,0,0)))) from xe3 (K:=K) z.2 rs e)
variable {X:Cx} {e:Expr}
section
variable {p p2 pos pos2:Pos}
def th5 (K:Fg) (ta:TA):TSt:=λ σ H R=>ta σ H λ xs H1=>∃ p vs ts,xs=[.ref p] /\ SqL K H1 p vs /\ V3s K H1 vs ts /\ SB ts ∧
 ∀ ys:List (T3 × Addr),(ys.map (·.1)).Nodup->(∀ t,t ∈ ys.map (·.1) ↔ t ∈ ts)->(∀ y ∈ ys,H1 y.2=some (.tup (vT y.1)))->R ys H1
theorem ux3 {items:[25]} {ts:[50]} {ys:List (T3 × Addr)} {Pr:Nat->Value->Prop} (hl:items.length=ts.length) (g:Got Pr (λ i=>ts.getD i (0,0,0)) items.length ys) (t:T3):t ∈ ys.map (·.1) ↔ t ∈ ts:=by
 constructor
 ·intro h;obtain ⟨y,hy,rfl⟩:=List.mem_map.mp h;obtain ⟨j,h1,_,h2⟩:=g.1 y hy;have h2:ts.getD j (0,0,0)=y.1:=h2;rw [<- h2,List.getD_eq_getElem?_getD,getElem?_eq_getElem [5]];simp
 ·intro h;obtain ⟨j,hj,e⟩:=List.getElem_of_mem h;have:ts.getD j (0,0,0) ∈ _:=g.2 j [5]
  simp_all
theorem wj2 {ta:TA} (hc:[82]) (hu:[68]) (hg:Gl X "set") (hm:X.mg "set" = none) (ha:PA X [e] ta) (hs:starEach [e] X.env=[[26]]:=by rfl) :
    PSt X (.Call (.Name "set" p) [e] [] pos) (th5 X.K ta):=by
 intro pins s σ H R I h;refine Call_ (xo0 I hg hm uf5 (PyProof.Rows.callWith_type1 (thn (ha pos pins s σ H _ I h) λ us s1 ⟨vs,H1,I1,r1,q1⟩=>?_) hs rfl));obtain ⟨a,ws,ts,e1,hq,h3,hB,k⟩:=q1;subst e1;cases r1 with
 | cons r rr =>
  cases rr;cases r
  have key:∀ {its:[25]},Vals ws its->(∀ l:List T3,l.Nodup->(∀ x ∈ l,∃ j,j < its.toArray.size /\ ts.getD j (0,0,0)=x)->l.length < 63) ∧
      (∀ i v,i < its.toArray.size->its.toArray[i]?=some v->∃ b,v=.ref b /\ TK X.prog X.w s1.heap (ts.getD i (0,0,0)) b) ∧
      ∀ (h':Heap) (tk:Nat) xs,KpH s1.heap h'->SetG X.prog X.w (hT X.prog X.w) h' s1.heap.objs.size xs->Got (λ i v=>its.toArray[i]?=some v) (λ i=>ts.getD i (0,0,0)) its.toArray.size xs->SE X pins σ R (.ref s1.heap.objs.size) { s1 with heap:=h',toks:=tk }:=λ {its} rv=>by
   have l1:=h3.len;have l2:=rv.length;have l3:its.toArray.size=its.length:=size_toArray
   have B:∀ l:List T3,l.Nodup->(∀ x ∈ l,∃ j,j < its.toArray.size /\ ts.getD j (0,0,0)=x)->l.length < 63:=λ l nd hl=>hB l nd λ x hx=>by
    obtain ⟨j,h1,h2⟩:=hl x hx;rw [<- h2,List.getD_eq_getElem?_getD,getElem?_eq_getElem [5]];simp
   refine ⟨B,λ i v lt e=>(ve3 (tq1 I1 h3 rv) (by simpa using e)).2,λ h' tk xs kp sg g=>?_⟩;have sq:∀ x ∈ xs,H1 x.2=some (.tup (vT x.1)):=λ x hx=>?_
   ·exact ⟨_,xs,H1,rfl,I1.kept kp,I1.fpOk [18] (I1.hok.fresh [18]),sg,sq,g.len [18] sg.nd B,k xs sg.nd (ux3 (items:=its) [5] [5]) sq⟩
   obtain ⟨j,_,h2,h3'⟩:=g.1 x hx;have h3':ts.getD j (0,0,0)=x.1:=h3';have:=xe3 h3 rv (i:=j) (b:=x.2) (by simpa using h2)
   rwa [h3'] at this
  obtain ⟨its,rv,pl,hz⟩:=I1.list hq;obtain ⟨k1,k2,k3⟩:=key rv;exact xe1 (I1.ok.hd hc) [5] pl.isList k2 k1 k3
def uh5 (K:Fg) (ts:TSt):TE:=λ σ H Q=>ts σ H λ xs H1=>∀ (ys:List (T3 × Addr)),ys.Perm xs->∀ q:Array Nat,q.Perm (List.toArray (List.range ys.length))->Ms.Up (ltI (ys.map (·.1))) q ys.length->V3s K H1 (ys.map λ x=>V.ref x.2) (ys.map (·.1)) ->
 ∀ r,H1 r=none->Q (.ref r) (upd H1 r (.lst (q.toList.map λ i=>(ys.map λ x=>V.ref x.2).getD i .non)))
theorem sd3 {K:Fg} {H:Hp}:∀ {ys:List (T3 × Addr)},(∀ x ∈ ys,H x.2=some (.tup (vT x.1)))->V3s K H (ys.map λ x=>V.ref x.2) (ys.map (·.1))
 | [],_=>trivial
 | y :: ys,h=>⟨⟨_,rfl,h y [65]⟩,sd3 (K:=K) λ x hx=>h x (mem_cons_of_mem _ hx)⟩
theorem td2:∀ (ys:List (T3 × Addr)),Vals (ys.map λ x=>V.ref x.2) (ys.map λ x=>Value.ref x.2)
 | []=>.nil
 | y :: ys=>.cons rfl (td2 ys)
theorem uu3 {ts:TSt} (hc:[82]) (hg:Gl X "sorted") (hm:X.mg "sorted" = none) (hp:PSt X e ts) (hs:starEach [e] X.env=[[26]]:=by rfl):PE X (.Call (.Name "sorted" p) [e] [] pos) (uh5 X.K ts):=by
 intro pins s σ H Q I h;refine Call_ (xo0 I hg hm sx0 (PyProof.Rows.callWith_builtin1 ?_ hs rfl));rw [hs];show wpAny _ _ (spliced ([26] :: backTo pos (starEach [] X.env))) _ _ s;refine Calls.spliced_cons ?_;refine thn (hp pins s σ H _ I h) λ u s1 q=>?_;obtain ⟨a,xs,H1,rfl,I1,fp,sg,sq,ln,k⟩:=q;refine Calls.spliced_nil ?_;refine zy1 (I1.ok.hd hc) sg [5] λ ys q h1 h' c tk py a1 a2 a3 a4 a5=>?_;have I2:Inv X pins σ H1 { s1 with heap:=h1,toks:=tk }:=I1.kept a3;have sz:q.toList.length=ys.length:=by have:=a1.size_eq; simpa using this
 have l0:=py.length_eq
 have lt':∀ i ∈ q.toList,i < (ys.map λ x=>V.ref x.2).length:=λ i hi=>by
  have e:i ∈ List.toArray (List.range ys.length):=a1.mem_iff.mp (by simpa using hi)
  simp_all
 refine ⟨.ref _,_,I2.laid (t':=tk) a4 [18] (show ObjOk X.prog X.w _ h' _ (.lst (q.toList.map λ i=>(ys.map λ x=>V.ref x.2).getD i .non)) from ⟨by rw [length_map,sz,sizeLine_eq]; omega,_,c,zu0 (td2 ys) _ lt',a5⟩),rfl,?_⟩;exact k ys py q a1 a2 (sd3 λ x hx=>sq x (py.mem_iff.mp hx)) _ (I2.hok.fresh [18])
end
abbrev TSt3:=St3->Mu->(List T3->Mu->Prop)->Prop
def RdSt (K:Fg) (tv:TSt) (t:TSt3):Prop:=∀ σ H R ρ μ R3,RSt K H ρ σ->RelM K μ H->t ρ μ R3->(∀ xs μ' H',R3 (xs.map (·.1)) μ'->(xs.map (·.1)).Nodup->(∀ x ∈ xs,H' x.2=some (.tup (vT x.1)))->Kp H H'->RelM K μ' H'->R xs H')->tv σ H R
def REs (X:Cx) (e:Expr) (t:TSt3):Prop:=∃ tv,PSt X e tv /\ RdSt X.K tv t
def tt2 (t:TA3):TSt3:=λ ρ μ R=>t ρ μ λ ds μ1=>∃ ts,(match ds with
 | [.ref p]=>μ1 p=some (.lst [16])
 | _=>False) /\ SB ts /\ ∀ ks:List T3,ks.Nodup->(∀ x,x ∈ ks ↔ x ∈ ts)->R ks μ1
def xu2 (t:TSt3):TE3:=λ ρ μ Q=>t ρ μ λ ks μ1=>∀ us:List T3,us.Perm ks->us.Pairwise le3->∀ r,μ1 r=none->Q (.ref r) (updM μ1 r (.lst (us.map encT)))
section
variable {p p2 pos pos2:Pos} {t:TE3}
theorem sp3 (he:RE X e t) (hm:X.mg "set" = none) (hu:[68]) (hc:X.calm=true:=by rfl) (hg:Gl X "set" := by rfl) (hs:starEach [e] X.env=[[26]]:=by rfl):REs X (.Call (.Name "set" p) [e] [] pos) (tt2 (xa0 t nil3)):=by
 obtain ⟨va,pa,ra⟩:=ua0 he yb0 hs;refine ⟨_,wj2 hc hu hg hm pa hs,λ σ H R ρ μ R3 s m h k=>ra σ H _ ρ μ _ s m h λ ds μ1 vs H1 h1 k1 r1 m1=>?_⟩;obtain ⟨ts,hd,hB,q⟩:=h1;cases r1 with
 | nil=>exact hd.elim
 | cons r1 r2 =>
  cases r2 with
  | cons _ _=>simp_all
  | nil =>
   cases r1 with
   | ref a =>
    obtain ⟨us,hv,rv⟩:=m1 a _ hd;exact ⟨a,us,ts,rfl,SqL.of hv,uq1 rv,hB,λ ys nd al sq=>k ys μ1 H1 (q _ nd al) nd sq k1 m1⟩
   | _=>exact hd.elim
theorem zr3 {ts:TSt3} (he:REs X e ts) (hm:X.mg "sorted" = none) (hc:X.calm=true:=by rfl) (hg:Gl X "sorted" := by rfl) (hs:starEach [e] X.env=[[26]]:=by rfl):RE X (.Call (.Name "sorted" p) [e] [] pos) (xu2 ts):=by
 obtain ⟨va,pa,ra⟩:=he;refine ⟨_,uu3 hc hg hm pa hs,λ σ H Q ρ μ Q3 s m h k=>ra σ H _ ρ μ _ s m h λ xs μ1 H1 h1 nd1 sq1 k1 m1=>?_⟩;intro ys py q a1 a2 v3 r hr;have l1:(ys.map (·.1)).length=ys.length:=length_map _;rw [<- l1] at a1 a2
 have lt':∀ i ∈ q.toList,i < (ys.map λ x=>V.ref x.2).length:=λ i hi=>by
  have e:i ∈ List.toArray (List.range (ys.map (·.1)).length):=a1.mem_iff.mp (by simpa using hi)
  simp_all
 exact k _ _ _ _ (h1 _ ((xj1 a1).trans (py.map _)) (sf2 a1 a2) r (m1.free hr)) (k1.trans (Kp.new hr)) (.ref r) (m1.newL hr (sp0 (ss1 v3) _ lt'))
end
def xy2:C3:=λ ds μ Q=>match ds with
 | [.tup l]=>∀ r,μ r=none->Q (.ref r) (updM μ r (.lst l))
 | [.ref p]=>match μ p with
  | some (.lst l)=>∀ r,μ r=none->Q (.ref r) (updM μ r (.lst l))
  | _=>False
 | _=>False
section
variable {o:Expr} {es:[67]} {to:TE3} {t:TA3} {apos cpos:Pos}
theorem zt4:RC X (.type "list") xy2:=by
 refine ⟨_,sl1,λ xs vs H Q μ Q3 m r h k=>?_⟩;cases r with
 | nil=>exact h.elim
 | cons r1 r2 =>
  cases r2 with
  | cons _ _=>cases r1 <;> exact h.elim
  | nil =>
   cases r1 with
   | tup hq rs=>exact ⟨_,_,rfl,.inr (SqT.of hq),λ r hr=>k _ _ _ _ (h r (m.free hr)) (Kp.new hr) (.ref r) (m.newL hr rs)⟩
   | ref p =>
    dsimp only [xy2] at h;cases e0:μ p with
    | none=>simp_all
    | some oo =>
     cases oo with
     | dcl _ _=>simp_all
     | lst l =>
      rw [e0] at h;dsimp only at h;obtain ⟨us,hv,rs⟩:=m p l e0;exact ⟨_,_,rfl,.inl (SqL.of hv),λ r hr=>k _ _ _ _ (h r (m.free hr)) (Kp.new hr) (.ref r) (m.newL hr rs)⟩
   | _=>exact h.elim
end
end Pv
namespace Pv
open PySem
def isN:D->Bool
 | .non=>true
 | _=>false
def isNR (neg:Bool):R3:=λ x y μ Q=>match y with
 | .non=>Q (.bl (if neg then !isN x else isN x)) μ
 | _=>False
def maxR:C3:=λ ds μ Q=>match ds with
 | [.int i,.int j]=>Q (.int (if j > i then j else i)) μ
 | _=>False
def mnR:C3:=λ ds μ Q=>match ds with
 | [.ref p]=>match μ p with
  | some (.lst l)=>match ints? l with
   | some ns=>0 < ns.length /\ ∀ m,m ∈ ns->(∀ a,a ∈ ns->m<=a)->Q (.int m) μ
   | none=>False
  | _=>False
 | _=>False
def mxR:C3:=λ ds μ Q=>match ds with
 | [.int i,.int j]=>Q (.int (if j > i then j else i)) μ
 | [.ref p]=>match μ p with
  | some (.lst l)=>match ints? l with
   | some ns=>0 < ns.length /\ ∀ m,m ∈ ns->(∀ a,a ∈ ns->a<=m)->Q (.int m) μ
   | none=>False
  | _=>False
 | _=>False
variable {p:Addr} {ns:[64]} {μ:Mu} {Q:VK3}
theorem ty4 (h:μ p=some (.lst (ns.map D.int))) (k:0 < ns.length /\ ∀ m,m ∈ ns->(∀ a,a ∈ ns->m<=a)->Q (.int m) μ):mnR [.ref p] μ Q:=by
 have e:∀ ns:List Int,ints? (ns.map D.int)=some ns:=λ ns=>by
  induction ns with
  | nil=>rfl
  | cons n r ih=>simp only [map_cons,ints?,ih]
 unfold mnR;simp only [h,e];exact k
theorem uy4 (h:μ p=some (.lst (ns.map D.int))) (k:0 < ns.length /\ ∀ m,m ∈ ns->(∀ a,a ∈ ns->a<=m)->Q (.int m) μ):mxR [.ref p] μ Q:=by
 have e:∀ ns:List Int,ints? (ns.map D.int)=some ns:=λ ns=>by
  induction ns with
  | nil=>rfl
  | cons n r ih=>simp only [map_cons,ints?,ih]
 unfold mxR;simp only [h,e];exact k
abbrev XE3:=Str->Mu->Prop
def vq0 (XE:XE3) (x:Str) (t:TA3):TS3:=λ _ ρ μ=>t ρ μ λ ds μ1=>ds.length<=sizeLine /\ XE x μ1
def isx3 (t:TE3) (sub:Str->Option Bool):TE3:=λ ρ μ Q=>t ρ μ λ d μ1=>match d with
 | .exc c=>match sub c with
  | some b=>Q (.bl b) μ1
  | _=>False
 | _=>False
def try3 (i:Nat) (spx:XE3->Sp3) (st:D->St3->St3) (ok:Str->Bool) (ta:TA3) (ts:TS3):TS3:=λ D' ρ μ=>ta ρ μ λ ds μ1 =>
 spx (λ c μ2=>ok c=true /\ ts { nx:=λ ρ' μ'=>D'.nx (ρ'.set i none) μ',rt:=λ _ _=>False } (ρ.set i (some (.exc c))) μ2) ds μ1 (λ d μ2=>D'.nx (st d ρ) μ2)
def tu2 (j:Nat):D->St3->St3:=λ d ρ=>ρ.set j (some d)
end Pv
namespace Pv
open PySem PySem.Spec PyProof.Rows L2
open Sem (wp)
def F2 (h:Heap) (e:Addr):Prop:=∃ oe vs,h.get? e=some oe /\ oe.data=.fields vs /\ vs[2]?=some .none
structure Kf {α:Type} (e:Addr) (t:Sem α):Prop where
 out:∀ (M:Model) (Γ:PySem.Ctx) (P:α->Pos->Shared->Prop) (E:Value->Pos->Shared->Prop) (p:Pos) (s:Shared),F2 s.heap e->wp M Γ t P E p s->wp M Γ t (λ a p' s'=>P a p' s' /\ F2 s'.heap e) E p s
variable {e:Addr} {M:Model} {A:Around} {s:[47]}
namespace Kf
variable {α β:Type} 
theorem pure (a:α):Kf e (Pure.pure a:Sem α):=⟨λ _ _ _ _ _ _ f h=>⟨h,f⟩⟩
theorem uns (w:String):Kf e (unsupported w:Sem α):=⟨λ _ _ _ _ _ _ _ h=>h⟩
theorem bind {m:Sem α} {g:α->Sem β} (hm:Kf e m) (hg:∀ a,Kf e (g a)):Kf e (m >>= g):=⟨λ M Γ P E p s f h=>by
 rw [Sem.wp_bind'] at h ⊢;exact Sem.wp_mono M Γ m (λ a p' s' ⟨h1,f1⟩=>(hg a).out M Γ P E p' s' f1 h1) (λ _ _ _ x=>x) p s (hm.out M Γ _ E p s f h)⟩
theorem ite {c:Prop} [Decidable c] {t u:Sem α} (ht:Kf e t) (hu:Kf e u):Kf e (if c then t else u):=by split <;> assumption
theorem load (a:Addr):Kf e (PySem.load a):=⟨λ _ _ _ _ _ _ f ⟨o,h1,h2⟩=>⟨o,h1,h2,f⟩⟩
theorem stack:Kf e PySem.stack:=⟨λ M Γ P E p s f h=>by
 trivial⟩
theorem alloc (o:Obj):Kf e (PySem.alloc o):=⟨λ _ _ _ _ _ _ ⟨oe,vs,h1,h2,h3⟩ h=>⟨h,oe,vs,Heap.get?_push_of_some _ h1,h2,h3⟩⟩
theorem slots (a:Addr) (g:Obj->Array (Option Value)):Kf e (PySem.update a λ o=>{ o with slots:=g o }):=⟨λ _ _ _ _ _ s ⟨oe,vs,h1,h2,h3⟩ ⟨h,k⟩=>⟨h,k,by
 by_cases q:a=e
 ·subst q;exact ⟨_,vs,Heap.get?_update_self (λ o=>{ o with slots:=g o }) h1 (Obj.isFreed_of_fields h2),h2,h3⟩
 ·exact ⟨oe,vs,(Heap.get?_update_ne _ _ _ _ (Ne.symm q)).trans h1,h2,h3⟩⟩⟩
theorem field (v:Value) (i:Nat):Kf e (PySem.field v i):=⟨λ _ Γ P E p s f h=>by
 rw [wp_field_iff] at h ⊢
 simp_all⟩
theorem setField (v:Value) {i:Nat} (x:Value) (hi:i ≠ 2):Kf e (PySem.setField v i x):=⟨λ _ Γ P E p s ⟨oe,vs,h1,h2,h3⟩ h=>by
 rw [wp_setField_iff] at h ⊢;obtain ⟨a,o,ws,k1,k2,k3,k4,k5⟩:=h;refine ⟨a,o,ws,k1,k2,k3,k4,k5,?_⟩;by_cases q:a=e
 ·subst q;have hd:=Obj.data_mapFields h2 (·.setIfInBounds i x);exact ⟨_,_,Heap.get?_update_self (Obj.mapFields (·.setIfInBounds i x)) h1 (Obj.isFreed_of_fields hd),hd,by simp_all⟩
 ·exact ⟨oe,vs,(Heap.get?_update_ne _ _ _ _ (Ne.symm q)).trans h1,h2,h3⟩⟩
theorem to4:∀ l:List Env,Kf e (readyFrames l)
 | []=>Kf.pure _
 | env :: outer=>by
  have ih:=to4 outer;unfold readyFrames;unfold behindIsImport keptBack underTheClaimsCaller
  repeat' with_reducible first | assumption | exact Kf.pure _ | exact Kf.uns _ | exact Kf.field _ _ | exact Kf.load _ | exact Kf.stack | exact Kf.slots _ _ | apply Kf.ite | apply Kf.bind | intro _ | split
theorem note (v:Value) (env:Env):Kf e (noteFrame v env):=by
 have r:=λ l=>to4 (e:=e) l;unfold noteFrame EntryCells.newEntry newFields newObj newObjAsIs PySem.frameOf frameObject entryPlaceOf frameEnvs
 repeat' with_reducible first | assumption | exact Kf.pure _ | exact Kf.uns _ | exact Kf.field _ _ | exact Kf.load _ | exact Kf.stack | exact Kf.alloc _ | exact Kf.setField _ _ [14] | exact r _ | apply Kf.ite | apply Kf.bind | intro _ | split
theorem flight (v:Value) (o:Option Addr):Kf e (setFlight v o):=by
 unfold setFlight
 repeat' with_reducible first | exact Kf.pure _ | exact Kf.field _ _ | exact Kf.setField _ _ [14] | apply Kf.ite | apply Kf.bind | intro _ | split
theorem leav (v:Value) (env:Env):Kf e (leaving env v):=Kf.bind (note v env) λ _=>flight v none
theorem any {t:Sem α} (k:Kf e t) {Q:α->Shared->Prop} {E:[7]} (f:F2 s.heap e) (h:wpAny M A t Q E s):wpAny M A t (λ a s'=>Q a s' /\ F2 s'.heap e) E s :=
 λ Γ p hΓ=>k.out M Γ _ _ p s f (h Γ p hΓ)
theorem any' {o:Prop} {t:Sem α} (k:Kf e t) {Q:α->Shared->Prop} {E:[7]} (f:o->F2 s.heap e) (h:wpAny M A t Q E s):wpAny M A t (λ a s'=>Q a s' /\ (o->F2 s'.heap e)) E s:=by
 by_cases q:o
 ·exact wpAny_mono (k.any (f q) h) (λ _ _ z=>⟨z.1,λ _=>z.2⟩) λ _ _ z=>z
 simp_all
end Kf
def CXn (P:[60]) (w:World):CXT:=λ outer H s E e s'=>∃ (ea:Addr) (cls a0:Value) (H':Hp) (B:Heap),e=.ref ea /\ s'.os=s.os /\ AllBare s'.gens /\ Un (frs outer) [] H H' s.heap s'.heap /\ HOk P w H' s'.heap ∧
 Heap.FlyingW B outer ea cls a0 s'.heap /\ H' ea=none /\ (∀ b o,s'.heap.get? b=some o->b ∉ frs outer->(∃ o',s.heap.get? b=some o')->B.get? b=some o) /\ (∀ b,H' b ≠ none->∃ o,s'.heap.get? b=some o /\ B.get? b=some o) /\ ∃ o:Option Addr,(o=none->F2 s'.heap ea) /\ E cls o H'
variable {P:[60]} {w:World} {K:Fg} {mg:[24]} {base:Heap} {N:[35]} {qual:Str} {scope:Scope} {f:Addr} {cd:Value} {outer:List Env} {s0:[47]} {H0:Hp}
theorem ut1 {E:XK} :
    zn1 (CXn P w) [6] E:=by
 intro pins σ H s e s' I h;obtain ⟨ea,cls,a0,H',B,rfl,os,bare,u2,hok,fl,hea,cov1,cov2,oo,hf2,hE⟩:=h;have u1:Un (frs outer) [] H0 H s0.heap s.heap:=I.base;have habove:s0.heap.objs.size<=[3].locals:=I.ok.above
 have hloc:∀ {b:Addr} {o:Obj},s0.heap.get? b=some o->b ≠ [3].locals:=λ {b o} q z=>by
  have:=Heap.lt_size q;rw [z] at this;exact absurd this (Nat.not_lt.mpr habove)
 have hfs:frs [58]=[3].locals :: frs outer:=rfl
 have hfn:∀ {b:Addr} {o:Obj},s0.heap.get? b=some o->b ∉ frs outer->b ∉ frs [58]:=λ {b o} q z hm=>by
  simp_all
 show wpAny (model P w) (A.deeper [3]) (leaving [3] (.ref ea)) _ _ s';refine wpAny_mono ((Kf.leav _ _).any' hf2 (wpAny_leaves_onW (Q:=λ _ z=>∃ h',z={ s' with heap:=h' } /\ Heap.FlyingW B outer ea cls a0 h' /\ s'.heap.UpToSlots h') I.ok.frames rfl fl λ h' fl' up=>⟨h',rfl,fl',up⟩)) (λ _ z hz=>?_) λ _ _ z=>z;obtain ⟨⟨h',rfl,fl',up⟩,hf3⟩:=hz
 have far:∀ b o,s0.heap.get? b=some o->b ∉ frs outer->∃ o',s'.heap.get? b=some o' /\ B.get? b=some o' /\ h'.get? b=some o':=λ b o q hb=>by
  obtain ⟨o1,e1⟩:=u1.there b o q [17];obtain ⟨o2,e2⟩:=u2.there b o1 e1 [17];have e3:=cov1 b o2 e2 (hfn q hb) ⟨o1,e1⟩;exact ⟨o2,e2,e3,fl'.1 b o2 e3⟩
 have frm:∀ b o,s'.heap.get? b=some o->b ∈ frs outer->∃ sl,h'.get? b=some { o with slots:=sl }:=λ b o q hb=>by
  have hm:b ∈ [58].filterMap (·.frame):=by
   show b ∈ frs _
   simp_all
  obtain ⟨_,o',ho,hnf⟩:=fl.2.2.1.mem hm;rw [q] at ho; cases ho;exact up b o q hnf
 refine ⟨ea,cls,a0,H',B,rfl,os.trans I.os,bare,?_,?_,fl',hea,?_,?_,oo,hf3,hE⟩
 ·refine ⟨λ b o q n hb _=>?_,λ b o q n hb _=>?_,λ b o q n _=>?_,λ b o q _=>?_,λ b xs q=>u2.tups b xs (u1.tups b xs q),λ b o u q=>u2.frzs b o u (u1.frzs b o u q),λ b ps q=>?_⟩
  ·have e1:=u1.keep b o q n hb [17];have e2:=u2.keep b o e1 (u1.free b o q n [17]) (hfn q hb) [17];obtain ⟨o',e3,_,e5⟩:=far b o q hb
   simp_all
  ·obtain ⟨sl,e1⟩:=u1.slot b o q n hb [17];obtain ⟨sl2,e2⟩:=u2.slot b _ e1 (u1.free b o q n [17]) (by show b ∈ frs [58]; simp_all) [17];obtain ⟨sl3,e3⟩:=frm b _ e2 hb;exact ⟨sl3,e3⟩
  ·obtain ⟨o1,e1⟩:=u1.there b o q [17];exact u2.free b o1 e1 (u1.free b o q n [17]) [17]
  ·by_cases hb:b ∈ frs outer
   ·obtain ⟨o1,e1⟩:=u1.there b o q [17];obtain ⟨o2,e2⟩:=u2.there b o1 e1 [17];obtain ⟨sl,e3⟩:=frm b o2 e2 hb;exact ⟨_,e3⟩
   ·obtain ⟨o',_,_,e5⟩:=far b o q hb;exact ⟨o',e5⟩
  ·obtain ⟨m1,e1⟩:=u1.tbls b ps q;obtain ⟨m2,e2⟩:=u2.tbls b _ e1;exact ⟨m1 ++ m2,by simp_all⟩
 ·refine λ a o e=>(hok a o e).stay (λ b u hb q=>?_) (λ _ h=>h) (λ _ _ h=>h)
  have hne:H' b ≠ none:=by
   rcases hb with rfl | hb
   ·rw [e]; simp
   ·rw [hb]; simp
  obtain ⟨o',e1,e2⟩:=cov2 b hne;rw [q] at e1; cases e1;exact fl'.1 b _ e2
 ·intro b o q hb ⟨o',q'⟩;obtain ⟨o2,_,e4,e5⟩:=far b o' q' hb
  simp_all
 ·intro b hb;obtain ⟨o,e1,e2⟩:=cov2 b hb;exact ⟨o,fl'.1 b o e2,e2⟩
variable {H:Hp}
theorem zm0 {h:Heap} {a:Addr} {o:HO} (x:ObjOk P w H h a o):∃ ob,h.get? a=some ob:=by
 induction o with
 | lst xs=>obtain ⟨z,its,n,r,e⟩:=x; exact ⟨_,e⟩
 | tup xs=>obtain ⟨z,its,r,ob,e,c⟩:=x; exact ⟨_,e⟩
 | dK kvs=>obtain ⟨z,y,vs,r,ob,es,ep,e,c⟩:=x; exact ⟨_,e⟩
 | dT kvs=>obtain ⟨z,y,xs,r,ob,es,ep,e,c⟩:=x; exact ⟨_,e⟩
 | set S n=>obtain ⟨ob,es,ep,t,e,c⟩:=x; exact ⟨_,e⟩
 | ins C dx fs=>obtain ⟨d,z,ne,e,mA,_,r⟩:=x; exact ⟨_,e⟩
 | own y=>assumption
 | xd fs=>obtain ⟨mA,⟨od,es,ep,e,c⟩,r⟩:=x; exact ⟨_,e⟩
 | rng lo hi=>obtain ⟨t,u,v,e⟩:=x; exact ⟨_,e⟩
 | frz ob u ih=>obtain ⟨e,q⟩:=x; exact ⟨_,e⟩
 | tbl ps=>exact ⟨_,x⟩
 | met f y=>exact ⟨_,x⟩
 | ext φ=>obtain ⟨p,⟨o,e⟩,st⟩:=x; exact ⟨_,e⟩
variable {pins:[19]} {σ:L2.St} {h1:Heap} {x:Str} {C:Addr} {e₀:Expr} {pos:Pos} {k:Nat} {ps:[35]} {spx:XE3->Sp3}
section
variable {E:XK}
theorem yj2 {a0:Value} {oe:Obj} {ws:Array Value} {oo:Option Addr} (I:L2.Inv [6] pins σ H s) (hxk:∀ b o,s.heap.get? b=some o->h1.get? b=some o) (hxn:s.heap.get? e=none) (he:h1.get? e=some oe) (hd:oe.data=.fields ws) (hw1:ws[1]?=some .none) (hw0:ws[0]?=some a0) (hw2:oo=none->ws[2]?=some .none) (hE:E oe.cls oo H) :
    [6].xe (.ref e) { s with heap:=h1 }:=by
 have u1:Un (frs outer) [] H0 H s0.heap s.heap:=I.base;have e0:=I.env0;have habove:s0.heap.objs.size<=[3].locals:=I.ok.above;have hfs:frs [58]=[3].locals :: frs outer:=rfl
 have hfn:∀ {b:Addr} {o:Obj},s0.heap.get? b=some o->b ∉ frs outer->b ∉ frs [58]:=λ {b o} q z hm=>by
  rw [hfs] at hm;rcases List.mem_cons.mp hm with hm | hm
  ·have:=Heap.lt_size q;rw [hm] at this;exact absurd this (Nat.not_lt.mpr habove)
  ·exact z hm
 have hin:∀ env ∈ [58],∀ b,env.frame=some b->b ∈ frs [58]:=λ env he b hb=>List.mem_filterMap.mpr ⟨env,he,hb⟩;have hfun:s.heap.FunFrames base [58]:=e0.funs;have hl:=funFrames_hide hfun hin;show wpAny (model P w) (A.deeper [3]) (leaving [3] (.ref e)) _ _ _
 have hen:(hideAll s.heap (frs [58])).get? e=none:=by
  cases q:(hideAll s.heap (frs [58])).get? e with
  | none=>rfl
  | some o=>have:=of_hideAll _ q; simp_all
 refine wpAny_mono ((Kf.leav _ _).any' (λ z=>⟨oe,ws,he,hd,hw2 z⟩) (wpAny_leaving_firstW (Q:=λ _ z=>∃ h',z=[54] /\ Heap.FlyingW (hideAll s.heap (frs [58])) outer e oe.cls a0 h' /\ h1.UpToSlots h') (s:={ s with heap:=h1 }) (a0:=a0) I.ok.frames (hl.of_keeps λ b o hb _=>⟨o,hxk b o hb,rfl⟩) rfl he (λ b o q=>hxk b o (of_hideAll _ q)) hen hd hw1 hw0 λ h' hL=>?_)) (λ _ z hz=>?_) λ _ _ z=>z
 ·obtain ⟨k1,⟨_,_,k2⟩,k3,k4⟩:=hL;exact ⟨h',rfl,⟨k1,hen,k2,k3⟩,k4⟩
 obtain ⟨⟨h',rfl,fl,up⟩,hf3⟩:=hz;have inB:∀ b o,s.heap.get? b=some o->b ∉ frs ([58])->(hideAll s.heap (frs [58])).get? b=some o:=λ b o q hb=>hideAll_get _ q hb
 have trk:∀ b,H b ≠ none->∃ o,s.heap.get? b=some o /\ b ∉ frs [58]:=λ b hb=>by
  cases q:H b with
  | none=>exact absurd q hb
  | some ho =>
   obtain ⟨o,eo⟩:=zm0 (I.hok b ho q);refine ⟨o,eo,λ hm=>?_⟩;have:=e0.frf b hm;trivial
 have frm:∀ b o,s.heap.get? b=some o->b ∈ frs outer->∃ sl,h'.get? b=some { o with slots:=sl }:=λ b o q hb=>by
  have hm:b ∈ [58].filterMap (·.frame):=by
   show b ∈ frs _
   simp_all
  obtain ⟨_,o',ho,hnf⟩:=hfun.mem hm;rw [q] at ho; cases ho;exact up b o (hxk b o q) hnf
 refine ⟨e,oe.cls,a0,H,_,rfl,I.os,I.bare,?_,?_,fl,?_,?_,?_,oo,hf3,hE⟩
 ·refine ⟨λ b o q n hb _=>?_,λ b o q n hb _=>?_,λ b o q n _=>u1.free b o q n [17],λ b o q _=>?_,λ b xs q=>u1.tups b xs q,λ b o u q=>u1.frzs b o u q,λ b ps q=>u1.tbls b ps q⟩
  ·exact fl.1 b o (inB b o (u1.keep b o q n hb [17]) (hfn q hb))
  ·obtain ⟨sl,e1⟩:=u1.slot b o q n hb [17];obtain ⟨sl2,e2⟩:=frm b _ e1 hb;exact ⟨sl2,e2⟩
  ·obtain ⟨o1,e1⟩:=u1.there b o q [17];by_cases hb:b ∈ frs outer
   ·obtain ⟨sl,e2⟩:=frm b o1 e1 hb;exact ⟨_,e2⟩
   ·exact ⟨o1,fl.1 b o1 (inB b o1 e1 (hfn q hb))⟩
 ·refine λ a o ha=>(I.hok a o ha).stay (λ b u hb q=>?_) (λ _ h=>h) (λ _ _ h=>h)
  have hne:H b ≠ none:=by
   rcases hb with rfl | hb
   ·rw [ha]; simp
   ·rw [hb]; simp
  obtain ⟨o',e1,e2⟩:=trk b hne;exact fl.1 b u (inB b u q e2)
 ·cases q:H e with
  | none=>rfl
  | some ho =>
   obtain ⟨o,eo⟩:=zm0 (I.hok e ho q)
   simp_all
 ·intro b o q hb ⟨o',q'⟩;obtain ⟨o1,e1⟩:=u1.there b o' q' [17];have e2:=inB b o1 e1 (hfn q' hb);have e3:=fl.1 b o1 e2
  simp_all
 ·intro b hb;obtain ⟨o,e1,e2⟩:=trk b hb;exact ⟨o,fl.1 b o (inB b o e1 e2),inB b o e1 e2⟩
theorem ss4 {cls:Value} {us:[25]} (I:L2.Inv [6] pins σ H s) (hx:Heap.MadeExcOf s.heap h1 e cls us) (hE:E cls none H) :
    [6].xe (.ref e) { s with heap:=h1 }:=by
 obtain ⟨t,h2,_,_⟩:=hx.there;exact yj2 (oo:=none) I hx.keeps hx.new h2 rfl rfl rfl (λ _=>rfl) hE
def yi4 (E:XK) (C:Addr) (ta:TA):TS:=λ _ σ H=>ta σ H λ vs H1=>vs.length<=sizeLine /\ E [72] none H1
theorem sw2 {Bn B newId inN nid initId:String} {bm bmN:[25]} {rest:[67]} {np cpos:Pos} {ta:TA}
    (O:OwnCls x C bm newId mg base) (Fn:ExcBaseFacts Bn newId inN bmN) (hBn:bm.contains (.type Bn)=true) (FB:ExcBaseFacts B nid initId bm)
    (hg:Gl [6] x) (ha:PA [6] (e₀ :: rest) ta)
    (he:starEach (e₀ :: rest) [3]=(false,eval e₀ [3]) :: starEach rest [3]:=by rfl)
    (hplain:(backTo cpos (starEach rest [3])).any (·.1)=false:=by rfl) (hd:[23]=false:=by decide) :
    PS [6] (.Raise (some (.Call (.Name x np) (e₀ :: rest) [] cpos)) none pos) (yi4 E C ta):=by
 intro pins s σ H D I h;obtain ⟨tl,NN,nm,q,bs,hdct,sn,sub,ab,col,dd,k0,k1,k2,k3,k5,mN,hC,hN,hni,T⟩:=O.obj
 refine wpAny_Raise_call_subU (C:=C) (nm:=nm) (q:=q) (N:=NN) (bs:=bs) (bm:=tl) (hdct:=hdct) (sn:=sn) (sub:=sub) (ab:=ab) (col:=col) (dd:=dd) (k0:=k0) (k1:=k1) (k2:=k2) (k3:=k3) (k5:=k5)
  Fn hBn FB (mN:=mN) (T.hasType FB.hasBase) (I.ok.hd rfl) (by
   show (backTo cpos (starEach (e₀ :: rest) [3])).any (·.1)=false;rw [he]; assumption) hni (zg0 I hg O.bound ⟨rfl,?_⟩ hd)
 have hA:=ha cpos pins s σ H _ I h;have he':starEach (e₀ :: rest) [6].env=_:=he;rw [he'] at hA ⊢;refine Calls.evalArgs_plain (thn hA λ us s2 ⟨vs,H2,I2,r2,q2⟩=>⟨rfl,?_,I2.bk _ _ hC,hN.keeps I2.bk,T.keeps I2.bk,λ h' e hx=>ss4 I2 hx q2.2⟩);rw [<- r2.length]; exact q2.1
def EXok (K:Fg) (mg:[24]) (XE:XE3) (E:XK):Prop:=∀ x C μ' H' o,XE x μ'->mg x=some ([72])->RelM K μ' H'->(x = "NoWord" -> o=none)->E [72] o H'
def xc2 (K:Fg) (mg:[24]) (spx:XE3->Sp3):Sp:=λ vs H Q E=>∃ ds μ Q3 XE,RelDs K H ds vs /\ RelM K μ H /\ spx XE ds μ Q3 /\ Ks K H Q3 Q /\ EXok K mg XE E
def CalX (P:[60]) (w:World) (K:Fg) (mg:[24]) (base:Heap) (k:Nat) (x:Str) (ps:[35]) (spx:XE3->Sp3):Prop :=
 ∃ f fd,FnOk P w K mg base (CXn P w) k f fd ps (xc2 K mg spx) /\ mg x=some (.ref f) /\ keepIn K (.ref f)=true /\ Binds K fd ps []
theorem CalX.mono {j k:Nat} {x:Str} {ps:[35]} {spx:XE3->Sp3} (c:CalX P w K mg base j x ps spx) (h:j<=k):CalX P w K mg base k x ps spx:=by
 obtain ⟨f,fd,F,r⟩:=c;exact ⟨f,fd,F.mono h,r⟩
variable {XE:XE3}
theorem ze1 {Bn B newId inN nid initId:String} {bm bmN:[25]} {rest:[67]} {np cpos:Pos} {ta:TA3} (EX:EXok K mg XE E)
    (O:OwnCls x C bm newId mg base) (Fn:ExcBaseFacts Bn newId inN bmN) (hBn:bm.contains (.type Bn)=true) (FB:ExcBaseFacts B nid initId bm)
    (ha:RA [6] (e₀ :: rest) ta) (hg:Gl [6] x:=by rfl)
    (he:starEach (e₀ :: rest) [3]=(false,eval e₀ [3]) :: starEach rest [3]:=by rfl)
    (hplain:(backTo cpos (starEach rest [3])).any (·.1)=false:=by rfl) (hd:[23]=false:=by decide) :
    RS [6] (.Raise (some (.Call (.Name x np) (e₀ :: rest) [] cpos)) none pos) (vq0 XE x ta):=by
 obtain ⟨va,pa,ra⟩:=ha;exact ⟨_,sw2 O Fn hBn FB hg pa he hplain hd,λ σ H D ρ μ D3 s m h k=>ra σ H _ ρ μ _ s m h λ ds μ1 vs H1 h1 k1 r1 m1=>⟨by rw [<- r1.length]; exact h1.1,EX x C μ1 H1 none h1.2 O.bound m1 (λ _=>rfl)⟩⟩
theorem ww2 {e:Expr} {es:[67]} {p:Pos} {t:TA3} (EX:EXok K mg XE E) (c:CalX P w K mg base k x ps spx) (hr:Room k (A.deeper [3]))
    (ha:RA [6] (e :: es) t) (hg:Gl [6] x:=by rfl) (hdb:[23]=false:=by decide)
    (he:starEach (e :: es) [3]=(false,eval e [3]) :: starEach es [3]:=by rfl) (hpl:(backTo pos (starEach es [3])).any (·.1)=false:=by rfl) :
    RE [6] [49] (wa0 (spx XE) t):=by
 obtain ⟨g,fd,F,hm,hk,hb⟩:=c;obtain ⟨va,pa,ra⟩:=ha;refine ⟨_,wk2 (X:=cxOf (CXn P w) P w K mg base N qual scope f cd A outer s0 H0 E) F hr hg hm hk hb .nil ut1 pa hdb he hpl,λ σ H Q ρ μ Q3 s m h k=>ra σ H _ ρ μ _ s m h λ ds μ1 vs H1 h1 k1 r1 m1=>?_⟩;rw [append_nil];exact ⟨ds,μ1,Q3,XE,r1,m1,h1,k.after k1,EX⟩
theorem wa4 {st:Stmt} {g:Addr} {fd:FuncData} {NN:[35]} {t:XE3->TS3} (F:Fun K x x st g fd) (hm:mg x=some (.ref g)) (hb:Binds K fd ps []) (S:FnScope NN ps (ya0 st))
    (len:∀ XE ds μ Q,spx XE ds μ Q->ds.length=ps.length)
    (body:∀ (cdv:Value) (A:Around) (outer:List Env) (s:[47]) (H:Hp) (E:XK) (XE:XE3),Room k (A.deeper (envOfC x (ya0 st) s.heap.objs.size g cdv))->EXok K mg XE E ->
     RSs (cxOf (CXn P w) P w K mg base NN x (ya0 st) g cdv A outer s H E) (va0 st) (t XE))
    (rd:∀ XE ds μ Q,spx XE ds μ Q->t XE { nx:=λ _ μ'=>Q .non μ',rt:=Q } (xb0 NN ds) μ):CalX P w K mg base (k + 1) x ps spx:=by
 refine ⟨g,fd,?_,hm,F.kp,hb⟩;obtain ⟨oc,od,kV,doc,pm,an,cdv,ct,osl,rfl,lk,hcd⟩:=F.ex;refine vc5 lk hcd S (λ vs H Q E h=>?_) λ A outer s H vs Q E hr h=>?_
 ·obtain ⟨ds,μ,Q3,XE,r,m,q,ks,ex⟩:=h;rw [<- r.length]; exact len _ _ _ _ q
 ·obtain ⟨ds,μ,Q3,XE,r,m,q,ks,ex⟩:=h;obtain ⟨tv,p,rt⟩:=body cdv A outer s H E XE hr ex;exact ⟨tv,p,rt _ H _ _ μ _ (RSt.start NN r) m (rd XE ds μ Q3 q) [86]⟩
end
end Pv
namespace Pv
open PySem PySem.Spec PyProof.Rows L2 PySem.Calls
variable {w:World} {A:Around} {E:[7]} {s:[47]} {M:Model} {h:Heap}
section
variable {prog:[60]} {K:[56]} {x D:Addr} {ox:Obj}
structure ExcK (K:PySem.W.Frag) (D:Addr):Prop where
 ga:findIn K (.ref D) "__getattribute__" = some (some (.builtin "BaseException.__getattribute__"))
 no:findIn K (.ref D) "__getattr__" = some none
 be:mroIn K D (.type "BaseException")=some true
 cd:(clsIn K D).isSome=true
 ca:findIn K (.ref D) "__class__" = some (some (.builtin "object.__class__"))
 gt:specialIn K (.builtin "object.__class__") "__get__" = some (some (.builtin "getset_descriptor.__get__"))
 tk:takesIn K (.builtin "object.__class__")=some true
 ob:mroIn K D (.type "object")=some true
def ExcAt (x D:Addr) (h:Heap):Prop:=∃ ob,h.get? x=some ob /\ ob.cls=.ref D
theorem ExcAt.type (I:ExcAt x D h):PySem.W.Looks M h (typeOf (.ref x)) (.ref D):=by
 obtain ⟨ob,h1,h2⟩:=I;exact h2 ▸ (PySem.W.Looks.ld h1).andThen .now
theorem ya3 (Z:ExcK K D) (X:K.In h):PySem.W.Looks M h (Builtin.ObjectAttr.find (.ref x) (.ref D) "__class__") (.bind [73] [42]):=by
 have L1:=looks_findIn (M:=M) X Z.ca;have L2:=PySem.W.looks_specialIn (M:=M) X Z.gt;have L3:=PySem.W.looks_takesIn (M:=M) X Z.tk;refine L1.andThen (PySem.W.Looks.andThen (show PySem.W.Looks M h (Builtin.ObjectAttr.getOf (some [42])) (some [73]) from L2) ?_);exact (show PySem.W.Looks M h (Builtin.ObjectAttr.dataDescriptor? (some [42]) (some [73])) (some (.builtin "getset_descriptor.__get__",.builtin "object.__class__")) from L3.andThen .now).andThen (PySem.W.Looks.tag .now)
theorem vy3 {R:Result->Shared->Prop} {tp:Value} (Z:ExcK K D) (X:K.In s.heap) (I:ExcAt x D s.heap)
    (h:R (.ok (.ret (.ref D))) s):codeAny [8] A (.call [73] ⟨[.builtin "object.__class__",.ref x,tp],[]⟩) R s:=by
 obtain ⟨ob,h1,h2⟩:=I;obtain ⟨hh,g,dr,t,os⟩:=s;have L0:=ExcAt.type (M:=model prog w) (x:=x) (D:=D) (h:=hh) ⟨ob,h1,h2⟩;have L1:=looks_mroIn (M:=model prog w) X Z.ob;refine codeAny_call_builtin PySem.W.KF.slot_gs.plain PySem.W.KF.entry_gs (PySem.W.KF.slot_gs.check _ _ _ _ _ _ _ _ PySem.W.KF.type_class (PySem.W.KF.args_gs _ _ _) ?_);unfold Builtin.«getset_descriptor.__get__» Builtin.Getset_descriptor.descrGet;rw [PySem.W.dga_obj];refine wpAny_bind [28];unfold Builtin.Getset_descriptor.descrGetter Builtin.Getset_descriptor.descrCheckInstance Builtin.Getset_descriptor.descrNameAndClass isInstance;simp only [PySem.W.KF.owner_class]
 repeat lk
 refine ⟨Code.quiet_builtin _ [20],codeAny_builtin PySem.W.KF.entry_class ?_⟩;unfold Builtin.«object.__class__» shownTypeOf
 repeat lk
 exact h
theorem uo2 {Q:Option Value->Shared->Prop} (Z:ExcK K D) (X:K.In s.heap) (I:ExcAt x D s.heap) (h:Q (some (.ref D)) { s with toks:=s.toks + 1 }):wpAny [8] A (getAttr? (.ref x) "__class__") Q E s:=by
 obtain ⟨hh,g,d,t,os⟩:=s;have L0:=I.type (M:=model prog w);have L1:=looks_findIn (M:=model prog w) X Z.ga;have L2:=looks_findIn (M:=model prog w) X Z.no;have L3:=ya3 (M:=model prog w) (x:=x) Z X;have L4:=looks_mroIn (M:=model prog w) X Z.be;unfold getAttr? getAttrBy? getAttrBy;refine wpAny_bind (wpAny_mkText (wpAny_bind (wpAny_attempt (wpAny_holding (wpAny_bind (L0.at (wpAny_bind (L1.at ?_))))))));have hx2:(Value.builtin "BaseException.__getattribute__" == Value.builtin "object.__getattribute__")=false:=by decide +kernel
 simp only [hx2,Bool.and_false,Bool.false_eq_true,if_false];unfold getAttrByItsOwn hookBefore;have hh1:onTheHeap (Value.ref D)=true:=rfl;simp only [hh1,if_true];refine wpAny_bind (L2.at (wpAny_bind (wpAny_attempt (wpAny_holding ?_))));unfold callGetattribute boundAndCalled;simp only [Bool.false_and,Bool.false_eq_true,if_false];have hb:bindSpecial (.builtin "BaseException.__getattribute__") (.ref x)=pure (.builtin "BaseException.__getattribute__",[.ref x]):=PySem.F.attr_ValueError.ga.bind _;rw [hb];refine wpAny_bind [28];refine wpAny_call (codeAny_call_builtin PySem.F.attr_ValueError.ga.plain F.entry_bexc_ga ?_);have hk:builtinKind "BaseException.__getattribute__" = some .slot:=by decide +kernel
 have hsplit:splitId "BaseException.__getattribute__" = some ("BaseException", "__getattribute__"):=by decide +kernel
 have ha:=F.args_bexc_ga (.ref x) (.str "__class__" t);simp only [checkBuiltinCall,hk,hsplit];refine wpAny_bind ?_
 ·unfold isInstance;refine wpAny_bind (L0.at (L4.at ?_));simp only [Bool.not_true,Bool.false_eq_true,if_false];obtain ⟨ob,I1,I2⟩:=id I;dsimp only at I1
  repeat (any_goals (first | assumption | (with_reducible refine wpAny_loadPart_at I1 ?_; rw [I2]) | with_reducible refine L3.at ?_ | wp_step))
  refine vy3 (s:=⟨hh,g,d,t + 1,os⟩) Z X I [28];exact PySem.W.handed_on rfl (wpAny_pure h)
theorem wy2 (Z:ExcK K D):PySem.W.KitX K (.ref x) (.ref D) (ExcAt x D) where
 ty:=λ _ _ _ I=>I.type
 it:=λ _ _ X _=>by
  obtain ⟨cdD,hcD⟩:=Option.isSome_iff_exists.mp Z.cd;unfold clsIn at hcD;split at hcD
  ·rename_i c' d' cd' sl' ho;intro A' Q' E' s' k q;unfold isType loadHead;exact wpAny_bind (wpAny_loadPart (k _ _ (X _ _ ho)) (wpAny_pure q))
  ·cases hcD
 ne:=λ h tp dd its n sl X htp=>by
  obtain ⟨cdD,hcD⟩:=Option.isSome_iff_exists.mp Z.cd;refine Bool.eq_false_iff.mpr λ q=>?_;have e:D=tp:=Value.ref.inj (beq_iff_eq.mp q);subst e;unfold clsIn at hcD;split at hcD
  ·rename_i c' d' cd' sl' ho;have z:=(X _ _ ho).symm.trans htp;cases z
  ·cases hcD
 ca:=λ X I k=>uo2 Z X I k
end
variable {X:Cx} {e:Expr} {p pos:Pos} {P:[60]} {H:Hp} {ob:Obj} {cV:V} {cv:Value} {y:Str} {C:Addr}
section
variable {te:TE3} {p2:Pos}
theorem yy3 (hok:HOk P w H h) {a:Addr} {u:HO} (e:H a=some (.frz ob u)):h.get? a=some ob:=(show ObjOk P w H h a (.frz ob u) from hok a _ e).1
theorem sb3 (rc:∀ u,RelV cV u->u=cv):CallR X (.builtin "isinstance") (λ xs H Q=>∃ a C ob u b,xs=[.ref a,cV] /\ H a=some (.frz ob u) /\ ob.cls=.ref C /\ ExcK X.K C /\ kitOne X.K [72] cv=some b /\ Q (.bl b) H):=by
 intro pins s σ H xs us Q I r h;obtain ⟨a,C,ob,u,b,rfl,ha,h1,Z,hk,q⟩:=h;obtain ⟨u1,u2,rfl,r1,r2⟩:=ul3 r;cases r1;cases rc _ r2;have hg:=yy3 I.hok ha;have hi:ExcAt a C s.heap:=⟨ob,hg,h1⟩;exact kia_one (wy2 Z) I.kIn hi hk (λ z=>nomatch z) λ tk=>⟨.bl b,H,I.tok tk,rfl,q⟩
theorem ww4 (hg:Gl X y) (hm:X.mg y=some [72]) (hd:(y == ("__debug__" : Str))=false:=by decide):PE X (.Name y p2) (λ _ H Q=>Q [72] H):=λ pins s σ H Q I h=>zg0 I hg hm ⟨.ref C,H,I,rfl,h⟩ hd
theorem xg3 {sub:Str->Option Bool} (he:RE X e te) (hc:PE X (.Name y p2) (λ _ H Q=>Q cV H)) (rc:∀ u,RelV cV u->u=cv)
    (hsub:∀ c C b,sub c=some b->nsIn X.K mainGlobals c=some (some [72])->ExcK X.K C /\ kitOne X.K [72] cv=some b)
    (hm:X.mg "isinstance" = none) (hg:Gl X "isinstance" := by rfl)
    (hs:starEach [e,.Name y p2] X.env=[26] :: starEach [.Name y p2] X.env:=by rfl) (hs2:starEach [.Name y p2] X.env=(false,eval (.Name y p2) X.env) :: starEach [] X.env:=by rfl)
    (hpl:(backTo pos (starEach [.Name y p2] X.env)).any (·.1)=false:=by rfl) :
    RE X (.Call (.Name "isinstance" p) [e,.Name y p2] [] pos) (isx3 te sub):=by
 obtain ⟨va,pa,ra⟩:=he;refine ⟨_,vt1 (sb3 rc) hg hm uo0 (uo1 pa (uo1 hc xh3 hs2) hs) [14] [14] hs hpl,λ σ H Q ρ μ Q3 s m h k=>ra σ H _ ρ μ _ s m h λ d μ1 v H1 h1 k1 r1 m1=>?_⟩;cases r1 with
 | exc a1 a2 a3 =>
  dsimp only at h1;split at h1
  ·next b eb =>
   obtain ⟨z1,z2⟩:=hsub _ _ b eb a3;exact ⟨_,_,_,_,b,rfl,a1,a2,z1,z2,k _ _ _ _ h1 k1 (.bl _) m1⟩
  ·exact h1.elim
 | _=>exact False.elim h1
end
variable {σ:L2.St} {h5:Heap} {ea f:Addr} {o:HO} {n:Str} {i k:Nat} {b₀:Stmt} {suite:List Stmt} {fd:FuncData} {ps:[35]} {sp:Sp} {es:[67]}
section
variable {pins:[19]} {H':Hp} {s':[47]}
abbrev mark (X:Cx) (e:Value):Cx:={ X with A:=X.A.mark (some e),calm:=false,xe:=λ _ _=>False }
theorem zi0 (I:[13]) (e:Value):Inv (mark X e) pins σ H s :=
 ⟨⟨I.ok.mod,I.ok.kind,I.ok.glob,I.ok.blt,I.ok.above,I.ok.inj,I.ok.has,I.ok.cab,(λ z=>Bool.noConfusion z),I.ok.frames,I.ok.stk,I.ok.exf,I.ok.bs,I.ok.bsz,I.ok.noex,I.ok.exfs,I.ok.funs,I.ok.frf⟩,I.os,I.bare,I.base,I.loc,I.cell,I.free,I.freeC,I.pin,I.hok,I.len⟩
theorem uk0 {e:Value} (ok:X.Ok) (I:Inv (mark X e) pins σ H s):Inv X pins σ H s :=
 ⟨ok,I.os,I.bare,I.base,I.loc,I.cell,I.free,I.freeC,I.pin,I.hok,I.len⟩
theorem zo0 {B:Heap} {cls a0:Value} (u2:Un (frs X.stack) [] H H' s.heap s'.heap)
    (cov1:∀ b o,s'.heap.get? b=some o->b ∉ frs X.stack->(∃ o',s.heap.get? b=some o')->B.get? b=some o)
    (fl:Heap.FlyingW B X.stack ea cls a0 s'.heap) (st:∀ b o,B.get? b=some o->h5.get? b=some o) (up:s'.heap.UpToSlots h5):Un (frs X.stack) [] H H' s.heap h5:=by
 have frm:∀ b o,s'.heap.get? b=some o->b ∈ frs X.stack->∃ sl,h5.get? b=some { o with slots:=sl }:=λ b o q hb=>by
  obtain ⟨_,o',ho,hnf⟩:=fl.2.2.1.mem hb;rw [q] at ho; cases ho;exact up b o q hnf
 refine ⟨λ b o q n hb _=>?_,λ b o q n hb _=>?_,λ b o q n hx=>u2.free b o q n hx,λ b o q hx=>?_,u2.tups,u2.frzs,u2.tbls⟩
 ·exact st b o (cov1 b o (u2.keep b o q n hb [17]) hb ⟨o,q⟩)
 ·obtain ⟨sl,e1⟩:=u2.slot b o q n hb [17];obtain ⟨sl2,e2⟩:=frm b _ e1 hb;exact ⟨sl2,e2⟩
 ·obtain ⟨o1,e1⟩:=u2.there b o q hx;by_cases hb:b ∈ frs X.stack
  ·obtain ⟨sl,e2⟩:=frm b o1 e1 hb;exact ⟨_,e2⟩
  simp_all
theorem tk0 {B:Heap} (hok:HOk P w H' s'.heap) (cov2:∀ b,H' b ≠ none->∃ o,s'.heap.get? b=some o /\ B.get? b=some o) (st:∀ b o,B.get? b=some o->h5.get? b=some o):HOk P w H' h5:=by
 refine λ a o e=>(hok a o e).stay (λ b u hb q=>?_) (λ _ h=>h) (λ _ _ h=>h)
 have hne:H' b ≠ none:=by
  rcases hb with rfl | hb
  ·rw [e]; simp
  ·rw [hb]; simp
 obtain ⟨o',e1,e2⟩:=cov2 b hne
 simp_all
theorem ye3 {fs:List Addr} (u:Un fs [] H H' h h5) (he:H' ea=none) (hn:h.get? ea=none):Un fs [] H (upd H' ea o) h h5:=by
 have ne:∀ {b ob},h.get? b=some ob->b ≠ ea:=λ {b ob} q z=>by simp_all
 have ne2:∀ {b u},H' b=some u->b ≠ ea:=λ {b u} q z=>by simp_all
 refine ⟨u.keep,u.slot,λ b ob q n hx=>?_,u.there,λ b xs q=>?_,λ b ob v q=>?_,λ b ps q=>?_⟩
 ·rw [xc0 (ne q)]; exact u.free b ob q n hx
 ·have:=u.tups b xs q; rw [xc0 (ne2 this)]; exact this
 ·have:=u.frzs b ob v q; rw [xc0 (ne2 this)]; exact this
 ·obtain ⟨m,e⟩:=u.tbls b ps q; exact ⟨m,by rw [xc0 (ne2 e)]; exact e⟩
theorem sd2 {oe:Obj} (hok:HOk P w H' h5) (he:H' ea=none) (hg:h5.get? ea=some oe):HOk P w (upd H' ea (.frz oe (.own 0))) h5:=by
 have ne2:∀ {b u},H' b=some u->b ≠ ea:=λ {b u} q z=>by simp_all
 intro a o e;by_cases ha:a=ea
 ·subst ha;rw [ue0] at e;cases e;exact ⟨hg,⟨_,hg⟩⟩
 ·rw [xc0 ha] at e;exact (hok a o e).stay (λ b u hb q=>q) (λ b q=>by rw [xc0 (ne2 q)]; exact q) (λ b xs q=>by rw [xc0 (ne2 q)]; exact q)
theorem zx0 {K:[56]} {Pc:Addr} {Q:Bool->Shared->Prop} (Z:K.In s.heap) (h1:s.heap.get? ea=some ob) (h2:ob.cls=.ref C)
    (k1:kitCls K [72] (.ref Pc)=some true) (k2:kitCls K (.ref Pc) [40]=some true) (k3:kitCls K (.type "type") (.type "tuple")=some false) (hq:Q true s):wpAny M A (excMatches (.ref ea) (.ref Pc)) Q E s:=by
 obtain ⟨a1,a2,a3⟩:=kit_cls (M:=M) Z k1;obtain ⟨b1,b2,b3⟩:=kit_cls (M:=M) Z k2;obtain ⟨c1,c2,c3⟩:=kit_cls (M:=M) Z k3;have L0:=ExcAt.type (M:=M) (x:=ea) (D:=C) (h:=s.heap) ⟨ob,h1,h2⟩;obtain ⟨hh,g,d,t,os⟩:=s;unfold excMatches isInstance;refine wpAny_bind (wpAny_bind (a1.at (c3.at ?_)));dsimp only;simp only [Bool.false_eq_true,if_false,pure_bind,List.forIn_cons,List.forIn_nil];unfold isExcClass
 repeat (any_goals (first | assumption | with_reducible refine L0.at ?_ | with_reducible refine a3.at ?_ | with_reducible refine b3.at ?_ | with_reducible refine a2.at ?_ | with_reducible refine a1.at ?_ | wp_step))
theorem tb3 {e:Value} {E':XK} {x:Str} {Pc:Addr} {np:Pos} {Q:Flow->Shared->Prop} {EE:[7]}
    (I:[13]) (hst:X.stack=X.env :: X.outer) (hfr:X.env.frame=some X.env.locals) (h:CXn X.prog X.w X.stack H s E' e s')
    (hN:X.N.Nodup) (hi:X.N[i]?=some n) (hloc:X.env.scope.names.lookup n=some .local) (hg:Gl X x) (hm:X.mg x=some (.ref Pc)) (hd:[23]=false)
    (hcls:∀ cls o H',E' cls o H'->∃ C,cls=.ref C /\ kitCls X.K [72] (.ref Pc)=some true) (k2:kitCls X.K (.ref Pc) [40]=some true) (k3:kitCls X.K (.type "type") (.type "tuple")=some false)
    (k:∀ ea C H' ob s6 o,Kp H H'->E' [72] o H'->H' ea=none->ob.cls=.ref C->Inv (mark X (.ref ea)) pins (σ.set i (some (.ref ea))) (upd H' ea (.frz ob (.own 0))) s6 ->
     wpAny [11] (X.A.mark (some (.ref ea))) (execs (b₀ :: suite) X.env) (λ f s₄=>wpAny [11] X.A (do bindName X.env n .none; unbindBehindTheSuite X.env n pos) (λ _ s₅=>Q f s₅) EE s₄) (λ _ _=>False) s6) :
    wpAny [11] X.A (noteFrame e X.env) (λ _ s₂=>wpAny [11] X.A (setFlight e none) (λ _ s₃ =>
     wpAny [11] X.A (handleBy e X.env [.ExceptHandler (some (.Name x np)) (some n) (b₀ :: suite) pos]) Q EE s₃) EE s₂) EE s':=by
 obtain ⟨ea,cls,a0,H',B,rfl,os,bare,u2,hok,fl,hea,cov1,cov2,oo,hf2,hE⟩:=h;obtain ⟨C,rfl,k1⟩:=hcls _ _ _ hE;have fl0:=fl;rw [hst] at fl;refine wpAny_looks_onW (by rw [<- hst]; exact I.ok.frames) hfr fl λ h4 held4 sm4=>?_;refine wpAny_landsW held4 λ h5 fl5 sm5=>?_;have I5:Inv X pins σ H' { s' with heap:=h5 }:=I.call' (s':={ s' with heap:=h5 }) (ch:=[]) os (zo0 u2 cov1 fl0 fl5.1 (sm4.trans sm5)) (tk0 hok cov2 fl5.1) bare (λ b z=>absurd z [17]);obtain ⟨ob5,hob5,hc5⟩:=fl5.there;refine wpAny_handleBy_cons (codeAny_handlers_test (zg0 (zi0 I5 (.ref ea)) hg hm ?_ hd)) (by intro q; cases q);refine zx0 I5.kIn hob5 hc5 k1 k2 k3 ?_;refine codeAny_handlers_suite_as ?_;refine lands_againW (s:={ s' with heap:=h5 }) fl5 λ h6 fl6 sm6=>?_;obtain ⟨oe,ws,hoe,hoec,hoed,hoe0⟩:=fl6.first
 have hsn:s.heap.get? ea=none:=by
  cases q:s.heap.get? ea with
  | none=>rfl
  | some o =>
   exfalso;obtain ⟨o1,e1⟩:=u2.there ea o q [17];by_cases hb:ea ∈ frs X.stack
   ·obtain ⟨_,o',ho,hnf⟩:=fl0.2.2.1.mem hb;obtain ⟨oe0,vs0,he0,_,hd0,_⟩:=fl0.first
    simp_all
   ·have:=cov1 ea o1 e1 hb ⟨o,q⟩;rw [fl0.2.1] at this; cases this
 have I7:Inv X pins σ (upd H' ea (.frz oe (.own 0))) { s' with heap:=h6 }:=I.call' (s':={ s' with heap:=h6 }) (ch:=[]) os (ye3 (zo0 u2 cov1 fl0 fl6.1 ((sm4.trans sm5).trans sm6)) hea hsn) (sd2 (tk0 hok cov2 fl6.1) hea hoe) bare (λ b z=>absurd z [17]);refine ug0 I7 hN hi (.inl hloc) (v:=.ref ea) (u:=.ref ea) rfl (λ s8 I8=>?_) (.inr hloc);exact wpAny_mono (k ea C H' oe s8 oo ⟨u2.tups,u2.frzs⟩ hE hea hoec (zi0 I8 (.ref ea))) (λ f s4 z=>z) (λ _ _ z=>z.elim)
theorem tx3 {Q:Unit->Shared->Prop} (I:[13]) (hN:X.N.Nodup) (hi:X.N[i]?=some n) (hk:X.env.scope.names.lookup n=some .local)
    (h:∀ s',Inv X pins (σ.set i none) H s'->Q () s'):wpAny M A (do bindName X.env n .none; unbindBehindTheSuite X.env n pos) Q E s:=by
 obtain ⟨m,hn,hl⟩:=id I.loc;have hcls:(X.env.scope.kind == .class || (X.env.scope.kind == .module && X.env.locals != X.env.globals))=false:=by rw [I.ok.kind]; rfl
 have hiσ:i < σ.length:=by rw [I.len]; exact (List.getElem?_eq_some_iff.mp hi).1
 have cne:=I.cne
 have tracked:∀ {a:Addr} {h':Heap},(∃ o,s.heap.get? a=some o /\ H a=none)->Heap.SameBut a s.heap h'->HOk X.prog X.w H h':=λ {a h'} ha hs b ob e=>by
  obtain ⟨_,_,hfree⟩:=ha;refine (I.hok b ob e).stay (λ c w' hc q=>(hs.2 c ?_).trans q) (λ _ q=>q) λ _ _ q=>q;rintro rfl
  simp_all
 refine wpAny_nameGoes_keeps hk hn hcls λ h' v hn' hs=>?_;obtain ⟨oL,_,_,hoL,_⟩:=id hn;refine h _ ⟨I.ok,I.os,I.bare,⟨λ b o e n hb hx=>?_,λ b o e n hb hx=>?_,I.base.free,λ b o e hx=>?_,I.base.tups,I.base.frzs,I.base.tbls⟩,⟨_,hn',λ j y v' e1 e2 e3=>?_⟩,λ y c e=>?_,I.free,I.freeC,λ p hp=>?_,tracked ⟨oL,hoL,I.free⟩ hs,by simpa using I.len⟩
 ·exact [48].trans (I.base.keep b o e n hb hx)
 ·obtain ⟨sl,e1⟩:=I.base.slot b o e n hb hx;exact ⟨sl,[48].trans e1⟩
 ·obtain ⟨o',e1⟩:=I.base.there b o e hx;exact ⟨o',[48].trans e1⟩
 ·by_cases hj:j=i
  ·simp_all
  ·rw [List.getElem?_set_ne (Ne.symm hj)] at e2;obtain ⟨u',r',q⟩:=hl j y v' e1 e2 e3;refine ⟨u',r',?_⟩;rcases q with ⟨k,e⟩ | ⟨k,c,e,z⟩
   ·refine .inl ⟨k,?_⟩;have:y ≠ n:=λ e=>hj (yg1 hN e1 (e ▸ hi));simp [this,e]
   ·exact .inr ⟨k,c,e,z.sameBut hs (cne y c e)⟩
 ·obtain ⟨w',z⟩:=I.cell y c e;exact ⟨w',z.sameBut hs (cne y c e)⟩
 ·obtain ⟨e,n,ne,nf,d⟩:=I.pin p hp;exact ⟨(hs.2 p.1 ne).trans e,n,ne,nf,d⟩
def tTry (K:Fg) (Pc:Addr) (i:Nat) (sp:Sp) (st:V->L2.St->L2.St) (ta:TA) (ts:Addr->TS):TS:=λ D σ H=>ta σ H λ vs H1=>sp vs H1 (λ v H2=>D.nx (st v σ) H2)
 (λ cls _ H2=>∃ C,cls=.ref C /\ kitCls K [72] (.ref Pc)=some true /\ (Kp H1 H2->∀ ea ob,H2 ea=none->ob.cls=.ref C ->
  ts ea { nx:=λ σ' H'=>D.nx (σ'.set i none) H',rt:=λ _ _=>False,bk:=λ _ _=>False,ct:=λ _ _=>False } (σ.set i (some (.ref ea))) (upd H2 ea (.frz ob (.own 0)))))
variable {fx x:Str} {Pc:Addr} {cpos np hpos epos:Pos} {ta:TA} {ts:Addr->TS}
end
theorem RSt.unset {K:Fg} {ρ:St3} (i:Nat) (s:RSt K H ρ σ):RSt K H (ρ.set i none) (σ.set i none):=by
 refine ⟨by simp [s.len],λ j e h=>?_⟩;rw [vg1] at h;split at h
 ·cases h
 ·next c =>
  obtain ⟨v,h1,r⟩:=s.at' j e h;by_cases hj:i=j
  ·exfalso;apply c;refine ⟨hj,?_⟩;rw [s.len,hj];exact (List.getElem?_eq_some_iff.mp h1).1
  ·exact ⟨v,by rw [List.getElem?_set_ne hj]; exact h1,r⟩
theorem RelM.newF {K:Fg} {μ:Mu} (m:RelM K μ H) {p:Addr} (h:H p=none):RelM K μ (upd H p o):=m.newT h
section
variable {spx:XE3->Sp3} {fx x:Str} {Pc:Addr} {cpos np hpos epos:Pos} {ta:TA3} {ts:TS3} {ok:Str->Bool}
theorem yg3 {va:TA} {tv:Addr->TS} {st:V->L2.St->L2.St} {st3:D->St3->St3} (hstp:∀ {H:Hp} {ρ:St3} {σ:L2.St} {d:D} {v:V},RSt X.K H ρ σ->RelD X.K H d v->RSt X.K H (st3 d ρ) (st v σ))
    (ra:RdA X.K va ta) (rt:∀ ea,RdS X.K (tv ea) ts) (hok:∀ c,ok c=true->∃ C,nsIn X.K mainGlobals c=some (some [72]) /\ X.mg c=some [72] /\ kitCls X.K [72] (.ref Pc)=some true) :
    RdS X.K (tTry X.K Pc i (xc2 X.K X.mg spx) st va tv) (try3 i spx st3 ok ta ts):=by
 intro σ H D ρ μ D3 s m h kd;refine ra σ H _ ρ μ _ s m h λ ds μ1 vs H1 h1 k1 r1 m1=>?_;refine ⟨ds,μ1,_,_,r1,m1,h1,λ d μ2 v H2 h2 k2 r2 m2=>?_,λ c C μ2 H2 _ hX hmc m2 _=>?_⟩
 ·exact kd.nx _ _ _ _ h2 (k1.trans k2) (hstp (s.mono (k1.trans k2)) r2) m2
 ·obtain ⟨o1,o2⟩:=hX;obtain ⟨C',z1,z2,z3⟩:=hok c o1;rw [hmc] at z2;cases z2;refine ⟨C,rfl,z3,λ kp ea ob hea hob=>?_⟩;have kn:Kp H2 (upd H2 ea (.frz ob (.own 0))):=Kp.new hea;refine rt ea _ _ _ _ _ _ ((((s.mono (k1.trans kp)).mono kn)).set i (.exc ue0 hob z1)) (m2.newF hea) o2 ⟨λ ρ' μ' σ' H' q k' s' m'=>?_,λ _ _ _ _ q=>False.elim q,λ _ _ _ _ q=>False.elim q,λ _ _ _ _ q=>False.elim q⟩;exact kd.nx _ _ _ _ q (k1.trans (kp.trans (kn.trans k'))) (s'.unset i) m'
end
structure RoomM (k:Nat) (A:Around):Prop where
 dp:A.depth + 3 * k + 5 < recursionLimit
 un:A.units + 16 * k + 200 < cLine
theorem RoomM.mono {j:Nat} (r:RoomM k A) (h:j<=k):RoomM j A:=⟨by have:=r.dp; omega,by have:=r.un; omega⟩
theorem RoomM.deeper {k:Nat} {A:Around} (r:RoomM (k + 1) A) (env:Env):RoomM k (A.deeper env) :=
 ⟨by have:=r.dp; show A.depth + 1 + 3 * k + 5 < _; omega,by have:=r.un; show A.units + 3 + 16 * k + 200 < _; omega⟩
theorem RoomM.of (r:Room k A) (e:Option Value):RoomM k (A.mark e):=⟨r.dp,r.un⟩
structure FnOkM (P:Program) (w:World) (K:PySem.W.Frag) (mg:Str->Option Value) (base:Heap) (CX:CXT) (k:Nat) (f:Addr) (fd:FuncData) (ps:List Str) (sp:Sp):Prop where
 len:∀ vs H Q E,sp vs H Q E->vs.length=ps.length
 run:∀ (A:Around) (outer:List Env) (s:Shared) (H:Hp) (args:Args) (us:List Value) (vs:List V) (Q:VK) (E:XK),RoomM k A->Env0 P w K mg base A outer s H->BindsTo s fd args (ps.zip us)->Vals vs us->sp vs H Q E ->
  codeAny (model P w) A (.call (.ref f) args) (CR CX outer P w H s Q E) s
abbrev cxM (CX:CXT) (P:[60]) (w:World) (K:[56]) (mg:[24]) (base:Heap) (N:[35]) (qual:Str) (scope:Scope) (f:Addr) (cd:Value) (A:Around) (outer:List Env) (s:[47]) (H:Hp) (E:XK):Cx :=
 { cxOf CX P w K mg base N qual scope f cd A outer s H E with calm:=false }
variable {CX:CXT} {mg:[24]} {base:Heap} {N:[35]} {qual:Str} {scope:Scope}
theorem wc2 {K:[56]} {cd:Value} {outer:List Env} {s1:[47]} {E:XK} {us:[25]} {vs:List V}
    (S:FnScope N ps scope) (e0:Env0 P w K mg base A outer s H) (hl:vs.length=ps.length) (r:Vals vs us)
    (x:InCallC s s.heap.objs.size (bindL [69].kindOf (ps.zip us) λ _=>none) (cellsFrom (s.heap.objs.size + 1) scope.names []) (bindC [69].kindOf (ps.zip us) λ _=>none) s1) :
    Inv (cxM CX P w K mg base N qual scope f cd A outer s H E) [] (start N vs) H s1:=by
 have I:=uw0 (CX:=CX) (P:=P) (w:=w) (K:=K) (mg:=mg) (base:=base) (E:=E) (A:={ A with handled:=none }) (outer:=outer) S rfl ⟨e0.frames,e0.mod,e0.bs,e0.bsz,e0.funs,e0.frf,e0.hok,e0.bare⟩ hl r x;exact ⟨⟨I.ok.mod,I.ok.kind,I.ok.glob,I.ok.blt,I.ok.above,I.ok.inj,I.ok.has,I.ok.cab,(λ z=>Bool.noConfusion z),Around.frames_deeper e0.frames,I.ok.stk,I.ok.exf,I.ok.bs,I.ok.bsz,I.ok.noex,I.ok.exfs,I.ok.funs,I.ok.frf⟩,I.os,I.bare,I.base,I.loc,I.cell,I.free,I.freeC,I.pin,I.hok,I.len⟩
theorem wc5 {K:[56]} {name:Str} {params:Arguments} {body:List Stmt} {dV kV doc pm cdv ct oc:Value} {an od:Option Addr}
    {osl:Array (Option Value)} (lk:K.lookup f=some ⟨oc,od,.func [80],osl⟩) (hcd:codeIn K cdv qual=true) (S:FnScope N ps scope)
    (len:∀ vs H Q E,sp vs H Q E->vs.length=ps.length)
    (hbody:∀ (A:Around) (outer:List Env) (s:[47]) (H:Hp) (vs:List V) (Q:VK) (E:XK),RoomM k (A.deeper (envOfC qual scope s.heap.objs.size f cdv))->sp vs H Q E ->
     ∃ t,PSs (cxM CX P w K mg base N qual scope f cdv A outer s H E) body t /\ t { nx:=λ _ H'=>Q .non H',rt:=Q } (start N vs) H) :
    FnOkM P w K mg base CX (k + 1) f [80] ps sp:=by
 refine ⟨len,λ A outer s H args us vs Q E hr e0 hb r hsp=>?_⟩;have hl:=len _ _ _ _ hsp;have KX:K.In s.heap:=e0.mod.kin.keeps λ b o e=>(e0.bs b o e).1;have lim:s.heap.NoLimit:=e0.mod.nolimit.keeps λ b o e=>(e0.bs b o e).1
 have hkind:∀ y ∈ ps.zip us,scope.names.lookup y.1=some .local \/ (scope.names.lookup y.1=some .cell /\ ((cellsFrom (s.heap.objs.size + 1) scope.names []).lookup y.1).isSome=true):=λ ⟨n,v⟩ hy=>by
  rcases S.par n (of_mem_zip hy).1 with q | q
  ·exact .inl q
  ·exact .inr ⟨q,cellsFrom_some _ _ _ (.inl q)⟩
 have hdep:A.depth < recursionLimit:=by have:=hr.dp; omega
 refine codeAny_call_function hdep (KX _ _ lk) rfl S.co S.gen rfl (codeRec_of KX hcd) (hb _ _ _ _ ?_);refine wpAny_newFunctionEnv_cells S.kind hkind λ env he s1 x=>?_;subst he;refine ⟨lim.keeps x.toInCall.keep,codeAny_func ?_⟩;obtain ⟨t,ht,hq⟩:=hbody A outer s H vs Q E (hr.deeper _) hsp;have I:Inv (cxM CX P w K mg base N qual scope f cdv A outer s H E) [] (start N vs) H s1:=wc2 S e0 hl r x;refine wpAny_mono (ht [] s1 (start N vs) H _ I hq) (λ fl s' hs=>?_) λ e s' hs=>hs
 have fin:∀ {σ':L2.St} {H':Hp} {v:V} {u:Value},Inv (cxM CX P w K mg base N qual scope f cdv A outer s H E) [] σ' H' s'->RelV v u->Q v H'->CE outer P w H s Q u s' :=
  λ {σ' H' v u} J rv q=>⟨v,H',J.os,J.bare,J.base,J.hok,rv,q⟩
 cases fl with
 | ret u =>
  obtain ⟨v,σ',H',J,rv,q⟩:=hs;exact fin J rv q
 | next =>
  obtain ⟨σ',H',J,q⟩:=hs;exact fin (v:=V.non) (u:=Value.none) J rfl q
 | brk =>
  obtain ⟨_,_,_,q⟩:=hs;exact False.elim q
 | cont =>
  obtain ⟨_,_,_,q⟩:=hs;exact False.elim q
def CalM (P:[60]) (w:World) (K:Fg) (mg:[24]) (base:Heap) (k:Nat) (x:Str) (ps:[35]) (sp:Sp3):Prop :=
 ∃ f fd,FnOkM P w K mg base CX0 k f fd ps (lift K sp) /\ mg x=some (.ref f) /\ keepIn K (.ref f)=true /\ Binds K fd ps []
theorem CalM.mono {P:[60]} {w:World} {K:Fg} {mg:[24]} {base:Heap} {j k:Nat} {x:Str} {ps:[35]} {sp:Sp3} (c:CalM P w K mg base j x ps sp) (h:j<=k):CalM P w K mg base k x ps sp:=by
 obtain ⟨f,fd,F,r⟩:=c;exact ⟨f,fd,⟨F.len,λ A outer s H args us vs Q E hr=>F.run A outer s H args us vs Q E (hr.mono h)⟩,r⟩
section
variable {x:Str} {t:TA3}
theorem vw2 {sp:Sp3} (c:CalM X.prog X.w X.K X.mg X.base k x ps sp) (hr:RoomM k X.A) (ha:RA X (e :: es) t) (hg:Gl X x:=by rfl) (hdb:[23]=false:=by decide)
    (he:starEach (e :: es) X.env=[26] :: starEach es X.env:=by rfl) (hpl:(backTo pos [31]).any (·.1)=false:=by rfl):RE X [49] (wa0 sp t):=by
 obtain ⟨f,fd,F,hm,hk,hb⟩:=c;obtain ⟨va,pa,ra⟩:=ha;refine ⟨xn3 (lift X.K sp) [] E0 va,λ pins s σ H Q I h=>?_,λ σ H Q ρ μ Q3 s m h k=>ra σ H _ ρ μ _ s m h λ ds μ1 vs H1 h1 k1 r1 m1=>?_⟩
 ·refine wpAny_Call_Name_kw (zg0 I hg hm ?_ hdb);refine callWith_K (h₀:=X.base) I.ok.mod.kin hk (thn (pa pos pins s σ H _ I h) λ us s1 ⟨vs,H1,I1,r,q⟩=>⟨I1.kIn,?_⟩) he hpl;dsimp only at q;rw [append_nil] at q;have hl:(us ++ []).length=ps.length:=by rw [append_nil,<- r.length]; exact F.len _ _ _ _ q
  have hbb:=hb s1 us I1.kIn hl;rw [append_nil] at hbb;refine wpAny_call (codeAny_mono (F.run X.A X.stack s1 H1 ⟨us,[]⟩ us vs Q E0 hr I1.env0 hbb r q) λ rr s' hq=>?_);cases rr with
  | error ex=>exact False.elim hq
  | ok fl =>
   cases fl with
   | ret u=>exact I1.after hq
   | next=>exact False.elim hq
   | brk=>exact False.elim hq
   | cont=>exact False.elim hq
 ·rw [append_nil];exact ⟨ds,μ1,Q3,r1,m1,h1,k.after k1⟩
end
section
variable {K:Fg} 
theorem va4 {x:Str} {st:Stmt} {sp:Sp3} {t:TS3} (F:Fun K x x st f fd) (hm:mg x=some (.ref f)) (hb:Binds K fd ps []) (S:FnScope N ps (ya0 st))
    (len:∀ ds μ Q,sp ds μ Q->ds.length=ps.length)
    (body:∀ (cdv:Value) (A:Around) (outer:List Env) (s:[47]) (H:Hp) (E:XK),RoomM k ([87])->RSs (cxM CX0 P w K mg base N x (ya0 st) f cdv A outer s H E).nox (va0 st) t)
    (rd:∀ ds μ Q,sp ds μ Q->t { nx:=λ _ μ'=>Q .non μ',rt:=Q } (xb0 N ds) μ):CalM P w K mg base (k + 1) x ps sp:=by
 refine ⟨f,fd,?_,hm,F.kp,hb⟩;obtain ⟨oc,od,kV,doc,pm,an,cdv,ct,osl,rfl,lk,hcd⟩:=F.ex;refine wc5 lk hcd S (λ vs H Q E h=>?_) λ A outer s H vs Q E hr h=>?_
 ·obtain ⟨ds,μ,Q3,r,m,q,ks⟩:=h;rw [<- r.length]; exact len _ _ _ q
 ·obtain ⟨ds,μ,Q3,r,m,q,ks⟩:=h;obtain ⟨tv,p,rt⟩:=body cdv A outer s H E hr;exact ⟨tv,p.nox,rt _ H _ _ μ _ (RSt.start N r) m (rd ds μ Q3 q) [86]⟩
end
theorem sk2 {K:Fg} {x:Str} {bs:[25]} {ni:String} (Z:K.In h) (G:h.Ns mainGlobals mg) (e:nsIn K mainGlobals x=some (some [72])) (w:excIn K C bs ni=true):OwnCls x C bs ni mg h:=by
 refine ⟨mg_of Z G e,?_⟩;unfold excIn at w;split at w
 case h_2=>cases w
 case h_1 d1 c1 s1 ho =>
  split at w
  case h_2=>cases w
  case h_1 C2 b1 z0 z1 z2 z3 id z5 hm hs =>
   simp only [Bool.and_eq_true,beq_iff_eq,Bool.not_eq_true'] at w;obtain ⟨⟨⟨⟨⟨w1,w2⟩,w3⟩,w4⟩,w5⟩,w6⟩:=w;subst w1 w2;cases c1;dsimp only at hm w3 w5 w6;subst hm w3;have es:s1 = #[z0,z1,z2,z3,some (.builtin id),z5]:=by cases s1; simp only at hs; rw [hs]
   rw [es] at ho;exact ⟨b1,_,_,_,_,_,_,_,_,_,d1,z0,z1,z2,z3,z5,_,Z _ _ ho,.of_isNs (PySem.W.isNs_of_in Z w5),PySem.W.nsMap_none_of_in Z w5 w6,PySem.W.tail_of_in Z w4⟩
section
variable {K:Fg} {cd:ClassData} {t c:Value} {b:Bool} {T:String}
theorem ub0 (cl:clsIn K C=some cd) (tc:typeIn K [72]=some (.type "type")) (sb:subIn K t [72]=some b):kitCls K t [72]=some b:=by
 unfold kitCls;dsimp only;rw [cl,tc,if_pos [17],sb]
theorem xq0 (hm:PySem.W.kitMeta T=true) (sb:subIn K t (.type T)=some b):kitCls K t (.type T)=some b:=by
 unfold kitCls;dsimp only;rw [if_pos hm,sb]
theorem wd0 (ne:(t == c)=false) (h:kitCls K t c=some b):kitOne K t c=some b:=by
 unfold kitOne;rw [if_neg (by rw [ne]; decide),h]
theorem vw0:kitOne K t t=some true:=by
 unfold kitOne;rw [if_pos [17]]
end
theorem to0:bootBuiltins "ValueError" = some (.type "ValueError"):=by decide +kernel
end Pv
namespace Pv
open PySem PySem.Spec PyProof.Rows L2
variable {X:Cx}
section
theorem isN_v {K:Fg} {H:Hp} {x:D} {v:V} (r:RelD K H x v):decide (v=.non)=isN x:=by
 cases r <;> simp [isN]
theorem vt4:RO X (compareOp .Is) (isNR false):=by
 refine ⟨_,wx4,λ x y v u H Q μ Q3 m rx ry h k=>?_⟩;cases ry with
 | non =>
  refine ⟨rfl,?_⟩;rw [isN_v rx];exact k _ _ _ _ h [38] (.bl _) m
 | _=>exact False.elim h
theorem q_max (hc:[82]):RC X (.builtin "max") maxR:=by
 refine ⟨_,zr2 hc,λ xs vs H Q μ Q3 m r h k=>?_⟩;cases r with
 | nil=>exact False.elim h
 | cons r1 r2 =>
  cases r1 with
  | int i =>
   cases r2 with
   | nil=>exact False.elim h
   | cons r2 r3 =>
    cases r2 with
    | int j =>
     cases r3 with
     | nil=>exact ⟨i,j,rfl,k _ _ _ _ h [38] (.int _) m⟩
     | cons _ _=>exact False.elim h
    | _=>exact False.elim h
  | _=>exact False.elim h
end
variable {f:Value}
section
theorem RC.or {R1 R2:C3} (h1:RC X f R1) (h2:RC X f R2):RC X f (λ ds μ Q=>R1 ds μ Q \/ R2 ds μ Q):=by
 obtain ⟨c1,p1,r1⟩:=h1;obtain ⟨c2,p2,r2⟩:=h2
 exact ⟨λ xs H Q=>c1 xs H Q \/ c2 xs H Q,λ pins s σ H xs us Q I r h=>h.elim (p1 pins s σ H xs us Q I r) (p2 pins s σ H xs us Q I r),
  λ xs vs H Q μ Q3 m r h k=>h.elim (λ h=>.inl (r1 xs vs H Q μ Q3 m r h k)) λ h=>.inr (r2 xs vs H Q μ Q3 m r h k)⟩
theorem RC.le {R1 R2:C3} (h:RC X f R1) (e:∀ ds μ Q,R2 ds μ Q->R1 ds μ Q):RC X f R2:=by
 obtain ⟨c1,p1,r1⟩:=h;exact ⟨c1,p1,λ xs vs H Q μ Q3 m r h k=>r1 xs vs H Q μ Q3 m r (e _ _ _ h) k⟩
def zz4:C3:=λ ds μ Q=>match ds with
 | [.ref p]=>match μ p with
  | some (.lst l)=>match ints? l with
   | some ns=>0 < ns.length /\ ∀ m,m ∈ ns->(∀ a,a ∈ ns->a<=m)->Q (.int m) μ
   | none=>False
  | _=>False
 | _=>False
theorem xr2 (hc:[82]):CallR X (.builtin "min") (λ xs H Q=>∃ (p:Addr) (ns:[64]),xs=[.ref p] /\ SqL X.K H p (ns.map V.int) /\ 0 < ns.length /\ ∀ m,m ∈ ns->(∀ a,a ∈ ns->m<=a)->Q (.int m) H):=by
 intro pins s σ H xs us Q I r h;obtain ⟨p,ns,rfl,hq,hne,q⟩:=h;obtain ⟨u,rfl,rx⟩:=wu0 r;cases rx;obtain ⟨its,r',pl,hz⟩:=I.list hq;have hi:=va1 r';obtain ⟨ys,e⟩:=hi.allInts.items;have hl:=pl.isList;rw [e] at hl;have hns:ns=ys.toList.map (·.1):=by rw [<- hi.numsOf,<- nums_intItems,<- e]
 have hsz:0 < ys.size:=by
  have h3:=hne; rw [hns,length_map,length_toList] at h3; exact h3
 refine min_intList (I.ok.hd hc) hl hsz λ v h' tk hv hk=>?_;obtain ⟨t,rfl⟩:=intItems_at hv;obtain ⟨h1,h2⟩:=argBest_lt (numAt ys) (ys.size - 1);refine ⟨.int _,H,I.kept (t':=tk) hk,⟨t,rfl⟩,q _ ?_ λ a ha=>?_⟩
 ·rw [hns,numAt_eq]; exact getD_mem (by rw [length_map,length_toList]; omega)
 ·rw [hns] at ha;obtain ⟨j,hj,rfl⟩:=mem_getD ha;rw [length_map,length_toList] at hj;rw [<- numAt_eq]; exact h2 j [5]
theorem yr2 (hc:[82]):CallR X (.builtin "max") (λ xs H Q=>∃ (p:Addr) (ns:[64]),xs=[.ref p] /\ SqL X.K H p (ns.map V.int) /\ 0 < ns.length /\ ∀ m,m ∈ ns->(∀ a,a ∈ ns->a<=m)->Q (.int m) H):=by
 intro pins s σ H xs us Q I r h;obtain ⟨p,ns,rfl,hq,hne,q⟩:=h;obtain ⟨u,rfl,rx⟩:=wu0 r;cases rx;obtain ⟨its,r',pl,hz⟩:=I.list hq;have hi:=va1 r';obtain ⟨ys,e⟩:=hi.allInts.items;have hl:=pl.isList;rw [e] at hl;have hns:ns=ys.toList.map (·.1):=by rw [<- hi.numsOf,<- nums_intItems,<- e]
 have hsz:0 < ys.size:=by
  have h3:=hne; rw [hns,length_map,length_toList] at h3; exact h3
 refine max_intList (I.ok.hd hc) hl hsz λ v h' tk hv hk=>?_;obtain ⟨t,rfl⟩:=intItems_at hv;obtain ⟨h1,h2⟩:=argBest_gt (numAt ys) (ys.size - 1);refine ⟨.int _,H,I.kept (t':=tk) hk,⟨t,rfl⟩,q _ ?_ λ a ha=>?_⟩
 ·rw [hns,numAt_eq]; exact getD_mem (by rw [length_map,length_toList]; omega)
 ·rw [hns] at ha;obtain ⟨j,hj,rfl⟩:=mem_getD ha;rw [length_map,length_toList] at hj;rw [<- numAt_eq]; exact h2 j [5]
theorem q_mn (hc:[82]) (hu:[68]):RC X (.builtin "min") mnR:=by
 refine ⟨_,xr2 hc,λ xs vs H Q μ Q3 m r h k=>?_⟩;unfold mnR at h;split at h
 ·next p =>
  cases r with
  | cons r1 r2 =>
   cases r2;cases r1;split at h
   ·next l e =>
    split at h
    ·next ns e1 =>
     obtain ⟨vs,hv,rs⟩:=m p l e;have ev:=ut0 rs e1;subst ev;exact ⟨p,ns,rfl,SqL.of hv,h.1,λ a h1 h2=>k _ _ _ _ (h.2 a h1 h2) [38] (.int _) m⟩
    ·exact h.elim
   ·exact h.elim
 ·exact h.elim
theorem yt4 (hc:[82]):RC X (.builtin "max") zz4:=by
 refine ⟨_,yr2 hc,λ xs vs H Q μ Q3 m r h k=>?_⟩;unfold zz4 at h;split at h
 ·next p =>
  cases r with
  | cons r1 r2 =>
   cases r2;cases r1;split at h
   ·next l e =>
    split at h
    ·next ns e1 =>
     obtain ⟨vs,hv,rs⟩:=m p l e;have ev:=ut0 rs e1;subst ev;exact ⟨p,ns,rfl,SqL.of hv,h.1,λ a h1 h2=>k _ _ _ _ (h.2 a h1 h2) [38] (.int _) m⟩
    ·exact h.elim
   ·exact h.elim
 ·exact h.elim
theorem q_mx (hc:[82]):RC X (.builtin "max") mxR:=by
 refine ((q_max hc).or (yt4 hc)).le λ ds μ Q h=>?_;unfold mxR at h;split at h
 ·exact .inl h
 ·exact .inr h
 ·exact h.elim
end
section
variable {e:Expr} {te:TE3} {p p2 pos pos2:Pos}
theorem q_str:RC X (.type "str") strR:=by
 refine ⟨_,tl1,λ xs vs H Q μ Q3 m r h k=>?_⟩;cases r with
 | nil=>exact False.elim h
 | cons r1 r2 =>
  cases r2 with
  | cons _ _=>cases r1 <;> exact False.elim h
  | nil =>
   cases r1 with
   | int i=>exact ⟨i,rfl,h.1,k _ _ _ _ h.2 [38] (.str _) m⟩
   | _=>exact False.elim h
variable {o:Expr} {es:[67]} {to:TE3} {t:TA3} {apos cpos:Pos}
theorem sf3 {name:Str} {id:String} {r:V->List V->Hp->VK->Prop} {r3:Str->List D->Mu->VK3->Prop} (slot:Slot "str" name id) (hty:typeOf (.builtin id)=pure (.type "method_descriptor")) (hm:MtR X id r)
    (hrd:∀ z xs vs H Q μ Q3,RelM X.K μ H->RelDs X.K H xs vs->r3 z xs μ Q3->Ks X.K H Q3 Q->r (.str z) vs H Q) (ho:RE X o to) (ha:RA X (e :: es) t)
    (hbase:attributeBase o name X.env (eval o X.env)=eval o X.env)
    (hfew:([81].all (λ x=>!x.1) && [70].all (λ x=>x.1.isSome)
     && decide [29])=true)
    (hline:(apos.endLine == cpos.line)=true) (hs:starEach (e :: es) X.env=[26] :: starEach es X.env) (hplain:(backTo cpos [31]).any (·.1)=false) :
    RE X (.Call (.Attribute o name apos) (e :: es) [] cpos) (smt3 r3 to t):=by
 obtain ⟨va,pa,ra⟩:=ho;obtain ⟨vb,pb,rb⟩:=ha;refine ⟨_,yv3 PySem.F.plainAttrs_str slot hty hm pa pb hbase hfew hline hs hplain,λ σ H Q ρ μ Q3 s m h k=>ra σ H _ ρ μ _ s m h λ d μ1 v H1 h1 k1 r1 m1=>?_⟩;cases r1 with
 | str z=>exact ⟨rfl,rb σ H1 _ ρ μ1 _ [63] m1 h1 λ xs μ2 ys H2 h2 k2 r2 m2=>hrd z xs ys H2 Q μ2 Q3 m2 r2 h2 (k.after (k1.trans k2))⟩
 | _=>exact False.elim h1
theorem wb1 {K:Fg} {H:Hp}:∀ (l:[35]),RelDs K H (l.map D.str) (l.map V.str)
 | []=>.nil
 | y :: l=>.cons (.str y) (wb1 l)
theorem sy0:∀ {ys:[35]} {us:[25]},Vals (ys.map V.str) us->StrsAre us ys
 | [],us,r=>by cases r; exact .nil
 | y :: ys,us,r=>by
  cases r with
  | cons r1 r2 =>
   obtain ⟨t,rfl⟩:=r1;exact .cons y t (sy0 r2)
theorem vw3:MtR X "str.join" (λ x xs H Q=>∃ z p ys,x=.str z /\ xs=[.ref p] /\ SqL X.K H p (ys.map V.str) /\ (z.length<=16 /\ (ys.map (·.length)).sum + ys.length<=1048576) /\ Q (.str (Str.join z ys)) H):=by
 intro pins s σ H x xs v us Q I rx rv h;obtain ⟨z,p,ys,rfl,rfl,hq,hz,q⟩:=h;obtain ⟨t,rfl⟩:=rx;obtain ⟨u,rfl,ru⟩:=rv.one;cases ru;obtain ⟨its,r,pl,hsz⟩:=I.list hq;refine join_listW pl.isList (sy0 r) hz.1 hz.2 λ t' k=>?_;refine ⟨.str (Str.join z ys),H,I.tok _,⟨t',?_⟩,q⟩;show Value.str (Builtin.Str.glued z ys) t'=_;rw [StrLaws.glued_eq_join]
theorem zl0:∀ (l:List (Str × Tok)),Vals ((l.map (·.1)).map V.str) (strValues l)
 | []=>.nil
 | (y,t) :: l=>.cons ⟨t,rfl⟩ (zl0 l)
theorem xf2 {prog:[60]} {w:World} {A:Around} {E:[7]} {s:[47]} {x y:Str} {t u:Tok} {Q:[7]} (hy:(y.length == 0)=false) (hsz:x.length<=sizeLine)
    (hsz2:(Builtin.Str.partsBetween x (Builtin.Str.occurrences x y 0 x.length (x.length + 1)) y.length).length<=sizeLine)
    (hq:∀ l tk,l.map (·.1)=Txt.split x y->Q [71] { s with heap:=s.heap.push { cls:=.type "list",data:=.seq (strValues l).toArray },toks:=tk }) :
    wpAny [8] A (call (.builtin "str.split") [.str x t,.str y u]) Q E s:=by
 cases h1:(decide (x.length < y.length) || decide (Builtin.Str.strKind x < Builtin.Str.strKind y))
 ·cases hf:(Builtin.Str.occurrences x y 0 x.length (x.length + 1)).isEmpty
  ·refine call_meets F.slot_str_split (typeIs_str _ _ _) F.entry_str_split (F.args_str_split_2 _ _) (meets_str_split_sep x y t u h1 hy hf hsz hsz2) ?_;show wants Q E _ { s with toks:=_,heap:=s.heap.push { cls:=.type "list",data:=.seq (strsFrom s.toks (Builtin.Str.partsBetween x (Builtin.Str.occurrences x y 0 x.length (x.length + 1)) y.length)).toArray } };rw [strsFrom_eq];exact hq (numbered s.toks _) _ ((numbered_texts _ _).trans ((if_neg (ne_true_of_eq_false h1)).trans (if_neg (ne_true_of_eq_false hf))).symm)
  ·exact call_meets F.slot_str_split (typeIs_str _ _ _) F.entry_str_split (F.args_str_split_2 _ _) (meets_str_split_not_found x y t u h1 hy hf)
     (hq [(x,t)] _ ((if_neg (ne_true_of_eq_false h1)).trans (if_pos hf)).symm)
 ·exact call_meets F.slot_str_split (typeIs_str _ _ _) F.entry_str_split (F.args_str_split_2 _ _) (meets_str_split_cannot_occur x y t u h1)
    (hq [(x,t)] _ (if_pos h1).symm)
theorem tx2:MtR X "str.split" (λ x xs H Q=>∃ z y,x=.str z /\ xs=[.str y] /\ ((y.length == 0)=false /\ z.length<=1000000) /\ ∀ r,H r=none->Q (.ref r) (upd H r (.lst ((Txt.split z y).map V.str)))):=by
 intro pins s σ H x xs v us Q I rx rv h;obtain ⟨z,y,rfl,rfl,hz,q⟩:=h;obtain ⟨t,rfl⟩:=rx;obtain ⟨u,rfl,t',rfl⟩:=rv.one;have hbig:1000010<=sizeLine:=by decide
 have hzl:z.length<=sizeLine:=by have:=hz.2; omega
 have hz2:=hz.2
 have hn:(Builtin.Str.partsBetween z (Builtin.Str.occurrences z y 0 z.length (z.length + 1)) y.length).length<=sizeLine:=by
  rw [len_partsBetween];have:=StrLaws.occ_length_le z y 0 z.length (z.length + 1);omega
 refine xf2 hz.1 hzl hn λ l tk e=>?_;rw [<- e] at q;refine ⟨.ref _,_,I.laid (t':=tk) (λ b o e=>Heap.get?_push_of_some _ e) [18] (show ObjOk X.prog X.w _ _ _ (.lst ((l.map (·.1)).map V.str)) from ⟨?_,strValues l,0,zl0 l,Heap.get?_push_size _ rfl⟩),rfl,q _ (I.hok.fresh [18])⟩;rw [length_map,e];exact Nat.le_trans (split_le z y) [5]
theorem yf1 (ho:RE X o to) (ha:RA X (e :: es) t) (hbase:attributeBase o "split" X.env (eval o X.env)=eval o X.env:=by rfl)
    (hfew:([81].all (λ x=>!x.1) && [70].all (λ x=>x.1.isSome)
     && decide [29])=true:=by rfl)
    (hline:(apos.endLine == cpos.line)=true:=by rfl) (hs:starEach (e :: es) X.env=[26] :: starEach es X.env:=by rfl) (hplain:(backTo cpos [31]).any (·.1)=false:=by rfl) :
    RE X (.Call (.Attribute o "split" apos) (e :: es) [] cpos) (smt3 tv0 to t):=by
 refine sf3 PySem.F.slot_str_split PySem.F.type_str_split tx2 (λ z xs vs H Q μ Q3 m rx h k=>?_) ho ha hbase hfew hline hs hplain;cases rx with
 | nil=>exact False.elim h
 | cons r1 r2 =>
  cases r2 with
  | cons _ _=>cases r1 <;> exact False.elim h
  | nil =>
   cases r1 with
   | str y=>exact ⟨z,y,rfl,rfl,h.1,λ r hr=>k _ _ _ _ (h.2 r (m.free hr)) (Kp.new hr) (.ref r) (m.newL hr (wb1 _))⟩
   | _=>exact False.elim h
theorem wr3 (ho:RE X o to) (ha:RA X (e :: es) t) (hbase:attributeBase o "join" X.env (eval o X.env)=eval o X.env:=by rfl)
    (hfew:([81].all (λ x=>!x.1) && [70].all (λ x=>x.1.isSome)
     && decide [29])=true:=by rfl)
    (hline:(apos.endLine == cpos.line)=true:=by rfl) (hs:starEach (e :: es) X.env=[26] :: starEach es X.env:=by rfl) (hplain:(backTo cpos [31]).any (·.1)=false:=by rfl) :
    RE X (.Call (.Attribute o "join" apos) (e :: es) [] cpos) (smt3 yq0 to t):=by
 refine sf3 PySem.F.slot_str_join PySem.F.type_str_join vw3 (λ z xs vs H Q μ Q3 m rx h k=>?_) ho ha hbase hfew hline hs hplain;cases rx with
 | nil=>exact False.elim h
 | cons r1 r2 =>
  cases r2 with
  | cons _ _=>cases r1 <;> exact False.elim h
  | nil =>
   cases r1 with
   | ref p =>
    dsimp only [yq0] at h;cases e0:μ p with
    | none=>simp_all
    | some oo =>
     cases oo with
     | dcl _ _=>simp_all
     | lst l =>
      rw [e0] at h;dsimp only at h;cases e1:strs? l with
      | none=>simp_all
      | some ys =>
       rw [e1] at h;obtain ⟨ws,hv,rs⟩:=m p l e0;have ev:=wd1 rs e1;subst ev;exact ⟨z,p,ys,rfl,rfl,SqL.of hv,h.1,k _ _ _ _ h.2 [38] (.str _) m⟩
   | _=>exact False.elim h
end
def ist3 (t:TE3):TI3:=λ ρ μ R=>t ρ μ λ d μ1=>match d with
 | .str z=>R (z.cps.toList.map λ c=>D.str ⟨#[c]⟩) (λ _=>True) μ1
 | _=>False
def ninR:R3:=λ x y μ Q=>match x,y with
 | .str z,.str y=>Q (.bl (!(!(Builtin.Str.occurrences y z 0 y.length 1).isEmpty))) μ
 | _,_=>False
section
variable {tg a:Expr} {ta:TE3}
theorem zo4 (ha:RE X a ta):RI X tg a (ist3 ta):=by
 obtain ⟨va,pa,ra⟩:=ha;refine ⟨λ σ H R=>va σ H λ x H1=>∃ z,x=.str z /\ R (Its z) H1,?_,λ σ H R ρ μ R3 s m h k=>ra σ H _ ρ μ _ s m h λ d μ1 v H1 h1 k1 r1 m1=>?_⟩
 ·intro pins s σ H R I h;refine thn (pa pins s σ H _ I h) λ v s1 ⟨x,H1,I1,r1,z,e,q⟩=>?_
  have fp:∀ b ∈ [s1.heap.objs.size],FpOk X pins H1 b:=λ b hb=>by
   have e:b=s1.heap.objs.size:=by simpa using hb
   subst e;exact I1.fpOk [18] (I1.hok.fresh [18])
  subst e;obtain ⟨t,rfl⟩:=r1;cases ha:z.cps.all (· < 128)
  ·refine wpAny_pyIter_wide ha ?_;exact ⟨s1.heap.objs.size,[s1.heap.objs.size],_,_,H1,rfl,I1.kept (t':=s1.toks) λ b o e=>Heap.get?_push_of_some _ e,xr1 "str_iterator" z t _ [14] (λ A hA=>Walks.strWide hA _ z t) (λ _ _ _ _ _ st h=>wpAny_pyIter_striter_wide st h),⟨[53],Nat.zero_le _⟩,fp,q⟩
  ·refine wpAny_pyIter_ascii ha ?_;exact ⟨s1.heap.objs.size,[s1.heap.objs.size],_,_,H1,rfl,I1.kept (t':=s1.toks) λ b o e=>Heap.get?_push_of_some _ e,xr1 "str_ascii_iterator" z t _ [14] (λ A hA=>Walks.strAscii hA _ z t) (λ _ _ _ _ _ st h=>wpAny_pyIter_striter_ascii st h),⟨[53],Nat.zero_le _⟩,fp,q⟩
 ·cases r1 with
  | str z=>exact ⟨z,rfl,k _ _ _ _ _ h1 k1 m1 (ty2 z)⟩
  | _=>exact False.elim h1
theorem q_nin:RO X (compareOp .NotIn) ninR:=by
 refine ⟨_,zk1,λ x y v u H Q μ Q3 m rx ry h k=>?_⟩;unfold ninR at h;split at h
 ·cases rx;cases ry;exact ⟨_,_,rfl,rfl,k _ _ _ _ h [38] (.bl _) m⟩
 ·exact h.elim
end
end Pv
namespace Pv
open PySem PySem.Spec PySem.W PyProof.Rows L2
variable {s:[47]}
section
variable {prog:[60]} {w:World} {A:Around} {E:[7]} {d:Addr} {es:Array DictEntry} {ep:Nat}
theorem zc2 {acc:Array Value} (h:ItemsOf (λ i v=>∃ e,es[i]?=some e /\ v=e.key) acc es.size):acc.toList=es.toList.map (·.key):=by
 obtain ⟨h1,h2⟩:=h;apply List.ext_getElem?;intro i;rw [getElem?_map,getElem?_toList,getElem?_toList];by_cases c:i < es.size
 ·obtain ⟨e,e1,e2⟩:=h2 i (acc[i]'(by omega)) [17]
  simp_all
 simp_all
abbrev ltI3 (ts:[50]):Nat->Nat->Bool:=λ i j=>lt3 (ts.getD i (0,0,0)) (ts.getD j (0,0,0))
theorem tf2 {ts:[50]} {Q:[7]} (hh:A.handled=none) (lo:(d == sysModules)=false) (x:DG s.heap d es ep) (ht:Lw (IsT3 s.heap) (es.toList.map (·.key)) ts) (h64:es.size < 64)
    (h:∀ (p:[76]) (h1 h':Heap) (c tk:Nat),p.Perm (List.toArray (List.range es.size))->Ms.Up (ltI3 ts) p es.size->(∀ b o,s.heap.get? b=some o->h1.get? b=some o)->(∀ b o,h1.get? b=some o->h'.get? b=some o) ->
     h'.get? h1.objs.size=some (seqObj "list" (outV (es.toList.map (·.key)) p).toArray c)->Q (.ref h1.objs.size) [59]) :
    wpAny [8] A (call (.builtin "sorted") [.ref d]) Q E s:=by
 have hz:es.size<=sizeLine:=Nat.le_of_lt (Nat.lt_trans h64 [14]);refine Calls.call_function_entry kind_sorted plain_sorted entry_sorted (args_sorted1 _) ?_;unfold Builtin.«sorted»;refine wpAny_bind (m:=checkCount "sorted" 1 1 _) (wpAny_pure (wpAny_bind (kdu_collect (ud5 lo) hh x hz λ h1 tk acc k1 ia=>?_)));rw [zc2 ia];have l1:(es.toList.map (·.key)).length=es.size:=by simp
 refine wpAny_bind (wpAny_newList ?_ (by rw [l1]; exact hz));have k2:∀ b o,s.heap.get? b=some o->(h1.push (seqObj "list" (es.toList.map (·.key)).toArray 0)).get? b=some o:=λ b o q=>Heap.get?_push_of_some _ (k1 b o q);have zo:(h1.push (seqObj "list" (es.toList.map (·.key)).toArray 0)).get? h1.objs.size=some (seqObj "list" (es.toList.map (·.key)).toArray 0):=Heap.get?_push_size _ rfl;have tt:=Lw.mono (λ _ _=>ti3.kept λ b o e _=>k2 b o e) ht;show wpAny _ _ _ _ _ { s with heap:=h1.push (seqObj "list" (es.toList.map (·.key)).toArray 0),toks:=tk };refine wpAny_bind (wpAny_holding (wpAny_call_entry slot_list_sort ⟨_,zo,rfl⟩ entry_list_sort (ul2 (s:={ s with heap:=h1.push (seqObj "list" (es.toList.map (·.key)).toArray 0),toks:=tk }) (ti3.sk tt) [18] zo (λ h' g=>ti3.keep zo g tt) (by rw [l1]; exact h64) λ p h' c a1 a2 a3 a4=>⟨_,rfl,?_⟩) (args_list_sort _)));rw [l1] at a1 a2;exact wpAny_pure ⟨_,rfl,h p h1 h' c tk a1 a2 k1 (λ b o q=>a3 b o (Nat.ne_of_lt (Heap.lt_size q)) (Heap.get?_push_of_some _ q)) a4⟩
end
variable {H:Hp}
section
variable {X:Cx}
theorem zb5 {pins:[19]} {σ:L2.St} (I:[13]) {t:T3} {a:Addr} (hq:H a=some (.tup [.int t.1,.int t.2.1,.int t.2.2])):IsT3 s.heap (.ref a) t:=by
 obtain ⟨its,rv,⟨o,p1,p2,n,p3⟩,_⟩:=I.tuple (SqT.of hq);cases rv with
 | cons r1 rv =>
  cases rv with
  | cons r2 rv =>
   cases rv with
   | cons r3 rv =>
    cases rv;obtain ⟨t1,rfl⟩:=r1;obtain ⟨t2,rfl⟩:=r2;obtain ⟨t3,rfl⟩:=r3;exact ⟨_,o,t1,t2,t3,n,rfl,p1,p2,p3⟩
def kP (p:T3):List Int:=[p.1,p.2.1,p.2.2]
theorem yp2 {pins:[19]} {σ:L2.St} {H:Hp} {s:[47]} (I:[13]):∀ {kvs:List (List Key × V)} {xs:List (List Key × Addr × Value)} {ts:[50]},KT H kvs xs->kvs.map (·.1)=ts.map (λ t=>kL (kP t)) ->
    Lw (IsT3 s.heap) (xs.map λ q=>Value.ref q.2.1) ts /\ RelDs X.K H [16] (xs.map λ q=>V.ref q.2.1) /\ Vals (xs.map λ q=>V.ref q.2.1) (xs.map λ q=>Value.ref q.2.1)
 | [],_,ts,.nil,e=>by
  cases ts with
  | nil=>exact ⟨trivial,.nil,.nil⟩
  | cons _ _=>cases e
 | p :: kvs,q :: xs,ts,.cons r rs,e=>by
  cases ts with
  | nil=>cases e
  | cons t ts =>
   rw [map_cons,map_cons] at e;injection e with e1 e2
   obtain ⟨a,b,c⟩:=yp2 I rs e2;have hq:=r.2.1;rw [e1] at hq;exact ⟨⟨zb5 I hq,a⟩,.cons (.tup hq (.cons (.int _) (.cons (.int _) (.cons (.int _) .nil)))) b,.cons rfl c⟩
def rSdP (K:Fg):List V->Hp->VK->Prop:=λ xs H Q=>∃ d kvs n ts,xs=[.ref d] /\ H d=some (.dT kvs n) /\ kvs.map (·.1)=ts.map (λ t=>kL (kP t)) /\ ts.length < 64 ∧
 ∀ vs,RelDs K H [16] vs->∀ q:Array Nat,q.Perm (List.toArray (List.range ts.length))->Ms.Up (ltI3 ts) q ts.length->∀ r,H r=none->Q (.ref r) (upd H r (.lst (q.toList.map λ i=>vs.getD i .non)))
theorem za4 (hc:[82]):CallR X (.builtin "sorted") (rSdP X.K):=by
 intro pins s σ H xs us Q I r h;obtain ⟨d,kvs,ne,ts,rfl,hd,ek,h64,k⟩:=h;cases r with
 | cons r rr =>
  cases rr;cases r;obtain ⟨hz,lo,ys,pr,o,es,o1,o2,o3,o4,_⟩:=xd2 I.hok (.inl hd);obtain ⟨v2,rd,vv⟩:=yp2 I pr ek;have ekey:es.toList.map (·.key)=ys.map λ q=>Value.ref q.2.1:=by rw [o4,map_map]; rfl
  have l1:kvs.length=ys.length:=Paired.length pr;have l2:ts.length=kvs.length:=by have:=congrArg List.length ek; simpa using this.symm
  have l3:es.size=ys.length:=by rw [<- length_toList,o4,length_map]
  refine tf2 (I.ok.hd hc) lo ⟨o,o1,o2,o3⟩ (by rw [ekey]; exact v2) [5] λ p h1 h' c tk a1 a2 a3 a4 a5=>?_;rw [ekey] at a5;have e0:es.size=ts.length:=by omega
  rw [e0] at a1 a2
  have lt':∀ i ∈ p.toList,i < (ys.map λ q=>V.ref q.2.1).length:=λ i hi=>by
   have e:i ∈ List.toArray (List.range ts.length):=a1.mem_iff.mp (by simpa using hi)
   simp_all
  have sz:p.toList.length=ts.length:=by have:=a1.size_eq; simpa using this
  have I1:Inv X pins σ H { s with heap:=h1,toks:=tk }:=I.kept a3;refine ⟨.ref _,_,I1.laid (t':=tk) a4 [18] (show ObjOk X.prog X.w _ h' _ (.lst (p.toList.map λ i=>(ys.map λ q=>V.ref q.2.1).getD i .non)) from ⟨by simp_all,_,c,zu0 vv _ lt',a5⟩),rfl,k _ rd p a1 a2 _ (I1.hok.fresh [18])⟩
theorem RelKl.keys {K:Fg} {l:[41]} {vs:List (List Key × V)} (r:RelKl K H l vs):vs.map (·.1)=(l.map (·.1)).map kL:=by
 induction r with
 | nil=>rfl
 | cons _ _ ih=>simp_all
def vn1:C3:=λ ds μ Q=>match ds with
 | [.ref p]=>match μ p with
  | some (.dcl _ kvs)=>∃ ts:List T3,kvs.map (·.1)=ts.map kP /\ ts.length < 64 /\ ∀ us:List T3,us.Perm ts->us.Pairwise le3->∀ r,μ r=none->Q (.ref r) (updM μ r (.lst (us.map encT)))
  | _=>False
 | _=>False
theorem xs3 (hc:X.calm=true:=by rfl):RC X (.builtin "sorted") vn1:=by
 refine ⟨_,za4 hc,λ xs vs H Q μ Q3 m r h k=>?_⟩;unfold vn1 at h;split at h
 ·next p =>
  split at h
  ·next bb kvs e =>
   cases r with
   | cons r1 r2 =>
    cases r2;cases r1;obtain ⟨ts,et,h64,h⟩:=h;obtain ⟨ws,ne,hv,rk,_⟩:=m.dcl p bb kvs e;refine ⟨p,ws,ne,ts,rfl,hv,by rw [rk.keys,et,map_map]; rfl,h64,λ vs rd q a1 a2 r hr=>?_⟩;have hl:=rd.length;rw [length_map] at hl
    have lt':∀ i ∈ q.toList,i < vs.length:=λ i hi=>by
     have e:i ∈ List.toArray (List.range ts.length):=a1.mem_iff.mp (by simpa using hi)
     simp_all
    exact k _ _ _ _ (h _ (xj1 (d0:=((0,0,0):T3)) a1) (sf2 a1 a2) r (m.free hr)) (Kp.new hr) (.ref r) (m.newL hr (sp0 rd _ lt'))
  ·exact h.elim
 ·exact h.elim
end
end Pv
namespace Wc
open PySem PySem.Spec PyProof.Rows
open Sem (wp)
def HB (Γ:PySem.Ctx):Prop:=∃ x ∈ Γ.below,x.1.isCaller=true
def HC (Γ:PySem.Ctx):Prop:=Γ.code.isCaller=true \/ HB Γ
def wpC {α:Type} (M:Model) (A:Around) (t:Sem α) (Q:α->Shared->Prop) (E:[7]) (s:[47]):Prop :=
 ∀ Γ p,Γ.In A->HC Γ->wp M Γ t (λ a _ s'=>Q a s') (λ e _ s'=>E e s') p s
def codeC (M:Model) (A:Around) (c:Code) (R:Result->Shared->Prop) (s:[47]):Prop :=
 ∀ Γ p,Γ.code=c->Γ.Below A->HB Γ->wpCode M Γ R p s
variable {M:Model} {A:Around} {E:[7]} {s:[47]} {R:Result->Shared->Prop} {vs:[25]} {pos:Pos} {Q:Flow->Shared->Prop} {h:Option Value}
section
variable {α β:Type} 
theorem c_of {t:Sem α} {Q:α->Shared->Prop} (h:wpAny M A t Q E s):wpC M A t Q E s:=λ Γ p i _=>h Γ p i
theorem sz3 {c:Code} (h:codeAny M A c R s):codeC M A c R s:=λ Γ p e i _=>h Γ p e i
theorem vd0 {t:Sem α} {Q Q':α->Shared->Prop} {E':[7]} (h:wpC M A t Q E s) (hQ:∀ a s,Q a s->Q' a s) (hE:∀ e s,E e s->E' e s):wpC M A t Q' E' s :=
 λ Γ p i c=>Sem.wp_mono M Γ t (λ a _ s=>hQ a s) (λ e _ s=>hE e s) p s (h Γ p i c)
theorem cc_mono {c:Code} {R':Result->Shared->Prop} (h:codeC M A c R s) (hR:∀ r s,R r s->R' r s):codeC M A c R' s:=λ Γ p e i b=>wpCode_mono hR (h Γ p e i b)
theorem sa0 {m:Sem α} {f:α->Sem β} {Q:β->Shared->Prop} (h:wpC M A m (λ a s'=>wpC M A (f a) Q E s') E s):wpC M A (m >>= f) Q E s:=λ Γ p i c=>by
 rw [Sem.wp_bind'];exact Sem.wp_mono M Γ m (λ a p' s' h'=>h' Γ p' i c) (λ _ _ _ h'=>h') p s (h Γ p i c)
theorem sc0 {a:α} {Q:α->Shared->Prop} (h:Q a s):wpC M A (pure a) Q E s:=λ _ _ _ _=>h
theorem vo0 {m:Sem α} {Q:α->Shared->Prop} (h:wpC M A m Q E s):wpC M A (holding vs m) Q E s:=λ Γ p i c=>by rw [Sem.wp_holding]; exact h Γ p i c
theorem zf5 {m:Sem α} {Q:α->Shared->Prop} (h:wpC M A m Q E s):wpC M A (m.keep vs) Q E s:=λ Γ p i c=>by rw [Sem.wp_keep]; exact h Γ p i c
theorem vg0 {Q:Unit->Shared->Prop} (h:Q () s):wpC M A (standAt pos) Q E s:=λ _ _ _ _=>h
theorem wo0 {m:Sem α} {k:Value->Sem Unit} {Q:α->Shared->Prop} (h:wpC M A m Q (λ e s'=>wpC M A (k e) (λ _ s''=>E e s'') E s') s):wpC M A (m.onRaise k) Q E s:=λ Γ p i c=>by
 rw [Sem.wp_onRaise];exact Sem.wp_mono M Γ m (λ _ _ _ h'=>h') (λ e p' s' h'=>h' Γ p' i c) p s (h Γ p i c)
theorem zs2 {m:Sem α} {Q:Except Value α->Shared->Prop} (h:wpC M A m (λ a=>Q (.ok a)) (λ e=>Q (.error e)) s):wpC M A m.attempt Q E s:=λ Γ p i c=>by rw [Sem.wp_attempt]; exact h Γ p i c
theorem HC.enter {Γ:PySem.Ctx} (h:HC Γ) (c:Code) (hd:Option Value) (p:Pos):HB (Γ.enter c hd p):=by
 rcases h with h | ⟨x,hx,h⟩
 ·exact ⟨(Γ.code,p),mem_cons_self ..,h⟩
 ·exact ⟨x,mem_cons_of_mem _ hx,h⟩
theorem c_run {c:Code} (hc:codeC M (A.mark h) c (λ r s'=>match r with | .ok f=>Q f s' | .error e=>E e s') s) (hnb:h ≠ some byPass:=by intro x; cases x):wpC M A (run c h) Q E s :=
 λ Γ p i q=>by rw [Sem.wp_run]; exact hc _ p rfl (i.enter c h p hnb) (q.enter c h p)
theorem zd2 {c:Code} {Q:[7]} (hc:codeC M A c (λ r s'=>match r with | .ok (.ret v)=>Q v s' | .ok _=>False | .error e=>E e s') s):wpC M A (runValue c) Q E s :=
 λ Γ p i q=>by rw [Sem.wp_runValue]; exact hc _ p rfl (i.enter c none p (by intro x; cases x)) (q.enter c none p)
theorem vm1 {f:Value} {pos:[25]} {kw:List (Str × Value)} {Q:[7]} (hc:codeC M A (.call f ⟨pos,kw⟩) (λ r s'=>match r with | .ok (.ret v)=>Q v s' | .ok _=>False | .error e=>E e s') s):wpC M A (call f pos kw) Q E s:=zd2 hc
theorem zq0 {c:Code} (h:wpC M (A.under c) (M.den c) (λ fin s'=>match fin with | .done f=>R (.ok f) s' | .again c'=>c'.quiet=true /\ codeC M A c' R s') (λ e s'=>R (.error e) s') s):codeC M A c R s:=λ Γ p hc i b=>by
 rw [wpCode_iff_wp,hc];refine Sem.wp_mono M Γ _ (λ fin p' s' h'=>?_) (λ _ _ _ h'=>h') p s (h Γ p (hc ▸ i.in) (.inr b));cases fin with
 | done f=>exact h'
 | again c'=>exact ⟨h'.1,h'.2 (Γ.goto c') p' rfl (i.goto c') b⟩
end
variable {prog:[60]} {w:World} {env:Env} {body orelse:List Stmt}
section
theorem wq0 {st:Stmt} {rest:List Stmt} (h:wpC [8] A (exec st env) (λ f s'=>match f with | .next=>wpC [8] A (execs rest env) Q E s' | f=>Q f s') E s):wpC [8] A (execs (st :: rest) env) Q E s:=by
 rw [execs_cons];refine sa0 (vd0 h (λ f s' h'=>?_) λ _ _ x=>x);cases f <;> first | exact h' | exact sc0 h'
theorem c_if {test:Expr} (h:wpC [8] A (isTrue test env (eval test env)) (λ b s₂=>if b then wpC [8] A (execs body env) Q E s₂ else wpC [8] A (execs orelse env) Q E s₂) E s) :
    wpC [8] A (exec (.If test body orelse pos) env) Q E s:=λ Γ p i c=>by
 simp only [exec_If,Sem.wp_bind',Sem.wp_cmd_standAt];refine Sem.wp_mono _ Γ _ (λ b p₂ s₂ h₂=>?_) (λ _ _ _ h'=>h') _ _ (h Γ _ i c);cases b <;> exact h₂ Γ p₂ i c
theorem ya4 (h:wpC [8] (A.deeper env) (execs body env) (λ f s'=>R (.ok (.ret (match f with | .ret v=>v | _=>.none))) s')
      (λ e s'=>wpAny [8] (A.deeper env) (leaving env e) (λ _ s''=>R (.error e) s'') (λ e' s''=>R (.error e') s'') s') s):codeC [8] A (.func body env) R s:=by
 refine zq0 ?_;show wpC _ (A.deeper env) (do point; match <- (execs body env).onRaise (leaving env) with | .ret v=>ret v | _=>ret .none) _ _ s;refine sa0 (c_of (wpAny_point ?_));refine sa0 (wo0 (vd0 h (λ f s' h'=>?_) λ _ _ h'=>c_of h'));cases f <;> exact sc0 h'
theorem cc_fn {a:Addr} {args:Args} {o:Obj} {fd:FuncData} (hroom:A.depth < recursionLimit) (ho:s.heap.get? a=some o) (hd':o.data=.func fd) (hco:fd.scope.isCoroutine=false) (hgen:fd.scope.isGenerator=false) (hbody:fd.body=.stmts body) (hcd:s.heap.CodeRec fd.code fd.qualname)
    (h : wpAny [8] A.in1 (bindArgs fd args) (λ binds s₁=>wpAny [8] A.in1 (newFunctionEnv fd.scope fd.globals fd.closure binds (fd.qualname ++ ".<locals>.") (some a) fd.code none fd.builtins)
        (λ env s₂=>s₂.heap.NoLimit /\ codeC [8] A (.func body env) R s₂) (λ e s'=>R (.error e) s') s₁) (λ e s'=>R (.error e) s') s):codeC [8] A (.call (.ref a) args) R s:=by
 refine zq0 ?_;show wpC _ A.in1 (callAny (.ref a) args) _ _ s;simp only [callAny];refine sa0 (c_of (wpAny_load ho ?_));obtain ⟨c,oc,vs,tq,hc,hoc,hdc,hq⟩:=hcd;simp only [hd',callFunction,hco,hgen,hbody,hc];rw [hc] at h;refine sa0 (m:=field (.ref c) 1) (c_of (wpAny_field hoc hdc hq (sa0 (sc0 ?_))));exact sa0 (c_of (wpAny_mono h (λ binds s₁ h₁=>sa0 (c_of (wpAny_mono h₁ (λ env s₂ h₂=>sa0 (c_of (wpAny_enterFrame h₂.1 hroom (sc0 (And.intro rfl h₂.2))))) λ _ _ h'=>h'))) λ _ _ h'=>h'))
end
open Sem (wp)
variable {args:List (Bool × Sem Value)} {first:[25]} {T:String} {value target:Expr}
section
theorem tr2 {id:Str} {p:Pos} {args:[67]} {keywords:List Keyword} {Q:[7]}
    (h:wpC M A (eval (.Name id p) env) (λ f s₁=>wpC M A (callWith pos f [] (backTo pos (starEach args env)) (backToKw pos (keywordEach keywords env))) Q E s₁) E s) :
    wpC M A (eval (.Call (.Name id p) args keywords pos) env) Q E s:=by
 rw [arm_eval_Call_Name'];exact sa0 h
theorem zm1 {x:Sem Value} {rest:List (Bool × Sem Value)} {Q:List Value->Shared->Prop} (h:wpC M A x (λ v s₁=>wpC M A (spliced rest) (λ vs s₂=>Q (v :: vs) s₂) E s₁) E s):wpC M A (spliced ((false,x) :: rest)) Q E s:=by
 rw [spliced];refine sa0 (vd0 h (λ v s₁ h₁=>?_) λ _ _ x=>x);simp only [Bool.false_eq_true,if_false];exact sa0 (sc0 (sa0 (vo0 (vd0 h₁ (λ vs s₂ h₂=>sc0 h₂) λ _ _ x=>x))))
theorem yb1 {f:Value} {x:Sem Value} {rest:List (Bool × Sem Value)} {Q:Args->Shared->Prop} (h:wpC M A (spliced ((false,x) :: rest)) (λ vs s'=>Q ⟨vs,[]⟩ s') E s):wpC M A (evalArgs f true ((false,x) :: rest) []) Q E s:=by
 unfold evalArgs;show wpC M A (spliced ((false,x) :: rest) >>= _) Q E s;refine sa0 (vd0 h (λ vs s' h'=>?_) λ _ _ x=>x);refine vo0 ?_;exact sa0 (sc0 (sa0 (sc0 (sc0 h'))))
theorem tw1 {t:Sem Value} {Q:[7]} (ht:wpC M A t Q E s):wpC M A (t >>= λ r=>holding [r] point >>= λ _=>pure r) Q E s :=
 sa0 (vd0 ht (λ r s₂ hr=>sa0 (vo0 (c_of (wpAny_point (sc0 hr))))) λ _ _ x=>x)
theorem wd2 {P:Heap->Prop} {f:Value} {keywords:List (Option Str × Sem Value)} {Q:[7]} (hplain:(args.any (·.1) || keywords.any (·.1.isNone))=false)
    (hk:∀ h,P h->∃ k,(k=Keeper.frame \/ k=Keeper.machine \/ k=Keeper.boundFrame) /\ PySem.W.Looks M h (keeperOf f) k)
    (h:wpC M A (evalArgs f true args keywords) (λ a s₁=>P s₁.heap /\ wpC M A (call f (first ++ a.pos) a.kw) Q E s₁) E s):wpC M A (callWith pos f first args keywords) Q E s:=by
 unfold callWith;refine sa0 (vo0 (vd0 h (λ a s₁ h₁=>sa0 (vg0 ?_)) λ _ _ x=>x));obtain ⟨k,hk',L⟩:=hk _ h₁.1;simp only [hplain];refine sa0 (c_of (L.here ?_));have marked (mk:Value):wpC M A (callMarked mk f (first ++ a.pos) a.kw) Q E s₁:=by unfold callMarked; exact zf5 h₁.2
 rcases hk' with rfl | rfl | rfl <;> dsimp only <;> first | exact tw1 h₁.2 | (split <;> first | exact tw1 h₁.2 | exact tw1 (marked _))
theorem ys2 {K:[56]} {f:Value} {e:Expr} {rest:[67]} {Q:[7]} (hk:keepIn K f=true) (h:wpC M A (spliced (backTo pos (starEach (e :: rest) env))) (λ vs s₁=>K.In s₁.heap /\ wpC M A (call f (first ++ vs)) Q E s₁) E s)
    (he:starEach (e :: rest) env=(false,eval e env) :: starEach rest env:=by rfl) (hplain:(backTo pos (starEach rest env)).any (·.1)=false:=by rfl) :
    wpC M A (callWith pos f first (backTo pos (starEach (e :: rest) env)) []) Q E s:=by
 rw [he] at h ⊢;exact wd2 (by show ((false || (backTo pos (starEach rest env)).any (·.1)) || false)=false; rw [hplain]; rfl) (PySem.W.keeps_K hk) (yb1 h)
theorem wm1 {Q:[7]} (hplain:args.any (·.1)=false) (h:wpC M A (evalArgs (.type T) true args []) (λ a s₁=>wpC M A (call (.type T) ([] ++ a.pos) a.kw) Q E s₁) E s) :
    wpC M A (callWith pos (.type T) [] args []) Q E s:=by
 unfold callWith;refine sa0 (vo0 (vd0 h (λ a s₁ h₁=>sa0 (vg0 ?_)) λ _ _ x=>x));simp only [hplain,List.any_nil,Bool.or_false];refine sa0 (sc0 ?_);exact tw1 h₁
theorem wc3 {e:Expr} {rest:[67]} {Q:[7]} (h:wpC M A (spliced (backTo pos (starEach (e :: rest) env))) (λ vs s₁=>wpC M A (call (.type T) vs) Q E s₁) E s)
    (he:starEach (e :: rest) env=(false,eval e env) :: starEach rest env:=by rfl) (hplain:(backTo pos (starEach rest env)).any (·.1)=false:=by rfl) :
    wpC M A (callWith pos (.type T) [] (backTo pos (starEach (e :: rest) env)) []) Q E s:=by
 rw [he] at h ⊢;exact wm1 [21] (yb1 h)
theorem yc3 {x:Str} {pos':Pos} (h:wpC M A (eval value env) (λ v s₁=>wpAny M A (storeName env x v) (λ _=>Q .next) E s₁) E s) (hs:swapsWith value (some (.Name x pos')) pos.line env=pure false:=by rfl) :
    wpC M A (exec (.Assign [.Name x pos'] value pos) env) Q E s:=λ Γ p i c=>by
 simp only [exec_Assign_Name env x pos' value pos hs,Sem.wp_bind',Sem.wp_cmd_standAt,Sem.wp_bindName,Sem.wp_pure'];exact Sem.wp_mono M Γ _ (λ v _ s₁ h₁=>h₁ Γ _ i) (λ _ _ _ h'=>h') _ _ (h Γ _ i c)
theorem c_asg {targets:[67]} (h:wpC M A (eval value env) (λ v s₁=>wpAny M A (assignAll v ((assignEach targets env).map (·.2))) (λ _=>Q .next) E s₁) E s)
    (hs:swapsWithSole targets value pos.line env=pure false) (hw:swappedStores targets value env=pure none):wpC M A (exec (.Assign targets value pos) env) Q E s:=by
 rw [exec_Assign_arm];refine sa0 (vg0 ?_);rw [hs];refine sa0 (sc0 ?_);rw [if_neg [14]];refine sa0 (vd0 h (λ v s₁ h₁=>?_) λ _ _ x=>x);rw [hw];refine sa0 (sc0 ?_);show wpC M A (do assignAll v ((assignEach targets env).map (·.2)); pure .next) Q E s₁;exact c_of (wpAny_bind (wpAny_mono h₁ (λ _ _ x=>wpAny_pure x) λ _ _ x=>x))
theorem c_ret {e:Expr} (h:wpC M A (eval e env) (λ v=>Q (.ret v)) E s):wpC M A (exec (.Return (some e) pos) env) Q E s:=λ Γ p i c=>by
 simp only [exec_Return_some,Sem.wp_bind',Sem.wp_cmd_standAt,Sem.wp_pure']; exact h Γ _ i c
theorem zc3 {c:Code} (hc:codeC M (A.mark h) c (λ r s'=>match r with | .ok f=>Q f s' | .error e=>cameBackBy M A env E e s') s) (hnb:h ≠ some byPass:=by intro x; cases x):wpC M A (runOwn c env h) Q E s:=by
 unfold runOwn;exact wo0 (vd0 (c_run hc hnb) (λ _ _ x=>x) λ _ _ x=>c_of x)
theorem c_for {iter:Expr} 
    (h:wpAny M A (eval iter env) (λ x s₁=>wpAny M A (pyIter x) (λ it s₂=>codeC M A (.forLoop target it body orelse env) (λ r s'=>match r with | .ok f=>Q f s' | .error e=>cameBackBy M A env E e s') s₂) E s₁) E s)
    (hs:∀ x,foldedSetIterable iter env x=pure x:=by intro _; rfl):wpC M A (exec (.For target iter body orelse pos) env) Q E s:=by
 rw [exec_For];exact sa0 (vg0 (sa0 (c_of (wpAny_mono h (λ x s₁ h₁=>sa0 (c_of (wpAny_of_eq (hs x) (sa0 (vg0 (sa0 (vo0 (c_of (wpAny_mono h₁ (λ it s₂ h₂=>zc3 h₂) λ _ _ h'=>h'))))))))) λ _ _ h'=>h'))))
theorem xa4 {c:Code} (hq:c.quiet=true) (I:Nat->Shared->Prop)
    (turn:∀ n s,I n s->wpC M (A.under c) (M.den c) (λ fin s'=>match fin with
        | .done f=>R (.ok f) s'
        | .again c'=>(c'=c /\ ∃ m,m < n /\ I m s') \/ (c'.quiet=true /\ codeC M A c' R s')) (λ e s'=>R (.error e) s') s)
    (n:Nat) (h:I n s):codeC M A c R s:=by
 induction n using Nat.strongRecOn generalizing s with
 | ind n ih =>
  refine zq0 (vd0 (turn n s h) (λ fin s' hf=>?_) λ _ _ h'=>h');cases fin with
  | done f=>exact hf
  | again c' =>
   rcases hf with ⟨rfl,m,hm,hI⟩ | hf
   ·exact ⟨hq,ih m hm hI⟩
   ·exact hf
theorem ta4 {α:Type} {m:Sem α} {Q:α->Shared->Prop} (h:wpC M A m Q (notedBy M A env E) s):wpC M A (m.onRaise λ x=>do noteFrame x env; theTreesLotGoes x) Q E s :=
 wo0 (vd0 h (λ _ _ q=>q) λ _ _ hx=>c_of (wpAny_bind (wpAny_mono hx (λ _ _ e=>wpAny_theTreesLotGoes e) λ _ _ e=>e)))
end
section
theorem te5 {it:Value} (I:Nat->Shared->Prop)
    (turn:∀ n s,I n s->wpAny [8] A (pyNext it) (λ r s₁=>match r with
     | none=>wpAny [8] A (execs orelse env) (λ f s₃=>R (.ok f) s₃) (notedBy [8] A env λ e s'=>R (.error e) s') s₁
     | some v=>wpAny [8] A (letOwnedTupleGo target it v) (λ _ s₁' =>
         wpAny [8] A (assign target env v) (λ _ s₂=>wpC [8] A (execs body env) (λ f s₃=>match f with
          | .next | .cont=>∃ m,m < n /\ I m s₃
          | .brk=>R (.ok .next) s₃
          | .ret v=>R (.ok (.ret v)) s₃) (notedBy [8] A env λ e s'=>R (.error e) s') s₂) (notedBy [8] A env λ e s'=>R (.error e) s') s₁') (notedBy [8] A env λ e s'=>R (.error e) s') s₁) (notedBy [8] A env λ e s'=>R (.error e) s') s)
    (n:Nat) (h:I n s):codeC [8] A (.forLoop target it body orelse env) R s:=by
 refine xa4 rfl I (λ n s hI=>?_) n h;show wpC _ A ((forTurn target it body orelse env).onRaise (λ x=>do noteFrame x env; theTreesLotGoes x)) _ _ s;refine ta4 ?_;simp only [forTurn];refine sa0 (vg0 (sa0 (wo0 (c_of (wpAny_mono (turn n s hI) (λ r s₁ h₁=>?_) λ _ _ h'=>vg0 h')))));cases r with
 | none=>exact sc0 (.inr ⟨rfl,sz3 (codeAny_block h₁)⟩)
 | some v =>
  refine sa0 (c_of (wpAny_mono h₁ (λ _ s₁' h₁'=>?_) λ _ _ h'=>h'));refine sa0 (c_of (wpAny_mono h₁' (λ _ s₂ h₂=>sa0 (vd0 h₂ (λ f s₃ h₃=>?_) λ _ _ h'=>h')) λ _ _ h'=>h'));cases f with
  | next=>exact sc0 (.inl ⟨rfl,h₃⟩)
  | cont=>exact sc0 (.inl ⟨rfl,h₃⟩)
  | brk=>exact sc0 h₃
  | ret v=>exact sc0 h₃
theorem c_tup {elts:[67]} {x1} {Q:[7]} (h:wpC [8] A (spliced (backTo pos (starEach elts env))) (λ vs s₁=>vs.length<=sizeLine /\ Q (.ref s₁.heap.objs.size) { s₁ with heap:=s₁.heap.push { cls:=.type "tuple",data:=.seq vs.toArray } }) E s) :
    wpC [8] A (eval (.Tuple elts x1 pos) env) Q E s:=by
 rw [arm_eval_Tuple];exact sa0 (vg0 (sa0 (vd0 h (λ vs s₁ h₁=>c_of (wpAny_newTuple h₁.2 h₁.1)) λ _ _ e=>e)))
theorem ym1 {h₀:ExceptHandler} {hs:List ExceptHandler} 
    (h:wpC [8] A (execs body env) (λ f s₁=>match f with | .next=>wpAny [8] A (execs orelse env) Q E s₁ | f=>Q f s₁)
     (λ e s₁=>wpAny [8] A (noteFrame e env) (λ _ s₂=>wpAny [8] A (setFlight e none) (λ _ s₃=>wpAny [8] A (handleBy e env (h₀ :: hs)) Q E s₃) E s₂) E s₁) s) :
    wpC [8] A (exec (.Try body (h₀ :: hs) orelse [] pos) env) Q E s:=by
 rw [arm_exec_Try];refine sa0 (vg0 ?_);unfold tryStmt;simp only [List.isEmpty_nil,if_true,List.isEmpty_cons,Bool.false_and,Bool.false_eq_true,if_false];refine sa0 (zs2 (vd0 h (λ f s₁ h₁=>?_) λ e s₁ h₁=>?_))
 ·cases f <;> first | exact c_of h₁ | exact sc0 h₁
 ·exact c_of (wpAny_bind (wpAny_mono h₁ (λ _ _ h₂=>wpAny_bind h₂) λ _ _ x=>x))
end
end Wc
namespace Wc
open PySem PySem.Spec PyProof.Rows PySem.Calls
open Sem (wp)
variable {A:Around} {E:[7]} {s:[47]}
section
variable {α:Type} {M:Model} 
theorem wf5 {c:Prop} [Decidable c] {a b:Sem α} {Q:α->Shared->Prop} (hc:c) (h:wpC M A a Q E s):wpC M A (if c then a else b) Q E s:=by simp_all
theorem yf5 {own:List String} {e:Value} {Q:Unit->Shared->Prop} (h:Q () s):wpC M A (markTheRefusal own e) Q E s:=λ Γ p i c=>by
 unfold markTheRefusal;simp only [stack,Sem.wp_bind',Sem.wp_stack,Sem.wp_pure',Sem.wp_pure]
 have hp:pythonCodeMadeTheCall own (((Γ.code,p) :: Γ.below).map (·.1))=false:=by
  unfold pythonCodeMadeTheCall;rw [Bool.and_eq_false_iff,Bool.and_eq_false_iff,Bool.not_eq_false',List.any_eq_true];rcases c with c | ⟨x,hx,c⟩
  ·exact .inl (.inl ⟨Γ.code,mem_cons_self ..,c⟩)
  ·exact .inl (.inl ⟨x.1,mem_cons_of_mem _ (List.mem_map_of_mem hx),c⟩)
 rw [hp];exact h
end
variable {args:Args} {b:Builtin}
section
variable {prog:[60]} {w:World} {R:Result->Shared->Prop}
theorem xb1 {id:String} (hb:entryFor table id=some b)
    (h:wpC [8] (A.under (.builtin id args)) (b args) (λ fin s'=>match fin with | .done f=>R (.ok f) s' | .again c'=>c'.quiet=true /\ codeC [8] A c' R s') (λ e s'=>R (.error e) s') s):codeC [8] A (.builtin id args) R s:=by
 refine zq0 ?_;show wpC _ _ (match entryFor table id with | some b=>b args | none=>unsupported ((withoutEnding? id "#data").getD id)) _ _ s;rw [hb]; exact h
theorem ty0 {id:String} (hp:plainId id=true) (hb:entryFor table id=some b) (hc:checkBuiltinCall id args=pure ())
    (h:wpC [8] A.in1 (b args) (λ fin s'=>match fin with | .done f=>R (.ok f) s' | .again c'=>c'.quiet=true /\ codeC [8] A c' R s') (λ e s'=>R (.error e) s') s):codeC [8] A (.call (.builtin id) args) R s:=by
 refine zq0 ?_;show wpC _ A.in1 (do checkBuiltinCall id args; again (.builtin id args)) _ _ s;rw [hc];refine sa0 (sc0 (sc0 (And.intro (plainId_quiet hp _) (xb1 hb ?_))));rw [Around.under_plainId hp];exact h
theorem xf5 {T newId:String} {Bn:Builtin} {args:[25]} {Q:[7]} (ft:TypeCalled T newId "object.__init__") (hct:checkTypeCall T ⟨args,[]⟩=pure ()) (hcn:checkBuiltinCall newId ⟨.type T :: args,[]⟩=pure ()) (entryN:entryFor table newId=some Bn)
    (g:wpC [8] A.in1.in1 (Bn ⟨.type T :: args,[]⟩) (λ _ _=>False) E s):wpC [8] A (call (.type T) args) Q E s:=by
 obtain ⟨c,tl,hmro⟩:=ft.mro;have hmade:=ft.made;refine vm1 (zq0 ?_);show wpC _ _ (callAny (.type T) _) _ _ _;refine sc0 ⟨Code.quiet_builtin _ [20],xb1 F.entry_type_call ?_⟩;rw [Around.under_plain (weight_type_call_type T args []) (units_type_call_type T args [])];have h1:=ft.notType;have h2:=ft.canCreate;unfold Builtin.«type.__call__»;simp only [h1,h2,hct,hmro,hmade,pure_bind,Bool.false_eq_true,if_false,List.isEmpty_cons];refine sa0 (vo0 (vm1 (cc_mono (R:=λ r s'=>match r with | .ok _=>False | .error e=>E e s') (ty0 (b:=Bn) ft.plain entryN hcn (vd0 g (λ _ _ x=>x.elim) λ _ _ x=>x)) λ r s' h=>?_)));cases r with
 | ok f=>exact h.elim
 | error e=>exact h
end
end Wc
namespace Wc
open PySem PySem.Spec PyProof.Rows PySem.Calls PySem.NumText
open Sem (wp)
theorem wy4 (x:Str) (u:Tok):Builtin.«int.__new__» ⟨[.type "int",.str x u],[]⟩=((int_private% "intFromText") (.str x u) (numTextOf x) 10 >>= λ v=>ret v):=by
 have g2:specialOf (.str x u) "__index__" = pure none:=PySem.W.KIN.str_idx;have g3:specialOf (.str x u) "__trunc__" = pure none:=PySem.W.KIN.str_trunc
 have g4:callSpecial? (.str x u) "__int__" = pure none:=by
  assumption
 obtain ⟨K,a,K2,b,K3,c,d⟩:∃ K:Option Value->Sem Value,(int_private% "intFromObject") (.str x u)=(callSpecial? (.str x u) "__int__" >>= K) /\ ∃ K2,K none=(specialOf (.str x u) "__index__" >>= K2) /\ ∃ K3,K2 none=(specialOf (.str x u) "__trunc__" >>= K3) /\ K3 none=(int_private% "intFromText") (.str x u) (numTextOf x) 10:=⟨_,rfl,_,rfl,_,rfl,rfl⟩;obtain ⟨J,h,J2,i,j⟩:∃ J,Builtin.«int.__new__» ⟨[.type "int",.str x u],[]⟩=(isSubtype (.type "int") (.type "int") >>= J) /\ ∃ J2,J true=(Bind.madeHere "int.__new__" (.type "int") >>= J2) /\ J2 ()=((int_private% "intFromObject") (.str x u) >>= λ v=>ret v):=⟨_,rfl,_,rfl,rfl⟩;rw [h,F.conv_sub_int,pure_bind,i,F.madeHere_int,pure_bind,j,a,g4,pure_bind,b,g2,pure_bind,c,g3,pure_bind,d]
variable {x:Str} {u:Tok} {Q:[7]}
section
variable {prog:[60]} {w:World} {A:Around} {E:[7]} {s:[47]}
theorem sr2 (hn:intText? x=none) (hl:x.length<=640) (hh:A.handled=none) (hr:(reprText x).length<=sizeLine)
    (h:∀ h' e args tk,Heap.MadeExc s.heap h' e "ValueError" args->E (.ref e) [59]):wpC [8] A ((int_private% "intFromText") (.str x u) (numTextOf x) 10) Q E s:=by
 have hs:(numSeenOf x).length<=640:=Nat.le_trans (seen_length x) hl
 have fin:wpC [8] A (pyRepr (.str x u) >>= λ z=>mkStr (((s!"invalid literal for int() with base {10}: " : String) ++ (⟨z.cps.extract 0 200⟩:Str):Str)) >>= λ v=>newExc (.type "ValueError") [v] >>= λ e=>markTheRefusal ["int.__new__"] e >>= λ _=>raiseNew e) Q E s:=by
  refine sa0 (c_of (wpAny_pyRepr_str ?_ hr));refine sa0 (c_of (wpAny_mkStr ?_ ?_))
  ·refine sa0 (c_of (wpAny_newExc_plain ⟨λ _=>rfl,by decide +kernel⟩ (λ h' e m=>?_)));exact sa0 (yf5 (c_of (wpAny_raiseNew_none hh (h _ _ _ _ m))))
  ·show ((Str.ofString (s!"invalid literal for int() with base {10}: ")).cps ++ (reprText x).cps.extract 0 200).size<=sizeLine;rw [Array.size_append,Array.size_extract];have z:(Str.ofString (s!"invalid literal for int() with base {10}: ")).cps.size=40:=by decide +kernel
   have y:(1000:Nat)<=sizeLine:=by decide +kernel
   omega
 refine wf5 (c:=(numSeenOf x).length<=640) hs ?_;refine sa0 (sc0 ?_);have tl:∀ {k:Option (Array UInt8)->Sem Value},wpC [8] A (k none) Q E s->wpC [8] A (rule "int.__new__.invalid-literal" >>= λ _=>(pure none:Sem (Option (Array UInt8))) >>= k) Q E s:=λ hk=>sa0 (c_of (wpAny_rule (sa0 (sc0 hk))));dsimp only;rcases read0 x hs with ⟨n,h1,_⟩ | ⟨_,h1 | ⟨i,h1,h2⟩⟩
 ·simp_all
 ·unfold numSeenOf at h1;rw [h1];assumption
 ·unfold numSeenOf at h1 h2;rw [h1];dsimp only;rw [if_neg h2];exact tl fin
theorem c_int (hn:intText? x=none) (hl:x.length<=640) (hh:A.handled=none) (hr:(reprText x).length<=sizeLine)
    (h:∀ h' e args tk,Heap.MadeExc s.heap h' e "ValueError" args->E (.ref e) [59]):wpC [8] A (call (.type "int") [.str x u]) Q E s:=by
 refine xf5 F.called_int (F.typeCall_int_1 _) (F.newCall_int_1 _) F.entry_int_new ?_;rw [wy4];exact sa0 (sr2 hn hl hh hr h)
end
end Wc
namespace Wc
open PySem PySem.Spec PyProof.Rows PySem.Calls PySem.W
open Sem (wp)
variable {R:Result->Shared->Prop} {s:[47]}
theorem vl3 {M:Model} {A:Around} {Γ:PySem.Ctx} {t:Sem Fin} (hin:Γ.In A) (hc:HC Γ) (h:wpC M A t (λ fin s'=>∃ f,fin=.done f /\ R (.ok f) s') (λ e s'=>R (.error e) s') s) (p:Pos) :
    wp M Γ t (Sem.finPost M Γ R) (λ e _ s'=>R (.error e) s') p s:=by
 refine Sem.wp_mono M Γ t (λ fin p' s' h'=>?_) (λ _ _ _ h'=>h') p s (h Γ p hin hc);obtain ⟨f,rfl,hf⟩:=h';exact hf
variable {w:World}
theorem zd5 {prog:[60]} {t:Sem Fin} (hreg:s.asleep)
    (h:wpC [8] callerA t (λ fin s'=>∃ f,fin=.done f /\ (R (.ok f) s' /\ leftWithCleanup s'.gens=false)) (λ e s'=>R (.error e) s' /\ leftWithCleanup s'.gens=false) s) :
    ∃ n r s' s'',runN (denote table) prog w n s ⟨t,.builtin "claim.caller" {},default,[]⟩=.halted (outcomeOf r) s' ∧
     schedN (denote table) prog w n (.single s ⟨t,.builtin "claim.caller" {},default,[]⟩)=.halted (outcomeOf r) s' /\ s'.forget=s''.forget /\ R r s'':=by
 obtain ⟨n,r,s₁,s₂,hs,hn,hfo,hR⟩:=wp_halts_full (M:=model prog w) (R:=R) hreg (vl3 (R:=λ r s'=>R r s' /\ leftWithCleanup s'.gens=false) caller_in (.inl rfl) h default);exact ⟨n,r,s₂,s₁,hn,hs,hfo,hR⟩
variable {tree:List Value->Sem Fin}
theorem zc5 {c:ClaimW} {free:Addr->Prop} {gens:Prop} {kept:Heap->Prop} (hz:s.asleep) (hgens:s.gens = #[])
    (hspec:∀ args,c.pre args=true->WData.layableAll args=true ->
     ∀ ord:List DictEntry->List DictEntry,(∀ l,(ord l).Perm l) ->
     ∃ vs s₁,layAllW c.records (classAt s.heap) w.params ord args s=some (vs,s₁) ∧
      wpC (model c.prog w) callerA (tree vs) (λ fin s'=>∃ f,fin=.done f /\ (c.Ends s args vs s₁ (.ok f) s' /\ s'.os=s.os /\ AllBare s'.gens /\ kept s'.heap))
       (λ e s'=>c.Ends s args vs s₁ (.error e) s' /\ s'.os=s.os /\ AllBare s'.gens /\ kept s'.heap) s₁) :
    c.CallFrom (λ vs=>⟨tree vs,.builtin "claim.caller" {},default,[]⟩) w free gens kept s:=by
 intro args hpre hlay ord hord;obtain ⟨vs,s₁,hlaid,hcode⟩:=hspec args hpre hlay ord hord;have hal:=layAllW_rest _ _ _ hlaid
 obtain ⟨k,r,s',s'',hrun,hsched,hfo,hcase,hos,hkp⟩:=zd5 (prog:=c.prog) (w:=w) (t:=tree vs) (s:=s₁)
  (R:=λ r s'=>c.Ends s args vs s₁ r s' /\ s'.os=s.os /\ kept s'.heap)
  (Shared.asleep_of_life hal.2.2.2 hz)
  (vd0 hcode (by
   rintro fin s' ⟨f,e,h1,h2,h3,h4⟩;exact ⟨f,e,⟨h1,h2,h4⟩,leftWithCleanup_false_of_bare h3⟩) (by
   rintro e s' ⟨h1,h2,h3,h4⟩;exact ⟨⟨h1,h2,h4⟩,leftWithCleanup_false_of_bare h3⟩))
 obtain ⟨eh,_,_,eo,_⟩:=Shared.forget_eq hfo;have hcase:=hcase.congr eh;have hkp:kept s'.heap:=by first | exact eh ▸ hkp | (rw [eh] at hkp; exact hkp) | (rw [<- eh] at hkp; exact hkp)
 rw [<- eo] at hos;have hlife:s'.heap.life=s.heap.life:=(runN_life _ _ _ hrun).trans hal.2.2.2;refine ⟨vs,s₁,hlaid,k,_,s',hsched,?_,(λ _ i x hx=>by rw [hgens] at hx; simp at hx),hkp,by rw [hlife],Shared.rest_eq hos⟩;rcases hcase with ⟨v,rfl,d1,d2,d3,d4,d5⟩ | ⟨e,ob,cls,rfl,d1,d2,d3,d4,d5⟩
 ·exact .inl ⟨v,rfl,d1,d2,d3,λ b o y _=>d4 b o y,d5⟩
 ·exact .inr ⟨e,ob,cls,rfl,d1,d2,d3,d4,λ b o y _=>d5 b o y⟩
variable {q:[60]} {loose:[35]} {Xt:Shared->Bool} {XP:(Str->Option Value)->Heap->Prop} {YP:World->Heap->Prop} {N:Nat}
theorem tw4 {r:RowW} {run:Value->List Value->Sem Value} {defs kps:[35]} {writes:Bool} {α:Type} {Yf:Shared->α} {Ya:World->α} 
    (left:LeftO r.prog q loose Xt Yf Ya N) (hY:∀ w s,Yf s=Ya w->YP w s.heap) (hYk:∀ w h h',YP w h->(∀ b o,h.get? b=some o->h'.get? b=some o)->YP w h') (hX:∀ s,Xt s=true->XP (s.heap.nsMap mainGlobals) s.heap) (hXk:∀ mg h h',XP mg h->(∀ b o,h.get? b=some o->h'.get? b=some o)->XP mg h')
    (hRf:∀ s,Xt s=true->RecFacts r.records s.heap) (hwr:(!writes || r.records.isEmpty)=true) (ok:(chainsOk q && opensWell r.prog && (frees r && r.within.isEmpty))=true) (hb:r.prog.bare) (hw:r.promised)
    (ht:∀ vs (w:World) (s:[47]) mg f (Q:Fin->Shared->Prop) (E:[7]),s.heap.Ns mainGlobals mg->mg r.name=some f->wpC (model r.prog w) callerA (run f vs) (λ v s'=>Q (.done (.ret v)) s') E s->wpC (model r.prog w) callerA (tree vs) Q E s)
    (pin:∀ w s,s.heap.isNs mainGlobals=true->Ground q loose [] XP w s (s.heap.nsMap mainGlobals) (s.heap.nsMap builtinsNs) s.heap->∀ n ∈ defs,isTheDefsW r.prog s.heap n)
    (call:∀ (w:World) (s₀ s₁:[47]) (mg mb:[24]),Ground q loose r.records XP w s₀ mg mb s₁.heap->YP w s₁.heap->∀ (args:List WData) (vs:[25]) (as:List Addr),
     r.claim.pre args=true->WData.layableAll args=true->Laid r.records w s₀ s₁ args vs as->sysModules < s₀.heap.objs.size->∃ f,mg r.name=some f ∧
      wpC (model r.prog w) callerA (run f vs) (λ v s'=>GoodWG r.claim (classAt s₀.heap) (ExcName.means s₀.heap) args s₁ (.ok (.ret v)) s')
       (λ e s'=>GoodWG r.claim (classAt s₀.heap) (ExcName.means s₀.heap) args s₁ (.error e) s') s₁):r.claim.HoldsOpenBy (λ vs=>⟨tree vs,.builtin "claim.caller" {},default,[]⟩) defs kps writes:=by
 obtain ⟨ok,k5⟩:=Bool.and_eq_true_iff.mp ok;obtain ⟨hch,o1⟩:=Bool.and_eq_true_iff.mp ok;obtain ⟨k5,k6⟩:=Bool.and_eq_true_iff.mp k5;obtain ⟨hsame,hu,ha,hap,hm⟩:=frees_parts k5;refine ⟨⟨hb,o1,by show r.makers.map _=[]; rw [hm]; rfl⟩,hw.witness,λ w=>⟨(left.behind hX hch w).1,λ s' hs'=>?_⟩⟩;obtain ⟨s₀,hf,hg0,s,hT,hz,hgens,hg,G00,y⟩:=(left.behind (XP:=λ mg h=>XP mg h /\ RecFacts r.records h) (λ s hs=>⟨hX s hs,hRf s hs⟩) hch w).2 s' hs';have G0:Ground q loose [] XP w s (s.heap.nsMap mainGlobals) (s.heap.nsMap builtinsNs) s.heap:=⟨G00.T,G00.B,G00.D,G00.TE,G00.TD,G00.W,G00.X.1,G00.cls,G00.has,G00.apart,G00.once,G00.K⟩;have RF:=G00.X.2;have hT':=hT;refine ⟨s₀,hf,hg0,s,hT,pin w s hg G0,RF.1,RF.2.1,?_⟩;have hgens:s.gens = #[]:=Array.eq_empty_of_size_eq_zero (beq_iff_eq.mp hgens);have G:Ground q loose r.records XP w s _ _ s.heap:=RF.ground G0;refine zc5 (c:=r.claim) hz hgens λ args hpre hlay ord hord=>?_;obtain ⟨⟨vs,s₁⟩,hlaid⟩:=Option.isSome_iff_exists.mp (layAllW_isSome (P:=w.params) (ord:=ord) G.has args r.args s (pre_splitW hpre).1);have keeps:=layAllW_keeps _ _ _ hlaid;have hal:=layAllW_rest _ _ _ hlaid;obtain ⟨as,hrd,hin,hold⟩:=reads_layAllW hord _ _ _ hlaid hlay s₁.heap (λ _ _ e=>e);have L:Laid r.records w s s₁ args vs as:=⟨⟨ord,hord,hlaid⟩,hrd,hin,hold,keeps,hal.1.trans hgens,hal.2.2.1⟩;have G₁:=G.keeps hXk keeps;obtain ⟨f,hf,h⟩:=call w s s₁ _ _ G₁ (hYk _ _ _ (hY w s y) keeps) args vs as hpre hlay L G.low;have hi:=ident_freeW hu ha hap;have hwi:r.claim.within=[]:=List.isEmpty_iff.mp k6;exact ⟨vs,s₁,hlaid,ht vs w s₁ _ f _ _ G₁.T.g hf (vd0 h (λ v s' g=>⟨_,rfl,have z:=g.laid (c:=r.claim) hsame hwi hi L; ⟨z.1,z.2.1,z.2.2,λ q=>⟨namesKept_of hT' hg kps keeps g.2.1.old,noTable hwr q⟩⟩⟩) λ e s' g=>have z:=g.laid (c:=r.claim) hsame hwi hi L; ⟨z.1,z.2.1,z.2.2,λ q=>⟨namesKept_of hT' hg kps keeps g.2.1.old,noTable hwr q⟩⟩)⟩
abbrev WalkC (q:[60]) (loose:[35]) (XP:(Str->Option Value)->Heap->Prop) (YP:World->Heap->Prop) (r:RowW) (d:DefRec) (kwd:List (Str × Expr)) (run:Value->List Value->Sem Value):Prop :=
 ∀ (w:World) (s₀ s₁:[47]) (mg mb:[24]),Ground q loose r.records XP w s₀ mg mb s₁.heap->YP w s₁.heap->∀ (a:Addr) (o:Obj) (pm cd doc dV kV:Value),s₁.heap.get? a=some o ->
  o.data=.func { docDef d.name d.params d.body d.scope pm cd doc with defaults:=dV,kwdefaults:=kV }->s₁.heap.CodeRec cd d.name->Dflts mg s₁.heap d.params kwd dV kV->mg d.name=some (.ref a)->s₁.gens = #[] ->
  ∀ (args:List WData) (vals:[25]) (as:List Addr),r.claim.pre args=true->WData.layableAll args=true->ReadsAllW r.records (classAt s₀.heap) s₁.heap vals args as->WellAll w.params s₁.heap vals args->(∀ a ∈ as,(a == sysModules)=false) ->
   wpC (model r.prog w) callerA (run (.ref a) vals) (λ v s'=>GoodWG r.claim (classAt s₀.heap) (ExcName.means s₀.heap) args s₁ (.ok (.ret v)) s')
    (λ e s'=>GoodWG r.claim (classAt s₀.heap) (ExcName.means s₀.heap) args s₁ (.error e) s') s₁
theorem holds_c {r:OpenRow} {α:Type} {Yf:Shared->α} {Ya:World->α} {d:DefRec} {kwd:List (Str × Expr)} 
    (left:LeftO r.prog q loose Xt Yf Ya N) (hY:∀ w s,Yf s=Ya w->YP w s.heap) (hYk:∀ w h h',YP w h->(∀ b o,h.get? b=some o->h'.get? b=some o)->YP w h')
    (hX:∀ s,Xt s=true->XP (s.heap.nsMap mainGlobals) s.heap) (hXk:∀ mg h h',XP mg h->(∀ b o,h.get? b=some o->h'.get? b=some o)->XP mg h')
    (hdef:defOf q r.name=some (d,kwd)) (hp:r.prog.theDef r.name=some (d.params,d.body,d.scope)) (hk:kwWritten? d.params.kwonlyargs d.params.kw_defaults=some kwd) (hRf:∀ s,Xt s=true->RecFacts r.records s.heap) (hwr:(!r.writes || r.records.isEmpty)=true)
    (k1:r.wellSaid=true) (ok:(chainsOk q && opensWell r.prog && (frees r.toRowW && r.within.isEmpty))=true) (hb:r.prog.bare) (hw:r.toRowW.promised)
    (call:WalkC q loose XP YP r.toRowW d kwd λ f vs=>PySem.call f vs):r.Holds:=by
 refine ⟨k1,hw,tw4 (r:=r.toRowW) (run:=λ f vs=>PySem.call f vs) (tree:=λ vs=>do match <- nsGet mainNs r.name with
     | some f=>do ret (<- PySem.call f vs)
     | none=>unsupported "claim.caller:no-such-global") left hY hYk hX hXk hRf hwr ok hb hw
  (λ vs w s mg f Q E hg hf h=>sa0 (c_of (wpAny_nsGet hg (by rw [hf]; exact sa0 (vd0 h (λ _ _ x=>sc0 x) λ _ _ x=>x)))))
  (λ w s hg G n hn=>?_) λ w s₀ s₁ mg mb G Y args vs as hpre hlay L low=>?_⟩
 ·obtain rfl:n=r.name:=by split at hn <;> simp_all
  exact pinned_of_view hg G hdef hp hk
 ·obtain ⟨a,o,pm,cd,doc,dV,kV,h1,h2,h3,h4,h5⟩:=G.fn hdef;exact ⟨.ref a,h1,call w s₀ s₁ mg mb G Y a o pm cd doc dV kV h2 h3 h4 h5 (defOf_name hdef ▸ h1) L.gens args vs as hpre hlay L.reads L.well (L.low low)⟩
end Wc
namespace Pv
open PySem PySem.Spec PyProof.Rows L2 Wc
variable {X:Cx} {A:Around} {e tg:Expr} {es:[67]} {sts:List Stmt} {pos p:Pos} {x:Str} {k:Nat} {ps:[35]} {g:TG3}
section
def PEc (X:Cx) (e:Expr) (t:TE):Prop:=∀ (pins:[19]) (s:[47]) (σ:L2.St) (H:Hp) (Q:VK),Inv X pins σ H s->t σ H Q->wpC [11] X.A (eval e X.env) (EP X pins σ Q) X.xe s
def PAc (X:Cx) (es:[67]) (t:TA):Prop:=∀ (pos:Pos) (pins:[19]) (s:[47]) (σ:L2.St) (H:Hp) (Q:List V->Hp->Prop),Inv X pins σ H s->t σ H Q->wpC [11] X.A (spliced (backTo pos [31])) (AP X pins σ Q) X.xe s
def PSc (X:Cx) (st:Stmt) (t:TS):Prop:=∀ (pins:[19]) (s:[47]) (σ:L2.St) (H:Hp) (D:Ends),Inv X pins σ H s->t D σ H->wpC [11] X.A (exec st X.env) (SP X pins D) X.xe s
def PSsc (X:Cx) (st:List Stmt) (t:TS):Prop:=∀ (pins:[19]) (s:[47]) (σ:L2.St) (H:Hp) (D:Ends),Inv X pins σ H s->t D σ H->wpC [11] X.A (execs st X.env) (SP X pins D) X.xe s
def REc (X:Cx) (e:Expr) (t:TE3):Prop:=∃ tv,PEc X e tv /\ RdE X.K tv t
def RAc (X:Cx) (es:[67]) (t:TA3):Prop:=∃ tv,PAc X es tv /\ RdA X.K tv t
def RSc (X:Cx) (st:Stmt) (t:TS3):Prop:=∃ tv,PSc X st tv /\ RdS X.K tv t
def RSsc (X:Cx) (st:List Stmt) (t:TS3):Prop:=∃ tv,PSsc X st tv /\ RdS X.K tv t
theorem RE.c {e:Expr} {t:TE3} (h:RE X e t):REc X e t:=let ⟨tv,p,r⟩:=h; ⟨tv,λ a b c d e f g=>c_of (p a b c d e f g),r⟩
theorem RA.c {e:[67]} {t:TA3} (h:RA X e t):RAc X e t:=let ⟨tv,p,r⟩:=h; ⟨tv,λ a b c d e f g i=>c_of (p a b c d e f g i),r⟩
theorem RS.c {e:Stmt} {t:TS3} (h:RS X e t):RSc X e t:=let ⟨tv,p,r⟩:=h; ⟨tv,λ a b c d e f g=>c_of (p a b c d e f g),r⟩
theorem RSs.c {e:List Stmt} {t:TS3} (h:RSs X e t):RSsc X e t:=let ⟨tv,p,r⟩:=h; ⟨tv,λ a b c d e f g=>c_of (p a b c d e f g),r⟩
theorem tc {α:Type} {t:Sem α} {Q Q':α->Shared->Prop} {M:Model} {E:[7]} {s:[47]} (h:wpC M A t Q E s) (hQ:∀ a s,Q a s->Q' a s):wpC M A t Q' E s:=vd0 h hQ λ _ _ x=>x
variable {st:Stmt} {te:TE3} {t:TA3} {t3 u3:TS3} {tA:TT3} 
theorem zs1 (h:RSc X st t3):RSsc X [st] t3:=by
 obtain ⟨va,pa,ra⟩:=h;refine ⟨_,λ pins s σ H D I h=>?_,ra⟩;refine wq0 (tc (pa pins s σ H D I h) λ f s1 q=>?_);cases f with
 | next=>exact c_of (wpAny_execs_nil q)
 | ret v=>exact q
 | brk=>exact q
 | cont=>exact q
theorem wb0 (h1:RSc X st t3) (h2:RSsc X sts u3):RSsc X (st :: sts) (seq3 t3 u3):=by
 obtain ⟨va,pa,ra⟩:=h1;obtain ⟨vb,pb,rb⟩:=h2;refine ⟨tSeq va vb,λ pins s σ H D I h=>?_,λ σ H D ρ μ D3 s m h k=>ra σ H _ ρ μ _ s m h ⟨λ ρ1 μ1 σ1 H1 h1 k1 s1 m1=>rb σ1 H1 D ρ1 μ1 D3 s1 m1 h1 (k.after k1),k.bk,k.ct,k.rt⟩⟩;refine wq0 (tc (pa pins s σ H { D with nx:=vb D } I h) λ f s1 q=>?_);cases f with
 | next =>
  obtain ⟨σ',H',I',q⟩:=q;exact pb pins s1 σ' H' D I' q
 | ret v=>exact q
 | brk=>exact q
 | cont=>exact q
theorem wh2 (he:REc X e te):RSc X (.Return (some e) pos) (ret3 te):=by
 obtain ⟨va,pa,ra⟩:=he;exact ⟨tRet va,λ pins s σ H D I h=>c_ret (tc (pa pins s σ H _ I h) λ v s1 ⟨x,H1,I1,r1,q1⟩=>⟨x,σ,H1,I1,r1,q1⟩),λ σ H D ρ μ D3 s m h k=>ra σ H _ ρ μ _ s m h k.rt⟩
theorem yq3 {i:Nat} {pos':Pos} (hN:X.N.Nodup) (he:REc X e te) (hi:X.N[i]?=some x:=by rfl) (hx:Loc X.env.scope x:=by trivial) (hs:swapsWith e (some (.Name x pos')) pos.line X.env=pure false:=by rfl)
    (hf:X.fn x=true \/ X.env.scope.names.lookup x=some .local:=by trivial):RSc X (.Assign [.Name x pos'] e pos) (set3 i te):=by
 obtain ⟨va,pa,ra⟩:=he;exact ⟨tAsg va (xa3 i),λ pins s σ H D I h=>yc3 (tc (pa pins s σ H _ I h) λ v s1 ⟨y,H1,I1,r1,q1⟩=>ug0 I1 hN hi hx r1 (λ s2 I2=>⟨_,H1,I2,q1⟩) hf) hs,λ σ H D ρ μ D3 s m h k=>ra σ H _ ρ μ _ s m h λ d μ1 v H1 h1 k1 r1 m1=>k.nx _ _ _ _ h1 k1 ([63].set i r1) m1⟩
theorem uq3 (he:REc X e te) (hg:RG X tg g) (hs:swapsWithSole [tg] e pos.line X.env=pure false:=by rfl) (hw:swappedStores [tg] e X.env=pure none:=by rfl) (h1:(assignEach [tg] X.env).map (·.2)=[assign tg X.env]:=by rfl):RSc X (.Assign [tg] e pos) (asg3 te g):=by
 obtain ⟨va,pa,ra⟩:=he;obtain ⟨vg,pg,rg⟩:=hg;refine ⟨tAsg va vg,λ pins s σ H D I h=>c_asg (tc (pa pins s σ H _ I h) λ v s1 ⟨x,H1,I1,r1,q1⟩=>?_) hs hw,λ σ H D ρ μ D3 s m h k=>ra σ H _ ρ μ _ s m h λ d μ1 v H1 h1 k1 r1 m1=>rg v d σ H1 _ ρ μ1 _ [63] m1 r1 h1 λ ρ' μ' σ' H' q e=>k.nx ρ' μ' σ' H' q (k1.trans e)⟩;rw [h1];exact thn (pg pins s1 σ H1 x v _ I1 r1 q1) λ _ s2 q=>q
theorem xi0 (ha:REc X e te) (hr:RAc X es t) (hs:starEach (e :: es) X.env=[26] :: starEach es X.env:=by rfl):RAc X (e :: es) (xa0 te t):=by
 obtain ⟨va,pa,ra⟩:=ha;obtain ⟨vb,pb,rb⟩:=hr;refine ⟨wi4 va vb,λ pos pins s σ H Q I h=>?_,λ σ H Q ρ μ Q3 s m h k=>ra σ H _ ρ μ _ s m h λ d μ1 v H1 h1 k1 r1 m1=>rb σ H1 _ ρ μ1 _ [63] m1 h1 λ ds μ2 vs H2 h2 k2 r2 m2=>k _ _ _ _ h2 (k1.trans k2) (.cons (r1.mono k2) r2) m2⟩;rw [hs];show wpC _ _ (spliced ([26] :: backTo pos [31])) _ _ s;refine zm1 (tc (pa pins s σ H _ I h) λ u s1 ⟨x,H1,I1,r1,q1⟩=>?_);exact tc (pb pos pins s1 σ H1 _ I1 q1) λ us s2 ⟨xs,H2,I2,r2,q2⟩=>⟨x :: xs,H2,I2,.cons r1 r2,q2⟩
theorem yr3 {x1} (h:RAc X es t):REc X (.Tuple es x1 pos) (tup3 t):=by
 obtain ⟨va,pa,ra⟩:=h;refine ⟨tTup va,λ pins s σ H Q I hq=>?_,λ σ H Q ρ μ Q3 s m h k=>ra σ H _ ρ μ _ s m h λ ds μ1 vs H1 h1 k1 r1 m1=>⟨by rw [<- r1.length]; exact h1.1,λ p hp=>?_⟩⟩
 ·refine c_tup (tc (pa pos pins s σ H _ I hq) λ us s1 ⟨xs,H1,I1,r,z,q⟩=>⟨by rw [<- r.length]; exact z,?_⟩);have hf:H1 s1.heap.objs.size=none:=I1.hok.fresh [18];refine ⟨.ref s1.heap.objs.size,upd H1 s1.heap.objs.size (.tup xs),I1.laid (t':=s1.toks) (λ b u e=>Heap.get?_push_of_some _ e) [18] ?_,rfl,q _ hf⟩;exact ⟨z,us,r,⟨_,Heap.get?_push_size _ rfl,rfl,_,rfl⟩⟩
 ·exact k _ _ _ _ h1.2 (k1.trans (Kp.new hp)) (.tup ue0 (r1.mono (Kp.new hp))) (m1.newT hp)
end
structure FnC (P:Program) (w:World) (K:PySem.W.Frag) (mg:Str->Option Value) (base:Heap) (CX:CXT) (k:Nat) (f:Addr) (fd:FuncData) (ps:List Str) (sp:Sp):Prop where
 len:∀ vs H Q E,sp vs H Q E->vs.length=ps.length
 run:∀ (A:Around) (outer:List Env) (s:Shared) (H:Hp) (args:Args) (us:List Value) (vs:List V) (Q:VK) (E:XK),Room k A->Env0 P w K mg base A outer s H->BindsTo s fd args (ps.zip us)->Vals vs us->sp vs H Q E ->
  codeC (model P w) A (.call (.ref f) args) (CR CX outer P w H s Q E) s
variable {P:[60]} {w:World} {mg:[24]} {base:Heap} {CX:CXT} {f:Addr} {fd:FuncData} {qual:Str} {body:List Stmt} {scope:Scope} {N:[35]}
section
variable {K:[56]} {sp:Sp}
theorem FnC.mono {j:Nat} (F:FnC P w K mg base CX j f fd ps sp) (h:j<=k):FnC P w K mg base CX k f fd ps sp:=⟨F.len,λ A outer s H args us vs Q E hr=>F.run A outer s H args us vs Q E (hr.mono h)⟩
theorem ui3 {name:Str} {params:Arguments} {dV kV doc pm cdv ct oc:Value} {an od:Option Addr} {osl:Array (Option Value)} (lk:K.lookup f=some ⟨oc,od,.func [80],osl⟩) (hcd:codeIn K cdv qual=true) (S:FnScope N ps scope)
    (len:∀ vs H Q E,sp vs H Q E->vs.length=ps.length)
    (hbody:∀ (A:Around) (outer:List Env) (s:[47]) (H:Hp) (vs:List V) (Q:VK) (E:XK),Room k (A.deeper (envOfC qual scope s.heap.objs.size f cdv))->sp vs H Q E ->
     ∃ t,PSsc (cxOf CX P w K mg base N qual scope f cdv A outer s H E) body t /\ t { nx:=λ _ H'=>Q .non H',rt:=Q } (start N vs) H) :
    FnC P w K mg base CX (k + 1) f [80] ps sp:=by
 refine ⟨len,λ A outer s H args us vs Q E hr e0 hb r hsp=>?_⟩;have hl:=len _ _ _ _ hsp;have KX:K.In s.heap:=e0.mod.kin.keeps λ b o e=>(e0.bs b o e).1;have lim:s.heap.NoLimit:=e0.mod.nolimit.keeps λ b o e=>(e0.bs b o e).1
 have hkind:∀ y ∈ ps.zip us,scope.names.lookup y.1=some .local \/ (scope.names.lookup y.1=some .cell /\ ((cellsFrom (s.heap.objs.size + 1) scope.names []).lookup y.1).isSome=true):=λ ⟨n,v⟩ hy=>by
  rcases S.par n (of_mem_zip hy).1 with q | q
  ·exact .inl q
  ·exact .inr ⟨q,cellsFrom_some _ _ _ (.inl q)⟩
 refine cc_fn hr.depth (KX _ _ lk) rfl S.co S.gen rfl (codeRec_of KX hcd) (hb _ _ _ _ ?_);refine wpAny_newFunctionEnv_cells S.kind hkind λ env he s1 x=>?_;subst he;refine ⟨lim.keeps x.toInCall.keep,ya4 ?_⟩;obtain ⟨t,ht,hq⟩:=hbody A outer s H vs Q E (hr.deeper _) hsp;have I:Inv (cxOf CX P w K mg base N qual scope f cdv A outer s H E) [] (start N vs) H s1:=uw0 S hr.hd e0 hl r x;refine vd0 (ht [] s1 (start N vs) H _ I hq) (λ fl s' hs=>?_) λ e s' hs=>hs
 have fin:∀ {σ':L2.St} {H':Hp} {v:V} {u:Value},Inv (cxOf CX P w K mg base N qual scope f cdv A outer s H E) [] σ' H' s'->RelV v u->Q v H'->CE outer P w H s Q u s' :=
  λ {σ' H' v u} J rv q=>⟨v,H',J.os,J.bare,J.base,J.hok,rv,q⟩
 cases fl with
 | ret u =>
  obtain ⟨v,σ',H',J,rv,q⟩:=hs;exact fin J rv q
 | next =>
  obtain ⟨σ',H',J,q⟩:=hs;exact fin (v:=V.non) (u:=Value.none) J rfl q
 | brk =>
  obtain ⟨_,_,_,q⟩:=hs;exact False.elim q
 | cont =>
  obtain ⟨_,_,_,q⟩:=hs;exact False.elim q
end
variable {E:XK}
section
variable {sp:Sp} {t:TA}
theorem tf1 (F:FnC X.prog X.w X.K X.mg X.base CX k f fd ps sp) (hr:Room k X.A) (hg:Gl X x) (hm:X.mg x=some (.ref f)) (hk:keepIn X.K (.ref f)=true) (hb:Binds X.K fd ps []) (hx:zn1 CX X E)
    (ha:PAc X (e :: es) t) (hdb:[23]=false) (he:starEach (e :: es) X.env=[26] :: starEach es X.env) (hpl:(backTo pos [31]).any (·.1)=false) :
    PEc X [49] (xn3 sp [] E t):=by
 intro pins s σ H Q I h;refine tr2 (c_of (zg0 I hg hm ?_ hdb));refine ys2 hk (tc (ha pos pins s σ H _ I h) λ us s1 ⟨vs,H1,I1,r,q⟩=>⟨I1.kIn,?_⟩) he hpl;have r2:Vals (vs ++ []) (us ++ []):=by simp_all
 have hl:(us ++ []).length=ps.length:=by rw [<- r2.length]; exact F.len _ _ _ _ q
 refine vm1 (cc_mono (F.run X.A X.stack s1 H1 ⟨us,[]⟩ (us ++ []) (vs ++ []) Q E hr I1.env0 (hb s1 us I1.kIn hl) r2 q) λ r s' hq=>?_);cases r with
 | error e=>exact hx pins σ H1 s1 e s' I1 hq
 | ok fl =>
  cases fl with
  | ret u=>exact I1.after hq
  | next=>exact False.elim hq
  | brk=>exact False.elim hq
  | cont=>exact False.elim hq
end
def CalXC (P:[60]) (w:World) (K:Fg) (mg:[24]) (base:Heap) (k:Nat) (x:Str) (ps:[35]) (spx:XE3->Sp3):Prop :=
 ∃ f fd,FnC P w K mg base (CXn P w) k f fd ps (xc2 K mg spx) /\ mg x=some (.ref f) /\ keepIn K (.ref f)=true /\ Binds K fd ps []
def CalC (P:[60]) (w:World) (K:Fg) (mg:[24]) (base:Heap) (k:Nat) (x:Str) (ps:[35]) (sp:Sp3):Prop :=
 ∃ f fd,FnC P w K mg base CX0 k f fd ps (lift K sp) /\ mg x=some (.ref f) /\ keepIn K (.ref f)=true /\ Binds K fd ps []
variable {spx:XE3->Sp3}
section
variable {K:Fg} {cd:Value} {outer:List Env} {s0:[47]} {H0:Hp} {XE:XE3}
theorem CalXC.mono {j k:Nat} {x:Str} {ps:[35]} {spx:XE3->Sp3} (c:CalXC P w K mg base j x ps spx) (h:j<=k):CalXC P w K mg base k x ps spx:=let ⟨f,fd,F,r⟩:=c; ⟨f,fd,F.mono h,r⟩
theorem CalC.mono {j k:Nat} {x:Str} {ps:[35]} {sp:Sp3} (c:CalC P w K mg base j x ps sp) (h:j<=k):CalC P w K mg base k x ps sp:=let ⟨f,fd,F,r⟩:=c; ⟨f,fd,F.mono h,r⟩
theorem yw0 {t:TA3} (EX:EXok K mg XE E) (c:CalXC P w K mg base k x ps spx) (hr:Room k (A.deeper [3]))
    (ha:RAc [6] (e :: es) t) (hg:Gl [6] x:=by rfl) (hdb:[23]=false:=by decide)
    (he:starEach (e :: es) [3]=(false,eval e [3]) :: starEach es [3]:=by rfl) (hpl:(backTo pos (starEach es [3])).any (·.1)=false:=by rfl) :
    REc [6] [49] (wa0 (spx XE) t):=by
 obtain ⟨g,fd,F,hm,hk,hb⟩:=c;obtain ⟨va,pa,ra⟩:=ha;refine ⟨_,tf1 (X:=cxOf (CXn P w) P w K mg base N qual scope f cd A outer s0 H0 E) F hr hg hm hk hb ut1 pa hdb he hpl,λ σ H Q ρ μ Q3 s m h k=>ra σ H _ ρ μ _ s m h λ ds μ1 vs H1 h1 k1 r1 m1=>?_⟩;rw [append_nil];exact ⟨ds,μ1,Q3,XE,r1,m1,h1,k.after k1,EX⟩
theorem wt0 {sp:Sp3} {t:TA3} (c:Cal X.prog X.w X.K X.mg X.base k x ps sp) (hr:Room k X.A) (ha:RAc X (e :: es) t) (hg:Gl X x:=by rfl) (hdb:[23]=false:=by decide)
    (he:starEach (e :: es) X.env=[26] :: starEach es X.env:=by rfl) (hpl:(backTo pos [31]).any (·.1)=false:=by rfl):REc X [49] (wa0 sp t):=by
 obtain ⟨g,fd,F,hm,hk,hb⟩:=c;obtain ⟨va,pa,ra⟩:=ha;refine ⟨_,tf1 ⟨F.len,λ A outer s H args us vs Q E a b c d e=>sz3 (F.run A outer s H args us vs Q E a b c d e)⟩ hr hg hm hk hb zv3 pa hdb he hpl,λ σ H Q ρ μ Q3 s m h k=>ra σ H _ ρ μ _ s m h λ ds μ1 vs H1 h1 k1 r1 m1=>?_⟩;rw [append_nil];exact ⟨ds,μ1,Q3,r1,m1,h1,k.after k1⟩
theorem un0 {sp:Sp3} {t:TA3} (c:CalC X.prog X.w X.K X.mg X.base k x ps sp) (hr:Room k X.A) (ha:RAc X (e :: es) t) (hg:Gl X x:=by rfl) (hdb:[23]=false:=by decide)
    (he:starEach (e :: es) X.env=[26] :: starEach es X.env:=by rfl) (hpl:(backTo pos [31]).any (·.1)=false:=by rfl):REc X [49] (wa0 sp t):=by
 obtain ⟨g,fd,F,hm,hk,hb⟩:=c;obtain ⟨va,pa,ra⟩:=ha;refine ⟨_,tf1 F hr hg hm hk hb zv3 pa hdb he hpl,λ σ H Q ρ μ Q3 s m h k=>ra σ H _ ρ μ _ s m h λ ds μ1 vs H1 h1 k1 r1 m1=>?_⟩;rw [append_nil];exact ⟨ds,μ1,Q3,r1,m1,h1,k.after k1⟩
theorem uh1 {st:Stmt} {g:Addr} {NN:[35]} {t:XE3->TS3} (F:Fun K x x st g fd) (hm:mg x=some (.ref g)) (hb:Binds K fd ps []) (S:FnScope NN ps (ya0 st))
    (len:∀ XE ds μ Q,spx XE ds μ Q->ds.length=ps.length)
    (body:∀ (cdv:Value) (A:Around) (outer:List Env) (s:[47]) (H:Hp) (E:XK) (XE:XE3),Room k (A.deeper (envOfC x (ya0 st) s.heap.objs.size g cdv))->EXok K mg XE E->RSsc (cxOf (CXn P w) P w K mg base NN x (ya0 st) g cdv A outer s H E) (va0 st) (t XE))
    (rd:∀ XE ds μ Q,spx XE ds μ Q->t XE { nx:=λ _ μ'=>Q .non μ',rt:=Q } (xb0 NN ds) μ):CalXC P w K mg base (k + 1) x ps spx:=by
 refine ⟨g,fd,?_,hm,F.kp,hb⟩;obtain ⟨oc,od,kV,doc,pm,an,cdv,ct,osl,rfl,lk,hcd⟩:=F.ex;refine ui3 lk hcd S (λ vs H Q E h=>?_) λ A outer s H vs Q E hr h=>?_
 ·obtain ⟨ds,μ,Q3,XE,r,m,q,ks,ex⟩:=h;rw [<- r.length]; exact len _ _ _ _ q
 ·obtain ⟨ds,μ,Q3,XE,r,m,q,ks,ex⟩:=h;obtain ⟨tv,p,rt⟩:=body cdv A outer s H E XE hr ex;exact ⟨tv,p,rt _ H _ _ μ _ (RSt.start NN r) m (rd XE ds μ Q3 q) [86]⟩
theorem nox_c {t:TS} (h:PSsc X.nox sts t):PSsc X sts t:=λ pins s σ H D I hw =>
 vd0 (h pins s σ H D (I.wish _) hw) (λ _ _ q=>q.unwish) λ _ _ z=>False.elim z
theorem si3 {st:Stmt} {sp:Sp3} {t:TS3} (F:Fun K x x st f fd) (S:FnScope N ps (ya0 st)) (len:∀ ds μ Q,sp ds μ Q->ds.length=ps.length)
    (body:∀ (cdv:Value) (A:Around) (outer:List Env) (s:[47]) (H:Hp) (E:XK),Room k ([87])->RSsc (cxOf CX0 P w K mg base N x (ya0 st) f cdv A outer s H E).nox (va0 st) t)
    (rd:∀ ds μ Q,sp ds μ Q->t { nx:=λ _ μ'=>Q .non μ',rt:=Q } (xb0 N ds) μ):FnC P w K mg base CX0 (k + 1) f fd ps (lift K sp):=by
 obtain ⟨oc,od,kV,doc,pm,an,cdv,ct,osl,rfl,lk,hcd⟩:=F.ex;refine ui3 lk hcd S (λ vs H Q E h=>?_) (λ A outer s H vs Q E hr h=>?_)
 ·obtain ⟨ds,μ,Q3,r,m,q,ks⟩:=h;rw [<- r.length]; exact len _ _ _ q
 ·obtain ⟨ds,μ,Q3,r,m,q,ks⟩:=h;obtain ⟨tv,p,rt⟩:=body cdv A outer s H E hr;exact ⟨tv,nox_c p,rt _ H _ _ μ _ (RSt.start N r) m (rd ds μ Q3 q) [86]⟩
theorem zq3 {iter:Expr} {ti:TI3} {tb:TS3} (hp:PassesOwn [11] X.A X.env X.xe) (hc:[82]) (hi:RI X tg iter ti) (hg:RG X tg g) (hb:RSsc X body tb)
    (hs:∀ x,foldedSetIterable iter X.env x=pure x:=by intro _; rfl):RSc X (.For tg iter body [] pos) (for3 ti g tb):=by
 obtain ⟨wi,pi,ri⟩:=hi;obtain ⟨vg,pg,rg⟩:=hg;obtain ⟨vb,pb,rb⟩:=hb;refine ⟨tFor wi vg vb,λ pins s σ H D I h=>?_,?_⟩
 ·refine c_for (thn (pi pins s σ H _ I h) λ v s1 h1=>thn h1 λ itv s2 h2=>?_) hs;obtain ⟨it,fp,tn,J,H2,e,I2,T,st2,f2,W,⟨m0,w0⟩,turn⟩:=h2;subst e;have stat:∀ {H':Hp},(∀ b ∈ fp,H' b=none)->∀ b ∈ fp,FpOk X pins H' b:=λ hn b hb=>⟨hn b hb,(f2 b hb).2⟩;refine te5 (λ n s'=>∃ i σ' H',Inv X pins σ' H' s' /\ tn i s'.heap /\ (∀ b ∈ fp,H' b=none) /\ W i n σ' H') ?_ m0 ⟨0,σ,H2,I2,st2,λ b hb=>(f2 b hb).1,w0⟩;rintro n s3 ⟨i,σ3,H3,I3,st3,fr3,w3⟩;rcases turn i n σ3 H3 w3 with ⟨stop,qn⟩ | ⟨go,N,hN,step⟩
  ·refine wpAny_passesOwn hp (thn (T.done X rfl rfl rfl hc i pins s3 σ3 H3 X.xe I3 (stat fr3) st3 stop) λ r s4 ⟨hr,I4⟩=>?_);subst hr;exact wpAny_execs_nil ⟨σ3,H3,I4,qn⟩
  ·refine wpAny_passesOwn hp (thn (T.item X rfl rfl rfl hc i pins s3 σ3 H3 X.xe I3 (stat fr3) st3 go) λ r s4 ⟨u,hr,h4⟩=>?_);subst hr;refine wpAny_passesOwn hp (thn h4 λ _ s5 ⟨x,H5,I5,r5,y5,st5,fr5⟩=>?_);have I5':=I5.pinned (stat fr5) (T.obj _ _ st5);refine wpAny_passesOwn hp (thn (pg _ s5 σ3 H5 x u _ I5' r5 (step x H5 y5)) λ _ s6 ⟨σ6,H6,I6,q6⟩=>?_);refine vd0 (pb _ s6 σ6 H6 _ I6 q6) (λ f s7 q7=>?_) hp
   have again:∀ {σ7:L2.St} {H7:Hp},Inv X (pins ++ sz0 fp s5.heap) σ7 H7 s7->N σ7 H7->∃ m,m < n /\ ∃ i σ' H',Inv X pins σ' H' s7 /\ tn i s7.heap /\ (∀ b ∈ fp,H' b=none) /\ W i m σ' H':=λ {σ7 H7} I7 n7=>by
    obtain ⟨m',hm,w7⟩:=hN σ7 H7 n7;refine ⟨m',hm,i + 1,σ7,H7,I7.unpinned,T.keep _ _ _ st5 λ b hb o e=>(I7.pin (b,o) [85]).1,λ b hb=>?_,w7⟩;obtain ⟨o,e,d⟩:=T.obj _ _ st5 b hb;exact (I7.pin (b,o) [85]).2.1
   cases f with
   | next=>obtain ⟨σ7,H7,I7,n7⟩:=q7; exact again I7 n7
   | cont=>obtain ⟨σ7,H7,I7,n7⟩:=q7; exact again I7 n7
   | brk=>obtain ⟨σ7,H7,I7,q7⟩:=q7; exact ⟨σ7,H7,I7.unpinned,q7⟩
   | ret v=>obtain ⟨x7,σ7,H7,I7,r7,q7⟩:=q7; exact ⟨x7,σ7,H7,I7.unpinned,r7,q7⟩
 ·exact (zg3 ri rg rb)
end
end Pv
namespace Pv
open PySem PySem.Spec PyProof.Rows L2 PySem.Calls Wc
theorem uc2:entryFor table "proto.unchain" = some Builtin.«proto.unchain» := entryFor_of_tree (by kernel_rfl)
variable {w:World} {A:Around} {s:[47]} {oe:Obj} {bm bmN:[25]} {newId initId:String} {Q:Flow->Shared->Prop} {np cpos npos pos:Pos} {kk:Nat}
section
variable {prog:[60]} {E:[7]} {env:Env}
theorem wo1 {α:Type} {h e:Addr} {vs:Array Value} {Q:α->Shared->Prop} (hh:A.handled=some (.ref h)) (hne:h ≠ e) (f2:F2 s.heap h) (he:s.heap.get? e=some oe) (hd:oe.data=.fields vs) (hs:2 < vs.size)
    (k:E (.ref e) { s with heap:=s.heap.update e (Obj.mapFields (·.setIfInBounds 2 (.ref h))) }):wpAny [8] A (raiseNew (.ref e):Sem α) Q E s:=by
 obtain ⟨oh,ws,h1,h2,h3⟩:=f2;unfold raiseNew;refine wpAny_bind (wpAny_handled ?_);rw [hh];dsimp only;rw [if_pos (by simp [hne])];refine wpAny_bind (wpAny_holding (wpAny_runValue (codeAny_builtin uc2 ?_)));unfold Builtin.«proto.unchain»;refine wpAny_bind (wpAny_field h1 h2 h3 ?_);rw [if_pos (by rfl)];refine wpAny_bind (wpAny_pure [28]);show wpAny _ _ (setField (.ref e) 2 (.ref h) >>= _) _ _ _;refine wpAny_bind (wpAny_setField he hd hs (wpAny_throw k))
variable {nm q:Str} {C N:Addr} {bs bmB:[25]} {hdct:Bool} {sn:[35]} {sub:[25]} {ab:Bool} {col:Option Bool} {dd:Option Addr} {k0 k1 k2 k3 k5:Option Value} {B Bn nid inN:String} 
theorem sj1 {x c:Sem Value} {h:Addr} (hbase:bm.contains [40]=true) (hh:A.handled=some (.ref h))
    (hx:wpAny [8] A x (λ v s₁=>∃ e t,v=.ref e /\ s₁.heap.get? C=some (excClassObj nm q C N bs bm hdct sn sub ab col dd k0 k1 k2 k3 k5 newId) ∧
     s₁.heap.get? e=some { cls:=.ref C,data:=.fields #[.ref t,.none,.none,.none,.bool false,.none] } /\ h ≠ e /\ F2 s₁.heap h /\ wpAny [8] A c (λ cv s₂=>cv=.none /\ s₂=s₁) E s₁ ∧
     ∀ h',h'.get? e=some { cls:=.ref C,data:=.fields #[.ref t,.none,.ref h,.none,.bool true,.none] }->(∀ b,b ≠ e->h'.get? b=s₁.heap.get? b)->E (.ref e) { s₁ with heap:=h' }) E s) :
    wpAny [8] A (raiseStmt env (some x) (some c)) Q E s:=by
 have hcB:(Value.ref C :: bm).contains [40]=true:=by assumption
 unfold raiseStmt;refine wpAny_bind (wpAny_mono hx (λ v s₁ h₁=>?_) λ _ _ x=>x);obtain ⟨e,t,rfl,hC,he,hne,f2,hc,hE⟩:=h₁;refine wpAny_bind (wpAny_holding (wpAny_mono hc (λ cv s₂ h₂=>?_) λ _ _ x=>x));obtain ⟨rfl,rfl⟩:=h₂;obtain ⟨hp,g,d,tk,os⟩:=s₂;refine wpAny_bind [28];refine wpAny_bind (wpAny_holding ?_);unfold excFromValue
 repeat (first | with_reducible refine wpAny_loadPart_at he ?_ | with_reducible refine wpAny_loadPart_at hC ?_ | (with_reducible refine wpAny_isSubtype_exc hC ?_; rw [hcB]) | wp_step)
 have hCe:e ≠ C:=λ z=>by
  simp_all
 have up:∀ (m:Array Value->Array Value) (h':Heap) (b:Addr),b ≠ e->(h'.update e (Obj.mapFields m)).get? b=h'.get? b:=λ m h' b hb=>Heap.get?_update_other _ _ (Ne.symm hb);have hC2:=(up (·.setIfInBounds 4 (.bool true)) _ C (Ne.symm hCe)).trans ((up (·.setIfInBounds 3 .none) _ C (Ne.symm hCe)).trans hC);have e1:=Heap.get?_update_self (Obj.mapFields (·.setIfInBounds 3 Value.none)) he rfl;have e2:=Heap.get?_update_self (Obj.mapFields (·.setIfInBounds 4 (.bool true))) e1 rfl;have e3:=Heap.get?_update_self (Obj.mapFields (·.setIfInBounds 2 (.ref h))) e2 rfl
 repeat (first | with_reducible refine wpAny_loadPart_at hC2 ?_ | wp_step)
 refine (wo1 hh hne ?_ e2 rfl (show 2 < 6 by decide) (hE _ e3 λ b hb=>?_))
 ·obtain ⟨oh,ws,h1,h2,h3⟩:=f2;exact ⟨oh,ws,(up _ _ h hne).trans ((up _ _ h hne).trans h1),h2,h3⟩
 simp_all
theorem wd3 (Fn:ExcBaseFacts Bn newId inN bmN) (hBn:bmB.contains (.type Bn)=true) (F:ExcBaseFacts B nid initId bmB) {mN:[24]} {x:Str} {args:[67]} {ea:Addr} 
    (hbase:bm.contains [40]=true) (hh:A.handled=some (.ref ea)) (hplain:(backTo cpos (starEach args env)).any (·.1)=false) (hni:mN "__init__" = none)
    (h:wpAny [8] A (eval (.Name x np) env) (λ f s₁=>f=.ref C /\ wpAny [8] A (evalArgs [72] true (backTo cpos (starEach args env)) [])
     (λ a s₂=>a.kw=[] /\ a.pos.length<=sizeLine /\ s₂.heap.get? C=some (excClassObj nm q C N bs bm hdct sn sub ab col dd k0 k1 k2 k3 k5 newId) /\ s₂.heap.Ns N mN /\ OwnTail s₂.heap bmB bm /\ F2 s₂.heap ea ∧
      ∀ h' e,(∀ b o,s₂.heap.get? b=some o->h'.get? b=some o)->s₂.heap.get? e=none->(∃ t,h'.get? e=some { cls:=.ref C,data:=.fields #[.ref t,.none,.ref ea,.none,.bool true,.none] })->E (.ref e) { s₂ with heap:=h' }) E s₁) E s) :
    wpAny [8] A (exec (.Raise (some (.Call (.Name x np) args [] cpos)) (some (.Constant .none kk npos)) pos) env) Q E s:=by
 rw [arm_exec_Raise];simp only [evalOpt,Option.map];refine wpAny_bind (wpAny_standAt (sj1 (C:=C) (nm:=nm) (q:=q) (N:=N) (bs:=bs) (bm:=bm) (hdct:=hdct) (sn:=sn) (sub:=sub) (ab:=ab) (col:=col) (dd:=dd) (k0:=k0) (k1:=k1) (k2:=k2) (k3:=k3) (k5:=k5) (newId:=newId) hbase hh (wpAny_bind (wpAny_mono (wpAny_Call_ofName (wpAny_mono h (λ f s₁ h₁=>?_) λ _ _ x=>x)) (λ v s₃ h₃=>wpAny_bind (wpAny_standAt (wpAny_pure h₃))) λ _ _ x=>x))));obtain ⟨rfl,h₁⟩:=h₁;unfold callWith;refine wpAny_bind (wpAny_holding (wpAny_mono h₁ (λ a s₂ h₂=>wpAny_bind (wpAny_standAt ?_)) λ _ _ x=>x));obtain ⟨apos,akw⟩:=a;obtain ⟨hkw,hlen,hC,hn,T,f2,h₂⟩:=h₂;obtain rfl:akw=[]:=hkw;obtain ⟨hp,g,d,tk,os⟩:=s₂;simp only [hplain];refine wpAny_bind (wpAny_keeperOf_exc hC ?_);refine wpAny_bind (wpAny_call_exc_subU (hrest:=hlen) Fn hBn F T hC hn hni λ h' e hm=>wpAny_bind (wpAny_holding (wpAny_point [28])));obtain ⟨t,ht,_,_⟩:=hm.there;obtain ⟨oh,ws,g1,g2,g3⟩:=f2;have hne:ea ≠ e:=λ z=>by subst z; rw [hm.new] at g1; cases g1
 refine ⟨e,t,rfl,hm.keeps _ _ hC,ht,hne,⟨oh,ws,hm.keeps _ _ g1,g2,g3⟩,?_,λ h2 k1 k2=>h₂ h2 e (λ b o q=>?_) hm.new ⟨t,k1⟩⟩
 ·exact wpAny_bind (Constant_none (wpAny_bind (wpAny_standAt (wpAny_pure ⟨rfl,rfl⟩))))
 ·rw [k2 b (λ z=>by subst z; rw [hm.new] at q; cases q)];exact hm.keeps b o q
end
variable {e:Expr} {P:[60]} {K:Fg} {mg:[24]} {base:Heap} {qual y:Str} {scope:Scope} {f C2:Addr} {cd:Value} {outer:List Env} {s0:[47]} {H0 H:Hp} {pins:[19]} {σ:L2.St} {j:Nat} {hpos:Pos}
section
variable {N:[35]} {E:XK}
theorem xq1 {EE:[7]} {h1:Heap} {tk:Tok} {e:Addr} {a0:Value} {ws:Array Value} {Q:Unit->Shared->Prop} (I:L2.Inv [6] pins σ H s)
    (hxk:∀ b o,s.heap.get? b=some o->h1.get? b=some o) (hxn:s.heap.get? e=none) (he:h1.get? e=some oe) (hd:oe.data=.fields ws) (hw1:ws[1]?=some .none) (hw0:ws[0]?=some a0) (hw2:ws[2]?=some .none)
    (k:∀ (B h5:Heap),Heap.FlyingW B [78] e oe.cls a0 h5->F2 h5 e->(∀ h6,(∀ b o,B.get? b=some o->h6.get? b=some o)->h5.UpToSlots h6->L2.Inv [6] pins σ H { s with heap:=h6,toks:=tk } /\ Un (frs [78]) [] H H s.heap h6)->Q () { s with heap:=h5,toks:=tk }) :
    wpAny (model P w) (A.deeper [3]) (noteFrame (.ref e) [3]) (λ _ s₂=>wpAny (model P w) (A.deeper [3]) (setFlight (.ref e) none) Q EE s₂) EE { s with heap:=h1,toks:=tk }:=by
 have e0:=I.env0;have hin:∀ env ∈ [58],∀ b,env.frame=some b->b ∈ frs [58]:=λ env he b hb=>List.mem_filterMap.mpr ⟨env,he,hb⟩;have hfun:s.heap.FunFrames base [58]:=e0.funs;have hl:=(funFrames_hide hfun hin).of_keeps (h':=h1) λ b o hb _=>⟨o,hxk b o hb,rfl⟩
 have hen:(hideAll s.heap (frs [58])).get? e=none:=by
  cases q:(hideAll s.heap (frs [58])).get? e with
  | none=>rfl
  | some o=>have:=of_hideAll _ q; simp_all
 have inB:∀ b o,s.heap.get? b=some o->b ∉ frs ([58])->(hideAll s.heap (frs [58])).get? b=some o:=λ b o q hb=>hideAll_get _ q hb
 have first:wpAny (model P w) (A.deeper [3]) (noteFrame (.ref e) [3]) (λ _ z=>∃ h4,z={ s with heap:=h4,toks:=tk } /\ Heap.HeldW (hideAll s.heap (frs [58])) [78] e oe.cls a0 [3].locals h4 /\ h1.UpToSlots h4) EE { s with heap:=h1,toks:=tk }:=by
  unfold noteFrame;simp only [show [3].frame=some [3].locals from rfl];refine wpAny_bind (wpAny_field he hd hw1 ?_);rw [if_neg [14]];refine wpAny_entryW (s:={ s with heap:=h1,toks:=tk }) I.ok.frames hl rfl he (λ b o q=>hxk b o (of_hideAll _ q)) hen hd (Array.getElem?_eq_some_iff.mp hw1).1 hw0 λ h' ⟨x1,x2,x3,x4⟩=>⟨h',rfl,⟨x1,hen,x2,x3⟩,x4⟩
 refine wpAny_mono ((Kf.note _ _).any (s:={ s with heap:=h1,toks:=tk }) ⟨oe,ws,he,hd,hw2⟩ first) (λ _ z hz=>?_) λ _ _ z=>z;obtain ⟨⟨h4,rfl,held,sm4⟩,g4⟩:=hz;refine wpAny_mono ((Kf.flight _ _).any g4 (wpAny_landsW (s:={ s with heap:=h4,toks:=tk }) (Q:=λ _ z=>∃ h5,z={ s with heap:=h5,toks:=tk } /\ Heap.FlyingW _ [78] e oe.cls a0 h5 /\ h4.UpToSlots h5) held λ h5 a b=>⟨h5,rfl,a,b⟩)) (λ _ z hz=>?_) λ _ _ z=>z;obtain ⟨⟨h5,rfl,fl5,sm5⟩,g5⟩:=hz;refine k _ h5 fl5 g5 λ h6 st up=>?_
 have frm:∀ b o,s.heap.get? b=some o->b ∈ frs ([58])->∃ sl,h6.get? b=some { o with slots:=sl }:=λ b o q hb=>by
  obtain ⟨_,o',ho,hnf⟩:=hfun.mem hb;rw [q] at ho; cases ho;exact ((sm4.trans sm5).trans up) b o (hxk b o q) hnf
 have un:Un (frs [78]) [] H H s.heap h6:=by
  refine ⟨λ b o q n hb _=>st b o (inB b o q hb),λ b o q n hb _=>frm b o q hb,λ b o q n _=>n,λ b o q _=>?_,λ b xs q=>q,λ b o u q=>q,λ b ps q=>⟨#[],by assumption⟩⟩;by_cases hb:b ∈ frs [58]
  ·obtain ⟨sl,e2⟩:=frm b o q hb;exact ⟨_,e2⟩
  simp_all
 have hok:HOk P w H h6:=by
  refine λ a o ha=>(I.hok a o ha).stay (λ b u hb q=>?_) (λ _ h=>h) (λ _ _ h=>h)
  have hne:H b ≠ none:=by
   rcases hb with rfl | hb
   ·rw [ha]; simp
   ·rw [hb]; simp
  refine st b u (inB b u q λ hm=>?_);exact hne (e0.frf b hm)
 exact ⟨I.call' (s':={ s with heap:=h6,toks:=tk }) (ch:=[]) rfl un hok I.bare (λ b z=>absurd z [17]),un⟩
def vh5 (E:XK) (C2:Addr) (j:Nat) (ta:TE) (tb:Addr->TA):TS:=λ D σ H=>ta σ H λ v H1=>∃ z,v=.str z /\ z.length<=640 /\ (reprText z).length<=sizeLine /\ match intText? z with
 | some n=>D.nx (σ.set j (some (.int n))) H1
 | none=>∀ ea ob,H1 ea=none->tb ea σ (upd H1 ea (.frz ob (.own 0))) λ vs H3=>vs.length<=sizeLine /\ H3 ea=some (.frz ob (.own 0)) /\ E (.ref C2) (some 0) H3
theorem yt3 {x2:Str} {e₀:Expr} {rest:[67]} {p py apos np2 cpos2 rpos:Pos} {ta:TE} {tb:Addr->TA} {Bn B inN nid:String} 
    (hN:N.Nodup) (hj:N[j]?=some y) (hy:Loc scope y) (ha:PE [6].nox e ta)
    (hsu:∀ ea,PA (mark [6] (.ref ea)) (e₀ :: rest) (tb ea)) (hgi:Gl [6] "int") (hmi:mg "int" = none) (hg:Gl [6] "ValueError") (hm:mg "ValueError" = none)
    (O:OwnCls x2 C2 bm newId mg base) (Fn:ExcBaseFacts Bn newId inN bmN) (hBn:bm.contains (.type Bn)=true) (FB:ExcBaseFacts B nid initId bm) (hg2:Gl [6] x2) (hd2:(x2 == ("__debug__" : Str))=false)
    (he:starEach [e] [3]=[(false,eval e [3])])
    (he2:starEach (e₀ :: rest) [3]=(false,eval e₀ [3]) :: starEach rest [3]) (hpl2:(backTo cpos2 (starEach rest [3])).any (·.1)=false)
    (hs:swapsWith (.Call (.Name "int" p) [e] [] cpos) (some (.Name y py)) apos.line [3]=pure false) :
    PSc [6] (.Try [.Assign [.Name y py] (.Call (.Name "int" p) [e] [] cpos) apos] [.ExceptHandler (some (.Name "ValueError" np)) none [.Raise (some (.Call (.Name x2 np2) (e₀ :: rest) [] cpos2)) (some (.Constant .none kk npos)) rpos] hpos] [] [] pos) (vh5 E C2 j ta tb):=by
 intro pins s σ H D I h;refine ym1 (wq0 (yc3 ?_ hs));refine tr2 (c_of (xo0 I hgi hmi (show bootBuiltins "int" = some (.type "int") by decide +kernel) ?_));refine wc3 ?_ he rfl;have he':starEach [e] [6].env=_:=he;rw [he'];refine zm1 (c_of (wpAny_mono (ha pins s σ H _ (I.wish _) h) (λ u s1 ⟨v,H1,I1',r,z,hv,hl,hr,q⟩=>?_) λ _ _ z=>(show False from z).elim));subst hv;obtain ⟨tk,rfl⟩:∃ t,u=Value.str z t:=r;have I1:L2.Inv [6] pins σ H1 s1:=I1'.unwish;refine c_of (Calls.spliced_nil ?_);cases hn:intText? z with
 | some n =>
  rw [hn] at q;refine c_of (PySem.W.KIN.call_text hn hl ?_);exact ug0 (v:=.int n) (I1.tok _) hN hj hy ⟨_,rfl⟩ (λ s2 I2=>c_of (wpAny_execs_nil (wpAny_execs_nil ⟨_,H1,I2,q⟩))) (.inl rfl)
 | none =>
  rw [hn] at q;refine c_int hn hl (I1.ok.hd rfl) hr λ h1 ea args tk1 mx=>?_;obtain ⟨t,ht,_,_⟩:=mx.there;refine xq1 I1 mx.keeps mx.new ht rfl rfl rfl rfl λ B h5 fl5 g5 inv=>?_;obtain ⟨I5,_⟩:=inv h5 fl5.1 (Heap.UpToSlots.refl _);obtain ⟨ob5,hob5,hc5⟩:=fl5.there;refine wpAny_handleBy_builtin (X := "ValueError") (T := "ValueError") (b:=true) F.isExc_ValueError [21] (by rfl) (xo0 (zi0 I5 (.ref ea)) hg hm to0 ⟨rfl,⟨ob5,hob5,hc5⟩,?_⟩);rw [if_pos rfl];refine wpAny_mono ((Kf.flight _ _).any g5 (lands_againW (s:={ s1 with heap:=h5,toks:=tk1 }) (Q:=λ _ z=>∃ h6,z={ s1 with heap:=h6,toks:=tk1 } /\ Heap.FlyingW B [78] ea (.type "ValueError") (.ref t) h6 /\ h5.UpToSlots h6) fl5 λ h6 a b=>⟨h6,rfl,a,b⟩)) (λ _ z hz=>?_) λ _ _ z=>z;obtain ⟨⟨h6,rfl,fl6,sm6⟩,oe,ws,g6,g7,g8⟩:=hz;obtain ⟨I6,un6⟩:=inv h6 fl6.1 sm6
  have hea:H1 ea=none:=by
   cases q:H1 ea with
   | none=>rfl
   | some ho =>
    obtain ⟨o,eo⟩:=zm0 (I1.hok ea ho q);rw [mx.new] at eo; cases eo
  have I7:L2.Inv [6] pins σ (upd H1 ea (.frz oe (.own 0))) { s1 with heap:=h6,toks:=tk1 }:=I1.call' (s':={ s1 with heap:=h6,toks:=tk1 }) (ch:=[]) rfl (ye3 un6 hea mx.new) (sd2 I6.hok hea g6) I1.bare (λ b z=>absurd z [17]);have hq:=q ea oe hea;obtain ⟨tl,NN,nm,qn,bs,hdct,sn,sub,ab,col,dd,k0,k1',k2',k3',k5,mN,hC,hN,hni,T⟩:=O.obj
  refine wpAny_passesOwnAt PassesOwnAt.leaving (wpAny_execs_cons (wd3 (C:=C2) (nm:=nm) (q:=qn) (N:=NN) (bs:=bs) (bm:=tl) (hdct:=hdct) (sn:=sn) (sub:=sub) (ab:=ab) (col:=col) (dd:=dd) (k0:=k0) (k1:=k1') (k2:=k2') (k3:=k3') (k5:=k5) (ea:=ea)
   Fn hBn FB (mN:=mN) (T.hasType FB.hasBase) rfl (by
    show (backTo cpos2 (starEach (e₀ :: rest) [3])).any (·.1)=false;rw [he2]; assumption) hni (zg0 (zi0 I7 (.ref ea)) hg2 O.bound ⟨rfl,?_⟩ hd2)))
  have hA:=hsu ea cpos2 pins _ σ _ _ (zi0 I7 (.ref ea)) hq;have he':starEach (e₀ :: rest) (mark [6] (.ref ea)).env=_:=he2;rw [he'] at hA;show wpAny _ _ (evalArgs (.ref C2) true (backTo cpos2 (starEach (e₀ :: rest) [3])) []) _ _ _;rw [he2];refine Calls.evalArgs_plain (wpAny_mono hA (λ us s2 ⟨vs,H2,I2,r2,q2,q3,q4⟩=>⟨rfl,?_,I2.bk _ _ hC,hN.keeps I2.bk,T.keeps I2.bk,?_,λ h' e3 w1 w2 ⟨t,w3⟩=>?_⟩) λ _ _ z=>(show False from z).elim)
  ·rw [<- r2.length]; exact q2
  ·exact ⟨oe,ws,(I2.hok ea _ q3).1,g7,g8⟩
  ·exact yj2 (oo:=some 0) (uk0 I1.ok I2) w1 w2 w3 rfl rfl rfl (λ z=>by cases z) q4
end
def xf4 (XE:XE3) (j:Nat) (x2:Str) (te:TE3) (tb:TA3):TS3:=λ D' ρ μ=>te ρ μ λ d μ1=>match d with
 | .str z=>(z.length<=640 /\ (reprText z).length<=sizeLine) /\ (match intText? z with
  | some n=>D'.nx (ρ.set j (some (.int n))) μ1
  | none=>tb ρ μ1 λ ds μ3=>ds.length<=sizeLine /\ XE x2 μ3)
 | _=>False
section
variable {N:[35]} {E:XK} {XE:XE3}
theorem xq3 {x2:Str} {e₀:Expr} {rest:[67]} {p py apos np2 cpos2 rpos:Pos} {te:TE3} {tb:TA3} {Bn B inN nid:String} 
    (EX:EXok K mg XE E) (hN:N.Nodup) (ha:RE [6].nox e te) (hsu:∀ ea,RA (mark [6] (.ref ea)) (e₀ :: rest) tb)
    (hmi:mg "int" = none) (hm:mg "ValueError" = none) (O:OwnCls x2 C2 bm newId mg base) (Fn:ExcBaseFacts Bn newId inN bmN) (hBn:bm.contains (.type Bn)=true) (FB:ExcBaseFacts B nid initId bm)
    (hj:N[j]?=some y:=by rfl) (hy:Loc scope y:=by trivial) (hgi:Gl [6] "int" := by rfl) (hg:Gl [6] "ValueError" := by rfl) (hg2:Gl [6] x2:=by rfl) (hd2:(x2 == ("__debug__" : Str))=false:=by decide) (hx2:x2 ≠ "NoWord" := by decide)
    (he:starEach [e] [3]=[(false,eval e [3])]:=by rfl)
    (he2:starEach (e₀ :: rest) [3]=(false,eval e₀ [3]) :: starEach rest [3]:=by rfl) (hpl2:(backTo cpos2 (starEach rest [3])).any (·.1)=false:=by rfl)
    (hs:swapsWith (.Call (.Name "int" p) [e] [] cpos) (some (.Name y py)) apos.line [3]=pure false:=by rfl) :
    RSc [6] (.Try [.Assign [.Name y py] (.Call (.Name "int" p) [e] [] cpos) apos] [.ExceptHandler (some (.Name "ValueError" np)) none [.Raise (some (.Call (.Name x2 np2) (e₀ :: rest) [] cpos2)) (some (.Constant .none kk npos)) rpos] hpos] [] [] pos) (xf4 XE j x2 te tb):=by
 obtain ⟨va,pa,ra⟩:=ha;obtain ⟨tv,hp,hr'⟩:∃ tv:Addr->TA,(∀ ea,PA (mark [6] (.ref ea)) (e₀ :: rest) (tv ea)) /\ ∀ ea,RdA K (tv ea) tb:=⟨λ ea=>(hsu ea).choose,λ ea=>(hsu ea).choose_spec.1,λ ea=>(hsu ea).choose_spec.2⟩;refine ⟨_,yt3 hN hj hy pa hp hgi hmi hg hm O Fn hBn FB hg2 hd2 he he2 hpl2 hs,?_⟩;intro σ H D ρ μ D3 s m h kd;refine ra σ H _ ρ μ _ s m h λ d μ1 v H1 h1 k1 r1 m1=>?_;split at h1
 ·next z =>
  cases r1;refine ⟨z,rfl,h1.1.1,h1.1.2,?_⟩;have h2:=h1.2;cases hn:intText? z with
  | some n =>
   rw [hn] at h2;exact kd.nx _ _ _ _ h2 k1 ([63].set j (.int _)) m1
  | none =>
   rw [hn] at h2;intro ea ob hea;refine hr' ea σ _ _ ρ μ1 _ ([63].mono (Kp.new hea)) (m1.newF hea) h2 λ ds μ3 us H3 h3 k3 r3 m3=>⟨by rw [<- r3.length]; exact h3.1,k3.frz _ _ _ ue0,?_⟩;exact EX x2 C2 μ3 H3 (some 0) h3.2 O.bound m3 λ z=>absurd z hx2
 ·exact h1.elim
end
theorem CalX.c {P:[60]} {w:World} {K:Fg} {mg:[24]} {base:Heap} {k:Nat} {x:Str} {ps:[35]} {spx:XE3->Sp3} (c:CalX P w K mg base k x ps spx):CalXC P w K mg base k x ps spx :=
 let ⟨f,fd,F,r⟩:=c; ⟨f,fd,⟨F.len,λ A outer s H args us vs Q E a b c d e=>sz3 (F.run A outer s H args us vs Q E a b c d e)⟩,r⟩
variable {k:Nat} {ps:[35]} {es:[67]}
section
variable {X:Cx} {fd:FuncData} {sp:Sp} {fx n x:Str} {i:Nat} {Pc:Addr} {b₀:Stmt} {suite:List Stmt} {p epos ipos py:Pos} {ta:TA} {ts:Addr->TS}
theorem zi1 {st:V->L2.St->L2.St} {QV:[7]} {D:Ends} (F:FnC X.prog X.w X.K X.mg X.base (CXn X.prog X.w) k f fd ps sp) (hr:Room k X.A) (hgf:Gl X fx) (hmf:X.mg fx=some (.ref f)) (hkf:keepIn X.K (.ref f)=true) (hb:Binds X.K fd ps []) (ha:PA X (e :: es) ta)
    (hsu:∀ ea,PSs (mark X (.ref ea)) (b₀ :: suite) (ts ea)) (hN:X.N.Nodup) (hi:X.N[i]?=some n) (hloc:X.env.scope.names.lookup n=some .local) (hg:Gl X x) (hm:X.mg x=some (.ref Pc)) (hd:[23]=false)
    (k2:kitCls X.K (.ref Pc) [40]=some true) (k3:kitCls X.K (.type "type") (.type "tuple")=some false) (hst:X.stack=X.env :: X.outer) (hfr:X.env.frame=some X.env.locals) (hxe:∀ v s,X.xe v s->False)
    (hdb:(fx == ("__debug__" : Str))=false) (he:starEach (e :: es) X.env=[26] :: starEach es X.env) (hpl:(backTo cpos [31]).any (·.1)=false)
    (I:[13]) (h:tTry X.K Pc i sp st ta ts D σ H) (kv:∀ v u H2 s2,RelV v u->Inv X pins σ H2 s2->D.nx (st v σ) H2->QV u s2) :
    wpC [11] X.A (eval (.Call (.Name fx p) (e :: es) [] cpos) X.env) QV
     (λ ex s₁=>wpAny [11] X.A (noteFrame ex X.env) (λ _ s₂=>wpAny [11] X.A (setFlight ex none) (λ _ s₃=>wpAny [11] X.A (handleBy ex X.env [.ExceptHandler (some (.Name x np)) (some n) (b₀ :: suite) hpos]) (SP X pins D) X.xe s₃) X.xe s₂) X.xe s₁) s:=by
 refine tr2 (c_of (zg0 I hgf hmf ?_ hdb));refine ys2 hkf (c_of (wpAny_mono (ha cpos pins s σ H _ I h) (λ us s1 ⟨vs,H1,I1,r,q⟩=>⟨I1.kIn,?_⟩) λ _ _ z=>(hxe _ _ z).elim)) he hpl;have hl:(us ++ []).length=ps.length:=by rw [append_nil,<- r.length]; exact F.len _ _ _ _ q
 have hbb:=hb s1 us I1.kIn hl;rw [append_nil] at hbb;refine vm1 (cc_mono (F.run X.A X.stack s1 H1 ⟨us,[]⟩ us vs _ _ hr I1.env0 hbb r q) λ rr s' hq=>?_);cases rr with
 | error ex =>
  dsimp only [CR] at hq;refine tb3 I1 hst hfr hq hN hi hloc hg hm hd (λ cls _ H' hE=>?_) k2 k3 λ ea C H' ob s6 _ hkp hE hea hob I6=>?_
  ·obtain ⟨C,e1,e2,_⟩:=hE
   simp_all
  ·obtain ⟨C',e1,e2,e3⟩:=hE;cases e1;refine wpAny_mono (hsu ea pins s6 _ _ _ I6 (e3 hkp ea ob hea hob)) (λ fl s4 z=>?_) λ _ _ z=>z;cases fl with
   | next =>
    obtain ⟨σ',H4,I4,q4⟩:=z;exact tx3 (uk0 I1.ok I4) hN hi hloc λ s5 I5=>⟨_,H4,I5,q4⟩
   | brk=>obtain ⟨_,_,_,z⟩:=z; exact z.elim
   | cont=>obtain ⟨_,_,_,z⟩:=z; exact z.elim
   | ret _=>obtain ⟨_,_,_,_,_,z⟩:=z; exact z.elim
 | ok fl =>
  cases fl with
  | ret u =>
   obtain ⟨v,H2,I2,rv,q2⟩:=I1.after hq;exact kv v u H2 _ rv I2 q2
  | next=>exact False.elim hq
  | brk=>exact False.elim hq
  | cont=>exact False.elim hq
theorem zh2 {c:Expr} {tc:TT3} {k':Nat} {ps':[35]} {spx spx':XE3->Sp3} {fx fx':Str} {e':Expr} {es':[67]} {p epos p' cpos' epos' py':Pos} {ta ta':TA3} {ts:TS3} {ok:Str->Bool} (hc:RT X c tc)
    (cf:CalXC X.prog X.w X.K X.mg X.base k fx ps spx) (hr:Room k X.A) (ha:RA X (e :: es) ta) (cf':CalXC X.prog X.w X.K X.mg X.base k' fx' ps' spx') (hr':Room k' X.A) (ha':RA X (e' :: es') ta') (hsu:∀ ea,RSs (mark X (.ref ea)) (b₀ :: suite) ts) (hN:X.N.Nodup)
    (hm:X.mg x=some (.ref Pc)) (k2:kitCls X.K (.ref Pc) [40]=some true) (k3:kitCls X.K (.type "type") (.type "tuple")=some false)
    (hok:∀ c,ok c=true->∃ C,nsIn X.K mainGlobals c=some (some [72]) /\ X.mg c=some [72] /\ kitCls X.K [72] (.ref Pc)=some true)
    (hi:X.N[i]?=some n:=by rfl) (hloc:X.env.scope.names.lookup n=some .local:=by rfl) (hj:X.N[j]?=some y:=by rfl) (hlocy:X.env.scope.names.lookup y=some .local:=by rfl) (hg:Gl X x:=by rfl) (hgf:Gl X fx:=by rfl) (hgf':Gl X fx':=by rfl) (hd:[23]=false:=by decide)
    (hst:X.stack=X.env :: X.outer:=by rfl) (hfr:X.env.frame=some X.env.locals:=by rfl) (hxe:∀ v s,X.xe v s->False:=by intro _ _ h; exact h)
    (hdb:(fx == ("__debug__" : Str))=false:=by decide) (he:starEach (e :: es) X.env=[26] :: starEach es X.env:=by rfl) (hpl:(backTo cpos [31]).any (·.1)=false:=by rfl)
    (hs:swapsWith (.Call (.Name fx p) (e :: es) [] cpos) (some (.Name y py)) epos.line X.env=pure false:=by rfl)
    (hdb':(fx' == ("__debug__" : Str))=false:=by decide) (he':starEach (e' :: es') X.env=(false,eval e' X.env) :: starEach es' X.env:=by rfl) (hpl':(backTo cpos' (starEach es' X.env)).any (·.1)=false:=by rfl)
    (hs':swapsWith (.Call (.Name fx' p') (e' :: es') [] cpos') (some (.Name y py')) epos'.line X.env=pure false:=by rfl) :
    RSc X (.Try [.If c [.Assign [.Name y py] (.Call (.Name fx p) (e :: es) [] cpos) epos] [.Assign [.Name y py'] (.Call (.Name fx' p') (e' :: es') [] cpos') epos'] ipos] [.ExceptHandler (some (.Name x np)) (some n) (b₀ :: suite) hpos] [] [] pos)
     (ifs3 tc (try3 i spx (tu2 j) ok ta ts) (try3 i spx' (tu2 j) ok ta' ts)):=by
 obtain ⟨vc,pc,rc⟩:=hc;obtain ⟨f,fd,F,hmf,hkf,hb⟩:=cf;obtain ⟨va,pa,ra⟩:=ha;obtain ⟨f',fd',F',hmf',hkf',hb'⟩:=cf';obtain ⟨va',pa',ra'⟩:=ha';obtain ⟨tv,hp,hr2⟩:∃ tv:Addr->TS,(∀ ea,PSs (mark X (.ref ea)) (b₀ :: suite) (tv ea)) /\ ∀ ea,RdS X.K (tv ea) ts:=⟨λ ea=>(hsu ea).choose,λ ea=>(hsu ea).choose_spec.1,λ ea=>(hsu ea).choose_spec.2⟩;refine ⟨tIfS vc (tTry X.K Pc i (xc2 X.K X.mg spx) (λ v σ=>σ.set j (some v)) va tv) (tTry X.K Pc i (xc2 X.K X.mg spx') (λ v σ=>σ.set j (some v)) va' tv),λ pins s σ H D I h=>?_,λ σ H D ρ μ D3 s m h k=>rc σ H _ ρ μ _ s m h λ c μ1 H1 h1 k1 m1=>?_⟩
 ·refine ym1 (wq0 (c_if (c_of (wpAny_mono (pc pins s σ H _ I h) (λ d s1 ⟨H1,I1,q1⟩=>?_) λ _ _ z=>(hxe _ _ z).elim))));have nx:∀ {s2:[47]} {v:V} {u:Value} {H2:Hp},RelV v u->Inv X pins σ H2 s2->D.nx (σ.set j (some v)) H2->wpAny [11] X.A (storeName X.env y u) (λ _ s3=>SP X pins D .next s3) (λ _ _=>False) s2:=λ rv I2 q=>ug0 I2 hN hj (.inl hlocy) rv (λ s3 I3=>⟨_,_,I3,q⟩) (.inr hlocy);cases d with
  | true =>
   refine wq0 (yc3 ?_ hs);exact zi1 (st:=λ v σ=>σ.set j (some v)) F hr hgf hmf hkf hb pa hp hN hi hloc hg hm hd k2 k3 hst hfr hxe hdb he hpl I1 q1 (λ v u H2 s2 rv I2 q=>wpAny_mono (nx rv I2 q) (λ _ s3 z=>c_of (wpAny_execs_nil (c_of (wpAny_execs_nil (wpAny_execs_nil z))))) λ _ _ z=>z.elim)
  | false =>
   refine wq0 (yc3 ?_ hs');exact zi1 (st:=λ v σ=>σ.set j (some v)) F' hr' hgf' hmf' hkf' hb' pa' hp hN hi hloc hg hm hd k2 k3 hst hfr hxe hdb' he' hpl' I1 q1 (λ v u H2 s2 rv I2 q=>wpAny_mono (nx rv I2 q) (λ _ s3 z=>c_of (wpAny_execs_nil (c_of (wpAny_execs_nil (wpAny_execs_nil z))))) λ _ _ z=>z.elim)
 ·cases c with
  | true=>exact yg3 (λ s r=>s.set j r) ra hr2 hok σ H1 D ρ μ1 D3 [63] m1 h1 (k.after k1)
  | false=>exact yg3 (λ s r=>s.set j r) ra' hr2 hok σ H1 D ρ μ1 D3 [63] m1 h1 (k.after k1)
end
end Pv
namespace Pv
open PySem PySem.Spec PyProof.Rows L2 PySem.Calls
variable {X:Cx} {x:Str} {b₀:Stmt} {suite:List Stmt}
section
variable {pins:[19]} {σ:L2.St} {H H':Hp} {s s':[47]}
theorem ub3 {e:Value} {E':XK} {Pc:Addr} {np pos:Pos} {Q:Flow->Shared->Prop} {EE:[7]}
    (I:[13]) (hst:X.stack=X.env :: X.outer) (hfr:X.env.frame=some X.env.locals) (h:CXn X.prog X.w X.stack H s E' e s')
    (hg:Gl X x) (hm:X.mg x=some (.ref Pc)) (hd:[23]=false)
    (hcls:∀ cls o H',E' cls o H'->∃ C,cls=.ref C /\ kitCls X.K [72] (.ref Pc)=some true) (k2:kitCls X.K (.ref Pc) [40]=some true) (k3:kitCls X.K (.type "type") (.type "tuple")=some false)
    (k:∀ ea C H' s6 o,Kp H H'->E' [72] o H'->Inv (mark X (.ref ea)) pins σ H' s6 ->
     wpAny [11] (X.A.mark (some (.ref ea))) (execs (b₀ :: suite) X.env) Q (λ _ _=>False) s6) :
    wpAny [11] X.A (noteFrame e X.env) (λ _ s₂=>wpAny [11] X.A (setFlight e none) (λ _ s₃ =>
     wpAny [11] X.A (handleBy e X.env [.ExceptHandler (some (.Name x np)) none (b₀ :: suite) pos]) Q EE s₃) EE s₂) EE s':=by
 obtain ⟨ea,cls,a0,H',B,rfl,os,bare,u2,hok,fl,hea,cov1,cov2,oo,hf2,hE⟩:=h;obtain ⟨C,rfl,k1⟩:=hcls _ _ _ hE;have fl0:=fl;rw [hst] at fl;refine wpAny_looks_onW (by rw [<- hst]; exact I.ok.frames) hfr fl λ h4 held4 sm4=>?_;refine wpAny_landsW held4 λ h5 fl5 sm5=>?_;have I5:Inv X pins σ H' { s' with heap:=h5 }:=I.call' (s':={ s' with heap:=h5 }) (ch:=[]) os (zo0 u2 cov1 fl0 fl5.1 (sm4.trans sm5)) (tk0 hok cov2 fl5.1) bare (λ b z=>absurd z [17]);obtain ⟨ob5,hob5,hc5⟩:=fl5.there;refine wpAny_handleBy_cons (codeAny_handlers_test (zg0 (zi0 I5 (.ref ea)) hg hm ?_ hd)) (by intro q; cases q);refine zx0 I5.kIn hob5 hc5 k1 k2 k3 ?_;refine codeAny_handlers_suite ?_;refine lands_againW (s:={ s' with heap:=h5 }) fl5 λ h6 fl6 sm6=>?_;have I7:Inv X pins σ H' { s' with heap:=h6 }:=I.call' (s':={ s' with heap:=h6 }) (ch:=[]) os (zo0 u2 cov1 fl0 fl6.1 ((sm4.trans sm5).trans sm6)) (tk0 hok cov2 fl6.1) bare (λ b z=>absurd z [17]);exact wpAny_mono (k ea C H' _ oo ⟨u2.tups,u2.frzs⟩ hE (zi0 I7 (.ref ea))) (λ f s4 z=>z) (λ _ _ z=>z.elim)
end
def ze2 (spx:XE3->Sp3) (x:Str) (ta:TA3) (tb:TE3) (ts:TS3):TS3:=λ D' ρ μ=>ta ρ μ λ ds μ1 =>
 spx (λ c μ2=>c=x /\ ts { nx:=λ ρ' μ'=>D'.nx ρ' μ',rt:=D'.rt } ρ μ2) ds μ1 (λ d μ2=>tb ρ μ2 λ y μ3=>eqR d y μ3 D'.rt)
section
variable {k:Nat} {ps:[35]} {spx:XE3->Sp3} {fx:Str} {Pc:Addr} {e b:Expr} {es:[67]} {p cpos np hpos pos epos rpos:Pos} {ta:TA3} {tb:TE3} {ts:TS3}
theorem xv2 (c:CalX X.prog X.w X.K X.mg X.base k fx ps spx) (hr:Room k X.A) (ha:RA X.nox (e :: es) ta) (hb2:RE X.nox b tb) (ho:RO X.nox (compareOp .Eq) eqR) (hsu:∀ ea,RSs (mark X (.ref ea)) (b₀ :: suite) ts)
    (hm:X.mg x=some (.ref Pc)) (k2:kitCls X.K (.ref Pc) [40]=some true) (k3:kitCls X.K (.type "type") (.type "tuple")=some false)
    (k4:kitCls X.K (.ref Pc) (.ref Pc)=some true)
    (hg:Gl X x:=by rfl) (hgf:Gl X fx:=by rfl) (hd:[23]=false:=by decide) (hst:X.stack=X.env :: X.outer:=by rfl) (hfr:X.env.frame=some X.env.locals:=by rfl)
    (hdb:(fx == ("__debug__" : Str))=false:=by decide) (he:starEach (e :: es) X.env=[26] :: starEach es X.env:=by rfl) (hpl:(backTo cpos [31]).any (·.1)=false:=by rfl)
    (hmk:behindInMarks .Eq b=false:=by first | exact wu1 _ | with_unfolding_all rfl) :
    RS X (.Try [.Return (some (.Compare (.Call (.Name fx p) (e :: es) [] cpos) [.Eq] [b] rpos)) epos] [.ExceptHandler (some (.Name x np)) none (b₀ :: suite) hpos] [] [] pos) (ze2 spx x ta tb ts):=by
 obtain ⟨f,fd,F,hmf,hkf,hb⟩:=c;obtain ⟨va,pa,ra⟩:=ha;obtain ⟨vb,pb,rb⟩:=hb2;obtain ⟨r,po,ro⟩:=ho;obtain ⟨tv,hp,hr'⟩:∃ tv:Addr->TS,(∀ ea,PSs (mark X (.ref ea)) (b₀ :: suite) (tv ea)) /\ ∀ ea,RdS X.K (tv ea) ts:=⟨λ ea=>(hsu ea).choose,λ ea=>(hsu ea).choose_spec.1,λ ea=>(hsu ea).choose_spec.2⟩;refine ⟨λ D σ H=>va σ H λ vs H1=>xc2 X.K X.mg spx vs H1 (λ v H2=>vb σ H2 λ y H3=>r v y H3 D.rt) (λ cls _ H2=>∃ C,cls=.ref C /\ kitCls X.K [72] (.ref Pc)=some true /\ (Kp H1 H2->∀ ea,tv ea { nx:=λ σ' H'=>D.nx σ' H',rt:=D.rt,bk:=λ _ _=>False,ct:=λ _ _=>False } σ H2)),λ pins s σ H D I h=>?_,?_⟩
 ·refine wpAny_Try_except (wpAny_execs_cons (wpAny_Return_some (wpAny_Compare1 ?_ hmk)));refine wpAny_Call_Name_kw (zg0 I hgf hmf ?_ hdb);refine callWith_K (h₀:=X.base) I.ok.mod.kin hkf (wpAny_mono (pa cpos pins s σ H _ (I.wish _) h) (λ us s1 ⟨vs,H1,I1',r,q⟩=>⟨I1'.kIn,?_⟩) λ _ _ z=>(show False from z).elim) he hpl;have I1:Inv X pins σ H1 s1:=I1'.unwish;have hl:(us ++ []).length=ps.length:=by rw [append_nil,<- r.length]; exact F.len _ _ _ _ q
  have hbb:=hb s1 us I1.kIn hl;rw [append_nil] at hbb;refine wpAny_call (codeAny_mono (F.run X.A X.stack s1 H1 ⟨us,[]⟩ us vs _ _ hr I1.env0 hbb r q) λ rr s' hq=>?_);cases rr with
  | error ex =>
   dsimp only [CR] at hq;refine ub3 I1 hst hfr hq hg hm hd (λ cls _ H' hE=>?_) k2 k3 λ ea C H' s6 _ hkp hE I6=>?_
   ·obtain ⟨C,z1,z2,_⟩:=hE
    simp_all
   ·obtain ⟨C',z1,z2,z5⟩:=hE;refine wpAny_mono (hp ea pins s6 _ _ _ I6 (z5 hkp ea)) (λ fl s4 z=>?_) λ _ _ z=>z;cases fl with
    | next =>
     obtain ⟨σ',H4,I4,q4⟩:=z;exact ⟨_,H4,uk0 I1.ok I4,q4⟩
    | brk=>obtain ⟨_,_,_,z⟩:=z; exact z.elim
    | cont=>obtain ⟨_,_,_,z⟩:=z; exact z.elim
    | ret u =>
     obtain ⟨v,σ',H4,I4,rv,q4⟩:=z;exact ⟨v,σ',H4,uk0 I1.ok I4,rv,q4⟩
  | ok fl =>
   cases fl with
   | ret u =>
    obtain ⟨v,H2,I2,rv,q2⟩:=I1.after hq;refine wpAny_mono (pb pins _ σ H2 _ (I2.wish _) q2) (λ u2 s3 ⟨y,H3,I3,r3,q3⟩=>?_) λ _ _ z=>(show False from z).elim;refine wpAny_mono (po pins s3 σ H3 v y u u2 _ I3 rv r3 q3) (λ u4 s4 ⟨z,H4,I4,r4,q4⟩=>?_) λ _ _ z=>(show False from z).elim;exact ⟨z,σ,H4,I4.unwish,r4,q4⟩
   | next=>exact False.elim hq
   | brk=>exact False.elim hq
   | cont=>exact False.elim hq
 ·intro σ H D ρ μ D3 s m h kd;refine ra σ H _ ρ μ _ s m h λ ds μ1 vs H1 h1 k1 r1 m1=>?_;refine ⟨ds,μ1,_,_,r1,m1,h1,λ d μ2 v H2 h2 k2 r2 m2=>?_,λ c C μ2 H2 _ hX hmc m2 _=>?_⟩
  ·refine rb σ H2 _ ρ μ2 _ (s.mono (k1.trans k2)) m2 h2 λ y μ3 u H3 h3 k3 r3 m3=>?_;exact ro d y v u H3 _ μ3 _ m3 (r2.mono k3) r3 h3 (kd.rt.after (k1.trans (k2.trans k3)))
  ·obtain ⟨rfl,o2⟩:=hX;rw [hm] at hmc;cases hmc;refine ⟨_,rfl,k4,λ kp ea=>?_⟩;refine hr' ea _ _ _ _ _ _ (s.mono (k1.trans kp)) m2 o2 ⟨λ ρ' μ' σ' H' q k' s' m'=>?_,λ _ _ _ _ q=>False.elim q,λ _ _ _ _ q=>False.elim q,λ d μ' v H' q k' r' m'=>?_⟩
   ·exact kd.nx _ _ _ _ q (k1.trans (kp.trans k')) s' m'
   ·exact kd.rt _ _ _ _ q (k1.trans (kp.trans k')) r' m'
end
end Pv
namespace Pv
open PySem PySem.Spec PyProof.Rows L2 PySem.Calls Wc
open Sem (wp)
def PTc (X:Cx) (e:Expr) (t:TT):Prop:=∀ (pins:[19]) (s:[47]) (σ:L2.St) (H:Hp) (Q:Bool->Hp->Prop),Inv X pins σ H s->t σ H Q->wpC [11] X.A (isTrue e X.env (eval e X.env)) (TP X pins σ Q) X.xe s
def RTc (X:Cx) (e:Expr) (t:TT3):Prop:=∃ tv,PTc X e tv /\ RdT X.K tv t
variable {r3:R3}
section
variable {X:Cx} {a b:Expr} {ta tb:TE3} {tA:TT3} {t3 u3:TS3} {pos:Pos}
theorem xh2 (ha:REc X a ta) (he:∀ whole,isTrue a X.env whole=(do let v <- whole; standAt a.pos; holding [v] (truthy v)):=by intro _; rfl):RTc X a (b3 ta):=by
 obtain ⟨va,pa,ra⟩:=ha;refine ⟨tB va,λ pins s σ H Q I hw=>?_,RdT.test ra⟩;rw [he];refine sa0 (tc (pa pins s σ H _ I hw) λ v s1 ⟨x,H1,I1,r1,q1⟩=>?_);obtain ⟨d,rfl,q⟩:=q1;cases r1;exact sa0 (vg0 (vo0 (c_of (wpAny_truthy_bool ⟨H1,I1,q⟩))))
theorem yh2 (ha:RTc X a tA):RTc X (.UnaryOp .Not a pos) (not3 tA):=by
 obtain ⟨va,pa,ra⟩:=ha;refine ⟨tNot va,λ pins s σ H Q I h=>?_,λ σ H Q ρ μ Q3 s m h k=>ra σ H _ ρ μ _ s m h λ c μ1 H1 h1 k1 m1=>k _ _ _ h1 k1 m1⟩;show wpC _ _ (do return !(<- isTrue a X.env (eval a X.env))) _ _ s;exact sa0 (tc (pa pins s σ H (λ c H1=>Q (!c) H1) I h) λ c s' h'=>sc0 h')
theorem tp3 {op:CmpOp} (ho:RO X (compareOp op) r3) (ha:REc X a ta) (hb:RE X b tb) (hm:behindInMarks op b=false:=by first | exact wu1 _ | with_unfolding_all rfl):RTc X (.Compare a [op] [b] pos) (b3 (o3 r3 ta tb)):=by
 obtain ⟨r,po,ro⟩:=ho;obtain ⟨va,pa,ra⟩:=ha;obtain ⟨vb,pb,rb⟩:=hb;refine ⟨tm3 (tOp r va vb),λ pins s σ H Q I h=>?_,RdT.test (ra.op rb ro)⟩
 have key:wpC [11] X.A (eval a X.env) (λ v s1=>wpAny [11] X.A (eval b X.env) (λ u s2=>wpAny [11] X.A (compareOp op v u) (λ c s3=>wpAny [11] X.A (truthy c) (TP X pins σ Q) X.xe s3) X.xe s2) X.xe s1) X.xe s:=by
  refine tc (pa pins s σ H _ I h) λ v s1 ⟨x,H1,I1,r1,q1⟩=>thn (pb pins s1 σ H1 _ I1 q1) λ u s2 ⟨y,H2,I2,r2,q2⟩=>thn (po pins s2 σ H2 x y v u _ I2 r1 r2 q2) λ c s3 ⟨z,H3,I3,r3,k,e,q3⟩=>?_;subst e;cases r3;exact wpAny_truthy_bool ⟨H3,I3,q3⟩
 intro Γ p i c;simp only [isTrue_Compare1,markedBehindIn_of_false hm,Sem.wp_bind',Sem.wp_holding,Sem.wp_cmd_standAt,Sem.wp_operate];exact Sem.wp_mono _ Γ _ (λ a p₁ s₁ h₁=>Sem.wp_mono _ Γ _ (λ b _ s₂ h₂=>Sem.wp_mono _ Γ _ (λ c p₃ s₃ h₃=>h₃ Γ p₃ i) (λ _ _ _ h'=>h') _ _ (h₂ Γ _ i)) (λ _ _ _ h'=>h') _ _ (h₁ Γ p₁ i)) (λ _ _ _ h'=>h') _ _ (key Γ p i c)
theorem zt1 (hx:RX X r3) (ha:REc X a ta) (hb:RE X b tb) (hs:wq1 b:=by intro _ _; rfl):REc X (.Subscript a b pos) (o3 r3 ta tb):=by
 obtain ⟨r,po,ro⟩:=hx;obtain ⟨va,pa,ra⟩:=ha;obtain ⟨vb,pb,rb⟩:=hb;refine ⟨tOp r va vb,λ pins s σ H Q I h=>?_,ra.op rb ro⟩;rw [eval_Subscript];refine sa0 (tc (pa pins s σ H _ I h) λ v s1 ⟨x,H1,I1,r1,q1⟩=>sa0 (vo0 (c_of (thn (pb pins s1 σ H1 _ I1 q1) λ u s2 ⟨y,H2,I2,r2,q2⟩=>sa0 (vg0 (c_of ?_))))));exact po a b pins s2 σ H2 x y v u Q I2 r1 r2 q2 (hs _ _)
theorem vh2 {c:Expr} {as bs:List Stmt} (hc:RTc X c tA) (ha:RSsc X as t3) (hb:RSsc X bs u3):RSc X (.If c as bs pos) (ifs3 tA t3 u3):=by
 obtain ⟨vc,pc,rc⟩:=hc;obtain ⟨va,pa,ra⟩:=ha;obtain ⟨vb,pb,rb⟩:=hb;refine ⟨tIfS vc va vb,λ pins s σ H D I h=>?_,λ σ H D ρ μ D3 s m h k=>rc σ H _ ρ μ _ s m h λ b μ1 H1 h1 k1 m1=>?_⟩
 ·refine c_if (tc (pc pins s σ H _ I h) λ d s1 ⟨H1,I1,q1⟩=>?_);cases d with
  | true=>exact pa pins s1 σ H1 D I1 q1
  | false=>exact pb pins s1 σ H1 D I1 q1
 ·cases b with
  | true=>exact ra σ H1 D ρ μ1 D3 [63] m1 h1 (k.after k1)
  | false=>exact rb σ H1 D ρ μ1 D3 [63] m1 h1 (k.after k1)
end
end Pv
namespace Pv
open PySem PySem.Spec PySem.W PyProof.Rows L2
end Pv
namespace Pv
open PySem
abbrev vl0:D:=.ktp [.int 0,.int 1]
abbrev yi0:D:=.int 40
abbrev vf0:D:=.str "none"
abbrev zd0:D:=.ktp [.str "-",.str "|"]
def xnames:List Str:=["BadNote", "NoPicture", "NoRoom"]
def subX (cls c:Str):Option Bool:=if xnames.contains c then some (cls == c || cls == "PenError" || cls == "ValueError") else none
def okX (c:Str):Bool:=xnames.contains c
def vd3:List Str:=["picture", "stroke", "place"]
abbrev wm3 (XE:XE3) (spx_q19:XE3->Sp3):TS3 :=
 (seq3 (for3 (is3 (v3 0)) (gn3 1) (yo0 (wa0 (spx_q19 XE) [55]))) (for3 (ir23 (xa0 [9] (xa0 (wa0 lenR [52]) nil3))) (gn3 2) (ifs3 (b3 (o3 ge3R (o3 ixR (v3 0) (o3 subR (v3 2) [9])) (o3 ixR (v3 0) (v3 2)))) (vq0 XE "NoPicture" (xa0 (c3 (.str "the strokes of a picture rise, each once")) nil3)) zb0)))
def vd4:List Str:=["stroke"]
abbrev yh4 (XE:XE3):TS3 :=
 (ifs3 (or3 (b3 (o3 neR (wa0 lenR [52]) (c3 (.int 3)))) (b3 (o3 (inR true) (o3 ixR (v3 0) [30]) (c3 vl0)))) (vq0 XE "NoPicture" (xa0 (c3 (.str "there is no such stroke")) nil3)) zb0)
def yd4:List Str:=["stroke"]
abbrev tg4:TS3 :=
 (seq3 (ifs3 (b3 (o3 eqR (o3 ixR (v3 0) [30]) [12])) (ret3 (tup3 (xa0 (tup3 (xa0 [84] (xa0 (o3 ixR (v3 0) [9]) nil3))) (xa0 (tup3 (xa0 (o3 addR [84] [9]) (xa0 (o3 ixR (v3 0) [9]) nil3))) nil3)))) zb0) (ret3 (tup3 (xa0 (tup3 (xa0 [84] (xa0 (o3 ixR (v3 0) [9]) nil3))) (xa0 (tup3 (xa0 [84] (xa0 (o3 addR (o3 ixR (v3 0) [9]) [9]) nil3))) nil3)))))
def wc4:List Str:=["strokes"]
abbrev xg4:TS3 :=
 (ret3 (wa0 tupR (xa0 (xu2 (tt2 [52])) nil3)))
def uc4:List Str:=["picture", "least", "greatest", "corner"]
abbrev si0 (q22:Sp3):TS3 :=
 (ret3 (o3 addR (v3 3) (tup3 (xa0 (wa0 mxR (xa0 (xe0 [none] (is3 (v3 2)) (gn3 0) tt3 [84]) nil3)) (xa0 (wa0 mxR (xa0 (xe0 [none] (is3 (v3 2)) (gn3 0) tt3 (o3 ixR (v3 0) [9])) nil3)) nil3)))))
abbrev uf0 (q22:Sp3):TS3 :=
 (seq3 (set3 3 (tup3 (xa0 (wa0 mnR (xa0 (xe0 [none] (is3 (v3 1)) (gn3 0) tt3 [84]) nil3)) (xa0 (wa0 mnR (xa0 (xe0 [none] (is3 (v3 1)) (gn3 0) tt3 (o3 ixR (v3 0) [9])) nil3)) nil3)))) (si0 q22))
abbrev uq0 (q22:Sp3):TS3 :=
 (seq3 (set3 2 (xe0 [none] (is3 (v3 0)) (gn3 0) tt3 (o3 ixR (wa0 q22 [52]) [9]))) (uf0 q22))
abbrev tq0 (q22:Sp3):TS3 :=
 (seq3 (set3 1 (xe0 [none] (is3 (v3 0)) (gn3 0) tt3 (o3 ixR (wa0 q22 [52]) [12]))) (uq0 q22))
abbrev zg4 (q22:Sp3):TS3 :=
 (seq3 (ifs3 (b3 (o3 eqR (wa0 lenR [52]) [12])) (ret3 (c3 .non)) zb0) (tq0 q22))
def yc4:List Str:=["picture", "box"]
abbrev sb1 (XE:XE3) (spx_q18:XE3->Sp3) (q21 q26 q32:Sp3):TS3 :=
 (ret3 (smt3 yq0 (c3 (.str "\n")) (xa0 (o3 addR (lst3 (xa0 (wa0 q21 [55]) nil3)) (wa0 q32 (xa0 (v3 0) [55]))) nil3)))
abbrev um0 (XE:XE3) (spx_q18:XE3->Sp3) (q21 q26 q32:Sp3):TS3 :=
 (seq3 (ifs3 (b3 (o3 geR (wa0 mxR (xa0 (o3 subR (o3 ixR (v3 1) [30]) (o3 ixR (v3 1) [12])) (xa0 (o3 subR (o3 ixR (v3 1) (c3 (.int 3))) (o3 ixR (v3 1) [9])) nil3))) (c3 yi0))) (vq0 XE "NoRoom" (xa0 (c3 (.str "the picture is too wide or too high")) nil3)) zb0) (sb1 XE spx_q18 q21 q26 q32))
abbrev xc1 (XE:XE3) (spx_q18:XE3->Sp3) (q21 q26 q32:Sp3):TS3 :=
 (seq3 (ifs3 (b3 (o3 (isNR false) (v3 1) (c3 .non))) (ret3 (c3 vf0)) zb0) (um0 XE spx_q18 q21 q26 q32))
abbrev yc1 (XE:XE3) (spx_q18:XE3->Sp3) (q21 q26 q32:Sp3):TS3 :=
 (seq3 (set3 1 (wa0 q26 [52])) (xc1 XE spx_q18 q21 q26 q32))
abbrev tf4 (XE:XE3) (spx_q18:XE3->Sp3) (q21 q26 q32:Sp3):TS3 :=
 (seq3 (yo0 (wa0 (spx_q18 XE) [52])) (yc1 XE spx_q18 q21 q26 q32))
def zd4:List Str:=["box"]
abbrev sg4:TS3 :=
 (ret3 (smt3 yq0 (c3 (.str " ")) (xa0 (lst3 (xa0 (wa0 strR (xa0 [84] nil3)) (xa0 (wa0 strR (xa0 (o3 ixR (v3 0) [9]) nil3)) nil3))) nil3)))
def sb4:List Str:=["picture", "box", "signs", "width"]
abbrev vf4 (q31 q33:Sp3):TS3 :=
 (seq3 (set3 2 (wa0 q33 (xa0 (v3 0) [55]))) (seq3 (set3 3 (o3 addR (o3 mulR [30] (o3 subR (o3 ixR (v3 1) [30]) (o3 ixR (v3 1) [12]))) [9])) (ret3 (xe0 [none,some 2,some 3] (ir3 (xa0 (o3 addR (o3 mulR [30] (o3 subR (o3 ixR (v3 1) (c3 (.int 3))) (o3 ixR (v3 1) [9]))) [9]) nil3)) (gn3 0) tt3 (wa0 q31 (xa0 (v3 1) (xa0 (v3 0) (xa0 (v3 2) nil3))))))))
def xc4:List Str:=["signs", "row", "width"]
abbrev uf4:TS3 :=
 (ret3 (smt3 yq0 (c3 (.str "")) (xa0 (xe0 [none,some 0,some 1] (ir3 (xa0 (v3 2) nil3)) (gn3 0) tt3 (gdf3 (v3 1) (xa0 (tup3 (xa0 (v3 2) [52])) (xa0 (c3 (.str ".")) nil3)))) nil3)))
def tb4:List Str:=["picture", "box", "signs", "stroke", "places", "place", "halfway"]
abbrev ub1 (q22:Sp3):TS3 :=
 (ret3 (v3 2))
abbrev tb1 (q22:Sp3):TS3 :=
 (seq3 (for3 (is3 (v3 0)) (gn3 3) (seq3 (set3 4 (xe0 [none,some 1] (is3 (wa0 q22 (xa0 (v3 3) nil3))) (gn3 0) tt3 (tup3 (xa0 (o3 mulR [30] (o3 subR (o3 ixR (v3 1) (c3 (.int 3))) (o3 ixR (v3 0) [9]))) (xa0 (o3 mulR [30] (o3 subR [84] (o3 ixR (v3 1) [12]))) nil3))))) (seq3 (for3 (is3 (v3 4)) (gn3 5) (vm0 (v3 2) (v3 5) (c3 (.str "+")))) (seq3 (set3 6 (tup3 (xa0 (o3 wg0 (o3 addR (o3 ixR (o3 ixR (v3 4) [12]) [12]) (o3 ixR (o3 ixR (v3 4) [9]) [12])) [30]) (xa0 (o3 wg0 (o3 addR (o3 ixR (o3 ixR (v3 4) [12]) [9]) (o3 ixR (o3 ixR (v3 4) [9]) [9])) [30]) nil3)))) (vm0 (v3 2) (v3 6) (o3 ixR (c3 zd0) (o3 ixR (v3 3) [30]))))))) (ub1 q22))
abbrev wf4 (q22:Sp3):TS3 :=
 (seq3 (set3 2 dnl3) (tb1 q22))
def zc4:List Str:=["text", "lines", "picture"]
abbrev uu0 (XE:XE3) (spx_q20:XE3->Sp3) (q23 q27:Sp3):TS3 :=
 (ret3 (v3 2))
abbrev tu0 (XE:XE3) (spx_q20:XE3->Sp3) (q23 q27:Sp3):TS3 :=
 (seq3 (ifs3 (not3 (b3 (wa0 q23 (xa0 (v3 0) (xa0 (v3 2) nil3))))) (vq0 XE "BadNote" (xa0 (c3 (.str "the text shows no picture")) nil3)) zb0) (uu0 XE spx_q20 q23 q27))
abbrev su0 (XE:XE3) (spx_q20:XE3->Sp3) (q23 q27:Sp3):TS3 :=
 (seq3 (set3 2 (wa0 q27 (xa0 (sl3 slR (v3 1) (pt3 [9]) np3) (xa0 (wa0 (spx_q20 XE) (xa0 (o3 ixR (v3 1) [12]) nil3)) nil3)))) (tu0 XE spx_q20 q23 q27))
abbrev xv0 (XE:XE3) (spx_q20:XE3->Sp3) (q23 q27:Sp3):TS3 :=
 (seq3 (set3 1 (smt3 tv0 (v3 0) (xa0 (c3 (.str "\n")) nil3))) (su0 XE spx_q20 q23 q27))
abbrev sf4 (XE:XE3) (spx_q20:XE3->Sp3) (q23 q27:Sp3):TS3 :=
 (seq3 (ifs3 (b3 (o3 eqR (v3 0) (c3 vf0))) (ret3 (tup3 nil3)) zb0) (xv0 XE spx_q20 q23 q27))
def wd4:List Str:=["line", "marks"]
abbrev xh4 (XE:XE3) (spx_q25:XE3->Sp3):TS3 :=
 (seq3 (set3 1 (smt3 tv0 (v3 0) (xa0 (c3 (.str " ")) nil3))) (seq3 (ifs3 (b3 (o3 neR (wa0 lenR [55]) [30])) (vq0 XE "BadNote" (xa0 (c3 (.str "the first line has two numbers")) nil3)) zb0) (ret3 (tup3 (xa0 (wa0 (spx_q25 XE) (xa0 (o3 ixR (v3 1) [12]) nil3)) (xa0 (wa0 (spx_q25 XE) (xa0 (o3 ixR (v3 1) [9]) nil3)) nil3))))))
def tc4:List Str:=["mark", "number"]
abbrev wg4 (XE:XE3):TS3 :=
 (seq3 (xf4 XE 1 "BadNote" (v3 0) (xa0 (c3 (.str "there is no such number")) nil3)) (ret3 (v3 1)))
def vc4:List Str:=["lines", "corner", "greatest_y", "strokes", "row", "column", "point"]
abbrev yv0 (q28 q34:Sp3):TS3 :=
 (ret3 (wa0 q28 (xa0 (v3 3) nil3)))
abbrev zv0 (q28 q34:Sp3):TS3 :=
 (seq3 (for3 (ir3 (xa0 (wa0 lenR [52]) nil3)) (gn3 4) (for3 (ir3 (xa0 (wa0 lenR (xa0 (o3 ixR (v3 0) (v3 4)) nil3)) nil3)) (gn3 5) (seq3 (set3 6 (tup3 (xa0 (o3 addR (o3 ixR (v3 1) [12]) (o3 wg0 (v3 5) [30])) (xa0 (o3 subR (v3 2) (o3 wg0 (v3 4) [30])) nil3)))) (yo0 (mt3 extR (v3 3) (xa0 (wa0 q34 (xa0 (o3 sixR (o3 ixR (v3 0) (v3 4)) (v3 5)) (xa0 (v3 6) nil3))) nil3)))))) (yv0 q28 q34))
abbrev zj0 (q28 q34:Sp3):TS3 :=
 (seq3 (set3 3 (lst3 nil3)) (zv0 q28 q34))
abbrev yg4 (q28 q34:Sp3):TS3 :=
 (seq3 (set3 2 (o3 addR (o3 ixR (v3 1) [9]) (o3 wg0 (wa0 lenR [52]) [30]))) (zj0 q28 q34))
def ub4:List Str:=["sign", "point"]
abbrev zf4:TS3 :=
 (seq3 (ifs3 (b3 (o3 eqR (v3 0) (o3 ixR (c3 zd0) [12]))) (ret3 (lst3 (xa0 (tup3 (xa0 (o3 ixR (v3 1) [12]) (xa0 (o3 ixR (v3 1) [9]) (xa0 [12] nil3)))) nil3))) zb0) (seq3 (ifs3 (b3 (o3 eqR (v3 0) (o3 ixR (c3 zd0) [9]))) (ret3 (lst3 (xa0 (tup3 (xa0 (o3 ixR (v3 1) [12]) (xa0 (o3 subR (o3 ixR (v3 1) [9]) [9]) (xa0 [9] nil3)))) nil3))) zb0) (ret3 (lst3 nil3))))
def xd4:List Str:=["text", "picture"]
abbrev ug4 (spx_q30:XE3->Sp3):TS3 :=
 (ze2 spx_q30 "NoRoom" [55] (v3 0) (ret3 (c3 (.bl false))))
def N_q1:List Str:=["script", "k"]
abbrev t_q1:TS3 :=
 (seq3 (ifs3 (b3 (o3 ltR (v3 1) (wa0 lenR [52]))) (ret3 (o3 ixR (v3 0) (v3 1))) zb0) (ret3 [12]))
def ud4:List Str:=["found"]
abbrev zh4:TS3 :=
 (ret3 (yb4 (wa0 isiR (xa0 (v3 0) (xa0 (c3 (.ty "int")) nil3))) (yw3 (wa0 isiR (xa0 (v3 0) (xa0 (c3 (.ty "bool")) nil3))))))
def ud3:List Str:=["script", "k", "cell"]
abbrev vm3 (q1:Sp3):TS3 :=
 (seq3 (set3 2 (wa0 q1 (xa0 (v3 0) [55]))) (seq3 (ifs3 (b3 (o3 geR (v3 2) (o3 powR (c3 (.int 10)) (c3 (.int 18))))) (ret3 (lst3 (xa0 (o3 subR (v3 2) (o3 powR (c3 (.int 10)) (c3 (.int 18)))) (xa0 (c3 (.bl true)) nil3)))) zb0) (ret3 (lst3 (xa0 (o3 modR (v3 2) (c3 (.int 2147483647))) (xa0 (c3 (.bl false)) nil3))))))
def N_q2:List Str:=["state", "many", "found", "mixed"]
abbrev t_q2:TS3 :=
 (seq3 (ifs3 (b3 (o3 ixR (v3 0) [9])) (seq3 (set3 2 (o3 modR [84] (v3 1))) (seq3 (asg3 (o3 wg0 [84] (v3 1)) (sub3 (v3 0) [12])) (ret3 (v3 2)))) zb0) (seq3 (asg3 (o3 modR (o3 addR (o3 mulR [84] (c3 (.int 48271))) (c3 (.int 29))) (c3 (.int 2147483647))) (sub3 (v3 0) [12])) (seq3 (set3 3 (o3 modR (o3 addR (o3 addR (o3 mulR [84] [84]) (o3 mulR (c3 (.int 39373)) [84])) (c3 (.int 7))) (c3 (.int 2147483629)))) (seq3 (set3 3 (o3 modR (o3 addR (o3 mulR (v3 3) (v3 3)) (o3 mulR (c3 (.int 16807)) (v3 3))) (c3 (.int 2147483587)))) (ret3 (o3 modR (o3 wg0 (v3 3) (c3 (.int 8))) (v3 1)))))))
def ze4:List Str:=["state", "most", "found", "x", "y", "wide", "k"]
abbrev yh0 (q2:Sp3):TS3 :=
 (ret3 (wa0 tupR (xa0 (wa0 vn1 (xa0 (v3 2) nil3)) nil3)))
abbrev wp0 (q2:Sp3):TS3 :=
 (seq3 (for3 (ir3 (xa0 (wa0 q2 (xa0 (v3 0) (xa0 (o3 addR (v3 1) [9]) nil3))) nil3)) (gn3 6) (seq3 (ifs3 (b3 (o3 eqR (wa0 q2 (xa0 (v3 0) (xa0 (c3 (.int 3)) nil3))) [12])) (seq3 (set3 3 (o3 subR (wa0 q2 (xa0 (v3 0) (xa0 (v3 5) nil3))) [30])) (set3 4 (o3 subR (wa0 q2 (xa0 (v3 0) (xa0 (v3 5) nil3))) [30]))) zb0) (seq3 (vm0 (v3 2) (tup3 (xa0 (v3 3) (xa0 (v3 4) (xa0 (wa0 q2 (xa0 (v3 0) (xa0 [30] nil3))) nil3)))) (c3 (.bl true))) (seq3 (set3 3 (o3 addR (v3 3) (o3 ixR (lst3 (xa0 [9] (xa0 [12] (xa0 (un3 negR [9]) (xa0 [12] nil3))))) (wa0 q2 (xa0 (v3 0) (xa0 (c3 (.int 4)) nil3)))))) (set3 4 (o3 addR (v3 4) (o3 ixR (lst3 (xa0 [12] (xa0 [9] (xa0 [12] (xa0 (un3 negR [9]) nil3))))) (wa0 q2 (xa0 (v3 0) (xa0 (c3 (.int 4)) nil3)))))))))) (yh0 q2))
abbrev vp0 (q2:Sp3):TS3 :=
 (seq3 (set3 5 (o3 addR [9] (wa0 q2 (xa0 (v3 0) (xa0 (c3 (.int 5)) nil3))))) (wp0 q2))
abbrev ze0 (q2:Sp3):TS3 :=
 (seq3 (asg3 (tup3 (xa0 [12] (xa0 [12] nil3))) (xx0 2 (ye0 (gn3 3) (ye0 (gn3 4) yx0)))) (vp0 q2))
abbrev sh4 (q2:Sp3):TS3 :=
 (seq3 (set3 2 dnl3) (ze0 q2))
def N_q0:List Str:=["state", "good", "far", "at", "kind", "spot", "bad"]
abbrev sj0 (q2 q10:Sp3):TS3 :=
 (ret3 (wa0 tupR (xa0 (o3 addR (o3 addR (sl3 slR (v3 1) np3 (pt3 (v3 3))) (lst3 (xa0 (v3 6) nil3))) (sl3 slR (v3 1) (pt3 (v3 3)) np3)) nil3)))
abbrev se0 (q2 q10:Sp3):TS3 :=
 (seq3 (set3 6 (o3 ixR (lst3 (xa0 (tup3 (xa0 [12] (xa0 [12] (xa0 [30] nil3)))) (xa0 (tup3 (xa0 [12] (xa0 [12] (xa0 (un3 negR [9]) nil3)))) (xa0 (tup3 (xa0 [12] (xa0 [12] nil3))) (xa0 (tup3 (xa0 [12] (xa0 [12] (xa0 [12] (xa0 [12] nil3))))) (xa0 (tup3 nil3) (xa0 (tup3 (xa0 [12] (xa0 [12] (xa0 (v3 2) nil3)))) (xa0 (tup3 (xa0 (v3 2) (xa0 (v3 2) (xa0 (o3 subR [12] (v3 2)) nil3)))) nil3)))))))) (wa0 q2 (xa0 (v3 0) (xa0 (c3 (.int 7)) nil3))))) (sj0 q2 q10))
abbrev xf0 (q2 q10:Sp3):TS3 :=
 (seq3 (ifs3 (and3 (b3 (o3 eqR (v3 4) [9])) (b3 (o3 gtR (wa0 lenR [55]) [12]))) (seq3 (set3 5 (o3 modR (v3 3) (wa0 lenR [55]))) (ret3 (wa0 tupR (xa0 (o3 addR (sl3 slR (v3 1) np3 (pt3 (o3 addR (v3 5) [9]))) (sl3 slR (v3 1) (pt3 (v3 5)) np3)) nil3)))) zb0) (se0 q2 q10))
abbrev yf0 (q2 q10:Sp3):TS3 :=
 (seq3 (ifs3 (and3 (b3 (o3 eqR (v3 4) [12])) (b3 (o3 gtR (wa0 lenR [55]) [9]))) (seq3 (set3 5 (o3 modR (v3 3) (o3 subR (wa0 lenR [55]) [9]))) (seq3 (asg3 (tup3 (xa0 (o3 ixR (v3 1) (o3 addR (v3 5) [9])) (xa0 (o3 ixR (v3 1) (v3 5)) nil3))) (xx0 2 (ye0 (sub3 (v3 1) (v3 5)) (ye0 (sub3 (v3 1) (o3 addR (v3 5) [9])) yx0)))) (ret3 (wa0 tupR [55])))) zb0) (xf0 q2 q10))
abbrev xk0 (q2 q10:Sp3):TS3 :=
 (seq3 (set3 4 (wa0 q2 (xa0 (v3 0) (xa0 (c3 (.int 4)) nil3)))) (yf0 q2 q10))
abbrev yk0 (q2 q10:Sp3):TS3 :=
 (seq3 (set3 3 (wa0 q2 (xa0 (v3 0) (xa0 (o3 addR (wa0 lenR [55]) [9]) nil3)))) (xk0 q2 q10))
abbrev zk0 (q2 q10:Sp3):TS3 :=
 (seq3 (set3 2 (o3 addR [30] (o3 mulR (wa0 q2 (xa0 (v3 0) (xa0 (o3 powR (c3 (.int 10)) (c3 (.int 9))) nil3))) (o3 powR (c3 (.int 10)) (c3 (.int 12)))))) (yk0 q2 q10))
abbrev t_q0 (q2 q10:Sp3):TS3 :=
 (seq3 (set3 1 (wa0 xy2 (xa0 (wa0 q10 (xa0 (v3 0) (xa0 (c3 (.int 8)) nil3))) nil3))) (zk0 q2 q10))
def N_q6:List Str:=["found", "due", "stroke"]
abbrev t_q6 (q17:Sp3):TS3 :=
 (seq3 (ifs3 (or3 (not3 (b3 (wa0 isiR (xa0 (v3 0) (xa0 (c3 (.ty "tuple")) nil3))))) (b3 (o3 neR (v3 0) (v3 1)))) (ret3 (c3 (.bl false))) zb0) (seq3 (for3 (is3 (v3 0)) (gn3 2) (ifs3 (or3 (not3 (b3 (wa0 isiR (xa0 (v3 2) (xa0 (c3 (.ty "tuple")) nil3))))) (or3 (b3 (o3 neR (wa0 lenR (xa0 (v3 2) nil3)) (c3 (.int 3)))) (not3 (b3 (wa0 allR (xa0 (xe0 [none] (is3 (v3 2)) (gn3 0) tt3 (wa0 q17 [52])) nil3)))))) (ret3 (c3 (.bl false))) zb0)) (ret3 (c3 (.bl true)))))
def N_q4:List Str:=["stroke", "x", "y", "way"]
abbrev t_q4:TS3 :=
 (seq3 (asg3 (v3 0) (xx0 3 (ye0 (gn3 1) (ye0 (gn3 2) (ye0 (gn3 3) yx0))))) (ret3 (tup3 (xa0 (tup3 (xa0 (v3 1) (xa0 (v3 2) nil3))) (xa0 (tup3 (xa0 (o3 subR (o3 addR (v3 1) [9]) (v3 3)) (xa0 (o3 addR (v3 2) (v3 3)) nil3))) nil3)))))
def ye4:List Str:=["picture", "found", "stroke", "one", "other"]
abbrev th4 (q4:Sp3):TS3 :=
 (seq3 (set3 1 dnl3) (seq3 (for3 (is3 (v3 0)) (gn3 2) (seq3 (asg3 (wa0 q4 (xa0 (v3 2) nil3)) (xx0 2 (ye0 (gn3 3) (ye0 (gn3 4) yx0)))) (seq3 (vm0 (v3 1) (v3 3) (o3 addR (gdf3 (v3 1) (xa0 (v3 3) (xa0 [12] nil3))) [9])) (vm0 (v3 1) (v3 4) (o3 addR (gdf3 (v3 1) (xa0 (v3 4) (xa0 [12] nil3))) [9]))))) (ret3 (v3 1))))
def xe4:List Str:=["picture", "places", "wide", "tall", "lines", "row", "y", "line", "column", "x", "sign"]
abbrev wv0 (q11:Sp3):TS3 :=
 (ret3 (smt3 yq0 (c3 (.str "\n")) (xa0 (v3 4) nil3)))
abbrev wj0 (q11:Sp3):TS3 :=
 (seq3 (for3 (ir3 (xa0 (o3 addR (o3 mulR [30] (o3 subR (o3 ixR (v3 3) (un3 negR [9])) (o3 ixR (v3 3) [12]))) [9]) nil3)) (gn3 5) (seq3 (set3 6 (o3 subR (o3 ixR (v3 3) (un3 negR [9])) (o3 wg0 (v3 5) [30]))) (seq3 (set3 7 (c3 (.str ""))) (seq3 (for3 (ir3 (xa0 (o3 addR (o3 mulR [30] (o3 subR (o3 ixR (v3 2) (un3 negR [9])) (o3 ixR (v3 2) [12]))) [9]) nil3)) (gn3 8) (seq3 (set3 9 (o3 addR (o3 ixR (v3 2) [12]) (o3 wg0 (v3 8) [30]))) (seq3 (set3 10 (c3 (.str "."))) (seq3 (ifs3 (and3 (b3 (o3 eqR (o3 modR (v3 5) [30]) [12])) (and3 (b3 (o3 eqR (o3 modR (v3 8) [30]) [12])) (b3 (o3 (dinR false) (tup3 (xa0 (v3 9) (xa0 (v3 6) nil3))) (v3 1))))) (set3 10 (c3 (.str "+"))) zb0) (seq3 (ifs3 (and3 (b3 (o3 eqR (o3 modR (v3 5) [30]) [12])) (and3 (b3 (o3 eqR (o3 modR (v3 8) [30]) [9])) (b3 (o3 (inR false) (tup3 (xa0 (v3 9) (xa0 (v3 6) (xa0 [12] nil3)))) (v3 0))))) (set3 10 (c3 (.str "-"))) zb0) (seq3 (ifs3 (and3 (b3 (o3 eqR (o3 modR (v3 5) [30]) [9])) (and3 (b3 (o3 eqR (o3 modR (v3 8) [30]) [12])) (b3 (o3 (inR false) (tup3 (xa0 (v3 9) (xa0 (o3 subR (v3 6) [9]) (xa0 [9] nil3)))) (v3 0))))) (set3 10 (c3 (.str "|"))) zb0) (set3 7 (o3 addR (v3 7) (v3 10))))))))) (yo0 (mt3 appR (v3 4) (xa0 (v3 7) nil3))))))) (wv0 q11))
abbrev vv0 (q11:Sp3):TS3 :=
 (seq3 (set3 4 (lst3 (xa0 (o3 addR (o3 addR (wa0 strR (xa0 (o3 ixR (v3 2) [12]) nil3)) (c3 (.str " "))) (wa0 strR (xa0 (o3 ixR (v3 3) [12]) nil3))) nil3))) (wj0 q11))
abbrev vj0 (q11:Sp3):TS3 :=
 (seq3 (set3 3 (wa0 un1 (xa0 (xe0 [none] (isd3 (v3 1)) (gn3 0) tt3 (o3 ixR (v3 0) [9])) nil3))) (vv0 q11))
abbrev uj0 (q11:Sp3):TS3 :=
 (seq3 (set3 2 (wa0 un1 (xa0 (xe0 [none] (isd3 (v3 1)) (gn3 0) tt3 [84]) nil3))) (vj0 q11))
abbrev tj0 (q11:Sp3):TS3 :=
 (seq3 (ifs3 (b3 (o3 eqR (v3 0) (tup3 nil3))) (ret3 (c3 (.str "none"))) zb0) (uj0 q11))
abbrev uh4 (q11:Sp3):TS3 :=
 (seq3 (set3 1 (wa0 q11 [52])) (tj0 q11))
def N_q7:List Str:=["e", "marks"]
abbrev t_q7:TS3 :=
 (seq3 (set3 1 (lst3 (xa0 (isx3 (v3 0) (subX "NoWord")) (xa0 (isx3 (v3 0) (subX "NoRoom")) (xa0 (isx3 (v3 0) (subX "NoStep")) (xa0 (isx3 (v3 0) (subX "NoPicture")) nil3)))))) (ret3 (o3 addR (v3 1) (lst3 (xa0 (isx3 (v3 0) (subX "NoNumber")) (xa0 (isx3 (v3 0) (subX "BadNote")) (xa0 (isx3 (v3 0) (subX "ValueError")) nil3)))))))
def td3:List Str:=["marks", "which"]
abbrev um3:TS3 :=
 (ret3 (o3 eqR (v3 0) (o3 addR (xe0 [none,some 1] (ir3 (xa0 (c3 (.int 6)) nil3)) (gn3 0) tt3 (o3 eqR (v3 0) (v3 1))) (lst3 (xa0 (c3 (.bl true)) nil3)))))
def N_q8:List Str:=["text", "bare"]
abbrev t_q8:TS3 :=
 (seq3 (set3 1 (v3 0)) (seq3 (ifs3 (b3 (o3 eqR (sl3 slR (v3 0) np3 (pt3 [9])) (c3 (.str "-")))) (set3 1 (sl3 slR (v3 0) (pt3 [9]) np3)) zb0) (seq3 (ifs3 (or3 (b3 (o3 eqR (v3 1) (c3 (.str "")))) (or3 (b3 (o3 gtR (wa0 lenR [55]) (c3 (.int 25)))) (b3 (o3 gtR (wa0 lenR (xa0 (xe0 [none] (ist3 (v3 1)) (gn3 0) (b3 (o3 ninR (v3 0) (c3 (.str "0123456789")))) (v3 0)) nil3)) [12])))) (ret3 (c3 .non)) zb0) (ret3 (wa0 intR [52])))))
def N_q3:List Str:=["text", "lines", "parts", "x", "y", "rows", "found", "row", "column", "low", "picture"]
abbrev wy0 (q8 q13:Sp3):TS3 :=
 (ret3 (v3 10))
abbrev vh0 (q8 q13:Sp3):TS3 :=
 (seq3 (ifs3 (or3 (b3 (o3 eqR (v3 10) (tup3 nil3))) (b3 (o3 neR (wa0 q13 (xa0 (v3 10) nil3)) (v3 0)))) (ret3 (c3 .non)) zb0) (wy0 q8 q13))
abbrev zc1 (q8 q13:Sp3):TS3 :=
 (seq3 (set3 10 (wa0 tupR (xa0 (xu2 (tt2 (xa0 (v3 6) nil3))) nil3))) (vh0 q8 q13))
abbrev zn0 (q8 q13:Sp3):TS3 :=
 (seq3 (for3 (ir3 (xa0 (wa0 lenR (xa0 (v3 5) nil3)) nil3)) (gn3 7) (for3 (ir3 (xa0 (wa0 lenR (xa0 (o3 ixR (v3 5) (v3 7)) nil3)) nil3)) (gn3 8) (seq3 (set3 9 (o3 addR (v3 4) (o3 wg0 (o3 subR (o3 subR (wa0 lenR (xa0 (v3 5) nil3)) [9]) (v3 7)) [30]))) (seq3 (ifs3 (b3 (o3 eqR (o3 sixR (o3 ixR (v3 5) (v3 7)) (v3 8)) (c3 (.str "-")))) (yo0 (mt3 appR (v3 6) (xa0 (tup3 (xa0 (o3 addR (v3 3) (o3 wg0 (v3 8) [30])) (xa0 (v3 9) (xa0 [12] nil3)))) nil3))) zb0) (ifs3 (b3 (o3 eqR (o3 sixR (o3 ixR (v3 5) (v3 7)) (v3 8)) (c3 (.str "|")))) (yo0 (mt3 appR (v3 6) (xa0 (tup3 (xa0 (o3 addR (v3 3) (o3 wg0 (v3 8) [30])) (xa0 (v3 9) (xa0 [9] nil3)))) nil3))) zb0))))) (zc1 q8 q13))
abbrev wc1 (q8 q13:Sp3):TS3 :=
 (seq3 (set3 6 (lst3 nil3)) (zn0 q8 q13))
abbrev vc1 (q8 q13:Sp3):TS3 :=
 (seq3 (set3 5 (sl3 slR (v3 1) (pt3 [9]) np3)) (wc1 q8 q13))
abbrev uc1 (q8 q13:Sp3):TS3 :=
 (seq3 (par3 3 4 (xa0 (wa0 q8 (xa0 (o3 ixR (v3 2) [12]) nil3)) (xa0 (wa0 q8 (xa0 (o3 ixR (v3 2) [9]) nil3)) nil3))) (vc1 q8 q13))
abbrev tc1 (q8 q13:Sp3):TS3 :=
 (seq3 (ifs3 (or3 (b3 (o3 neR (wa0 lenR (xa0 (v3 2) nil3)) [30])) (or3 (b3 (o3 (isNR false) (wa0 q8 (xa0 (o3 ixR (v3 2) [12]) nil3)) (c3 .non))) (b3 (o3 (isNR false) (wa0 q8 (xa0 (o3 ixR (v3 2) [9]) nil3)) (c3 .non))))) (ret3 (c3 .non)) zb0) (uc1 q8 q13))
abbrev sc1 (q8 q13:Sp3):TS3 :=
 (seq3 (ifs3 (b3 (o3 eqR (v3 0) (c3 (.str "none")))) (ret3 (tup3 nil3)) zb0) (tc1 q8 q13))
abbrev xd1 (q8 q13:Sp3):TS3 :=
 (seq3 (set3 2 (smt3 tv0 (o3 ixR (v3 1) [12]) (xa0 (c3 (.str " ")) nil3))) (sc1 q8 q13))
abbrev t_q3 (q8 q13:Sp3):TS3 :=
 (seq3 (set3 1 (smt3 tv0 (v3 0) (xa0 (c3 (.str "\n")) nil3))) (xd1 q8 q13))
def N_q9:List Str:=["state", "some"]
abbrev tm0 (q2:Sp3):TS3 :=
 (ret3 (o3 ixR (v3 1) (wa0 q2 (xa0 (v3 0) (xa0 (wa0 lenR [55]) nil3)))))
abbrev sm0 (q2:Sp3):TS3 :=
 (seq3 (set3 1 (o3 addR (v3 1) (lst3 (xa0 (c3 (.str "0 0\n+-+.+-+")) (xa0 (c3 (.str "0 0\n+-+..")) (xa0 (c3 (.str "0 0\n..+-+")) (xa0 (c3 (.str "1 1\n+-+")) (xa0 (c3 (.str "0 -3\n+-+")) (xa0 (c3 (.str "0  0\n+-+")) (xa0 (c3 (.str "0 0\n+--+")) nil3)))))))))) (tm0 q2))
abbrev xn0 (q2:Sp3):TS3 :=
 (seq3 (set3 1 (o3 addR (v3 1) (lst3 (xa0 (c3 (.str "0 0\n+\n|\n+")) (xa0 (c3 (.str "0 0\n+\n+")) (xa0 (c3 (.str "0 0\n+\n|")) (xa0 (c3 (.str "0 0\n|\n+")) (xa0 (c3 (.str "0 0\n+-+\n...\n...")) (xa0 (c3 (.str "a b\n+-+")) nil3))))))))) (sm0 q2))
abbrev yn0 (q2:Sp3):TS3 :=
 (seq3 (set3 1 (o3 addR (v3 1) (lst3 (xa0 (c3 (.str "0 0\n+-+")) (xa0 (c3 (.str "0\n+-+")) (xa0 (c3 (.str "0 0 0\n+-+")) (xa0 (c3 (.str "00 0\n+-+")) (xa0 (c3 (.str "+0 0\n+-+")) (xa0 (c3 (.str "-0 0\n+-+")) (xa0 (c3 (.str "0 0\n-")) (xa0 (c3 (.str "0 0\n+-")) nil3))))))))))) (xn0 q2))
abbrev t_q9 (q2:Sp3):TS3 :=
 (seq3 (set3 1 (lst3 (xa0 (c3 (.str "")) (xa0 (c3 (.str "None")) (xa0 (c3 (.str "none ")) (xa0 (c3 (.str "none\n")) (xa0 (c3 (.str " none")) (xa0 (c3 (.str "0 0")) (xa0 (c3 (.str "0 0\n")) (xa0 (c3 (.str "0 0\n+")) (xa0 (c3 (.str "0 0\n.")) (xa0 (c3 (.str "0 0\n+-+\n")) (xa0 (c3 (.str "0 0\n+-+ ")) nil3))))))))))))) (yn0 q2))
def sd4:List Str:=["state", "text", "way", "at", "sign", "lines", "spot", "more"]
abbrev yp0 (q2 q9:Sp3):TS3 :=
 (ret3 (wa0 q9 [52]))
abbrev zp0 (q2 q9:Sp3):TS3 :=
 (seq3 (ifs3 (b3 (o3 eqR (v3 2) (c3 (.int 5)))) (seq3 (set3 7 (o3 addR (sl3 slR (v3 5) (pt3 (o3 addR (v3 6) [9])) (pt3 (o3 addR (v3 6) [30]))) (sl3 slR (v3 5) (pt3 (v3 6)) (pt3 (o3 addR (v3 6) [9]))))) (ret3 (smt3 yq0 (c3 (.str "\n")) (xa0 (o3 addR (o3 addR (sl3 slR (v3 5) np3 (pt3 (v3 6))) (v3 7)) (sl3 slR (v3 5) (pt3 (o3 addR (v3 6) [30])) np3)) nil3)))) zb0) (yp0 q2 q9))
abbrev sq0 (q2 q9:Sp3):TS3 :=
 (seq3 (ifs3 (b3 (o3 eqR (v3 2) (c3 (.int 4)))) (ret3 (smt3 yq0 (c3 (.str "\n")) (xa0 (o3 addR (sl3 slR (v3 5) np3 (pt3 (o3 addR (v3 6) [9]))) (sl3 slR (v3 5) (pt3 (v3 6)) np3)) nil3))) zb0) (zp0 q2 q9))
abbrev xr0 (q2 q9:Sp3):TS3 :=
 (seq3 (ifs3 (b3 (o3 eqR (v3 2) (c3 (.int 3)))) (ret3 (smt3 yq0 (c3 (.str "\n")) (xa0 (o3 addR (sl3 slR (v3 5) np3 (pt3 (v3 6))) (sl3 slR (v3 5) (pt3 (o3 addR (v3 6) [9])) np3)) nil3))) zb0) (sq0 q2 q9))
abbrev yr0 (q2 q9:Sp3):TS3 :=
 (seq3 (ifs3 (b3 (o3 eqR (v3 2) [30])) (ret3 (o3 addR (sl3 slR (v3 1) np3 (pt3 (v3 3))) (sl3 slR (v3 1) (pt3 (o3 addR (v3 3) [9])) np3))) zb0) (xr0 q2 q9))
abbrev zr0 (q2 q9:Sp3):TS3 :=
 (seq3 (ifs3 (b3 (o3 eqR (v3 2) [9])) (ret3 (o3 addR (o3 addR (sl3 slR (v3 1) np3 (pt3 (v3 3))) (v3 4)) (sl3 slR (v3 1) (pt3 (o3 addR (v3 3) [9])) np3))) zb0) (yr0 q2 q9))
abbrev wr0 (q2 q9:Sp3):TS3 :=
 (seq3 (ifs3 (b3 (o3 eqR (v3 2) [12])) (ret3 (o3 addR (o3 addR (sl3 slR (v3 1) np3 (pt3 (v3 3))) (v3 4)) (sl3 slR (v3 1) (pt3 (v3 3)) np3))) zb0) (zr0 q2 q9))
abbrev vr0 (q2 q9:Sp3):TS3 :=
 (seq3 (set3 6 (wa0 q2 (xa0 (v3 0) (xa0 (wa0 lenR (xa0 (v3 5) nil3)) nil3)))) (wr0 q2 q9))
abbrev ur0 (q2 q9:Sp3):TS3 :=
 (seq3 (set3 5 (smt3 tv0 (v3 1) (xa0 (c3 (.str "\n")) nil3))) (vr0 q2 q9))
abbrev tr0 (q2 q9:Sp3):TS3 :=
 (seq3 (set3 4 (o3 sixR (c3 (.str "+-|. 01\nx")) (wa0 q2 (xa0 (v3 0) (xa0 (c3 (.int 9)) nil3))))) (ur0 q2 q9))
abbrev sr0 (q2 q9:Sp3):TS3 :=
 (seq3 (set3 3 (wa0 q2 (xa0 (v3 0) (xa0 (o3 addR (wa0 lenR [55]) [9]) nil3)))) (tr0 q2 q9))
abbrev vh4 (q2 q9:Sp3):TS3 :=
 (seq3 (set3 2 (wa0 q2 (xa0 (v3 0) (xa0 (c3 (.int 7)) nil3)))) (sr0 q2 q9))
def td4:List Str:=["way", "thing", "found", "marks", "e"]
abbrev wh4 (q7:Sp3) (spx_q29:XE3->Sp3) (spx_q30:XE3->Sp3):TS3 :=
 (seq3 (set3 2 (c3 .non)) (seq3 (set3 3 (lst3 nil3)) (seq3 (ifs3 (b3 (o3 eqR (v3 0) [12])) (try3 4 spx_q29 (tu2 2) okX [55] (set3 3 (wa0 q7 (xa0 (v3 4) nil3)))) (try3 4 spx_q30 (tu2 2) okX [55] (set3 3 (wa0 q7 (xa0 (v3 4) nil3))))) (ret3 (tup3 (xa0 (v3 2) (xa0 (v3 3) nil3)))))))
def sc4:List Str:=["script", "text", "k", "spoilt", "due", "found", "marks"]
abbrev wr1 (q0 q3 q6 q10 q12 q13 q14 q15 q16:Sp3):TS3 :=
 (ret3 (wa0 q12 (xa0 (o3 ixR (wa0 q16 (xa0 [9] (xa0 (wa0 q0 (xa0 (wa0 q15 (xa0 (v3 0) (xa0 (c3 (.int 5)) nil3))) nil3)) nil3))) [9]) (xa0 (c3 (.int 3)) nil3))))
abbrev vt2 (q0 q3 q6 q10 q12 q13 q14 q15 q16:Sp3):TS3 :=
 (seq3 (ifs3 (b3 (o3 neR (o3 ixR (wa0 q16 (xa0 [12] (xa0 (o3 addR (o3 addR (c3 (.str "0 0\n")) (o3 xg2 (c3 (.str "+-")) (c3 (.int 39)))) (c3 (.str "+"))) nil3))) [9]) (lst3 nil3))) (ret3 (c3 (.bl false))) zb0) (wr1 q0 q3 q6 q10 q12 q13 q14 q15 q16))
abbrev ut2 (q0 q3 q6 q10 q12 q13 q14 q15 q16:Sp3):TS3 :=
 (seq3 (ifs3 (not3 (b3 (wa0 q12 (xa0 (o3 ixR (wa0 q16 (xa0 [12] (xa0 (o3 addR (o3 addR (c3 (.str "0 0\n")) (o3 xg2 (c3 (.str "+\n|\n")) (c3 (.int 40)))) (c3 (.str "+"))) nil3))) [9]) (xa0 (c3 (.int 5)) nil3))))) (ret3 (c3 (.bl false))) zb0) (vt2 q0 q3 q6 q10 q12 q13 q14 q15 q16))
abbrev vr1 (q0 q3 q6 q10 q12 q13 q14 q15 q16:Sp3):TS3 :=
 (seq3 (ifs3 (not3 (b3 (wa0 q12 (xa0 (o3 ixR (wa0 q16 (xa0 [12] (xa0 (o3 addR (o3 addR (c3 (.str "0 0\n")) (o3 xg2 (c3 (.str "+-")) (c3 (.int 40)))) (c3 (.str "+"))) nil3))) [9]) (xa0 (c3 (.int 5)) nil3))))) (ret3 (c3 (.bl false))) zb0) (ut2 q0 q3 q6 q10 q12 q13 q14 q15 q16))
abbrev ur1 (q0 q3 q6 q10 q12 q13 q14 q15 q16:Sp3):TS3 :=
 (seq3 (for3 (ir3 (xa0 (c3 (.int 4)) nil3)) (gn3 2) (seq3 (set3 3 (wa0 q14 (xa0 (wa0 q15 (xa0 (v3 0) (xa0 (o3 addR [9] (v3 2)) nil3))) [55]))) (seq3 (set3 4 (wa0 q3 (xa0 (v3 3) nil3))) (seq3 (asg3 (wa0 q16 (xa0 [12] (xa0 (v3 3) nil3))) (xx0 2 (ye0 (gn3 5) (ye0 (gn3 6) yx0)))) (ifs3 (b3 (o3 (isNR false) (v3 4) (c3 .non))) (ifs3 (not3 (b3 (wa0 q12 (xa0 (v3 6) (xa0 (c3 (.int 5)) nil3))))) (ret3 (c3 (.bl false))) zb0) (ifs3 (or3 (b3 (o3 neR (v3 6) (lst3 nil3))) (not3 (b3 (wa0 q6 (xa0 (v3 5) (xa0 (v3 4) nil3)))))) (ret3 (c3 (.bl false))) zb0)))))) (vr1 q0 q3 q6 q10 q12 q13 q14 q15 q16))
abbrev vg4 (q0 q3 q6 q10 q12 q13 q14 q15 q16:Sp3):TS3 :=
 (seq3 (set3 1 (wa0 q13 (xa0 (wa0 q10 (xa0 (wa0 q15 (xa0 (v3 0) (xa0 [12] nil3))) (xa0 (c3 (.int 6)) nil3))) nil3))) (ur1 q0 q3 q6 q10 q12 q13 q14 q15 q16))
end Pv
namespace Pv
open PySem PySem.Spec PyProof.Rows L2
variable {f C_BadNote:Addr} {cdv:Value} {A:Around} {outer:List Env} {s:[47]} {H:Hp} {E:XK} {XE:XE3}
section
variable {P:[60]} {w:World} {K:Fg} {mg:[24]} {base:Heap}
theorem vl4:FnScope vd3 ["picture"] (ya0 wa2):=[4]
theorem wl4:FnScope vd4 ["stroke"] (ya0 za2):=[4]
theorem yl4:FnScope yd4 ["stroke"] (ya0 sz1):=[4]
theorem uk4:FnScope wc4 ["strokes"] (ya0 zz1):=[4]
theorem sk4:FnScope uc4 ["picture"] (ya0 vz1):=[4]
theorem vk4:FnScope yc4 ["picture"] (ya0 xz1):=[4]
theorem zl4:FnScope zd4 ["box"] (ya0 xa2):=[4]
theorem zk4:FnScope sb4 ["picture", "box"] (ya0 uy1):=[4]
theorem wk4:FnScope xc4 ["signs", "row", "width"] (ya0 ty1):=[4]
theorem yk4:FnScope tb4 ["picture", "box"] (ya0 vy1):=[4]
theorem sc_q29:FnScope zc4 ["text"] (ya0 yz1):=[4]
theorem sc_q20:FnScope wd4 ["line"] (ya0 ya2):=[4]
theorem sc_q25:FnScope tc4 ["mark"] (ya0 uz1):=[4]
theorem tk4:FnScope vc4 ["lines", "corner"] (ya0 wz1):=[4]
theorem xk4:FnScope ub4 ["sign", "point"] (ya0 wy1):=[4]
theorem xl4:FnScope xd4 ["text", "picture"] (ya0 tz1):=[4]
theorem yk5:FnScope N_q1 ["script", "k"] (ya0 s_q1):=[4]
theorem ul4:FnScope ud4 ["found"] (ya0 va2):=[4]
theorem tl4:FnScope ud3 ["script", "k"] (ya0 ta2):=[4]
theorem xk5:FnScope N_q2 ["state", "many"] (ya0 s_q2):=[4]
theorem wm4:FnScope ze4 ["state", "most"] (ya0 wb2):=[4]
theorem zk5:FnScope N_q0 ["state"] (ya0 s_q0):=[4]
theorem uj5:FnScope N_q6 ["found", "due"] (ya0 s_q6):=[4]
theorem tj5:FnScope N_q4 ["stroke"] (ya0 s_q4):=[4]
theorem zm4:FnScope ye4 ["picture"] (ya0 zb2):=[4]
theorem xm4:FnScope xe4 ["picture"] (ya0 xb2):=[4]
theorem vj5:FnScope N_q7 ["e"] (ya0 s_q7):=[4]
theorem ym4:FnScope td3 ["marks", "which"] (ya0 yb2):=[4]
theorem wj5:FnScope N_q8 ["text"] (ya0 s_q8):=[4]
theorem sj5:FnScope N_q3 ["text"] (ya0 s_q3):=[4]
theorem zj5:FnScope N_q9 ["state"] (ya0 s_q9):=[4]
theorem sl4:FnScope sd4 ["state", "text"] (ya0 sa2):=[4]
theorem sc_q16:FnScope td4 ["way", "thing"] (ya0 ua2):=[4]
theorem sc_q24:FnScope sc4 ["script"] (ya0 vy0):=[4]
variable {k:Nat} 
theorem rs_all :
 ((∀ {XE:XE3} (EX:EXok K mg XE E) {spx_q19:XE3->Sp3} (c_q19:CalX P w K mg base k "check_stroke" ["stroke"] spx_q19) {C_NoPicture:Addr} (O_NoPicture:OwnCls "NoPicture" C_NoPicture [.type "ValueError",.type "Exception",.type "BaseException",.type "object"] "ValueError.__new__" mg base) (z_len:mg "len" = none) (z_range:mg "range" = none) (hr:Room k (A.deeper (envOfC "check_picture" (ya0 wa2) s.heap.objs.size f cdv))),RSs (cxOf (CXn P w) P w K mg base vd3 "check_picture" (ya0 wa2) f cdv A outer s H E) (va0 wa2) (wm3 XE spx_q19)) ∧
 (∀ {XE:XE3} (EX:EXok K mg XE E) {C_NoPicture:Addr} (O_NoPicture:OwnCls "NoPicture" C_NoPicture [.type "ValueError",.type "Exception",.type "BaseException",.type "object"] "ValueError.__new__" mg base) (z_len:mg "len" = none) (g_WAYS:Gd K mg "WAYS" vl0) (hr:Room k (A.deeper (envOfC "check_stroke" (ya0 za2) s.heap.objs.size f cdv))),RSs (cxOf (CXn P w) P w K mg base vd4 "check_stroke" (ya0 za2) f cdv A outer s H E) (va0 za2) (yh4 XE)) ∧
 (∀ (hr:Room k (A.deeper (envOfC "ends_of" (ya0 sz1) s.heap.objs.size f cdv))),RSs (cxOf CX0 P w K mg base yd4 "ends_of" (ya0 sz1) f cdv A outer s H E).nox (va0 sz1) (tg4)) ∧
 (∀ (z_set:mg "set" = none) (z_sorted:mg "sorted" = none) (z_tuple:mg "tuple" = none) (hr:Room k (A.deeper (envOfC "picture_with" (ya0 zz1) s.heap.objs.size f cdv))),RSs (cxOf CX0 P w K mg base wc4 "picture_with" (ya0 zz1) f cdv A outer s H E).nox (va0 zz1) (xg4)) ∧
 (∀ {q22:Sp3} (c_q22:Cal P w K mg base k "ends_of" ["stroke"] q22) (z_len:mg "len" = none) (z_max:mg "max" = none) (z_min:mg "min" = none) (hr:Room k (A.deeper (envOfC "picture_box" (ya0 vz1) s.heap.objs.size f cdv))),RSs (cxOf CX0 P w K mg base uc4 "picture_box" (ya0 vz1) f cdv A outer s H E).nox (va0 vz1) (zg4 q22)) ∧
 (∀ {XE:XE3} (EX:EXok K mg XE E) {spx_q18:XE3->Sp3} (c_q18:CalX P w K mg base k "check_picture" ["picture"] spx_q18) {q21:Sp3} (c_q21:Cal P w K mg base k "corner_line" ["box"] q21) {q26:Sp3} (c_q26:Cal P w K mg base k "picture_box" ["picture"] q26) {q32:Sp3} (c_q32:Cal P w K mg base k "sign_lines" ["picture", "box"] q32) {C_NoRoom:Addr} (O_NoRoom:OwnCls "NoRoom" C_NoRoom [.type "ValueError",.type "Exception",.type "BaseException",.type "object"] "ValueError.__new__" mg base) (z_max:mg "max" = none) (g_MOST_POINTS:Gd K mg "MOST_POINTS" yi0) (g_NO_STROKES:Gd K mg "NO_STROKES" vf0) (hr:Room k (A.deeper (envOfC "sheet_of" (ya0 xz1) s.heap.objs.size f cdv))),RSs (cxOf (CXn P w) P w K mg base yc4 "sheet_of" (ya0 xz1) f cdv A outer s H E) (va0 xz1) (tf4 XE spx_q18 q21 q26 q32)) ∧
 (∀ (z_str:mg "str" = none) (hr:Room k (A.deeper (envOfC "corner_line" (ya0 xa2) s.heap.objs.size f cdv))),RSs (cxOf CX0 P w K mg base zd4 "corner_line" (ya0 xa2) f cdv A outer s H E).nox (va0 xa2) (sg4)) ∧
 (∀ {q31:Sp3} (c_q31:Cal P w K mg base k "sign_line" ["signs", "row", "width"] q31) {q33:Sp3} (c_q33:Cal P w K mg base k "signs_of" ["picture", "box"] q33) (z_range:mg "range" = none) (hr:Room k (A.deeper (envOfC "sign_lines" (ya0 uy1) s.heap.objs.size f cdv))),RSs (cxOf CX0 P w K mg base sb4 "sign_lines" (ya0 uy1) f cdv A outer s H E).nox (va0 uy1) (vf4 q31 q33))) /\ ((∀ (z_range:mg "range" = none) (hr:Room k (A.deeper (envOfC "sign_line" (ya0 ty1) s.heap.objs.size f cdv))),RSs (cxOf CX0 P w K mg base xc4 "sign_line" (ya0 ty1) f cdv A outer s H E).nox (va0 ty1) (uf4)) ∧
 (∀ {q22:Sp3} (c_q22:Cal P w K mg base k "ends_of" ["stroke"] q22) (g_STROKE_SIGNS:Gd K mg "STROKE_SIGNS" zd0) (hr:Room k (A.deeper (envOfC "signs_of" (ya0 vy1) s.heap.objs.size f cdv))),RSs (cxOf CX0 P w K mg base tb4 "signs_of" (ya0 vy1) f cdv A outer s H E).nox (va0 vy1) (wf4 q22)) ∧
 (∀ {q28:Sp3} (c_q28:Cal P w K mg base k "picture_with" ["strokes"] q28) {q34:Sp3} (c_q34:Cal P w K mg base k "strokes_shown" ["sign", "point"] q34) (z_len:mg "len" = none) (z_range:mg "range" = none) (hr:Room k (A.deeper (envOfC "picture_in" (ya0 wz1) s.heap.objs.size f cdv))),RSs (cxOf CX0 P w K mg base vc4 "picture_in" (ya0 wz1) f cdv A outer s H E).nox (va0 wz1) (yg4 q28 q34)) ∧
 (∀ (g_STROKE_SIGNS:Gd K mg "STROKE_SIGNS" zd0) (hr:Room k (A.deeper (envOfC "strokes_shown" (ya0 wy1) s.heap.objs.size f cdv))),RSs (cxOf CX0 P w K mg base ub4 "strokes_shown" (ya0 wy1) f cdv A outer s H E).nox (va0 wy1) (zf4)) ∧
 (∀ {spx_q30:XE3->Sp3} (c_q30:CalX P w K mg base k "sheet_of" ["picture"] spx_q30) {C_NoRoom:Addr} (m_NoRoom:mg "NoRoom" = some [33]) (k2_NoRoom:kitCls K [33] [40]=some true) (k3:kitCls K (.type "type") (.type "tuple")=some false) (k4_NoRoom:kitCls K [33] [33]=some true) (hr:Room k (A.deeper (envOfC "is_sheet_of" (ya0 tz1) s.heap.objs.size f cdv))),RSs (cxOf CX0 P w K mg base xd4 "is_sheet_of" (ya0 tz1) f cdv A outer s H E).nox (va0 tz1) (ug4 spx_q30)) ∧
 (∀ (z_len:mg "len" = none) (hr:Room k (A.deeper (envOfC "_law_cell_at" (ya0 s_q1) s.heap.objs.size f cdv))),RSs (cxOf CX0 P w K mg base N_q1 "_law_cell_at" (ya0 s_q1) f cdv A outer s H E).nox (va0 s_q1) (t_q1)) ∧
 (∀ (z_bool:mg "bool" = none) (z_int:mg "int" = none) (z_isinstance:mg "isinstance" = none) (hr:Room k (A.deeper (envOfC "_law_whole" (ya0 va2) s.heap.objs.size f cdv))),RSs (cxOf CX0 P w K mg base ud4 "_law_whole" (ya0 va2) f cdv A outer s H E).nox (va0 va2) (zh4)) ∧
 (∀ {q1:Sp3} (c_q1:Cal P w K mg base k "_law_cell_at" ["script", "k"] q1) (hr:Room k (A.deeper (envOfC "_law_state" (ya0 ta2) s.heap.objs.size f cdv))),RSs (cxOf CX0 P w K mg base ud3 "_law_state" (ya0 ta2) f cdv A outer s H E).nox (va0 ta2) (vm3 q1))) /\ ((∀ (hr:Room k (A.deeper (envOfC "_law_choice" (ya0 s_q2) s.heap.objs.size f cdv))),RSs (cxOf CX0 P w K mg base N_q2 "_law_choice" (ya0 s_q2) f cdv A outer s H E).nox (va0 s_q2) (t_q2)) ∧
 (∀ {q2:Sp3} (c_q2:Cal P w K mg base k "_law_choice" ["state", "many"] q2) (z_range:mg "range" = none) (z_sorted:mg "sorted" = none) (z_tuple:mg "tuple" = none) (hr:Room k (A.deeper (envOfC "_law_picture" (ya0 wb2) s.heap.objs.size f cdv))),RSs (cxOf CX0 P w K mg base ze4 "_law_picture" (ya0 wb2) f cdv A outer s H E).nox (va0 wb2) (sh4 q2)) ∧
 (∀ {q2:Sp3} (c_q2:Cal P w K mg base k "_law_choice" ["state", "many"] q2) {q10:Sp3} (c_q10:Cal P w K mg base k "_law_picture" ["state", "most"] q10) (z_len:mg "len" = none) (z_list:mg "list" = none) (z_tuple:mg "tuple" = none) (hr:Room k (A.deeper (envOfC "_law_bad_picture" (ya0 s_q0) s.heap.objs.size f cdv))),RSs (cxOf CX0 P w K mg base N_q0 "_law_bad_picture" (ya0 s_q0) f cdv A outer s H E).nox (va0 s_q0) (t_q0 q2 q10)) ∧
 (∀ {q17:Sp3} (c_q17:Cal P w K mg base k "_law_whole" ["found"] q17) (z_all:mg "all" = none) (z_isinstance:mg "isinstance" = none) (z_len:mg "len" = none) (z_tuple:mg "tuple" = none) (hr:Room k (A.deeper (envOfC "_law_is_picture" (ya0 s_q6) s.heap.objs.size f cdv))),RSs (cxOf CX0 P w K mg base N_q6 "_law_is_picture" (ya0 s_q6) f cdv A outer s H E).nox (va0 s_q6) (t_q6 q17)) ∧
 (∀ (hr:Room k (A.deeper (envOfC "_law_ends" (ya0 s_q4) s.heap.objs.size f cdv))),RSs (cxOf CX0 P w K mg base N_q4 "_law_ends" (ya0 s_q4) f cdv A outer s H E).nox (va0 s_q4) (t_q4)) ∧
 (∀ {q4:Sp3} (c_q4:Cal P w K mg base k "_law_ends" ["stroke"] q4) (hr:Room k (A.deeper (envOfC "_law_points" (ya0 zb2) s.heap.objs.size f cdv))),RSs (cxOf CX0 P w K mg base ye4 "_law_points" (ya0 zb2) f cdv A outer s H E).nox (va0 zb2) (th4 q4)) ∧
 (∀ {q11:Sp3} (c_q11:Cal P w K mg base k "_law_points" ["picture"] q11) (z_range:mg "range" = none) (z_sorted:mg "sorted" = none) (z_str:mg "str" = none) (hr:Room k (A.deeper (envOfC "_law_sheet" (ya0 xb2) s.heap.objs.size f cdv))),RSs (cxOf CX0 P w K mg base xe4 "_law_sheet" (ya0 xb2) f cdv A outer s H E).nox (va0 xb2) (uh4 q11)) ∧
 (∀ {C_BadNote:Addr} (m_BadNote:mg "BadNote" = some [37]) (x_BadNote:∀ c C b,subX "BadNote" c=some b->nsIn K mainGlobals c=some (some [72])->ExcK K C /\ kitOne K [72] [37]=some b) {C_NoNumber:Addr} (m_NoNumber:mg "NoNumber" = some (.ref C_NoNumber)) (x_NoNumber:∀ c C b,subX "NoNumber" c=some b->nsIn K mainGlobals c=some (some [72])->ExcK K C /\ kitOne K [72] (.ref C_NoNumber)=some b) {C_NoPicture:Addr} (m_NoPicture:mg "NoPicture" = some [34]) (x_NoPicture:∀ c C b,subX "NoPicture" c=some b->nsIn K mainGlobals c=some (some [72])->ExcK K C /\ kitOne K [72] [34]=some b) {C_NoRoom:Addr} (m_NoRoom:mg "NoRoom" = some [33]) (x_NoRoom:∀ c C b,subX "NoRoom" c=some b->nsIn K mainGlobals c=some (some [72])->ExcK K C /\ kitOne K [72] [33]=some b) {C_NoStep:Addr} (m_NoStep:mg "NoStep" = some (.ref C_NoStep)) (x_NoStep:∀ c C b,subX "NoStep" c=some b->nsIn K mainGlobals c=some (some [72])->ExcK K C /\ kitOne K [72] (.ref C_NoStep)=some b) {C_NoWord:Addr} (m_NoWord:mg "NoWord" = some (.ref C_NoWord)) (x_NoWord:∀ c C b,subX "NoWord" c=some b->nsIn K mainGlobals c=some (some [72])->ExcK K C /\ kitOne K [72] (.ref C_NoWord)=some b) (x_ValueError:∀ c C b,subX "ValueError" c=some b->nsIn K mainGlobals c=some (some [72])->ExcK K C /\ kitOne K [72] (.type "ValueError")=some b) (z_ValueError:mg "ValueError" = none) (z_isinstance:mg "isinstance" = none) (hr:RoomM k (A.deeper (envOfC "_law_marks" (ya0 s_q7) s.heap.objs.size f cdv))),RSs (cxM CX0 P w K mg base N_q7 "_law_marks" (ya0 s_q7) f cdv A outer s H E).nox (va0 s_q7) (t_q7))) /\ ((∀ (z_range:mg "range" = none) (hr:Room k (A.deeper (envOfC "_law_refused" (ya0 yb2) s.heap.objs.size f cdv))),RSs (cxOf CX0 P w K mg base td3 "_law_refused" (ya0 yb2) f cdv A outer s H E).nox (va0 yb2) (um3)) ∧
 (∀ (z_int:mg "int" = none) (z_len:mg "len" = none) (hr:Room k (A.deeper (envOfC "_law_number" (ya0 s_q8) s.heap.objs.size f cdv))),RSs (cxOf CX0 P w K mg base N_q8 "_law_number" (ya0 s_q8) f cdv A outer s H E).nox (va0 s_q8) (t_q8)) ∧
 (∀ {q8:Sp3} (c_q8:Cal P w K mg base k "_law_number" ["text"] q8) {q13:Sp3} (c_q13:Cal P w K mg base k "_law_sheet" ["picture"] q13) (z_len:mg "len" = none) (z_range:mg "range" = none) (z_set:mg "set" = none) (z_sorted:mg "sorted" = none) (z_tuple:mg "tuple" = none) (hr:Room k (A.deeper (envOfC "_law_due" (ya0 s_q3) s.heap.objs.size f cdv))),RSs (cxOf CX0 P w K mg base N_q3 "_law_due" (ya0 s_q3) f cdv A outer s H E).nox (va0 s_q3) (t_q3 q8 q13)) ∧
 (∀ {q2:Sp3} (c_q2:Cal P w K mg base k "_law_choice" ["state", "many"] q2) (z_len:mg "len" = none) (hr:Room k (A.deeper (envOfC "_law_odd" (ya0 s_q9) s.heap.objs.size f cdv))),RSs (cxOf CX0 P w K mg base N_q9 "_law_odd" (ya0 s_q9) f cdv A outer s H E).nox (va0 s_q9) (t_q9 q2)) ∧
 (∀ {q2:Sp3} (c_q2:Cal P w K mg base k "_law_choice" ["state", "many"] q2) {q9:Sp3} (c_q9:Cal P w K mg base k "_law_odd" ["state"] q9) (z_len:mg "len" = none) (hr:Room k (A.deeper (envOfC "_law_spoilt" (ya0 sa2) s.heap.objs.size f cdv))),RSs (cxOf CX0 P w K mg base sd4 "_law_spoilt" (ya0 sa2) f cdv A outer s H E).nox (va0 sa2) (vh4 q2 q9))):=by
 refine ⟨⟨?_,?_,?_,?_,?_,?_,?_,?_⟩,⟨?_,?_,?_,?_,?_,?_,?_,?_⟩,⟨?_,?_,?_,?_,?_,?_,?_,?_⟩,⟨?_,?_,?_,?_,?_⟩⟩ <;> intros <;> repeat' first
  | (with_reducible show RS _ _ (set3 _ (xe0 _ _ _ _ _))); refine yv2 (by (conv=>(arg 1; whnf)); decide +kernel) (NN:=["stroke"]) [20] [20] [20] ?_ [61] [61] [61]
  | (with_reducible show RE _ (.ListComp _ [⟨.Name "point" _,_,_,_⟩] _ _) _); refine zf1 (NN:=["point"]) (by decide +kernel) (by decide +kernel) (by decide +kernel) ?_ (λ _ _ _ _ _=>?_) [61] [61]
  | (with_reducible show RE _ (.ListComp _ [⟨.Name "row" _,_,_,_⟩] _ _) _); refine zt0 (NN:=["row", "signs", "width"]) (js:=[none,some 2,some 3]) rfl yh1 ?_ (λ _ _ _ _ _=>?_) [61] [61] (by intro _; rfl)
  | (with_reducible show RE _ (.ListComp _ [⟨.Name "column" _,_,_,_⟩] _ _) _); refine zt0 (NN:=["column", "signs", "row"]) (js:=[none,some 0,some 1]) rfl yh1 ?_ (λ _ _ _ _ _=>?_) [61] [61] (by intro _; rfl)
  | (with_reducible show RS _ _ (set3 _ (xe0 [none,some 1] _ _ _ _))); refine vs1 (by (conv=>(arg 1; whnf)); decide +kernel) (NN:=["point", "box"]) (js:=[none,some 1]) rfl yh1 ?_ [61] [61] [61] (by intro _; rfl)
  | (with_reducible show RE _ (.ListComp _ [⟨.Name "part" _,_,_,_⟩] _ _) _); refine zf1 (NN:=["part"]) (by decide +kernel) (by decide +kernel) (by decide +kernel) ?_ (λ _ _ _ _ _=>?_) [61] [61]
  | (with_reducible show RE _ (.ListComp _ [⟨.Name "place" _,_,_,_⟩] _ _) _); refine zf1 (NN:=["place"]) (by decide +kernel) (by decide +kernel) (by decide +kernel) ?_ (λ _ _ _ _ _=>?_) [61] [61]
  | (with_reducible show RE _ (.ListComp _ [⟨.Name "k" _,_,_,_⟩] _ _) _); refine zt0 (NN:=["k", "which"]) (js:=[none,some 1]) rfl yh1 ?_ (λ _ _ _ _ _=>?_) [61] [61] (by intro _; rfl)
  | (with_reducible show RE _ (.ListComp _ [⟨.Name "sign" _,_,_,_⟩] _ _) _); refine zf1 (NN:=["sign"]) (by decide +kernel) (by decide +kernel) (by decide +kernel) ?_ (λ _ _ _ _ _=>?_) [61] [61]
  | (with_reducible show RE _ _ (v3 _)); exact sb0 _
  | (with_reducible show RI _ _ _ (is3 _)); refine wo4 ?_
  | (with_reducible show RG _ _ (gn3 _)); exact xf1 (by (conv=>(arg 1; whnf)); decide +kernel)
  | (with_reducible show RA _ _ nil3); exact yb0
  | (with_reducible show RA _ _ (xa0 _ _)); refine ua0 ?_ ?_
  | (with_reducible show RS _ _ (yo0 _)); refine wq3 ?_
  | (with_reducible show RS _ _ (for3 _ _ _)); refine vf3 PassesOwn.leaving rfl ?_ ?_ ?_
  | (with_reducible show RE _ _ (c3 (D.int _))); exact tc0
  | (with_reducible show RE _ _ (wa0 lenR _)); refine tg0 wt4 [21] vk3 ?_
  | (with_reducible show RI _ _ _ (ir23 (xa0 _ (xa0 _ nil3)))); refine sh2 [21] ?_ ?_
  | (with_reducible show RE _ _ (o3 subR _ _)); refine xl0 q_sub ?_ ?_
  | (with_reducible show RE _ _ (o3 ixR _ _)); refine ui2 q_ix ?_ ?_
  | (with_reducible show RT _ _ (b3 (o3 ge3R _ _))); refine sf0 (q_ge3 (hu64 [21])) ?_ ?_
  | (with_reducible show RE _ _ (c3 (D.str _))); exact yg0
  | (with_reducible show RS _ _ (vq0 _ _ _)); refine ze1 [21] [21] excBase_ValueError [14] excBase_ValueError ?_
  | (with_reducible show RSs _ _ zb0); exact uh0
  | (with_reducible show RS _ _ (ifs3 _ _ _)); refine xo1 ?_ ?_ ?_
  | (with_reducible show RSs _ _ (seq3 _ _)); refine ws1 ?_ ?_
  | (with_reducible show RT _ _ (b3 (o3 neR _ _))); refine sf0 (q_ne (hu64 [21])) ?_ ?_
  | (with_reducible show RT _ _ (b3 (o3 (inR true) _ _))); refine sf0 (zs3 (hu65 [21])) ?_ ?_
  | (with_reducible show RW _ _ (or3 _ _)); refine um4 ?_ ?_
  | (with_reducible show RT _ _ (b3 (o3 eqR _ _))); refine sf0 (q_eq (hu64 [21])) ?_ ?_
  | (with_reducible show RE _ _ (tup3 _)); refine wi2 ?_
  | (with_reducible show RE _ _ (o3 addR _ _)); refine xl0 xk1 ?_ ?_
  | (with_reducible show RS _ _ (ret3 _)); refine wl0 ?_
  | (with_reducible show REs _ _ (tt2 (xa0 _ nil3))); refine sp3 ?_ [21] (hu64 [21])
  | (with_reducible show RE _ _ (xu2 _)); refine zr3 ?_ [21]
  | (with_reducible show RE _ _ (wa0 tupR _)); refine vn0 sr3 [21] sw1 ?_
  | (with_reducible show RE _ _ (c3 D.non)); exact vi2
  | (with_reducible show RTs _ _ tt3); exact up3
  | (with_reducible show RE _ _ (wa0 mnR _)); refine tg0 (q_mn rfl (hu64 [21])) [21] tf5 ?_
  | (with_reducible show RE _ _ (wa0 mxR _)); refine tg0 (q_mx rfl) [21] sf5 ?_
  | (with_reducible show RT _ _ (b3 (o3 (isNR false) _ _))); refine sf0 vt4 ?_ ?_
  | (with_reducible show RT _ _ (b3 (o3 geR _ _))); refine sf0 q_ge ?_ ?_
  | (with_reducible show RE _ _ (lst3 _)); refine yt1 ?_
  | (with_reducible show RE _ _ (smt3 yq0 _ _)); refine wr3 ?_ ?_
  | (with_reducible show RE _ _ (wa0 strR _)); refine vn0 q_str [21] vf5 ?_
  | (with_reducible show RE _ _ (o3 mulR _ _)); refine xl0 q_mul ?_ ?_
  | (with_reducible show RI _ _ _ (ir3 (xa0 _ nil3))); refine uj1 [21] ?_
  | (with_reducible show RE _ _ (gdf3 _ _)); refine uk5 (hu64 [21]) ?_ ?_
  | (with_reducible show RE _ _ dnl3); exact yp4
  | (with_reducible show RS _ _ (vm0 _ _ _)); refine vq3 (hu64 [21]) ?_ ?_ ?_
  | (with_reducible show RS _ _ (for3 _ _ _)); refine vf3 PassesOwn.never rfl ?_ ?_ ?_
  | (with_reducible show RE _ _ (o3 wg0 _ _)); refine xl0 ut4 ?_ ?_
  | (with_reducible show RE _ _ (o3 sixR _ _)); refine ui2 q_six ?_ ?_
  | (with_reducible show RE _ _ (mt3 extR _ _)); refine ti2 ?_ ?_
  | (with_reducible show RE _ _ (c3 (D.bl _))); exact vb2
  | (with_reducible show RS _ _ (ze2 _ _ _ _ _)); refine xv2 (by assumption) (by assumption) ?_ ?_ (q_eq (hu64 (by assumption))) (λ _=>?_) [21] [21] [21] [21]
  | (with_reducible show RT _ _ (b3 (o3 ltR _ _))); refine sf0 q_lt ?_ ?_
  | (with_reducible show RE _ _ (c3 (D.ty "int"))); exact xr3 [21] uk3
  | (with_reducible show RE _ _ (wa0 isiR _)); refine tg0 q_isi [21] uo0 ?_
  | (with_reducible show RE _ _ (c3 (D.ty "bool"))); exact xr3 [21] xb4
  | (with_reducible show RE _ _ (yw3 _)); refine xp4 ?_
  | (with_reducible show RE _ _ (yb4 _ _)); refine vp4 ?_ ?_
  | (with_reducible show RE _ _ (o3 powR _ _)); refine xl0 q_pow ?_ ?_
  | (with_reducible show RE _ _ (o3 modR _ _)); refine xl0 q_mod ?_ ?_
  | (with_reducible show RG _ _ (sub3 _ _)); refine uo4 ?_ ?_
  | (with_reducible show RS _ _ (asg3 _ _)); refine yo4 ?_ ?_
  | (with_reducible show RGs _ _ yx0); exact xi2
  | (with_reducible show RGs _ _ (ye0 _ _)); refine se1 ?_ ?_
  | (with_reducible show RG _ _ (xx0 _ _)); refine tf3 rfl ?_
  | (with_reducible show RE _ _ (un3 negR _)); refine vk5 q_neg ?_
  | (with_reducible show RE _ _ (wa0 vn1 _)); refine tg0 xs3 [21] sx0 ?_
  | (with_reducible show RE _ _ (wa0 xy2 _)); refine vn0 zt4 [21] sa4 ?_
  | (with_reducible show RT _ _ (b3 (o3 gtR _ _))); refine sf0 q_gt ?_ ?_
  | (with_reducible show RW _ _ (and3 _ _)); refine tm4 ?_ ?_
  | (with_reducible show RP _ _ np3); exact th2
  | (with_reducible show RP _ _ (pt3 _)); refine uh2 ?_
  | (with_reducible show RE _ _ (sl3 slR _ _ _)); refine xt1 q_sl ?_ ?_ ?_
  | (with_reducible show RE _ _ (c3 (D.ty "tuple"))); exact xr3 [21] sw1
  | (with_reducible show RT _ _ (not3 _)); refine ys1 ?_
  | (with_reducible show RE _ _ (wa0 allR _)); refine tg0 q_all [21] xg5 ?_
  | (with_reducible show RI _ _ _ (isd3 _)); refine vo4 ?_
  | (with_reducible show RE _ _ (wa0 un1 _)); refine tg0 ys3 [21] sx0 ?_
  | (with_reducible show RT _ _ (b3 (o3 (dinR false) _ _))); refine sf0 (tt4 (hu64 [21])) ?_ ?_
  | (with_reducible show RT _ _ (b3 (o3 (inR false) _ _))); refine sf0 (q_in (hu65 [21])) ?_ ?_
  | (with_reducible show RE _ _ (mt3 appR _ _)); refine si2 ?_ ?_
  | (with_reducible show RE _ _ (isx3 _ _)); refine xg3 ?_ (ww4 rfl (by assumption)) (λ _ h=>h) [21] [21]
  | (with_reducible show RE _ _ (isx3 _ _)); refine xg3 ?_ (vk2 rfl (by assumption) to0 (show RelV (.ty "ValueError") (.type "ValueError") from rfl)) (λ _ h=>h) [21] [21]
  | (with_reducible show RE _ _ (o3 eqR _ _)); refine zp4 (q_eq (hu64 [21])) ?_ ?_
  | (with_reducible show RI _ _ _ (ist3 _)); refine zo4 ?_
  | (with_reducible show RT _ _ (b3 (o3 ninR _ _))); refine sf0 q_nin ?_ ?_
  | (with_reducible show RE _ _ (wa0 intR _)); refine vn0 q_int [21] uk3 ?_
  | (with_reducible show RE _ _ (smt3 tv0 _ _)); refine yf1 ?_ ?_
  | (with_reducible show RS _ _ (par3 _ _ _)); refine xo4 (by (conv=>(arg 1; whnf)); decide +kernel) ?_
  | (with_reducible show RE _ _ (wa0 _ _)); refine ww2 [21] [21] [21] ?_
  | (with_reducible show RE _ _ (c3 _)); exact re_g [21]
  | (with_reducible show RE _ _ (wa0 _ _)); refine tf0 [21] [21] ?_
  | (with_reducible show RS _ _ (set3 _ _)); refine wn0 (by (conv=>(arg 1; whnf)); decide +kernel) ?_
  | (with_reducible show RT _ _ (b3 _)); refine xs1 ?_
  | (with_reducible show RSs _ _ _); refine ud0 ?_
  | (with_reducible show RW _ _ _); refine wf3 ?_
  | (with_reducible show RT _ _ _); refine vm4 ?_
  | (with_reducible show RE _ _ _); refine so4 ?_
  | (with_reducible show RW _ _ _); refine wp3 ?_
  | (with_reducible show RTs _ _ _); refine vp3 ?_
theorem vn4 {k:Nat} (EX:EXok K mg XE E) (O_BadNote:OwnCls "BadNote" C_BadNote [.type "ValueError",.type "Exception",.type "BaseException",.type "object"] "ValueError.__new__" mg base) (z_ValueError:mg "ValueError" = none) (z_int:mg "int" = none) (hr:Room k (A.deeper (envOfC "number_in" (ya0 uz1) s.heap.objs.size f cdv))) :
    RSsc (cxOf (CXn P w) P w K mg base tc4 "number_in" (ya0 uz1) f cdv A outer s H E) (va0 uz1) (wg4 XE) :=
 (wb0 (xq3 (j:=1) EX sc_q25.nd (sb0 0) (λ _=>(ua0 yg0 yb0)) z_int z_ValueError O_BadNote excBase_ValueError [14] excBase_ValueError) (RSs.c (ud0 (wl0 (sb0 1)))))
theorem tn4 {k:Nat} (EX:EXok K mg XE E) {spx_q25:XE3->Sp3} {k_q25:Nat} (c_q25:CalXC P w K mg base k_q25 "number_in" ["mark"] spx_q25) (l_q25:k_q25<=k) (O_BadNote:OwnCls "BadNote" C_BadNote [.type "ValueError",.type "Exception",.type "BaseException",.type "object"] "ValueError.__new__" mg base) (z_len:mg "len" = none) (hr:Room k (A.deeper (envOfC "corner_in" (ya0 ya2) s.heap.objs.size f cdv))) :
    RSsc (cxOf (CXn P w) P w K mg base wd4 "corner_in" (ya0 ya2) f cdv A outer s H E) (va0 ya2) (xh4 XE spx_q25) :=
 (wb0 (RS.c (wn0 (i:=1) sc_q20.nd (yf1 (sb0 0) (ua0 yg0 yb0)))) (wb0 (RS.c (xo1 (sf0 (q_ne (hu64 hr)) (tg0 wt4 z_len vk3 (ua0 (sb0 1) yb0)) tc0) (ud0 (ze1 EX O_BadNote excBase_ValueError [14] excBase_ValueError (ua0 yg0 yb0))) uh0)) (zs1 (wh2 (yr3 (xi0 (yw0 EX (c_q25.mono l_q25) hr (RA.c (ua0 (ui2 q_ix (sb0 1) tc0) yb0))) (xi0 (yw0 EX (c_q25.mono l_q25) hr (RA.c (ua0 (ui2 q_ix (sb0 1) tc0) yb0))) (RA.c yb0))))))))
theorem wn4 {k:Nat} (EX:EXok K mg XE E) {spx_q20:XE3->Sp3} {k_q20:Nat} (c_q20:CalXC P w K mg base k_q20 "corner_in" ["line"] spx_q20) (l_q20:k_q20<=k) {q23:Sp3} {k_q23:Nat} (c_q23:Cal P w K mg base k_q23 "is_sheet_of" ["text", "picture"] q23) (l_q23:k_q23<=k) {q27:Sp3} {k_q27:Nat} (c_q27:Cal P w K mg base k_q27 "picture_in" ["lines", "corner"] q27) (l_q27:k_q27<=k) (O_BadNote:OwnCls "BadNote" C_BadNote [.type "ValueError",.type "Exception",.type "BaseException",.type "object"] "ValueError.__new__" mg base) (g_NO_STROKES:Gd K mg "NO_STROKES" vf0) (hr:Room k (A.deeper (envOfC "read_sheet" (ya0 yz1) s.heap.objs.size f cdv))) :
    RSsc (cxOf (CXn P w) P w K mg base zc4 "read_sheet" (ya0 yz1) f cdv A outer s H E) (va0 yz1) (sf4 XE spx_q20 q23 q27) :=
 (wb0 (RS.c (xo1 (sf0 (q_eq (hu64 hr)) (sb0 0) (re_g g_NO_STROKES)) (ud0 (wl0 (wi2 yb0))) uh0)) (wb0 (RS.c (wn0 (i:=1) sc_q29.nd (yf1 (sb0 0) (ua0 yg0 yb0)))) (wb0 (yq3 (i:=2) sc_q29.nd (wt0 (c_q27.mono l_q27) hr (xi0 (RE.c (xt1 q_sl (sb0 1) (uh2 tc0) th2)) (xi0 (yw0 EX (c_q20.mono l_q20) hr (RA.c (ua0 (ui2 q_ix (sb0 1) tc0) yb0))) (RA.c yb0))))) (RSs.c (ws1 (xo1 (ys1 (xs1 (tf0 (c_q23.mono l_q23) hr (ua0 (sb0 0) (ua0 (sb0 2) yb0))))) (ud0 (ze1 EX O_BadNote excBase_ValueError [14] excBase_ValueError (ua0 yg0 yb0))) uh0) (ud0 (wl0 (sb0 2))))))))
theorem sn4 {k:Nat} {q7:Sp3} {k_q7:Nat} (c_q7:CalM P w K mg base k_q7 "_law_marks" ["e"] q7) (l_q7:k_q7<=k) {spx_q29:XE3->Sp3} {k_q29:Nat} (c_q29:CalXC P w K mg base k_q29 "read_sheet" ["text"] spx_q29) (l_q29:k_q29<=k) {spx_q30:XE3->Sp3} {k_q30:Nat} (c_q30:CalX P w K mg base k_q30 "sheet_of" ["picture"] spx_q30) (l_q30:k_q30<=k) {C_PenError:Addr} (m_PenError:mg "PenError" = some (.ref C_PenError)) (k2_PenError:kitCls K (.ref C_PenError) [40]=some true) (k3:kitCls K (.type "type") (.type "tuple")=some false) (ok_PenError:∀ c,okX c=true->∃ C,nsIn K mainGlobals c=some (some [72]) /\ mg c=some [72] /\ kitCls K [72] (.ref C_PenError)=some true) (hr:Room k (A.deeper (envOfC "_law_told" (ya0 ua2) s.heap.objs.size f cdv))) :
    RSsc (cxOf CX0 P w K mg base td4 "_law_told" (ya0 ua2) f cdv A outer s H E).nox (va0 ua2) (wh4 q7 spx_q29 spx_q30) :=
 (wb0 (RS.c (wn0 (i:=2) sc_q16.nd vi2)) (wb0 (RS.c (wn0 (i:=3) sc_q16.nd (yt1 yb0))) (wb0 (zh2 (i:=4) (j:=2) (sf0 (q_eq (hu64 hr)) (sb0 0) tc0) (c_q29.mono l_q29) hr (ua0 (sb0 1) yb0) (CalX.c (c_q30.mono l_q30)) hr (ua0 (sb0 1) yb0) (λ _=>(ud0 (wn0 (i:=3) sc_q16.nd (vw2 (c_q7.mono l_q7) (RoomM.of hr _) (ua0 (sb0 4) yb0))))) sc_q16.nd m_PenError k2_PenError k3 ok_PenError) (RSs.c (ud0 (wl0 (wi2 (ua0 (sb0 2) (ua0 (sb0 3) yb0)))))))))
theorem un4 {k:Nat} {q0:Sp3} {k_q0:Nat} (c_q0:Cal P w K mg base k_q0 "_law_bad_picture" ["state"] q0) (l_q0:k_q0<=k) {q3:Sp3} {k_q3:Nat} (c_q3:Cal P w K mg base k_q3 "_law_due" ["text"] q3) (l_q3:k_q3<=k) {q6:Sp3} {k_q6:Nat} (c_q6:Cal P w K mg base k_q6 "_law_is_picture" ["found", "due"] q6) (l_q6:k_q6<=k) {q10:Sp3} {k_q10:Nat} (c_q10:Cal P w K mg base k_q10 "_law_picture" ["state", "most"] q10) (l_q10:k_q10<=k) {q12:Sp3} {k_q12:Nat} (c_q12:Cal P w K mg base k_q12 "_law_refused" ["marks", "which"] q12) (l_q12:k_q12<=k) {q13:Sp3} {k_q13:Nat} (c_q13:Cal P w K mg base k_q13 "_law_sheet" ["picture"] q13) (l_q13:k_q13<=k) {q14:Sp3} {k_q14:Nat} (c_q14:Cal P w K mg base k_q14 "_law_spoilt" ["state", "text"] q14) (l_q14:k_q14<=k) {q15:Sp3} {k_q15:Nat} (c_q15:Cal P w K mg base k_q15 "_law_state" ["script", "k"] q15) (l_q15:k_q15<=k) {q16:Sp3} {k_q16:Nat} (c_q16:CalC P w K mg base k_q16 "_law_told" ["way", "thing"] q16) (l_q16:k_q16<=k) (z_range:mg "range" = none) (hr:Room k (A.deeper (envOfC "law" (ya0 vy0) s.heap.objs.size f cdv))) :
    RSsc (cxOf CX0 P w K mg base sc4 "law" (ya0 vy0) f cdv A outer s H E).nox (va0 vy0) (vg4 q0 q3 q6 q10 q12 q13 q14 q15 q16) :=
 (wb0 (RS.c (wn0 (i:=1) sc_q24.nd (tf0 (c_q13.mono l_q13) hr (ua0 (tf0 (c_q10.mono l_q10) hr (ua0 (tf0 (c_q15.mono l_q15) hr (ua0 (sb0 0) (ua0 tc0 yb0))) (ua0 tc0 yb0))) yb0)))) (wb0 (zq3 PassesOwn.never rfl (uj1 z_range tc0) (xf1 (i:=2) sc_q24.nd) (wb0 (RS.c (wn0 (i:=3) sc_q24.nd (tf0 (c_q14.mono l_q14) hr (ua0 (tf0 (c_q15.mono l_q15) hr (ua0 (sb0 0) (ua0 (xl0 xk1 tc0 (sb0 2)) yb0))) (ua0 (sb0 1) yb0))))) (wb0 (RS.c (wn0 (i:=4) sc_q24.nd (tf0 (c_q3.mono l_q3) hr (ua0 (sb0 3) yb0)))) (wb0 (uq3 (un0 (c_q16.mono l_q16) hr (RA.c (ua0 tc0 (ua0 (sb0 3) yb0)))) (tf3 rfl (se1 (xf1 (i:=5) sc_q24.nd) (se1 (xf1 (i:=6) sc_q24.nd) xi2)))) (RSs.c (ud0 (xo1 (sf0 vt4 (sb0 4) vi2) (ud0 (xo1 (ys1 (xs1 (tf0 (c_q12.mono l_q12) hr (ua0 (sb0 6) (ua0 tc0 yb0))))) (ud0 (wl0 vb2)) uh0)) (ud0 (xo1 (vm4 (um4 (sf0 (q_ne (hu64 hr)) (sb0 6) (yt1 yb0)) (wf3 (ys1 (xs1 (tf0 (c_q6.mono l_q6) hr (ua0 (sb0 5) (ua0 (sb0 4) yb0)))))))) (ud0 (wl0 vb2)) uh0))))))))) (wb0 (vh2 (yh2 (xh2 (wt0 (c_q12.mono l_q12) hr (xi0 (zt1 q_ix (un0 (c_q16.mono l_q16) hr (RA.c (ua0 tc0 (ua0 (xl0 xk1 (xl0 xk1 yg0 (xl0 zj2 yg0 tc0)) yg0) yb0)))) tc0) (RA.c (ua0 tc0 yb0)))))) (RSs.c (ud0 (wl0 vb2))) (RSs.c uh0)) (wb0 (vh2 (yh2 (xh2 (wt0 (c_q12.mono l_q12) hr (xi0 (zt1 q_ix (un0 (c_q16.mono l_q16) hr (RA.c (ua0 tc0 (ua0 (xl0 xk1 (xl0 xk1 yg0 (xl0 zj2 yg0 tc0)) yg0) yb0)))) tc0) (RA.c (ua0 tc0 yb0)))))) (RSs.c (ud0 (wl0 vb2))) (RSs.c uh0)) (wb0 (vh2 (tp3 (q_ne (hu64 hr)) (zt1 q_ix (un0 (c_q16.mono l_q16) hr (RA.c (ua0 tc0 (ua0 (xl0 xk1 (xl0 xk1 yg0 (xl0 zj2 yg0 tc0)) yg0) yb0)))) tc0) (yt1 yb0)) (RSs.c (ud0 (wl0 vb2))) (RSs.c uh0)) (zs1 (wh2 (wt0 (c_q12.mono l_q12) hr (xi0 (zt1 q_ix (un0 (c_q16.mono l_q16) hr (RA.c (ua0 tc0 (ua0 (tf0 (c_q0.mono l_q0) hr (ua0 (tf0 (c_q15.mono l_q15) hr (ua0 (sb0 0) (ua0 tc0 yb0))) yb0)) yb0)))) tc0) (RA.c (ua0 tc0 yb0)))))))))))
end
end Pv
namespace Mw
abbrev Pen:=Int × Int × Int
def cs (h:Int):Int:=if h=0 then 1 else if h=2 then -1 else 0
def sn (h:Int):Int:=if h=1 then 1 else if h=3 then -1 else 0
def led (p q:Pen):Pen:=(p.1 + q.1 * cs p.2.2 - q.2.1 * sn p.2.2,p.2.1 + q.1 * sn p.2.2 + q.2.1 * cs p.2.2,(p.2.2 + q.2.2) % 4)
def st:Pen:=(0,0,0)
def pw (p:Pen):Nat->Pen
 | 0=>st
 | n + 1=>led (pw p n) p
def rep (p:Pen) (n:Int):Pen:=if p.2.2=0 then (p.1 * n,p.2.1 * n,0) else pw p (n % 4).toNat
inductive Dd where
 | go (n:Int) | jump (n:Int) | turn (n:Int) | times (n:Int) (w:List Dd)
def G:Int:=99999999999999999999
mutual
def sk:Dd->Int
 | .go n=>n
 | .times n w=>n * sks w
 | _=>0
def sks:List Dd->Int
 | []=>0
 | d :: r=>sk d + sks r
end
mutual
def dn:Dd->Int
 | .times n w=>n * dns w
 | _=>1
def dns:List Dd->Int
 | []=>0
 | d :: r=>dn d + dns r
end
mutual
def pd:Dd->Pen
 | .go n=>(n,0,0)
 | .jump n=>(n,0,0)
 | .turn n=>(0,0,n % 4)
 | .times n w=>rep (pb w) n
def pb:List Dd->Pen
 | []=>st
 | d :: r=>led (pd d) (pb r)
end
def bd (c e:Nat):Int:=(c:Int) * G ^ (e + 1)
end Mw
namespace Mw
def ab (x:Int):Int:=if x < 0 then -x else x
def pm (p:Pen):Int:=max (ab p.1) (ab p.2.1)
end Mw
namespace Pv
abbrev Pt:=Int × Int
def e0 (s:T3):Pt:=(s.1,s.2.1)
def e1 (s:T3):Pt:=(s.1 + 1 - s.2.2,s.2.1 + s.2.2)
def has (p:Pt) (s:T3):Bool:=decide (e0 s=p) || decide (e1 s=p)
theorem sz4 {a b:T3} (h:le3 a b) (k:le3 b a):a=b:=by
 obtain ⟨x1,x2,x3⟩:=a;obtain ⟨y1,y2,y3⟩:=b;simp only [le3,lt3,Bool.or_eq_false_iff,Bool.and_eq_false_iff,decide_eq_false_iff_not,beq_eq_false_iff_ne,ne_eq] at h k
 simp_all;omega
theorem uq {us vs:[50]} (a1:us.Perm vs) (a2:us.Pairwise le3) (a3:vs.Pairwise le3):us=vs:=List.Perm.eq_of_pairwise (λ a b _ _ h k=>sz4 h k) a2 a3 a1
end Pv
namespace Pv
open PySem Mw
theorem cst3:((3:Nat):Int)=3:=rfl
def wy (s:T3):Prop:=s.2.2=0 \/ s.2.2=1
def gx (s:T3):Int:=s.1 + 1 - s.2.2
def gy (s:T3):Int:=s.2.1 + s.2.2
def encQ (p:Int × Int):D:=.tup [.int p.1,.int p.2]
def decT (d:D):T3:=(t3? d).getD (0,0,0)
theorem z2:2<=sizeLine:=by decide
theorem z3:3<=sizeLine:=by decide
def yz0:Sp3:=λ ds μ Q=>∃ s,ds=[encT s] /\ wy s /\ Q (.tup [encQ (s.1,s.2.1),encQ (gx s,gy s)]) μ
abbrev RdQ (s:Sp3) (t:TS3) (N:[35]):Prop:=∀ ds μ Q,s ds μ Q->t { nx:=λ _ μ'=>Q .non μ',rt:=Q } (xb0 N ds) μ
theorem yr4:RdQ yz0 tg4 yd4:=by
 rintro ds μ Q ⟨⟨x,y,w⟩,rfl,hw,q⟩;rcases hw with e | e
 ·dsimp only at e; subst e;simp only [gx,gy,Int.sub_zero,Int.add_zero] at q;exact ⟨z2,z2,z2,q⟩
 ·dsimp only at e; subst e;simp only [gx,gy,Int.add_sub_cancel] at q;exact ⟨z2,z2,z2,q⟩
def Lt (a b:T3):Prop:=lt3 a b=true
def Pc (ts:[50]):Prop:=ts.Pairwise Lt /\ (∀ t ∈ ts,wy t) /\ ts.length < 60
variable {ts:[50]} {i:Int}
theorem xi1 (h0:0<=i) (h1:i < ts.length):∃ h:i.toNat < ts.length,atI [16] i=some (encT ts[i.toNat]):=by
 have h2:i.toNat < ts.length:=by omega
 refine ⟨h2,?_⟩;unfold atI ixN
 simp_all
variable {p:Addr} {μ:Mu} {Q:VK3}
theorem xm3 {l:List D} (h:μ p=some (.lst l)) (k:Q (.tup l) μ):tupR [.ref p] μ Q:=by
 unfold tupR
 simp_all
theorem zl (h:ts.length < 60):[16].length<=sizeLine:=by
 have:(100:Nat) < sizeLine:=by decide
 simp_all;omega
def tk3 (t:T3):List Int:=[t.1,t.2.1,t.2.2]
def encI (xs:[64]):D:=.tup (xs.map D.int)
def okS (xs:[64]):Prop:=∃ t,xs=tk3 t /\ wy t
theorem okS3 {a b c:Int} (h:okS [a,b,c]):c=0 \/ c=1:=by
 obtain ⟨⟨x,y,z⟩,e,hw⟩:=h;simp only [tk3,List.cons.injEq,and_true] at e;rw [e.2.2];exact hw
def tn1 (XE:XE3):Sp3:=λ ds μ Q=>∃ xs,ds=[encI xs] /\ xs.length<=4 /\ ((okS xs /\ Q .non μ) \/ (¬ okS xs /\ XE "NoPicture" μ))
theorem in_w {c:Int} (h:¬ (c=0 \/ c=1)) (μ:Mu) (K:VK3):inR true (.int c) vl0 μ K=K (.bl true) μ:=by
 show inD true (.int c) vl0 μ K=_;unfold inD;rw [show datM μ (.int c)=some (.int c) from rfl,show datM μ vl0=some (.tuple [.int 0,.int 1]) from rfl];dsimp only
 have e:(([.int 0,.int 1]:List PyData).any λ e=>PyData.eqv e (.int c))=false:=by
  have h1:¬ (0:Int)=c:=λ z=>h (.inl z.symm);have h2:¬ (1:Int)=c:=λ z=>h (.inr z.symm);simp [PyData.eqv,h1,h2]
 rw [e];have d1:(PyData.int c).depth<=64:=by simp [PyData.depth]
 have d2:(PyData.tuple [.int 0,.int 1]).depth<=64:=by trivial
 simp_all
theorem in_w0 (μ:Mu) (K:VK3) (c:Int) (h:c=0 \/ c=1):inR true (.int c) vl0 μ K=K (.bl false) μ:=by
 show inD true (.int c) vl0 μ K=_;unfold inD;rw [show datM μ (.int c)=some (.int c) from rfl,show datM μ vl0=some (.tuple [.int 0,.int 1]) from rfl];dsimp only
 have e:(([.int 0,.int 1]:List PyData).any λ e=>PyData.eqv e (.int c))=true:=by
  rcases h with rfl | rfl <;> simp [PyData.eqv]
 rw [e];have d1:(PyData.int c).depth<=64:=by simp [PyData.depth]
 have d2:(PyData.tuple [.int 0,.int 1]).depth<=64:=by trivial
 simp_all
theorem vr4 (XE:XE3):RdQ (tn1 XE) (yh4 XE) vd4:=by
 rintro ds μ Q ⟨xs,rfl,hl,g⟩;have z1:1<=sizeLine:=by decide
 match xs,hl with
 | [],_ =>
  rcases g with ⟨⟨t,e,_⟩,_⟩ | ⟨_,x⟩
  ·cases e
  trivial
 | [a],_ =>
  rcases g with ⟨⟨t,e,_⟩,_⟩ | ⟨_,x⟩
  ·cases e
  trivial
 | [a,b],_ =>
  rcases g with ⟨⟨t,e,_⟩,_⟩ | ⟨_,x⟩
  ·cases e
  trivial
 | [a,b,c,d],_ =>
  rcases g with ⟨⟨t,e,_⟩,_⟩ | ⟨_,x⟩
  ·cases e
  trivial
 | [a,b,c],_ =>
  show inR true (.int c) vl0 μ (λ d μ1=>match d with
   | .bl c=>(if c=true then _ else _)
   | _=>False)
  rcases g with ⟨g,q⟩ | ⟨g,x⟩
  ·rw [in_w0 μ _ c (okS3 g)];exact q
  ·rw [in_w λ z=>g ⟨(a,b,c),rfl,z⟩];exact ⟨z1,x⟩
 | _ :: _ :: _ :: _ :: _ :: _,hl=>trivial
def BadL (l:List (List Int)):Prop:=(∃ (ts:[50]) (xs:[64]) (rest:List (List Int)),l=ts.map tk3 ++ xs :: rest /\ (∀ t ∈ ts,wy t) /\ xs.length<=4 /\ ¬ okS xs) \/ (∃ ts:List T3,l=ts.map tk3 /\ (∀ t ∈ ts,wy t) /\ ts.length < 60 /\ ¬ ts.Pairwise Lt)
def GbP (XE:XE3) (μ:Mu) (d:D) (R:List T3->Prop):Prop:=(∃ ts:List T3,d=.tup [16] /\ Pc ts /\ R ts) \/ (∃ l,d=.tup (l.map encI) /\ BadL l /\ XE "NoPicture" μ)
theorem vu0 (ts:[50]):(ts.map tk3).map encI=ts.map encT:=by
 rw [map_map];rfl
variable {b:T3}
theorem uz4 {a c:T3} (h:Lt a b) (k:Lt b c):Lt a c:=by
 obtain ⟨x1,x2,x3⟩:=a;obtain ⟨y1,y2,y3⟩:=b;obtain ⟨z1,z2,z3⟩:=c;simp only [Lt,lt3,Bool.or_eq_true,Bool.and_eq_true,decide_eq_true_eq,beq_iff_eq] at h k ⊢;omega
theorem wl3:∀ {ts:[50]},(∀ k,(h:k + 1 < ts.length)->Lt (ts[k]'(by omega)) ts[k + 1])->ts.Pairwise Lt
 | [],_=>.nil
 | [t],_=>List.pairwise_singleton ..
 | t :: u :: ts,h=>by
  have ih:=wl3 (ts:=u :: ts) λ k hk=>h (k + 1) (by simpa using hk);have h0:Lt t u:=h 0 [17];refine List.Pairwise.cons (λ x hx=>?_) ih;rcases List.mem_cons.mp hx with rfl | hx
  ·exact h0
  ·exact uz4 h0 (List.rel_of_pairwise_cons ih hx)
def se2 (XE:XE3):Sp3:=λ ds μ Q=>∃ d,ds=[d] /\ GbP XE μ d (λ _=>Q .non μ)
theorem tz3 {XE:XE3} {dd:Option D} (hl:ts.length < 60) (g:(ts.Pairwise Lt /\ Q .non μ) \/ (¬ ts.Pairwise Lt /\ XE "NoPicture" μ)) :
    (for3 (ir23 (xa0 [9] (xa0 (wa0 lenR [52]) nil3))) (gn3 2) (ifs3 (b3 (o3 ge3R (o3 ixR (v3 0) (o3 subR (v3 2) [9])) (o3 ixR (v3 0) (v3 2)))) (vq0 XE "NoPicture" (xa0 (c3 (.str "the strokes of a picture rise, each once")) nil3)) zb0)) { nx:=λ _ μ'=>Q .non μ',rt:=Q } [some (.tup [16]),dd,none] μ:=by
 refine ⟨⟨by decide,by decide,by omega,by simp_all;omega⟩,?_⟩;refine vi0 (λ l ρ ν=>ν=μ /\ ∃ (k:Nat) (pp:Option D),l=rngD (1 + (k:Int)) (ts.length - 1 - k) /\ ρ=[some (.tup [16]),dd,pp] /\ k<=ts.length /\ ∀ j,j < k->(h:j + 1 < ts.length)->Lt (ts[j]'(by omega)) ts[j + 1]) ?_ (λ _ _ _ _=>trivial) ?_ ?_
 ·refine ⟨rfl,0,none,?_,rfl,Nat.zero_le _,λ j hj=>absurd hj (Nat.not_lt_zero _)⟩;simp
 ·rintro ρ μ2 ⟨rfl,k,pp,el,rfl,hk,hj⟩
  have e0:ts.length - 1 - k=0:=by
   cases c:ts.length - 1 - k with
   | zero=>rfl
   | succ c'=>rw [c,xw0] at el; cases el
  have up:ts.Pairwise Lt:=wl3 λ j hj'=>hj j [5] hj'
  simp_all
 ·rintro x rest ρ μ2 ⟨rfl,k,pp,e,rfl,hk,hj⟩;cases n:ts.length - 1 - k with
  | zero=>rw [n] at e; simp [rngD] at e
  | succ m =>
   rw [n,xw0] at e;simp only [List.cons.injEq] at e;obtain ⟨rfl,rfl⟩:=e;obtain ⟨b1,e1⟩:=xi1 (ts:=ts) (i:=1 + (k:Int) - 1) [5] [5];obtain ⟨b2,e2⟩:=xi1 (ts:=ts) (i:=1 + (k:Int)) [5] [5];have i1:(1 + (k:Int) - 1).toNat=k:=by omega
   have i2:(1 + (k:Int)).toNat=k + 1:=by omega
   simp only [i1] at e1;simp only [i2] at e2;have k1:k + 1 < ts.length:=by omega
   by_cases c:lt3 ts[k] ts[k + 1]=true
   ·simp only [gn3,ifs3,b3,o3,v3,set_cons_succ,set_cons_zero,getI,c3,subR,xs0,ixR,e1,encT,e2,ge3R,t3?,c,Bool.not_true,Bool.false_eq_true,zb0,true_and,if_false];refine ⟨k + 1,_,?_,rfl,by omega,λ j hj' h=>?_⟩
    ·rw [show ts.length - 1 - (k + 1)=m by omega];congr 1
    ·by_cases z:j=k
     ·subst z; exact c
     ·exact hj j [5] h
   ·have c':lt3 ts[k] ts[k + 1]=false:=by simpa using c
    simp only [gn3,ifs3,b3,o3,v3,set_cons_succ,set_cons_zero,getI,c3,subR,xs0,ixR,e1,encT,e2,ge3R,t3?,c',Bool.not_false,zb0,true_and,if_true];rcases g with ⟨up,_⟩ | ⟨_,x⟩
    ·exact absurd (List.pairwise_iff_getElem.mp up k (k + 1) [5] k1 [5]) c
    trivial
theorem ur4 (XE:XE3):RdQ (se2 XE) (wm3 XE tn1) vd3:=by
 rintro ds μ Q ⟨d,rfl,g⟩
 have good:∀ ts:List T3,(∀ t ∈ ts,wy t)->ts.length < 60->((ts.Pairwise Lt /\ Q .non μ) \/ (¬ ts.Pairwise Lt /\ XE "NoPicture" μ))->wm3 XE tn1 { nx:=λ _ μ'=>Q .non μ',rt:=Q } (xb0 vd3 [.tup [16]]) μ:=λ ts h2 h3 g=>by
  refine vi0 (λ l ρ μ'=>μ'=μ /\ ∃ (us:[50]) (dd:Option D),l=us.map encT /\ (∀ t ∈ us,wy t) /\ ρ=[some (.tup [16]),dd,none]) ?_ (λ _ _ _ _=>trivial) ?_ ?_
  ·exact ⟨rfl,ts,none,rfl,h2,rfl⟩
  ·rintro ρ μ' ⟨rfl,us,dd,e,_,rfl⟩;exact tz3 h3 g
  ·rintro x rest ρ μ' ⟨rfl,us,dd,e,hw,rfl⟩;cases us with
   | nil=>cases e
   | cons t us =>
    rw [map_cons] at e;injection e with e1 e2
    subst e1 e2;exact ⟨tk3 t,rfl,(show 3<=4 by decide),.inl ⟨⟨t,rfl,hw t [65]⟩,rfl,us,_,rfl,λ s hs=>hw s (mem_cons_of_mem _ hs),rfl⟩⟩
 rcases g with ⟨ts,rfl,hp,q⟩ | ⟨l,rfl,hb,x⟩
 ·exact good ts hp.2.1 hp.2.2 (.inl ⟨hp.1,q⟩)
 ·rcases hb with ⟨ts,xs,rest,rfl,hw,h4,hn⟩ | ⟨ts,rfl,hw,hl,hn⟩
  ·refine vi0 (λ l ρ μ'=>μ'=μ /\ ∃ (us:[50]) (dd:Option D),l=(us.map tk3 ++ xs :: rest).map encI /\ (∀ t ∈ us,wy t) /\ ∃ o0,ρ=[o0,dd,none]) ?_ (λ _ _ _ _=>trivial) ?_ ?_
   ·exact ⟨rfl,ts,none,rfl,hw,_,rfl⟩
   ·simp
   ·rintro y r ρ μ' ⟨rfl,us,dd,e,hw',o0,rfl⟩;cases us with
    | nil =>
     rw [map_nil,nil_append,map_cons] at e;injection e with e1 e2
     subst e1;exact ⟨xs,rfl,h4,.inr ⟨hn,x⟩⟩
    | cons t us =>
     rw [map_cons,cons_append,map_cons] at e;injection e with e1 e2
     subst e1 e2;exact ⟨tk3 t,rfl,(show 3<=4 by decide),.inl ⟨⟨t,rfl,hw' t [65]⟩,rfl,us,_,rfl,λ s hs=>hw' s (mem_cons_of_mem _ hs),_,rfl⟩⟩
  ·rw [vu0]
   simp_all
def spLe:Sp3:=λ ds μ Q=>∃ s,ds=[encT s] /\ Q (.tup [encQ (s.1,s.2.1),encQ (gx s,gy s)]) μ
theorem rd_q4:RdQ spLe t_q4 N_q4:=by
 rintro ds μ Q ⟨s,rfl,q⟩;simp only [t_q4,seq3,asg3,v3,xb0,encT,map_cons,map_nil,N_q4,length_cons,length_nil,Nat.zero_add,Nat.reduceAdd,Nat.reduceSub,List.replicate,cons_append,nil_append,getI,xx0,ye0,gn3,yx0,ret3,tup3,xa0,set_cons_succ,set_cons_zero,nil3,o3,c3,addR,subR,xs0,true_and];trivial
def yf3:Sp3:=λ ds μ Q=>∃ (ns:[64]) (k:Int),ds=[.fls (ns.map D.int),.int k] /\ 0<=k /\ ∀ i,Q (.int i) μ
theorem rd_q1:RdQ yf3 t_q1 N_q1:=by
 rintro ds μ Q ⟨ns,k,rfl,hk,q⟩;simp only [t_q1,seq3,ifs3,b3,o3,v3,xb0,map_cons,map_nil,N_q1,length_cons,length_nil,Nat.zero_add,Nat.reduceAdd,Nat.reduceSub,List.replicate,cons_append,nil_append,getI,wa0,xa0,nil3,lenR,ltR,xs0,decide_eq_true_eq,ret3,ixR,zb0,c3];split
 ·next h1 =>
  obtain ⟨d,hd,e⟩:=xt2 (l:=ns.map D.int) hk h1;obtain ⟨i,_,rfl⟩:=List.mem_map.mp hd
  simp_all
 ·exact q 0
def sv0:Sp3:=λ ds μ Q=>∃ (ns:[64]) (k:Int),ds=[.fls (ns.map D.int),.int k] /\ 0<=k /\ ∀ a b p,0<=a->μ p=none->Q [66] (updM μ p (.lst [.int a,.bl b]))
theorem xs4:RdQ sv0 (vm3 yf3) ud3:=by
 rintro ds μ Q ⟨ns,k,rfl,hk,q⟩;simp only [vm3,seq3,set3,wa0,xa0,v3,xb0,map_cons,map_nil,ud3,length_cons,length_nil,Nat.zero_add,Nat.reduceAdd,Nat.reduceSub,List.replicate,cons_append,nil_append,getI,nil3,ifs3,b3,o3,set_cons_succ,set_cons_zero,c3,powR,int2,geR,xs0,decide_eq_true_eq,ret3,lst3,subR,zb0,modR];refine ⟨ns,k,rfl,hk,λ i=>?_⟩;simp only [];refine ⟨⟨by decide,by decide,by decide⟩,?_⟩;have e:((10:Int) ^ (18:Int).toNat)=1000000000000000000:=by decide
 simp only [e];split
 ·next h1=>exact ⟨⟨by decide,by decide,by decide⟩,by decide,λ p hp=>q _ _ p [5] hp⟩
 ·exact ⟨by decide,by decide,λ p hp=>q _ _ p (Int.emod_nonneg _ [14]) hp⟩
def vc0:Sp3:=λ ds μ Q=>∃ (p:Addr) (m a:Int) (b:Bool) (rest:List D),ds=[.ref p,.int m] /\ 0 < m /\ m < 2 ^ 120 /\ μ p=some (.lst (.int a :: .bl b :: rest)) /\ 0<=a ∧
 ∀ r a',0<=r->r < m->0<=a'->Q (.int r) (updM μ p (.lst (.int a' :: .bl b :: rest)))
theorem rd_q2:RdQ vc0 t_q2 N_q2:=by
 rintro ds μ Q ⟨p,m,a,b,rest,rfl,h1,h2,h3,h4,q⟩;simp only [t_q2,seq3,ifs3,b3,o3,v3,xb0,map_cons,map_nil,N_q2,length_cons,length_nil,Nat.zero_add,Nat.reduceAdd,Nat.reduceSub,List.replicate,cons_append,nil_append,getI,c3,ixR,h3,atI1,set3,atI0,modR,int2,asg3,set_cons_succ,set_cons_zero,wg0,sub3,ixN0,ret3,zb0,mulR,addR];split
 ·refine ⟨h1,⟨h1,h2⟩,?_⟩;exact q _ _ (Int.emod_nonneg _ [5]) (Int.emod_lt_of_pos _ h1) (Int.ediv_nonneg h4 [5])
 ·refine ⟨.inl (.inr [14]),by decide,?_⟩;simp only [za0,atI0];have n1:=Int.emod_nonneg (a * 48271 + 29) (show (2147483647:Int) ≠ 0 by decide);have n2:=Int.emod_lt_of_pos (a * 48271 + 29) (show (0:Int) < 2147483647 by decide);generalize (a * 48271 + 29) % 2147483647=c at n1 n2 ⊢;refine ⟨.inl (.inl [5]),.inl (.inl [14]),by decide,?_⟩;have n3:=Int.emod_nonneg (c * c + 39373 * c + 7) (show (2147483629:Int) ≠ 0 by decide);have n4:=Int.emod_lt_of_pos (c * c + 39373 * c + 7) (show (0:Int) < 2147483629 by decide);generalize (c * c + 39373 * c + 7) % 2147483629=e at n3 n4 ⊢;refine ⟨.inl (.inl [5]),.inl (.inl [14]),by decide,[74],h1,?_⟩;exact q _ _ (Int.emod_nonneg _ [5]) (Int.emod_lt_of_pos _ h1) n1
def sm (n:Nat) (t:T3):Prop:=(-(n + 2:Int)<=t.1 /\ t.1<=n + 2) /\ -(n + 2:Int)<=t.2.1 /\ t.2.1<=n + 2
def pk (ts:[50]):List (List Int × D):=ts.map λ t=>(kP t,.bl true)
theorem ta5 {s t:T3} (h:kP s=kP t):s=t:=by
 unfold kP at h;simp only [List.cons.injEq,and_true] at h;exact Prod.ext h.1 (Prod.ext h.2.1 h.2.2)
def addT (ts:[50]) (t:T3):List T3:=if t ∈ ts then ts else ts ++ [t]
theorem xv4 (ts:[50]) (t:T3):putL (pk ts) (kP t) (.bl true)=pk (addT ts t):=by
 unfold putL addT;by_cases h:t ∈ ts
 ·rw [if_pos h,if_pos]
  ·unfold pk;simp
  ·exact List.any_eq_true.mpr ⟨(kP t,.bl true),List.mem_map.mpr ⟨t,h,rfl⟩,decide_eq_true rfl⟩
 ·rw [if_neg h,if_neg]
  ·unfold pk;simp
  ·intro z;obtain ⟨x,hx,e⟩:=List.any_eq_true.mp z;obtain ⟨y,hy,rfl⟩:=List.mem_map.mp hx;have:=ta5 (of_decide_eq_true e)
   simp_all
theorem wt2 {t:T3} (hn:ts.Nodup):(addT ts t).Nodup /\ (addT ts t).length<=ts.length + 1 /\ ∀ s ∈ addT ts t,s=t \/ s ∈ ts:=by
 unfold addT;split
 ·simp_all
 ·next c =>
  refine ⟨?_,by simp,λ s hs=>?_⟩
  ·rw [List.nodup_append];exact ⟨hn,by simp,λ a ha b hb e=>by simp_all⟩
  ·rcases List.mem_append.mp hs with h | h
   ·exact .inr h
   simp_all
def WPic (z d:Addr) (most wide:Int) (c:Nat):List D->St3->Mu->Prop:=λ l ρ μ'=>∃ (ts:[50]) (x y a:Int) (b:Bool) (kk:Option D),l.length + ts.length<=c /\ ((l.length:Int) + x<=c + 3 /\ l.length - x<=c + 3 /\ l.length + y<=c + 3 /\ l.length - y<=c + 3) ∧
 ρ=[some (.ref z),some (.int most),some (.ref d),some (.int x),some (.int y),some (.int wide),kk] /\ μ' z=some (.lst [.int a,.bl b]) /\ 0<=a /\ μ' d=some (.dcl false (pk ts)) /\ ts.Nodup /\ ∀ t ∈ ts,wy t /\ sm c t
def vd1:Sp3:=λ ds μ Q=>∃ (z:Addr) (most a:Int) (b:Bool),ds=[.ref z,.int most] /\ μ z=some (.lst [.int a,.bl b]) /\ 0<=a /\ 0<=most /\ most < 50 /\ ∀ (us:[50]) (a':Int) (b':Bool) μ',Pc us->(∀ t ∈ us,sm most.toNat t)->(us.length:Int)<=most->0<=a'->μ' z=some (.lst [.int a',.bl b'])->Q (.tup (us.map encT)) μ'
theorem uw4 {ks us:[50]} (hn:ks.Nodup) (hw:∀ t ∈ ks,wy t) (hl:ks.length < 60) (a1:us.Perm ks) (a2:us.Pairwise le3):Pc us:=by
 have hn':us.Nodup:=a1.nodup_iff.mpr hn;refine ⟨?_,λ t ht=>hw t (a1.mem_iff.mp ht),by rw [a1.length_eq]; exact hl⟩;have both:us.Pairwise λ a b=>le3 a b /\ a ≠ b:=List.Pairwise.and a2 hn';refine both.imp λ {a b} h=>?_;obtain ⟨x1,x2,x3⟩:=a;obtain ⟨y1,y2,y3⟩:=b;obtain ⟨h1,h2⟩:=h;unfold le3 at h1;unfold Lt;simp only [ne_eq,Prod.mk.injEq] at h2;simp only [lt3,Bool.or_eq_false_iff,Bool.and_eq_false_iff,decide_eq_false_iff_not,beq_eq_false_iff_ne,ne_eq] at h1;simp only [lt3,Bool.or_eq_true,Bool.and_eq_true,decide_eq_true_eq,beq_iff_eq];omega
theorem sv1 {a b c d:Int} (h:(-1<=a /\ a<=1) /\ (-1<=b /\ b<=1) /\ (-1<=c /\ c<=1) /\ -1<=d /\ d<=1):∀ x ∈ ([D.int a,.int b,.int c,.int d]:List D),∃ i:Int,x=.int i /\ -1<=i /\ i<=1:=by
 simp_all
theorem yd0 {l:List D} {d:D} {K:VK3} (h:μ p=some (.lst l)) (e:atI l i=some d) (k:K d μ):ixR [66] (.int i) μ K:=by
 unfold ixR
 simp_all
theorem yl3 {l:List D} (h:∀ d ∈ l,∃ i:Int,d=.int i /\ -1<=i /\ i<=1) (h0:0<=i) (h1:i < l.length):∃ x:Int,atI l i=some (.int x) /\ -1<=x /\ x<=1:=by
 obtain ⟨dv,hd,e⟩:=xt2 h0 h1
 simp_all
theorem ti5 (h:μ p=some (.dcl false (pk ts))) (h64:ts.length < 64) (k:∀ us:List T3,us.Perm ts->us.Pairwise le3->∀ r,μ r=none->Q (.ref r) (updM μ r (.lst (us.map encT)))):vn1 [.ref p] μ Q:=by
 unfold vn1;simp only [h];exact ⟨ts,by unfold pk; simp,h64,k⟩
theorem us4:RdQ vd1 (sh4 vc0) ze4:=by
 rintro ds μ Q ⟨z,most,a,b,rfl,hm,ha,m0,m1,q⟩;intro d hd;have hzd:z ≠ d:=uc0 hm hd;show ze0 vc0 { nx:=λ _ μ'=>Q .non μ',rt:=Q } [some (.ref z),some (.int most),some (.ref d),none,none,none,none] (updM μ d (.dcl false []));simp only [ze0,seq3,asg3,tup3,xa0,c3,nil3,length_cons,length_nil,Nat.zero_add,Nat.reduceAdd,xx0,ye0,gn3,yx0,set_cons_succ,set_cons_zero,set3,o3,wa0,v3,getI,addR,for3,ir3,subR,true_and];refine ⟨z2,?_⟩;refine ⟨z,5,a,b,[],rfl,by decide,by decide,by rw [ta0 hzd]; exact hm,ha,λ w0 a1 w1 w2 a1n=>?_⟩;refine ⟨z,most + 1,a1,b,[],rfl,by omega,by omega,za0,a1n,λ c a2 c0 c1 a2n=>⟨[75],?_⟩⟩;refine vi0 (WPic z d most (1 + w0) c.toNat) ?_ (λ _ _ _ _=>trivial) ?_ ?_
 ·refine ⟨[],0,0,a2,b,none,?_,?_,rfl,za0,a2n,?_,nodup_nil,λ t ht=>by simp at ht⟩
  ·simp [rngD]
  ·have lr:(rngD 0 c.toNat).length=c.toNat:=by simp [rngD]
   rw [lr]; omega
  ·rw [ta0 (Ne.symm hzd),ta0 (Ne.symm hzd),za0]; rfl
 ·rintro ρ μ' ⟨ts,x,y,a3,b3,kk,el,_,rfl,ez,a3n,ed,hn,hw⟩;rw [length_nil,Nat.zero_add] at el;show vn1 [.ref d] μ' (λ dd μ1=>tupR [dd] μ1 Q);refine ti5 ed [5] λ us e1 e2 r hr=>xm3 za0 (q us a3 b3 _ (uw4 hn (λ t ht=>(hw t ht).1) [5] e1 e2) (λ t ht=>?_) (by rw [e1.length_eq]; omega) a3n (by rw [ta0 (uc0 ez hr)]; exact ez));have:=(hw t (e1.mem_iff.mp ht)).2;unfold sm at this ⊢;omega
 ·rintro dd rest ρ μ' ⟨ts,x,y,a3,b3,kk,el,xb,rfl,ez,a3n,ed,hn,hw⟩;rw [length_cons] at el xb
  have main:∀ (x y a4:Int) (ν:Mu),((rest.length:Int) + 1 + x<=c.toNat + 3 /\ rest.length + 1 - x<=c.toNat + 3 /\ rest.length + 1 + y<=c.toNat + 3 /\ rest.length + 1 - y<=c.toNat + 3)->ν z=some (.lst [.int a4,.bl b3])->0<=a4->ν d=some (.dcl false (pk ts))->(seq3 (vm0 (v3 2) (tup3 (xa0 (v3 3) (xa0 (v3 4) (xa0 (wa0 vc0 (xa0 (v3 0) (xa0 [30] nil3))) nil3)))) (c3 (.bl true))) (seq3 (set3 3 (o3 addR (v3 3) (o3 ixR (lst3 (xa0 [9] (xa0 [12] (xa0 (un3 negR [9]) (xa0 [12] nil3))))) (wa0 vc0 (xa0 (v3 0) (xa0 (c3 (.int 4)) nil3)))))) (set3 4 (o3 addR (v3 4) (o3 ixR (lst3 (xa0 [12] (xa0 [9] (xa0 [12] (xa0 (un3 negR [9]) nil3))))) (wa0 vc0 (xa0 (v3 0) (xa0 (c3 (.int 4)) nil3)))))))) { nx:=WPic z d most (1 + w0) c.toNat rest,rt:=Q,bk:=λ ρ μ=>yh0 vc0 { nx:=λ _ μ'=>Q .non μ',rt:=Q } ρ μ,ct:=WPic z d most (1 + w0) c.toNat rest } [some (.ref z),some (.int most),some (.ref d),some (.int x),some (.int y),some (.int (1 + w0)),some dd] ν:=λ x y a4 ν xb ez a4n ed=>by
   refine ⟨z,2,a4,b3,[],rfl,by decide,by decide,ez,a4n,λ w a5 w3 w4 a5n=>?_⟩;have ed2:updM ν z (.lst [.int a5,.bl b3]) d=some (.dcl false (pk ts)):=by rw [ta0 (Ne.symm hzd)]; exact ed
   refine ⟨z3,?_⟩
   conv=>whnf
   rw [ed2];refine ⟨by unfold pk; simp_all;omega,?_⟩;obtain ⟨k1,k2,k3⟩:=wt2 (t:=(x,y,w)) hn;refine ⟨Z0,λ p hp=>?_⟩;have hzp:z ≠ p:=uc0 (by rw [ta0 hzd]; exact za0) hp;have hdp:d ≠ p:=uc0 za0 hp;refine ⟨z,4,a5,b3,[],rfl,by decide,by decide,by rw [ta0 hzp,ta0 hzd]; exact za0,a5n,λ i a6 i0 i1 a6n=>?_⟩;obtain ⟨dx,e5,x5⟩:=yl3 (l:=[D.int 1,.int 0,.int (-1),.int 0]) (sv1 [14]) i0 [5];refine yd0 (by rw [ta0 (Ne.symm hzp),za0]) e5 ?_;refine ⟨Z0,λ p2 hp2=>?_⟩;have hzp2:z ≠ p2:=uc0 za0 hp2;have hdp2:d ≠ p2:=uc0 (by rw [ta0 (Ne.symm hzd),ta0 hdp]; exact za0) hp2;refine ⟨z,4,a6,b3,[],rfl,by decide,by decide,by rw [ta0 hzp2]; exact za0,a6n,λ j a7 j0 j1 a7n=>?_⟩;obtain ⟨dy,e6,x6⟩:=yl3 (l:=[D.int 0,.int 1,.int 0,.int (-1)]) (sv1 [14]) j0 [5];refine yd0 (by rw [ta0 (Ne.symm hzp2),za0]) e6 ?_;refine ⟨addT ts (x,y,w),x + dx,y + dy,a7,b3,some dd,by omega,by omega,rfl,za0,a7n,?_,k1,λ t ht=>?_⟩
   ·rw [ta0 (Ne.symm hzd),ta0 hdp2,ta0 (Ne.symm hzd),ta0 hdp,za0,<- xv4]; rfl
   ·rcases k3 t ht with rfl | h
    ·refine ⟨?_,⟨?_,?_⟩,?_,?_⟩
     ·show w=0 \/ w=1;omega
     all_goals (dsimp only; omega)
    ·exact hw t h
  refine ⟨z,3,a3,b3,[],rfl,by decide,by decide,ez,a3n,λ r a4 r0 r1 a4n=>?_⟩;have ed1:updM μ' z (.lst [.int a4,.bl b3]) d=some (.dcl false (pk ts)):=by rw [ta0 (Ne.symm hzd)]; exact ed
  by_cases c3:r=0
  ·subst c3;refine ⟨z,1 + w0,a4,b3,[],rfl,by omega,by omega,za0,a4n,λ x2 a5 x0 x1 a5n=>?_⟩;refine ⟨z,1 + w0,a5,b3,[],rfl,by omega,by omega,za0,a5n,λ y2 a6 y0 y1 a6n=>?_⟩;exact main _ _ a6 _ [5] za0 a6n (by rw [ta0 (Ne.symm hzd),ta0 (Ne.symm hzd)]; exact ed1)
  ·have er:(decide (r=0))=false:=decide_eq_false c3;simp only [Pv.c3,seq3,set3,o3,wa0,xa0,v3,set_cons_succ,set_cons_zero,getI,nil3,xs0,zb0,vj3,decide_eq_true_eq];simp only [c3,if_false];exact main x y a4 _ [5] za0 a4n ed1
def pT (s:T3):PyData:=.tuple [.int s.1,.int s.2.1,.int s.2.2]
theorem zw1:∀ L:List T3,dats (L.map encT)=some (L.map pT)
 | []=>rfl
 | t :: r=>by simp only [map_cons,dats,encT,dat,zw1 r,pT]
theorem up2:∀ L:List T3,PyData.depthAll (L.map pT)<=2
 | []=>by trivial
 | t :: r=>by
  have:=up2 r;simp only [map_cons,PyData.depthAll,pT,PyData.depth];omega
theorem st0 (L:[50]):(PyData.tuple (L.map pT)).depth<=64:=by
 have:=up2 L;simp only [PyData.depth];omega
theorem yy2 {a:T3} (h:le3 a b) (k:le3 b a):a=b:=by
 obtain ⟨x1,x2,x3⟩:=a;obtain ⟨y1,y2,y3⟩:=b;simp only [le3,lt3,Bool.or_eq_false_iff,Bool.and_eq_false_iff,decide_eq_false_iff_not,beq_eq_false_iff_ne,ne_eq] at h k
 simp_all;omega
theorem uniq {us vs:[50]} (a1:us.Perm vs) (a2:us.Pairwise le3) (a3:vs.Pairwise le3):us=vs:=List.Perm.eq_of_pairwise (λ a b _ _ h k=>yy2 h k) a2 a3 a1
theorem lt_le {a:T3} (h:Lt a b):le3 a b:=by
 obtain ⟨x1,x2,x3⟩:=a;obtain ⟨y1,y2,y3⟩:=b;simp only [Lt,lt3,Bool.or_eq_true,Bool.and_eq_true,decide_eq_true_eq,beq_iff_eq] at h;simp only [le3,lt3,Bool.or_eq_false_iff,Bool.and_eq_false_iff,decide_eq_false_iff_not,beq_eq_false_iff_ne,ne_eq];omega
theorem pc_up (h:Pc ts):ts.Pairwise le3:=h.1.imp lt_le
theorem pc_nd (h:Pc ts):ts.Nodup:=h.1.imp λ {a b} h e=>by
 subst e;simp [Lt,lt3] at h
theorem uc5 (s t:T3):PyData.eqv (pT s) (pT t)=decide (s=t):=by
 obtain ⟨a,b,c⟩:=s;obtain ⟨d,e,f⟩:=t;have q:∀ x y:Int,(x == y)=decide (x=y):=λ x y=>by rfl
 simp [pT,PyData.eqv,PyData.eqvAll,Bool.and_assoc,q]
theorem zj3:∀ L M:List T3,PyData.eqvAll (L.map pT) (M.map pT)=decide (L=M)
 | [],[]=>by rfl
 | [],_ :: _=>by rfl
 | _ :: _,[]=>by rfl
 | s :: L,t :: M=>by
  simp only [map_cons,PyData.eqvAll,zj3 L M,uc5];simp
theorem tl0 {q:Addr} {l m:List D} (h1:μ p=some (.lst l)) (h2:μ q=some (.lst m)) (hz:l.length + m.length<=sizeLine) (k:∀ r,μ r=none->Q (.ref r) (updM μ r (.lst (l ++ m)))):addR [66] (.ref q) μ Q:=by
 unfold addR
 simp_all
theorem yb3 {S:Mu->Prop} {tc:TT3} {l:List D} {o:Option D} {rest:St3} (f:D->Bool) (hp:μ p=none) (hl:l.length<=sizeLine) (hS:∀ μ',Ext μ μ'->S μ')
    (hx:∀ x ∈ l,∀ μ' R,Ext μ μ'->R (f x) μ'->tc (some x :: rest) μ' R) (hQ:∀ μ',Ext μ μ'->μ' p=some (.lst (l.filter f))->Q [66] μ'):vb3 S p (gn3 0) tc (v3 0) Q l (o :: rest) (updM μ p (.lst [])):=by
 refine ⟨λ r ys ρ μ'=>Ext μ μ' /\ μ' p=some (.lst ys) /\ (∃ o',ρ=o' :: rest) /\ ∃ a,a ++ r=l /\ ys=a.filter f,?_,?_,?_,?_⟩
 ·exact ⟨Ext.new hp,za0,⟨o,rfl⟩,[],rfl,rfl⟩
 ·simp_all
 ·simp_all
 ·rintro x r ys ρ μ' ⟨h1,h2,⟨o',rfl⟩,a,e,rfl⟩;refine ⟨?_,?_⟩
  ·have h3:=congrArg List.length e;rw [length_append,length_cons] at h3;have:=List.length_filter_le f a;omega
  ·refine hx x (by rw [<- e]; simp) μ' _ h1 ?_;have e2:(a ++ [x]) ++ r=l:=by rw [<- e]; simp
   cases c:f x with
   | true =>
    refine ⟨h2,λ b v hb=>?_,za0,⟨_,rfl⟩,a ++ [x],e2,?_⟩
    ·rw [ta0 (uc0 hb hp)];exact h1 b v hb
    simp_all
   | false =>
    refine ⟨h1,h2,⟨_,rfl⟩,a ++ [x],e2,?_⟩
    simp_all
end Pv
namespace Mt
open PySem Mw
abbrev cp (x:Str):List Nat:=x.cps.toList
theorem wh0 {x y:Str} (h:cp x=cp y):x=y:=Str.ext' (Array.toList_inj.mp h)
theorem yj0 (x y:Str):cp (x ++ y)=cp x ++ cp y:=by
 show (x.cps ++ y.cps).toList=_;simp
theorem zc0 (x:Str):x.length=(cp x).length:=by rfl
def jn:List (List Nat)->List Nat
 | []=>[]
 | [a]=>a
 | a :: b :: r=>a ++ 32 :: jn (b :: r)
theorem vz3:cp (" " : Str)=[32]:=by decide +kernel
theorem wk0:∀ l:List Str,cp (Str.join " " l)=jn (l.map cp)
 | []=>rfl
 | [a]=>rfl
 | a :: b :: r=>by
  show cp (a ++ " " ++ Str.join " " (b :: r))=_;rw [yj0,yj0,vz3,wk0 (b :: r)];simp [jn]
theorem yk3:∀ {a b x y:[88]},32 ∉ a->32 ∉ b->a ++ 32 :: x=b ++ 32 :: y->a=b /\ x=y
 | [],[],x,y,_,_,h=>by simpa using h
 | [],c :: b,x,y,_,hb,h=>by
  simp_all
 | c :: a,[],x,y,ha,_,h=>by
  simp_all
 | c :: a,d :: b,x,y,ha,hb,h=>by
  simp only [cons_append,List.cons.injEq] at h;obtain ⟨e1,e2⟩:=yk3 (a:=a) (b:=b) (λ m=>ha (mem_cons_of_mem _ m)) (λ m=>hb (mem_cons_of_mem _ m)) h.2
  simp_all
theorem xz4 {a:[88]} {b:[88]} {r:List (List Nat)}:32 ∈ a ++ 32 :: jn (b :: r):=by simp
theorem sh3:∀ {a b:List (List Nat)},a ≠ []->b ≠ []->(∀ t ∈ a,32 ∉ t)->(∀ t ∈ b,32 ∉ t)->jn a=jn b->a=b
 | [],_,h,_,_,_,_=>absurd rfl h
 | _,[],_,h,_,_,_=>absurd rfl h
 | [x],[y],_,_,_,_,h=>by simpa [jn] using h
 | [x],y :: z :: r,_,_,ha,_,h=>by
  have:(32:Nat) ∈ x:=by
   have h':x=y ++ 32 :: jn (z :: r):=h
   simp_all
  simp_all
 | x :: y :: r,[z],_,_,_,hb,h=>by
  have:(32:Nat) ∈ z:=by
   have h':x ++ 32 :: jn (y :: r)=z:=h;rw [<- h']; exact xz4
  simp_all
 | x :: y :: r,x' :: y' :: r',_,_,ha,hb,h=>by
  have h':x ++ 32 :: jn (y :: r)=x' ++ 32 :: jn (y' :: r'):=h;obtain ⟨e1,e2⟩:=yk3 (ha x [17]) (hb x' [17]) h';have:=sh3 (a:=y :: r) (b:=y' :: r') [17] [17] (λ t ht=>ha t (mem_cons_of_mem _ ht)) (λ t ht=>hb t (mem_cons_of_mem _ ht)) e2;rw [e1,this]
theorem si5:(" " : Str)=⟨#[32]⟩:=wh0 vz3
theorem xz0 {l:[35]} (h:l ≠ []) (hf:∀ t ∈ l,32 ∉ cp t):Txt.split (Str.join " " l) " " = l:=by
 have e1:=StrLaws.join_split (Str.join " " l) " ";have e2:=StrLaws.split_free (Str.join " " l) 32;rw [<- si5] at e2;have e3:=PyProof.Rows.split_pos (Str.join " " l) " ";generalize Txt.split (Str.join " " l) " " = m at e1 e2 e3;have e4:=congrArg cp e1;rw [wk0,wk0] at e4;have hm:m ≠ []:=by intro e; simp_all
 have:=sh3 (a:=m.map cp) (b:=l.map cp) (by simpa using hm) (by simpa using h) (by simpa using e2) (by simpa using hf) e4
 have inj:∀ {a b:[35]},a.map cp=b.map cp->a=b:=λ {a}=>by
  induction a with
  | nil=>simp
  | cons x r ih =>
   intro b h;cases b with
   | nil=>cases h
   | cons y s =>
    simp only [map_cons,List.cons.injEq] at h;rw [wh0 h.1,ih h.2]
 exact inj this
def nsT (n:Int):Str:=Str.ofString (toString n)
def dg (m:Nat):List Nat:=(Nat.toDigits 10 m).map Char.toNat
variable {n:Int}
theorem xg1 (h:0<=n):cp (nsT n)=dg n.toNat:=by
 obtain ⟨m,rfl⟩:=Int.eq_ofNat_of_zero_le h;exact PySem.W.KIN.signs_num m
theorem tn0 (h:n < 0):cp (nsT n)=45 :: dg n.natAbs:=by
 cases n with
 | ofNat m=>trivial
 | negSucc m =>
  unfold nsT cp;rw [PyProof.Rows.signs_ofString];show ("-" ++ Nat.repr (m + 1)).toList.map Char.toNat=_;simp [dg,Nat.toList_repr]
theorem xj0 (m:Nat):NumText.AllDigits (dg m):=by
 intro c hc;obtain ⟨ch,hch,e⟩:=List.mem_map.mp hc;have r:=PyProof.Rows.digit_range (Nat.isDigit_of_mem_toDigits [14] [14] hch);omega
theorem zp2 (m:Nat):1<=(dg m).length:=by
 unfold dg;rw [length_map];exact PyProof.Rows.tDigits_len_ge 10 m
theorem sa3 {k m:Nat} (hk:1<=k) (h:m < 10 ^ k):(dg m).length<=k:=by
 unfold dg;rw [length_map];exact PyProof.Rows.digits10_le hk h
theorem uj3 (m:Nat):NumText.digitsVal (dg m)=m:=PySem.W.KIN.val_back m
def B:Int:=10 ^ 89
theorem zw0 (h : -B<=n /\ n<=B):(cp (nsT n)).length<=91:=by
 unfold B at h;by_cases h0:0<=n
 ·rw [xg1 h0];exact Nat.le_trans (sa3 (k:=90) [14] [5]) [14]
 ·rw [tn0 [5]];rw [length_cons];exact Nat.succ_le_succ (sa3 (k:=90) [14] [5])
theorem zl2 (n:Int):32 ∉ cp (nsT n):=by
 by_cases h0:0<=n
 ·rw [xg1 h0];intro h;have:=xj0 _ _ h;omega
 ·rw [tn0 [5]];intro h;rcases List.mem_cons.mp h with h | h
  ·cases h
  ·have:=xj0 _ _ h;omega
theorem yy4 (n:Int):1<=(cp (nsT n)).length:=by
 by_cases h0:0<=n
 ·rw [xg1 h0]; exact zp2 _
 ·rw [tn0 [5]]; simp
theorem yu1 (h : -B<=n /\ n<=B):PySem.intText? (nsT n)=some n:=by
 have hl:=zw0 h;rw [<- zc0] at hl;by_cases h0:0<=n
 ·have hc:=xg1 h0;have e:=intText_digits (x:=nsT n) (by show NumText.AllDigits (cp (nsT n)); rw [hc]; exact xj0 _) (by show cp (nsT n) ≠ []; intro e; have:=yy4 n; simp_all) (Nat.le_trans hl [14]);rw [e];show some ((NumText.digitsVal (cp (nsT n)):Nat):Int)=_;rw [hc,uj3,Int.toNat_of_nonneg h0]
 ·have hc:=tn0 (n:=n) [5];have e:=intText_neg (x:=nsT n) hc (xj0 _) (by intro e; have:=zp2 n.natAbs; simp_all) (Nat.le_trans hl [14]);rw [e,uj3];congr 1;omega
theorem uu1 (h : -B<=n /\ n<=B):n.natAbs.log2 < 1920:=by
 unfold B at h;by_cases h0:n.natAbs=0
 ·rw [h0]; decide
 ·have:n.natAbs < 2 ^ 300:=by omega
  exact Nat.lt_trans ((Nat.log2_lt h0).mpr this) [14]
end Mt
namespace Pv
open PySem Mw
open Mt
def jm:List (List Nat)->List Nat
 | []=>[]
 | [a]=>a
 | a :: b :: r=>a ++ 10 :: jm (b :: r)
theorem ye5:cp ("\n" : Str)=[10]:=by decide +kernel
theorem te0:∀ l:List Str,cp (Str.join "\n" l)=jm (l.map cp)
 | []=>rfl
 | [a]=>rfl
 | a :: b :: r=>by
  show cp (a ++ "\n" ++ Str.join "\n" (b :: r))=_;rw [yj0,yj0,ye5,te0 (b :: r)];simp [jm]
theorem xk3:∀ {a b x y:[88]},10 ∉ a->10 ∉ b->a ++ 10 :: x=b ++ 10 :: y->a=b /\ x=y
 | [],[],x,y,_,_,h=>by simpa using h
 | [],c :: b,x,y,_,hb,h=>by
  simp_all
 | c :: a,[],x,y,ha,_,h=>by
  simp_all
 | c :: a,d :: b,x,y,ha,hb,h=>by
  simp only [cons_append,List.cons.injEq] at h;obtain ⟨e1,e2⟩:=xk3 (a:=a) (b:=b) (λ m=>ha (mem_cons_of_mem _ m)) (λ m=>hb (mem_cons_of_mem _ m)) h.2
  simp_all
theorem yz4 {a:[88]} {b:[88]} {r:List (List Nat)}:10 ∈ a ++ 10 :: jm (b :: r):=by simp
theorem yi3:∀ {a b:List (List Nat)},a ≠ []->b ≠ []->(∀ t ∈ a,10 ∉ t)->(∀ t ∈ b,10 ∉ t)->jm a=jm b->a=b
 | [],_,h,_,_,_,_=>absurd rfl h
 | _,[],_,h,_,_,_=>absurd rfl h
 | [x],[y],_,_,_,_,h=>by simpa [jm] using h
 | [x],y :: z :: r,_,_,ha,_,h=>by
  have:(10:Nat) ∈ x:=by
   have h':x=y ++ 10 :: jm (z :: r):=h
   simp_all
  simp_all
 | x :: y :: r,[z],_,_,_,hb,h=>by
  have:(10:Nat) ∈ z:=by
   have h':x ++ 10 :: jm (y :: r)=z:=h;rw [<- h']; exact yz4
  simp_all
 | x :: y :: r,x' :: y' :: r',_,_,ha,hb,h=>by
  have h':x ++ 10 :: jm (y :: r)=x' ++ 10 :: jm (y' :: r'):=h;obtain ⟨e1,e2⟩:=xk3 (ha x [17]) (hb x' [17]) h';have:=yi3 (a:=y :: r) (b:=y' :: r') [17] [17] (λ t ht=>ha t (mem_cons_of_mem _ ht)) (λ t ht=>hb t (mem_cons_of_mem _ ht)) e2;rw [e1,this]
theorem zy4:("\n" : Str)=⟨#[10]⟩:=wh0 ye5
theorem uv0 {l:[35]} (h:l ≠ []) (hf:∀ t ∈ l,10 ∉ cp t):Txt.split (Str.join "\n" l) "\n" = l:=by
 have e1:=StrLaws.join_split (Str.join "\n" l) "\n";have e2:=StrLaws.split_free (Str.join "\n" l) 10;rw [<- zy4] at e2;have e3:=PyProof.Rows.split_pos (Str.join "\n" l) "\n";generalize Txt.split (Str.join "\n" l) "\n" = m at e1 e2 e3;have e4:=congrArg cp e1;rw [te0,te0] at e4;have hm:m ≠ []:=by intro e; simp_all
 have:=yi3 (a:=m.map cp) (b:=l.map cp) (by simpa using hm) (by simpa using h) (by simpa using e2) (by simpa using hf) e4
 have inj:∀ {a b:[35]},a.map cp=b.map cp->a=b:=λ {a}=>by
  induction a with
  | nil=>simp
  | cons x r ih =>
   intro b h;cases b with
   | nil=>cases h
   | cons y s =>
    simp only [map_cons,List.cons.injEq] at h;rw [wh0 h.1,ih h.2]
 exact inj this
theorem ww1:∀ l:List Str,cp (Str.join "" l)=(l.map cp).flatten
 | []=>rfl
 | [a]=>by simp only [map_cons,map_nil,List.flatten_cons,List.flatten_nil,append_nil]; rfl
 | a :: b :: r=>by
  show cp (a ++ "" ++ Str.join "" (b :: r))=_;have e:cp ("" : Str)=[]:=by decide +kernel
  rw [yj0,yj0,e,ww1 (b :: r)];simp
def sD (l:[35]):List D:=l.map D.str
theorem uz0 (a:[35]):(sD a).length=a.length:=by simp [sD]
theorem te2:∀ l,strs? (sD l)=some l
 | []=>rfl
 | t :: r=>by
  have:=te2 r;simp only [sD] at this;simp only [sD,map_cons,strs?,this]
variable {z:Str} {p:Addr} {μ:Mu} {K:VK3}
theorem jo_l {l:[35]} (h1:μ p=some (.lst (sD l))) (hz:z.length<=16) (hl:(l.map (·.length)).sum + l.length<=1048576) (k:K (.str (Str.join z l)) μ):yq0 z [.ref p] μ K:=by
 simp only [yq0,h1,te2];trivial
structure Bx (ts:List T3) (x0 y0 x1 y1:Int):Prop where
 a0:∃ s ∈ ts,s.1=x0
 l0:∀ s ∈ ts,x0<=s.1
 b0:∃ s ∈ ts,s.2.1=y0
 m0:∀ s ∈ ts,y0<=s.2.1
 a1:∃ s ∈ ts,gx s=x1
 l1:∀ s ∈ ts,gx s<=x1
 b1:∃ s ∈ ts,gy s=y1
 m1:∀ s ∈ ts,gy s<=y1
variable {ts:[50]} {x0 y0 x1 y1:Int}
theorem Bx.one {u0 v0 u1 v1:Int} (h:Bx ts x0 y0 x1 y1) (k:Bx ts u0 v0 u1 v1):x0=u0 /\ y0=v0 /\ x1=u1 /\ y1=v1:=by
 obtain ⟨⟨s1,a1,b1⟩,l0,⟨s2,a2,b2⟩,m0,⟨s3,a3,b3⟩,l1,⟨s4,a4,b4⟩,m1⟩:=h;obtain ⟨⟨t1,c1,d1⟩,n0,⟨t2,c2,d2⟩,o0,⟨t3,c3',d3⟩,n1,⟨t4,c4,d4⟩,o1⟩:=k;have:=l0 t1 c1; have:=n0 s1 a1; have:=m0 t2 c2; have:=o0 s2 a2;have:=l1 t3 c3'; have:=n1 s3 a3; have:=m1 t4 c4; have:=o1 s4 a4;omega
def tn3:Sp3:=λ ds μ Q=>∃ ts:List T3,ds=[.tup [16]] /\ (∀ t ∈ ts,wy t) /\ ts.length < 60 /\ (ts=[]->Q .non μ) /\ (ts ≠ []->∀ x0 y0 x1 y1 μ',Bx ts x0 y0 x1 y1->Ext μ μ'->Q (.tup [.int x0,.int y0,.int x1,.int y1]) μ')
variable {i w:Nat} {ρ:St3}
theorem vw1 {L:List Pt} {g:Pt->Int} (hi:(i=0 /\ g=λ q=>q.1) \/ (i=1 /\ g=λ q=>q.2)) (hv:getI ρ w=some [66]) (h:μ p=some (.lst (L.map encQ))) (hl:L.length < 1000)
    (k:∀ r μ',Ext μ μ'->μ' r=some (.lst ((L.map g).map D.int))->K (.ref r) μ'):xe0 [none] (is3 (v3 w)) (gn3 0) tt3 (o3 ixR (v3 0) (c3 (.int (i:Int)))) ρ μ K:=by
 have hz:(1000:Nat) < sizeLine:=by decide
 unfold xe0 is3 v3;rw [hv];dsimp only;rw [h];intro r hr;refine sg0 (rest:=[]) (λ d=>.int (match d with | .tup [.int a,.int b]=>g (a,b) | _=>0)) hr [57] (λ μ' e=>e _ _ h) ?_ ?_
 ·intro x hx μ' R ex kk;obtain ⟨q,_,rfl⟩:=List.mem_map.mp hx;rcases hi with ⟨rfl,rfl⟩ | ⟨rfl,rfl⟩ <;> exact kk μ' (Ext.refl _)
 ·intro μ' ex e
  have el:(L.map encQ).map (λ d=>D.int (match d with | .tup [.int a,.int b]=>g (a,b) | _=>0))=(L.map g).map D.int:=by
   rw [map_map,map_map]; rfl
  simp_all
theorem uq4:RdQ tn3 (zg4 yz0) uc4:=by
 rintro ds μ Q ⟨ts,rfl,hw,hl,q0,q1⟩;have hz:(1000:Nat) < sizeLine:=by decide
 show if decide (([16].length:Int)=0)=true then _ else _;by_cases c:ts=[]
 ·rw [decide_eq_true (by rw [c]; rfl),if_pos rfl];exact q0 c
 have hpos:=List.length_pos_iff.mpr c;rw [decide_eq_false [36],if_neg [14]]
 have cq:∀ (f:T3->Pt) (i:Int) (K:VK3) (μ:Mu),(∀ s ∈ ts,∀ μ' R,R (encQ (f s)) μ'->(o3 ixR (wa0 yz0 [52]) (c3 (.int i))) [some (encT s)] μ' R)->(∀ r μ',Ext μ μ'->μ' r=some (.lst ((ts.map f).map encQ))->K (.ref r) μ')->∀ r,μ r=none->vb3 (λ _=>True) r (gn3 0) tt3 (o3 ixR (wa0 yz0 [52]) (c3 (.int i))) K [16] [none] (updM μ r (.lst [])):=by
  intro f i K μ hf k r hr;refine sg0 (rest:=[]) (λ d=>encQ (f (decT d))) hr (zl hl) (λ _ _=>trivial) ?_ ?_
  ·intro x hx μ' R ex kk;obtain ⟨s,hs,rfl⟩:=List.mem_map.mp hx;exact hf s hs μ' R (kk μ' (Ext.refl _))
  ·intro μ' ex e;have el:[16].map (λ d=>encQ (f (decT d)))=(ts.map f).map encQ:=by rw [map_map,map_map]; rfl
   simp_all
 refine cq e0 0 _ μ (λ s hs μ' R kk=>⟨s,rfl,hw s hs,kk⟩) λ r1 μ1 ex1 er1=>?_;refine cq e1 1 _ μ1 (λ s hs μ' R kk=>⟨s,rfl,hw s hs,kk⟩) λ r2 μ2 ex2 er2=>?_;have er1':=ex2 _ _ er1;show uf0 yz0 _ [some (.tup [16]),some (.ref r1),some (.ref r2),none] μ2;have l60:(ts.map e0).length < 1000:=by simp_all;omega
 have l61:(ts.map e1).length < 1000:=by simp_all
 unfold uf0;dsimp only [seq3,set3,tup3,xa0,wa0];refine vw1 (i:=0) (.inl ⟨rfl,rfl⟩) rfl er1' l60 λ r3 μ3 ex3 er3=>?_
 try dsimp only [nil3]
 refine ty4 er3 ⟨by simp_all,λ x0 a1 b1=>?_⟩;refine vw1 (i:=1) (.inr ⟨rfl,rfl⟩) rfl (ex3 _ _ er1') l60 λ r4 μ4 ex4 er4=>?_
 try dsimp only [nil3]
 refine ty4 er4 ⟨by simp_all,λ y0 a2 b2=>⟨z2,?_⟩⟩;have er2':=ex4 _ _ (ex3 _ _ er2);unfold si0;dsimp only [ret3,o3,seq3,set3,tup3,xa0,wa0];refine vw1 (i:=0) (.inl ⟨rfl,rfl⟩) rfl er2' l61 λ r5 μ5 ex5 er5=>?_
 try dsimp only [nil3]
 refine uy4 er5 ⟨by simp_all,λ x1 a3 b3=>?_⟩;refine vw1 (i:=1) (.inr ⟨rfl,rfl⟩) rfl (ex5 _ _ er2') l61 λ r6 μ6 ex6 er6=>?_
 try dsimp only [nil3]
 refine uy4 er6 ⟨by simp_all,λ y1 a4 b4=>⟨z2,Z0,?_⟩⟩;refine q1 c x0 y0 x1 y1 μ6 ?_ (ex1.trans (ex2.trans (ex3.trans (ex4.trans (ex5.trans ex6)))));simp only [map_map,mem_map,Function.comp] at a1 a2 a3 a4 b1 b2 b3 b4;obtain ⟨s1,h1,rfl⟩:=a1;obtain ⟨s2,h2,rfl⟩:=a2;obtain ⟨s3,h3,rfl⟩:=a3;obtain ⟨s4,h4,rfl⟩:=a4;exact ⟨⟨s1,h1,rfl⟩,λ s hs=>b1 _ ⟨s,hs,rfl⟩,⟨s2,h2,rfl⟩,λ s hs=>b2 _ ⟨s,hs,rfl⟩,⟨s3,h3,rfl⟩,λ s hs=>b3 _ ⟨s,hs,rfl⟩,⟨s4,h4,rfl⟩,λ s hs=>b4 _ ⟨s,hs,rfl⟩⟩
open Mt
def sgc (ts:[50]) (x0 y1 r c:Int):Nat :=
 if r % 2=0 /\ c % 2=0 /\ ts.any (has (x0 + c / 2,y1 - r / 2))=true then 43
 else if r % 2=0 /\ c % 2=1 /\ (x0 + c / 2,y1 - r / 2,0) ∈ ts then 45
 else if r % 2=1 /\ c % 2=0 /\ (x0 + c / 2,y1 - r / 2 - 1,1) ∈ ts then 124 else 46
def sgo (n:Nat):Option D:=if n=46 then none else some (.str ⟨#[n]⟩)
def SgOk (ts:[50]) (x0 y1:Int) (kvs:[41]):Prop:=∀ r c:Int,valL kvs [r,c]=sgo (sgc ts x0 y1 r c)
theorem wn1 (k:[64]) (v:D) (k':[64]):∀ kvs,valL (putL kvs k v) k'=if k=k' then some v else valL kvs k':=by
 intro kvs;unfold putL;by_cases h:(kvs.any λ kv=>decide (kv.1=k))=true
 ·rw [if_pos h];unfold valL;by_cases c:k=k'
  ·subst c;rw [if_pos rfl]
   induction kvs with
   | nil=>simp at h
   | cons a r ih =>
    rw [map_cons,find?_cons];by_cases ca:a.1=k
    ·simp [ca]
    ·simp only [ca,if_false,decide_false];refine ih ?_
     simp_all
  ·rw [if_neg c];clear h
   induction kvs with
   | nil=>rfl
   | cons a r ih =>
    rw [map_cons,find?_cons,find?_cons];by_cases ca:a.1=k
    ·simp_all
    ·simp only [ca,if_false];by_cases c2:a.1=k'
     ·simp [c2]
     simp_all
 ·rw [if_neg h];unfold valL;rw [List.find?_append]
  have hn:kvs.find? (λ kv=>decide (kv.1=k))=none:=by
   rw [List.find?_eq_none];intro x hx hc;exact h (List.any_eq_true.mpr ⟨x,hx,hc⟩)
  by_cases c:k=k'
  ·subst c;simp [*]
  simp_all
theorem wf1 (kvs:[41]) (k:[64]) (v:D):(putL kvs k v).length<=kvs.length + 1:=by
 unfold putL;split
 ·simp
 ·simp
def plc (x0 y1:Int) (p:Pt):List Int:=[2 * (y1 - p.2),2 * (p.1 - x0)]
def hlf (x0 y1:Int) (s:T3):List Int:=[(2 * (y1 - (e0 s).2) + 2 * (y1 - (e1 s).2)) / 2,(2 * ((e0 s).1 - x0) + 2 * ((e1 s).1 - x0)) / 2]
def sgS (s:T3):D:=if s.2.2=0 then .str "-" else .str "|"
theorem mns:("-" : Str)=⟨#[45]⟩:=wh0 [20]
theorem brs:("|" : Str)=⟨#[124]⟩:=wh0 [20]
theorem dots:("." : Str)=⟨#[46]⟩:=wh0 [20]
theorem ite3 {A A' B B' C C':Prop} [Decidable A] [Decidable A'] [Decidable B] [Decidable B'] [Decidable C] [Decidable C'] (ha:A ↔ A') (hb:B ↔ B') (hc:C ↔ C'):(if A then 43 else if B then 45 else if C then 124 else 46:Nat)=if A' then 43 else if B' then 45 else if C' then 124 else 46:=by simp_all
variable {kvs:[41]} {s:T3}
theorem wo3 {js:[50]} (hw:wy s) (h:SgOk js x0 y1 kvs):SgOk (js ++ [s]) x0 y1 (putL (putL (putL kvs (plc x0 y1 (e0 s)) (.str "+")) (plc x0 y1 (e1 s)) (.str "+")) (hlf x0 y1 s) (sgS s)):=by
 intro r c;rw [wn1,wn1,wn1,h r c];obtain ⟨x,y,w⟩:=s;have hany:∀ p,(js ++ [(x,y,w)]).any (has p)=(js.any (has p) || has p (x,y,w)):=λ p=>by simp
 have hmem:∀ q,q ∈ js ++ [(x,y,w)] ↔ q ∈ js \/ q=(x,y,w):=λ q=>by simp
 unfold sgc;simp only [hany,hmem,Bool.or_eq_true]
 have hh:has (x0 + c / 2,y1 - r / 2) (x,y,w)=true ↔ (x=x0 + c / 2 /\ y=y1 - r / 2) \/ (x + 1 - w=x0 + c / 2 /\ y + w=y1 - r / 2):=by
  unfold has e0 e1;simp
 simp only [hh,plc,hlf,e0,e1,List.cons.injEq,and_true,Prod.mk.injEq];have hw':w=0 \/ w=1:=hw;by_cases k3:(2 * (y1 - y) + 2 * (y1 - (y + w))) / 2=r /\ (2 * (x - x0) + 2 * (x + 1 - w - x0)) / 2=c
 ·rw [if_pos k3];rcases hw' with rfl | rfl
  ·rw [if_neg [5],if_pos [5]];rfl
  ·rw [if_neg [5],if_neg [5],if_pos [5]];rfl
 ·rw [if_neg k3];by_cases k2:2 * (y1 - (y + w))=r /\ 2 * (x + 1 - w - x0)=c
  ·rw [if_pos k2,if_pos [5]];rfl
  ·rw [if_neg k2];by_cases k1:2 * (y1 - y)=r /\ 2 * (x - x0)=c
   ·rw [if_pos k1,if_pos [5]];rfl
   ·rw [if_neg k1];congr 1;refine ite3 ⟨λ z=>⟨z.1,z.2.1,.inl z.2.2⟩,λ z=>⟨z.1,z.2.1,z.2.2.resolve_right ?_⟩⟩ ⟨λ z=>⟨z.1,z.2.1,.inl z.2.2⟩,λ z=>⟨z.1,z.2.1,z.2.2.resolve_right ?_⟩⟩ ⟨λ z=>⟨z.1,z.2.1,.inl z.2.2⟩,λ z=>⟨z.1,z.2.1,z.2.2.resolve_right ?_⟩⟩
    ·omega
    ·omega
    omega
def encB (x0 y0 x1 y1:Int):D:=.tup [.int x0,.int y0,.int x1,.int y1]
def spSg:Sp3:=λ ds μ Q=>∃ (ts:[50]) (x0 y0 x1 y1:Int),ds=[.tup [16],encB x0 y0 x1 y1] /\ (∀ t ∈ ts,wy t) /\ ts.length < 60 /\ ∀ d kvs μ',Ext μ μ'->μ' d=some (.dcl false kvs)->SgOk ts x0 y1 kvs->Q (.ref d) μ'
def plD (l:[64]):D:=.tup (l.map .int)
variable {j:Int}
theorem ix2 {l:List D} {i:Int} {d1 d2:D} (hv:getI ρ w=some [66]) (h:μ p=some (.lst l)) (e1:atI l i=some d1) (e2:∀ K:VK3,K d2 μ->ixR d1 (.int j) μ K) (k:K d2 μ):o3 ixR (o3 ixR (v3 w) (c3 (.int i))) (c3 (.int j)) ρ μ K:=by
 unfold o3 v3 c3;rw [hv];exact yd0 h e1 (e2 _ k)
theorem hf_l {r:Addr} {a0 b0 a1 b1:Int} (hv:getI ρ 4=some (.ref r)) (h:μ r=some (.lst [.tup [.int a0,.int b0],.tup [.int a1,.int b1]])) (k:K (.tup [.int ((a0 + a1) / 2),.int ((b0 + b1) / 2)]) μ) :
    (tup3 (xa0 (o3 wg0 (o3 addR (o3 ixR (o3 ixR (v3 4) [12]) [12]) (o3 ixR (o3 ixR (v3 4) [9]) [12])) [30]) (xa0 (o3 wg0 (o3 addR (o3 ixR (o3 ixR (v3 4) [12]) [9]) (o3 ixR (o3 ixR (v3 4) [9]) [9])) [30]) nil3))) ρ μ K:=by
 have d2:(0:Int) < 2 /\ (2:Int) < 2 ^ 120:=[74];have i00:∀ K:VK3,K (.int a0) μ->(o3 ixR (o3 ixR (v3 4) [12]) [12]) ρ μ K:=λ K k=>ix2 hv h rfl (λ K k=>k) k;have i10:∀ K:VK3,K (.int a1) μ->(o3 ixR (o3 ixR (v3 4) [9]) [12]) ρ μ K:=λ K k=>ix2 hv h rfl (λ K k=>k) k;have i01:∀ K:VK3,K (.int b0) μ->(o3 ixR (o3 ixR (v3 4) [12]) [9]) ρ μ K:=λ K k=>ix2 hv h rfl (λ K k=>k) k;have i11:∀ K:VK3,K (.int b1) μ->(o3 ixR (o3 ixR (v3 4) [9]) [9]) ρ μ K:=λ K k=>ix2 hv h rfl (λ K k=>k) k;generalize o3 ixR (o3 ixR (v3 4) [12]) [12]=t00 at i00 ⊢;generalize o3 ixR (o3 ixR (v3 4) [9]) [12]=t10 at i10 ⊢;generalize o3 ixR (o3 ixR (v3 4) [12]) [9]=t01 at i01 ⊢;generalize o3 ixR (o3 ixR (v3 4) [9]) [9]=t11 at i11 ⊢;exact i00 _ (i10 _ ⟨d2,i01 _ (i11 _ ⟨d2,z2,k⟩)⟩)
variable {D':Ends3}
theorem hf_s {rest:TS3} {r:Addr} {a0 b0 a1 b1:Int} (hv:getI ρ 4=some (.ref r)) (h:μ r=some (.lst [.tup [.int a0,.int b0],.tup [.int a1,.int b1]])) (k:rest D' (ρ.set 6 (some (.tup [.int ((a0 + a1) / 2),.int ((b0 + b1) / 2)]))) μ) :
    (seq3 (set3 6 (tup3 (xa0 (o3 wg0 (o3 addR (o3 ixR (o3 ixR (v3 4) [12]) [12]) (o3 ixR (o3 ixR (v3 4) [9]) [12])) [30]) (xa0 (o3 wg0 (o3 addR (o3 ixR (o3 ixR (v3 4) [12]) [9]) (o3 ixR (o3 ixR (v3 4) [9]) [9])) [30]) nil3)))) rest) D' ρ μ:=by
 unfold seq3 set3;exact hf_l hv h k
variable {d:Addr} {v:D}
theorem dp_l {u:Nat} {tv:TE3} {k:[64]} (hd:getI ρ w=some (.ref d)) (hk:getI ρ u=some (plD k)) (hm:μ d=some (.dcl false kvs)) (hl:kvs.length < 90000) (hv:∀ K:VK3,K v μ->tv ρ μ K) (kk:D'.nx ρ (updM μ d (.dcl false (putL kvs k v)))):vm0 (v3 w) (v3 u) tv D' ρ μ:=by
 have hi:∀ k:List Int,ints? (k.map D.int)=some k:=λ k=>by
  induction k with
  | nil=>rfl
  | cons a r ih=>simp only [map_cons,ints?,ih]
 unfold vm0 v3;refine hv _ ?_;rw [hd,hk];simp only [plD,keyI,hi,hm];exact ⟨hl,kk⟩
theorem tp4:RdQ spSg (wf4 yz0) tb4:=by
 rintro ds μ Q ⟨ts,x0,y0,x1,y1,rfl,hw,hl,q⟩;have hz:(1000:Nat) < sizeLine:=by decide
 intro d hd;refine vi0 (λ l ρ μ'=>∃ (js ks:[50]) (kvs:[41]) (y3 y4 y5 y6:Option D),l=ks.map encT /\ js ++ ks=ts /\ ρ=[some (.tup [16]),some (encB x0 y0 x1 y1),some (.ref d),y3,y4,y5,y6] /\ Ext μ μ' /\ μ' d=some (.dcl false kvs) /\ SgOk js x0 y1 kvs /\ kvs.length<=3 * js.length) ?_ (λ _ _ _ _=>trivial) ?_ ?_
 ·refine ⟨[],ts,[],none,none,none,none,rfl,rfl,rfl,Ext.new hd,za0,λ r c=>?_,Nat.le_refl _⟩;show none=sgo _;simp [sgc,sgo]
 ·rintro ρ μ' ⟨js,ks,kvs,y3,y4,y5,y6,e,ej,rfl,ex,ed,ok,_⟩;cases ks with
  | cons _ _=>cases e
  | nil =>
   rw [append_nil] at ej;subst ej;exact q d kvs μ' ex ed ok
 ·rintro x rest ρ μ' ⟨js,ks,kvs,y3,y4,y5,y6,e,ej,rfl,ex,ed,ok,kl⟩;cases ks with
  | nil=>cases e
  | cons s ks =>
   rw [map_cons] at e;injection e with e1' e2'
   subst e1' e2';have hs:s ∈ ts:=by rw [<- ej]; simp
   have lj:js.length < 60:=by rw [<- ej,length_append] at hl; omega
   refine ⟨s,rfl,hw s hs,λ r hr=>?_⟩;refine sg0 (rest:=[some (encB x0 y0 x1 y1)]) (λ d=>plD (plc x0 y1 (match d with | .tup [.int a,.int b]=>(a,b) | _=>(0,0)))) hr (show 2<=sizeLine by decide) (λ _ _=>trivial) ?_ ?_
   ·intro x hx μ2 R ex2 kk
    have hxx:∃ p:Pt,x=encQ p:=by
     rcases List.mem_cons.mp hx with rfl | hx
     ·exact ⟨_,rfl⟩
     ·rw [mem_singleton] at hx; exact ⟨_,hx⟩
    obtain ⟨p,rfl⟩:=hxx;exact ⟨.inl (.inl [14]),.inl (.inl [14]),z2,kk μ2 (Ext.refl _)⟩
   ·intro μ2 ex2 er;have er':μ2 r=some (.lst [plD (plc x0 y1 (e0 s)),plD (plc x0 y1 (e1 s))]):=er;have ed2:=ex2 _ _ ed;have nrd:r ≠ d:=uc0 ed hr |>.symm
    conv=>whnf
    rw [er'];have hP:plc x0 y1 (e0 s)=plc x0 y1 (e0 s):=rfl;generalize h0:plc x0 y1 (e0 s)=P0;generalize h1:plc x0 y1 (e1 s)=P1;rw [h0,h1] at er';refine vi0 (λ l ρ μ3=>∃ y5,ρ=[some (.tup [16]),some (encB x0 y0 x1 y1),some (.ref d),some (encT s),some (.ref r),y5,y6] /\ Ext μ μ3 /\ μ3 r=some (.lst [plD P0,plD P1]) /\ ((l=[plD P0,plD P1] /\ μ3 d=some (.dcl false kvs)) \/ (l=[plD P1] /\ μ3 d=some (.dcl false (putL kvs P0 (.str "+")))) \/ (l=[] /\ μ3 d=some (.dcl false (putL (putL kvs P0 (.str "+")) P1 (.str "+")))))) ?_ ?_ ?_ ?_
    ·exact ⟨_,rfl,ex.trans ex2,er',.inl ⟨rfl,ed2⟩⟩
    ·simp_all
    ·rintro ρ μ3 ⟨y5,rfl,ex3,er3,h | h | ⟨_,ed3⟩⟩
     ·cases h.1
     ·cases h.1
     ·have l1:=wf1 kvs P0 (.str "+");have l2:=wf1 (putL kvs P0 (.str "+")) P1 (.str "+");subst h0 h1;dsimp only;refine hf_s rfl er3 ?_;have okn:=wo3 (hw s hs) ok;refine dp_l (k:=hlf x0 y1 s) (v:=sgS s) rfl rfl ed3 [5] (λ K k=>?_) ?_
      ·obtain ⟨x,y,w⟩:=s;rcases hw _ hs with e | e <;> dsimp only at e <;> subst e <;> exact k
      ·refine ⟨js ++ [s],ks,_,_,_,_,_,rfl,by rw [<- ej]; simp,rfl,λ c o hc=>?_,za0,okn,?_⟩
       ·rw [ta0 (uc0 hc hd)]; exact ex3 c o hc
       ·have l3:=wf1 (putL (putL kvs (plc x0 y1 (e0 s)) (.str "+")) (plc x0 y1 (e1 s)) (.str "+")) (hlf x0 y1 s) (sgS s)
        simp_all;omega
    ·rintro x rest ρ μ3 ⟨y5,rfl,ex3,er3,h⟩;have l1:=wf1 kvs P0 (.str "+");have nx:∀ o,Ext μ (updM μ3 d o) /\ updM μ3 d o r=some (.lst [plD P0,plD P1]):=λ o=>⟨λ c o' hc=>by rw [ta0 (uc0 hc hd)]; exact ex3 c o' hc,by rw [ta0 nrd]; exact er3⟩;rcases h with ⟨e,ed3⟩ | ⟨e,ed3⟩ | ⟨e,_⟩
     ·injection e with e3 e4
      subst e3 e4;exact dp_l (k:=P0) (v:=.str "+") rfl rfl ed3 [5] (λ K k=>k) ⟨_,rfl,(nx _).1,(nx _).2,.inr (.inl ⟨rfl,za0⟩)⟩
     ·injection e with e3 e4
      subst e3 e4;exact dp_l (k:=P1) (v:=.str "+") rfl rfl ed3 [5] (λ K k=>k) ⟨_,rfl,(nx _).1,(nx _).2,.inr (.inr ⟨rfl,za0⟩)⟩
     ·cases e
def rowS (ts:[50]) (x0 y1 r:Int) (w:Nat):Str:=⟨((List.range w).map λ c:Nat=>sgc ts x0 y1 r c).toArray⟩
def sd0 (ts:[50]) (x0 y1:Int) (w h:Nat):List Str:=(List.range (2 * h + 1)).map λ r:Nat=>rowS ts x0 y1 r (2 * w + 1)
theorem wv2 (ts:[50]) (x0 y1 r:Int) (w:Nat):Str.join "" ((List.range w).map λ c:Nat=>(⟨#[sgc ts x0 y1 r c]⟩:Str))=rowS ts x0 y1 r w:=by
 refine wh0 ?_;rw [ww1,map_map];show _=((List.range w).map λ c:Nat=>sgc ts x0 y1 r c).toArray.toList;simp only [List.toList_toArray]
 induction List.range w with
 | nil=>rfl
 | cons a l ih=>rw [map_cons,List.flatten_cons,map_cons,ih]; rfl
theorem gd_l {r i:Int} (hd:μ d=some (.dcl false kvs)) (ok:SgOk ts x0 y1 kvs) (k:K (.str ⟨#[sgc ts x0 y1 r i]⟩) μ):gdf3 (v3 1) (xa0 (tup3 (xa0 (v3 2) [52])) (xa0 (c3 (.str ".")) nil3)) [some (.int i),some (.ref d),some (.int r)] μ K:=by
 have e:=ok r i
 conv=>whnf
 rw [hd];refine ⟨z2,?_⟩
 show (match (some [r,i]:Option (List Int)),μ d with
       | some k,some (.dcl _ kvs)=>(match valL kvs k with
        | some v=>K v μ
        | none=>K (.str ".") μ)
       | _,_=>False)
 rw [hd];dsimp only;rw [e];unfold sgo;by_cases c:sgc ts x0 y1 r i=46
 ·rw [if_pos c];rw [c] at k;assumption
 simp_all
def spSl:Sp3:=λ ds μ Q=>∃ (d:Addr) (kvs:[41]) (r:Int) (w:Nat) (ts:[50]) (x0 y1:Int),ds=[.ref d,.int r,.int w] /\ μ d=some (.dcl false kvs) /\ SgOk ts x0 y1 kvs /\ w<=200 /\ ∀ μ',Ext μ μ'->Q (.str (rowS ts x0 y1 r w)) μ'
theorem xq4:RdQ spSl uf4 xc4:=by
 rintro ds μ Q ⟨d,kvs,r,w,ts,x0,y1,rfl,hd,ok,hw,q⟩;have hz:(1000:Nat) < sizeLine:=by decide
 have lw:(rngD 0 ((w:Int)).toNat).length=w:=by simp [rngD]
 refine ⟨[75],λ p hp=>?_⟩;refine sg0 (rest:=[some (.ref d),some (.int r)]) (λ dd=>.str ⟨#[sgc ts x0 y1 r (match dd with | .int i=>i | _=>0)]⟩) hp (by rw [lw]; omega) (λ _ _=>trivial) ?_ ?_
 ·intro x hx μ' R ex kk;obtain ⟨i,_,rfl⟩:=List.mem_map.mp hx;exact gd_l (ex _ _ hd) ok (kk μ' (Ext.refl _))
 ·intro μ' ex e
  have el:(rngD 0 ((w:Int)).toNat).map (λ dd=>D.str ⟨#[sgc ts x0 y1 r (match dd with | .int i=>i | _=>0)]⟩)=sD ((List.range w).map λ c:Nat=>(⟨#[sgc ts x0 y1 r c]⟩:Str)):=by
   unfold rngD sD;simp
  rw [el] at e;dsimp only [nil3];refine jo_l e [20] ?_ ?_
  ·have:((List.range w).map λ c:Nat=>(⟨#[sgc ts x0 y1 r c]⟩:Str)).map (·.length)=(List.range w).map λ _=>1:=by rw [map_map]; rfl
   rw [this,length_map,length_range,List.map_const',List.sum_replicate_nat];simp; omega
  ·rw [wv2];exact q μ' ex
def wn3:Sp3:=λ ds μ Q=>∃ (ts:[50]) (x0 y0 x1 y1:Int) (w h:Nat),ds=[.tup [16],encB x0 y0 x1 y1] /\ (∀ t ∈ ts,wy t) /\ ts.length < 60 /\ x1 - x0=w /\ y1 - y0=h /\ w<=60 /\ h<=60 /\ ∀ p μ',Ext μ μ'->μ' p=some (.lst (sD (sd0 ts x0 y1 w h)))->Q [66] μ'
theorem sp4:RdQ wn3 (vf4 spSl spSg) sb4:=by
 rintro ds μ Q ⟨ts,x0,y0,x1,y1,w,h,rfl,hw,hl,ew,eh,w6,h6,q⟩;have hz:(1000:Nat) < sizeLine:=by decide
 refine ⟨ts,x0,y0,x1,y1,rfl,hw,hl,λ d kvs μ1 ex1 ed ok=>?_⟩;have e2:(2 * (y1 - y0) + 1).toNat=2 * h + 1:=by omega
 have e3:2 * (x1 - x0) + 1=((2 * w + 1:Nat):Int):=by omega
 have lw:(rngD 0 (2 * (y1 - y0) + 1).toNat).length=2 * h + 1:=by rw [e2]; simp [rngD]
 refine ⟨.inl (.inl [14]),.inl (.inl [14]),[75],λ p hp=>?_⟩;refine sg0 (rest:=[some (.ref d),some (.int (2 * (x1 - x0) + 1))]) (λ dd=>.str (rowS ts x0 y1 (match dd with | .int i=>i | _=>0) (2 * w + 1))) hp (by rw [lw]; omega) (λ _ _=>trivial) ?_ ?_
 ·intro x hx μ' R ex kk;obtain ⟨i,_,rfl⟩:=List.mem_map.mp hx;refine ⟨d,kvs,0 + (i:Int),2 * w + 1,ts,x0,y1,?_,ex _ _ ed,ok,by omega,λ μ2 ex2=>kk μ2 ex2⟩;rw [<- e3]
 ·intro μ' ex e;refine q p μ' (ex1.trans ex) ?_;rw [e,e2];unfold rngD sD sd0;simp
def cnl (x0 y0:Int):Str:=Str.join " " [nsT x0,nsT y0]
def gd (n:Int):Prop:=-Mt.B<=n /\ n<=Mt.B
def spCl:Sp3:=λ ds μ Q=>∃ x0 y0 x1 y1:Int,ds=[encB x0 y0 x1 y1] /\ gd x0 /\ gd y0 /\ ∀ μ',Ext μ μ'->Q (.str (cnl x0 y0)) μ'
theorem sq2 (h:gd x0) (k:gd y0):(cnl x0 y0).length<=183:=by
 unfold cnl;rw [zc0,wk0];show (cp (nsT x0) ++ 32 :: cp (nsT y0)).length<=183;have:=zw0 h;have:=zw0 k
 simp_all;omega
theorem zr4:RdQ spCl sg4 zd4:=by
 rintro ds μ Q ⟨x0,y0,x1,y1,rfl,gx0,gy0,q⟩;refine ⟨uu1 gx0,uu1 gy0,z2,λ p hp=>?_⟩;dsimp only [nil3];refine jo_l (l:=[nsT x0,nsT y0]) za0 [20] ?_ (q _ (Ext.new hp));have:=zw0 gx0;have:=zw0 gy0;simp only [map_cons,map_nil,sum_cons,List.sum_nil,length_cons,length_nil];rw [zc0,zc0];omega
def up0 (ts:[50]) (x0 y0 y1:Int) (w h:Nat):Str:=Str.join "\n" (cnl x0 y0 :: sd0 ts x0 y1 w h)
theorem ve1 (ts:[50]) (x0 y1 r:Int) (w:Nat):(rowS ts x0 y1 r w).length=w:=by simp [rowS,Str.length]
theorem we1 (ts:[50]) (x0 y1:Int) (w h:Nat):((sd0 ts x0 y1 w h).map (·.length)).sum=(2 * h + 1) * (2 * w + 1):=by
 unfold sd0;rw [map_map];have:((λ x:Str=>x.length) ∘ λ r:Nat=>rowS ts x0 y1 r (2 * w + 1))=λ _=>2 * w + 1:=by funext r; exact ve1 ..
 rw [this,List.map_const',List.sum_replicate_nat,length_range]
def gds (ts:[50]):Prop:=∀ s ∈ ts,gd s.1 /\ gd s.2.1
def zn3 (XE:XE3):Sp3:=λ ds μ Q=>(∃ l,ds=[.tup (l.map encI)] /\ BadL l /\ XE "NoPicture" μ) \/ ∃ ts:List T3,ds=[.tup [16]] /\ Pc ts /\ gds ts /\ (ts=[]->∀ μ',Ext μ μ'->Q (.str "none") μ') /\ (ts ≠ []->∀ x0 y0 x1 y1 μ',Bx ts x0 y0 x1 y1->Ext μ μ'->((40<=x1 - x0 \/ 40<=y1 - y0)->XE "NoRoom" μ') /\ (∀ w h:Nat,x1 - x0=w->y1 - y0=h->w < 40->h < 40->Q (.str (up0 ts x0 y0 y1 w h)) μ'))
theorem yq4 (XE:XE3) (ds:List D) (μ:Mu) (Q:VK3) (h:zn3 XE ds μ Q):tf4 XE se2 spCl tn3 wn3 { nx:=λ _ μ'=>Q .non μ',rt:=Q } (xb0 yc4 ds) μ:=by
 rcases h with ⟨l,rfl,hb,x⟩ | ⟨ts,rfl,hP,hg,q0,q1⟩
 ·exact ⟨_,rfl,.inr ⟨l,rfl,hb,x⟩⟩
 have hz:(1048576:Nat) < sizeLine:=by decide
 refine ⟨_,rfl,.inl ⟨ts,rfl,hP,?_⟩⟩;refine ⟨ts,rfl,hP.2.1,hP.2.2,λ c=>q0 c μ (Ext.refl _),λ c x0 y0 x1 y1 μ1 bx ex1=>?_⟩;obtain ⟨qx,qs⟩:=q1 c x0 y0 x1 y1 μ1 bx ex1
 have sx:x0<=x1:=by
  obtain ⟨s,hs,e⟩:=bx.a0;have:=bx.l1 s hs;have hw:=hP.2.1 s hs;unfold gx at this;rcases hw with e2 | e2 <;> rw [e2] at this <;> omega
 have sy:y0<=y1:=by
  obtain ⟨s,hs,e⟩:=bx.b0;have:=bx.m1 s hs;have hw:=hP.2.1 s hs;unfold gy at this;rcases hw with e2 | e2 <;> rw [e2] at this <;> omega
 show um0 XE se2 spCl tn3 wn3 _ [some (.tup [16]),some (encB x0 y0 x1 y1)] μ1
 have M:∀ m:Int,m=(if y1 - y0 > x1 - x0 then y1 - y0 else x1 - x0)->(m ≥ 40 ↔ (40<=x1 - x0 \/ 40<=y1 - y0)):=λ m e=>by
  omega
 have M':=M _ rfl;show if decide ((40:Int)<=(if y1 - y0 > x1 - x0 then y1 - y0 else x1 - x0))=true then _ else _;generalize (if y1 - y0 > x1 - x0 then y1 - y0 else x1 - x0)=m at M';by_cases cm:(40:Int)<=m
 ·rw [decide_eq_true cm,if_pos rfl];exact ⟨by decide,qx (M'.mp cm)⟩
 ·rw [decide_eq_false cm,if_neg [14]];have nb:=λ z=>cm (M'.mpr z);have ew:x1 - x0=((x1 - x0).toNat:Int):=by omega
  have eh:y1 - y0=((y1 - y0).toNat:Int):=by omega
  have q9:=qs _ _ ew eh [5] [5]
  have bg:gd x0 /\ gd y0:=by
   obtain ⟨s,hs,rfl⟩:=bx.a0;obtain ⟨s',hs',rfl⟩:=bx.b0;exact ⟨(hg s hs).1,(hg s' hs').2⟩
  refine ⟨x0,y0,x1,y1,rfl,bg.1,bg.2,λ μ2 ex2=>⟨Z1,λ p hp=>?_⟩⟩;refine ⟨ts,x0,y0,x1,y1,_,_,rfl,hP.2.1,hP.2.2,ew,eh,by omega,by omega,λ p2 μ3 ex3 e3=>?_⟩;have e1:μ3 p=some (.lst [.str (cnl x0 y0)]):=ex3 _ _ za0;have rs:=we1 ts x0 y1 (x1 - x0).toNat (y1 - y0).toNat;have rl:(sd0 ts x0 y1 (x1 - x0).toNat (y1 - y0).toNat).length=2 * (y1 - y0).toNat + 1:=by simp [sd0]
  have hc:=sq2 bg.1 bg.2;have hm:(2 * (y1 - y0).toNat + 1) * (2 * (x1 - x0).toNat + 1)<=79 * 79:=Nat.mul_le_mul [5] [5];show addR [66] (.ref p2) μ3 (λ d μ1=>_);simp only [addR,e1,e3];refine ⟨by rw [uz0,rl]; simp only [length_cons,length_nil]; omega,λ p4 hp4=>?_⟩;dsimp only [nil3];refine jo_l (l:=cnl x0 y0 :: sd0 ts x0 y1 (x1 - x0).toNat (y1 - y0).toNat) za0 [20] ?_ ?_
  ·simp only [map_cons,sum_cons,length_cons];omega
  ·obtain ⟨_,qq⟩:=q1 c x0 y0 x1 y1 _ bx (ex1.trans (ex2.trans ((Ext.new hp).trans (ex3.trans (Ext.new hp4)))));exact qq _ _ ew eh [5] [5]
theorem forR {S:Mu->Prop} {g:TG3} {tb:TS3} (V:Nat->St3->Mu->Prop) {n:Nat} (hS:∀ μ,S μ) (h0:V 0 ρ μ) (hn:∀ ρ μ,V n ρ μ->D'.nx ρ μ)
    (hs:∀ i ρ μ,i < n->V i ρ μ->g (.int (i:Int)) ρ μ λ ρ1 μ1=>tb { D' with nx:=V (i + 1),ct:=V (i + 1),bk:=D'.nx } ρ1 μ1):vc2 S g tb D' (rngD 0 n) ρ μ:=by
 have main:∀ k i ρ μ,i + k=n->V i ρ μ->vc2 S g tb D' (rngD (i:Int) k) ρ μ:=by
  intro k
  induction k with
  | zero =>
   intro i ρ μ e v;have e':i=n:=e;rw [e'] at v;exact ⟨hS μ,hn _ _ v⟩
  | succ k ih =>
   intro i ρ μ e v;rw [xw0];exact ⟨hS μ,V (i + 1),λ ρ' μ' v'=>ih (i + 1) ρ' μ' [5] v',hs i ρ μ [5] v⟩
 exact main n 0 ρ μ (Nat.zero_add n) h0
theorem len_l {l:List D} (h:μ p=some (.lst l)) (k:K (.int l.length) μ):lenR [.ref p] μ K:=by
 simp only [lenR,h]; exact k
theorem yx1 {α:Type} {l:List α} {v:α} (h:l[i]?=some v):atI l (i:Int)=some v:=by
 have hl:i < l.length:=(List.getElem?_eq_some_iff.mp h).1;unfold atI ixN
 simp_all
def Bw (ts:[50]) (x0 y0 y1:Int) (w h:Nat):Prop:=∃ x1,Bx ts x0 y0 x1 y1 /\ x1 - x0=w /\ y1 - y0=h /\ w < 40 /\ h < 40
def ptk (p:Pt):List Int:=[p.1,p.2]
theorem zx3 (p:Pt):keyI (encQ p)=some (ptk p):=rfl
theorem vf1 {p q:Pt} (h:ptk p=ptk q):p=q:=by
 unfold ptk at h;injection h with h1 h2
 injection h2 with h2 _
 exact Prod.ext h1 h2
theorem Ext.upd {μ0:Mu} {o:MO} (e:Ext μ0 μ) (h:μ0 p=none):Ext μ0 (updM μ p o):=λ a u q=>by
 rw [ta0 (uc0 q h)]; exact e a u q
def pmk (ks:List Pt) (f:Pt->D):List (List Int × D):=ks.map λ p=>(ptk p,f p)
variable {ks:List Pt} {f:Pt->D}
theorem uj2 {g:Pt->D} (h:∀ p ∈ ks,f p=g p):pmk ks f=pmk ks g:=List.map_congr_left λ t ht=>by rw [h t ht]
theorem vo1 {f:Pt->D} {p:Pt}:∀ {ks:List Pt},p ∈ ks->valL (pmk ks f) (ptk p)=some (f p)
 | x :: r,h=>by
  unfold valL pmk;rw [map_cons,find?_cons];by_cases c:x=p
  ·subst c; simp
  ·have c1:¬ ptk x=ptk p:=λ z=>c (vf1 z);simp only [c1,decide_false];exact vo1 (f:=f) ((List.mem_cons.mp h).resolve_left (Ne.symm c))
theorem wg3 {p:Pt} (h:p ∉ ks):valL (pmk ks f) (ptk p)=none:=by
 unfold valL;rw [List.find?_eq_none.mpr]; rfl;intro x hx z;obtain ⟨y,hy,rfl⟩:=List.mem_map.mp hx;have:=vf1 (of_decide_eq_true z)
 simp_all
def addk (ks:List Pt) (p:Pt):List Pt:=if p ∈ ks then ks else ks ++ [p]
theorem yu3 {p:Pt} :putL (pmk ks f) (ptk p) v=pmk (addk ks p) (λ x=>if x=p then v else f x):=by
 unfold putL addk;by_cases h:p ∈ ks
 ·rw [if_pos h,if_pos]
  ·unfold pmk;rw [map_map];apply List.map_congr_left;intro x _;show (if ptk x=ptk p then (ptk x,v) else (ptk x,f x))=_;by_cases c:x=p
   ·simp_all
   ·rw [if_neg (λ z=>c (vf1 z))]; simp_all
  ·exact List.any_eq_true.mpr ⟨(ptk p,f p),List.mem_map.mpr ⟨p,h,rfl⟩,decide_eq_true rfl⟩
 ·rw [if_neg h,if_neg]
  ·unfold pmk;rw [map_append];congr 1
   ·apply List.map_congr_left;intro x hx;dsimp only;rw [if_neg (λ z=>h [36])]
   ·simp
  ·intro z;obtain ⟨x,hx,e⟩:=List.any_eq_true.mp z;obtain ⟨y,hy,rfl⟩:=List.mem_map.mp hx;have:=vf1 (of_decide_eq_true e)
   simp_all
structure PtI (μ0 μ:Mu) (d:Addr) (L ks:List Pt):Prop where
 ex:Ext μ0 μ
 fr:μ0 d=none
 dc:μ d=some (.dcl false (pmk ks λ p=>.int (L.count p:Nat)))
 nd:ks.Nodup
 me:∀ p,p ∈ ks ↔ p ∈ L
 le:ks.length<=L.length
theorem PtI.put {μ0:Mu} {L:List Pt} {p:Pt} {y0 y2 y3 y4:Option D} (I:PtI μ0 μ d L ks) (hl:L.length < 500) (hv:getI [y0,some (.ref d),y2,y3,y4] i=some (encQ p))
    (k:∀ μ' ks',PtI μ0 μ' d (L ++ [p]) ks'->D'.nx [y0,some (.ref d),y2,y3,y4] μ') :
    vm0 (v3 1) (v3 i) (o3 addR (gdf3 (v3 1) (xa0 (v3 i) (xa0 [12] nil3))) [9]) D' [y0,some (.ref d),y2,y3,y4] μ:=by
 have hz:(1000:Nat) < sizeLine:=by decide
 have hln:=I.le
 have fin:(vm0 (v3 1) (v3 i) (c3 (.int ((L.count p:Nat) + 1)))) D' [y0,some (.ref d),y2,y3,y4] μ:=by
  unfold vm0 v3 c3;simp only [hv,getI,zx3,I.dc];refine ⟨by unfold pmk; simp_all;omega,k _ (addk ks p) ⟨I.ex.upd I.fr,I.fr,?_,?_,?_,?_⟩⟩
  ·rw [za0,yu3];congr 2;refine uj2 λ x _=>?_;by_cases c:x=p
   ·simp_all
   ·rw [if_neg c,List.count_append];have:List.count x [p]=0:=List.count_eq_zero.mpr (by simpa using c);rw [this]; rfl
  ·unfold addk;split
   ·exact I.nd
   ·next h =>
    rw [List.nodup_append];exact ⟨I.nd,by simp,λ a ha b hb e=>by simp_all⟩
  ·intro x;rw [mem_append,mem_singleton,<- I.me];unfold addk;split
   ·simp_all
   simp
  ·rw [length_append];unfold addk;split
   ·omega
   simp_all
 have hg:∀ R:VK3,R (.int (L.count p:Nat)) μ->gdf3 (v3 1) (xa0 (v3 i) (xa0 [12] nil3)) [y0,some (.ref d),y2,y3,y4] μ R:=λ R r=>by
  unfold gdf3 v3 xa0 c3 nil3;simp only [hv,getI,I.dc,zx3];by_cases c:p ∈ ks
  ·simp only [vo1 c]; exact r
  ·simp only [wg3 c];have e:L.count p=0:=List.count_eq_zero.mpr λ z=>c ((I.me p).mpr z)
   simp_all
 unfold vm0 at fin ⊢;unfold o3;refine hg _ ?_;exact fin
def yl0 (ts:[50]):List Pt:=ts.flatMap λ s=>[e0 s,e1 s]
theorem sc2 (ts:[50]) (s:T3):yl0 (ts ++ [s])=yl0 ts ++ [e0 s] ++ [e1 s]:=by unfold yl0; simp
theorem ul1 (ts:[50]):(yl0 ts).length=2 * ts.length:=by
 induction ts with
 | nil=>rfl
 | cons s r ih=>unfold yl0 at ih ⊢; simp_all;omega
def yu2:Sp3:=λ ds μ Q=>∃ ts:List T3,ds=[.tup [16]] /\ ts.length < 60 /\ ∀ d ks μ',PtI μ μ' d (yl0 ts) ks->Q (.ref d) μ'
theorem vs4:RdQ yu2 (th4 spLe) ye4:=by
 rintro ds μ Q ⟨ts,rfl,hl,q⟩;intro d hd;refine vi0 (λ l ρ μ'=>∃ (js ks:[50]) (gs:List Pt) (y2 y3 y4:Option D),l=ks.map encT /\ js ++ ks=ts /\ ρ=[some (.tup [16]),some (.ref d),y2,y3,y4] /\ PtI μ μ' d (yl0 js) gs) ?_ (λ _ _ _ _=>trivial) ?_ ?_
 ·exact ⟨[],ts,[],none,none,none,rfl,rfl,rfl,Ext.new hd,hd,za0,nodup_nil,λ p=>Iff.rfl,Nat.le_refl _⟩
 ·rintro ρ μ' ⟨js,ks,gs,y2,y3,y4,e,ej,rfl,I⟩;cases ks with
  | cons _ _=>cases e
  | nil =>
   rw [append_nil] at ej;subst ej;exact q d gs μ' I
 ·rintro x rest ρ μ' ⟨js,ks,gs,y2,y3,y4,e,ej,rfl,I⟩;cases ks with
  | nil=>cases e
  | cons s ks =>
   rw [map_cons] at e;injection e with e1 e2
   subst e1 e2;have lj:js.length<=ts.length:=by rw [<- ej,length_append]; omega
   have le:=ul1 js;refine ⟨s,rfl,?_⟩;dsimp only [xx0,ye0,gn3,yx0];refine ⟨rfl,?_⟩;show vm0 (v3 1) (v3 3) (o3 addR (gdf3 (v3 1) (xa0 (v3 3) (xa0 [12] nil3))) [9]) _ [some (.tup [16]),some (.ref d),some (encT s),some (encQ (e0 s)),some (encQ (e1 s))] μ';refine I.put (p:=e0 s) (i:=3) [5] rfl λ μ1 gs1 I1=>?_;refine I1.put (p:=e1 s) (i:=4) [57] rfl λ μ2 gs2 I2=>?_;rw [<- sc2] at I2;exact ⟨js ++ [s],ks,gs2,_,_,_,rfl,by rw [<- ej]; simp,rfl,I2⟩
open Mt
theorem sc5 (ts:[50]) (μ:Mu) (K:VK3):eqR (.tup [16]) (.tup []) μ K=K (.bl (decide (ts=[]))) μ:=by
 have dd:datM μ (.tup [16])=some (.tuple (ts.map pT)):=by simp only [datM,dat,zw1]
 rw [to2 rfl dd (show datM μ (.tup [])=some (.tuple []) from rfl) (st0 ts) [14]];cases ts <;> simp [PyData.eqv,PyData.eqvAll]
theorem tc5 {K:Bool->Mu->Prop} (hv:getI ρ i=some (.tup [16])) (k:K (decide (ts=[])) μ):b3 (o3 eqR (v3 i) (tup3 nil3)) ρ μ K:=by
 unfold b3 o3 v3 tup3 nil3;rw [hv];refine ⟨Nat.zero_le _,?_⟩;dsimp only;rw [sc5];exact k
variable {b:Bool}
theorem if_n {c:TT3} {t rest:TS3} (hc:∀ K:Bool->Mu->Prop,K b μ->c ρ μ K) (h1:b=true->t { D' with nx:=rest D' } ρ μ) (h2:b=false->rest D' ρ μ):seq3 (ifs3 c t zb0) rest D' ρ μ:=by
 refine hc _ ?_;cases b with
 | true=>exact h1 rfl
 | false=>exact h2 rfl
theorem vd2 {c d:TT3} {b1 b2:Bool} {K:Bool->Mu->Prop} (h1:∀ K:Bool->Mu->Prop,K b1 μ->c ρ μ K) (h2:∀ K:Bool->Mu->Prop,K b2 μ->d ρ μ K) (k:K (b1 && b2) μ):and3 c d ρ μ K:=by
 refine h1 _ ?_;cases b1 with
 | true=>exact h2 _ k
 | false=>exact k
theorem zk3 {g:Pt->Int} (hi:(i=0 /\ g=λ q=>q.1) \/ (i=1 /\ g=λ q=>q.2)) (hv:getI ρ w=some (.ref d)) (h:μ d=some (.dcl false (pmk ks f))) (hl:ks.length < 1000)
    (k:∀ r μ',Ext μ μ'->μ' r=some (.lst ((ks.map g).map D.int))->K (.ref r) μ'):xe0 [none] (isd3 (v3 w)) (gn3 0) tt3 (o3 ixR (v3 0) (c3 (.int (i:Int)))) ρ μ K:=by
 have hz:(1000:Nat) < sizeLine:=by decide
 have ek:(pmk ks f).map (λ kv=>tupI kv.1)=ks.map encQ:=by unfold pmk; rw [map_map]; rfl
 unfold xe0 isd3 v3;rw [hv];dsimp only;rw [h];intro r hr;rw [ek];refine sg0 (rest:=[]) (λ d=>.int (match d with | .tup [.int a,.int b]=>g (a,b) | _=>0)) hr [57] (λ μ' e=>e _ _ h) ?_ ?_
 ·intro x hx μ' R ex kk;obtain ⟨q,_,rfl⟩:=List.mem_map.mp hx;rcases hi with ⟨rfl,rfl⟩ | ⟨rfl,rfl⟩ <;> exact kk μ' (Ext.refl _)
 ·intro μ' ex e
  have el:(ks.map encQ).map (λ d=>D.int (match d with | .tup [.int a,.int b]=>g (a,b) | _=>0))=(ks.map g).map D.int:=by
   rw [map_map,map_map]; rfl
  simp_all
theorem bx_of (hw:∀ t ∈ ts,wy t) (me:∀ p,p ∈ ks ↔ p ∈ yl0 ts) (a0:x0 ∈ ks.map λ q=>q.1) (l0:∀ v ∈ ks.map λ q=>q.1,x0<=v) (b0:y0 ∈ ks.map λ q=>q.2) (m0:∀ v ∈ ks.map λ q=>q.2,y0<=v)
    (a1:x1 ∈ ks.map λ q=>q.1) (l1:∀ v ∈ ks.map λ q=>q.1,v<=x1) (b1:y1 ∈ ks.map λ q=>q.2) (m1:∀ v ∈ ks.map λ q=>q.2,v<=y1):Bx ts x0 y0 x1 y1:=by
 have i0:∀ s ∈ ts,e0 s ∈ ks:=λ s hs=>(me _).mpr (List.mem_flatMap.mpr ⟨s,hs,by simp⟩);have i1:∀ s ∈ ts,e1 s ∈ ks:=λ s hs=>(me _).mpr (List.mem_flatMap.mpr ⟨s,hs,by simp⟩);have p0:∀ s ∈ ts,x0<=s.1:=λ s hs=>l0 _ (List.mem_map.mpr ⟨e0 s,i0 s hs,rfl⟩);have p1:∀ s ∈ ts,y0<=s.2.1:=λ s hs=>m0 _ (List.mem_map.mpr ⟨e0 s,i0 s hs,rfl⟩);have p2:∀ s ∈ ts,gx s<=x1:=λ s hs=>l1 _ (List.mem_map.mpr ⟨e1 s,i1 s hs,rfl⟩);have p3:∀ s ∈ ts,gy s<=y1:=λ s hs=>m1 _ (List.mem_map.mpr ⟨e1 s,i1 s hs,rfl⟩)
 have o:∀ p ∈ ks,∃ s ∈ ts,p=e0 s \/ p=e1 s:=λ p hp=>by
  obtain ⟨s,hs,h⟩:=List.mem_flatMap.mp ((me p).mp hp);exact ⟨s,hs,by simpa using h⟩
 have fin:∀ s ∈ ts,s.1<=gx s /\ s.2.1<=gy s:=λ s hs=>by
  unfold gx gy;rcases hw s hs with e | e <;> rw [e] <;> constructor <;> omega
 refine ⟨?_,p0,?_,p1,?_,p2,?_,p3⟩
 ·obtain ⟨p,hp,rfl⟩:=List.mem_map.mp a0;obtain ⟨s,hs,rfl | rfl⟩:=o p hp
  ·exact ⟨s,hs,rfl⟩
  ·have:=p0 s hs; have:=(fin s hs).1;exact ⟨s,hs,Int.le_antisymm this (p0 s hs)⟩
 ·obtain ⟨p,hp,rfl⟩:=List.mem_map.mp b0;obtain ⟨s,hs,rfl | rfl⟩:=o p hp
  ·exact ⟨s,hs,rfl⟩
  ·exact ⟨s,hs,Int.le_antisymm (fin s hs).2 (p1 s hs)⟩
 ·obtain ⟨p,hp,rfl⟩:=List.mem_map.mp a1;obtain ⟨s,hs,rfl | rfl⟩:=o p hp
  ·exact ⟨s,hs,Int.le_antisymm (p2 s hs) (fin s hs).1⟩
  ·exact ⟨s,hs,rfl⟩
 ·obtain ⟨p,hp,rfl⟩:=List.mem_map.mp b1;obtain ⟨s,hs,rfl | rfl⟩:=o p hp
  ·exact ⟨s,hs,Int.le_antisymm (p3 s hs) (fin s hs).2⟩
  ·exact ⟨s,hs,rfl⟩
theorem yv1:∀ nsT:List Int,ints? (nsT.map D.int)=some nsT
 | []=>rfl
 | a :: r=>by simp only [map_cons,ints?,yv1 r]
theorem xf3 {nsT:[64]} (h:μ p=some (.lst (nsT.map D.int))) (hl:nsT.length < 64) (k:∀ ms:List Int,ms.Perm nsT->ms.Pairwise (· <= ·)->∀ r,μ r=none->K (.ref r) (updM μ r (.lst (ms.map D.int)))):un1 [.ref p] μ K:=by
 simp only [un1,h,yv1];exact ⟨hl,k⟩
theorem se3 {ms:[64]} (hp:ms.Pairwise (· <= ·)) (hn:ms ≠ []):∃ a b,atI (ms.map D.int) 0=some (.int a) /\ atI (ms.map D.int) (-1)=some (.int b) /\ a ∈ ms /\ b ∈ ms /\ (∀ v ∈ ms,a<=v) /\ ∀ v ∈ ms,v<=b:=by
 refine ⟨ms.head hn,ms.getLast hn,?_,?_,List.head_mem hn,List.getLast_mem hn,?_,?_⟩
 ·cases ms with
  | nil=>exact absurd rfl hn
  | cons a r=>exact atI0
 ·have e:ms.map D.int=ms.dropLast.map D.int ++ [D.int (ms.getLast hn)]:=by
    rw [<- List.map_singleton,<- map_append,List.dropLast_concat_getLast]
  rw [e];exact L2.atI_last _ _
 ·cases ms with
  | nil=>exact absurd rfl hn
  | cons a r =>
   simp_all
 ·intro v hv;have e:=List.dropLast_concat_getLast hn;rw [<- e] at hp hv;rcases List.mem_append.mp hv with hv | hv
  ·exact (List.pairwise_append.mp hp).2.2 v hv _ [17]
  simp_all
variable {us:[50]}
theorem in_T {t:T3} (k:K (.bl (decide (t ∈ us))) μ):inR false (encT t) (.tup (us.map encT)) μ K:=by
 have e:∀ us:List T3,((us.map pT).any λ e=>PyData.eqv e (pT t))=decide (t ∈ us):=λ us=>by
  rw [Bool.eq_iff_iff,List.any_eq_true,decide_eq_true_eq];constructor
  ·rintro ⟨x,hx,e⟩;obtain ⟨u,hu,rfl⟩:=List.mem_map.mp hx;obtain ⟨a,b,c⟩:=u;obtain ⟨a',b',c'⟩:=t;simp [pT,PyData.eqv,PyData.eqvAll] at e
   simp_all
  ·intro h;refine ⟨pT t,List.mem_map.mpr ⟨t,h,rfl⟩,?_⟩;simp [pT,PyData.eqv,PyData.eqvAll]
 have d1:(pT t).depth<=64:=by simp [pT,PyData.depth,PyData.depthAll]
 show inD false (encT t) (.tup (us.map encT)) μ K;unfold inD;simp only [show datM μ (encT t)=some (pT t) from rfl,show datM μ (.tup (us.map encT))=some (.tuple (us.map pT)) by simp only [datM,dat,zw1]];refine ⟨⟨d1,st0 us⟩,?_⟩
 simp_all
variable {o0 o1 o2 o3' o4 o5 o6:Option D}
theorem vo3 {c:TT3} {s:Str} {rest:TS3} {o7 o8 o9:Option D} (hc:∀ K:Bool->Mu->Prop,K b μ->c [o0,o1,o2,o3',o4,o5,o6,o7,o8,o9,some (.str z)] μ K) (k:rest D' [o0,o1,o2,o3',o4,o5,o6,o7,o8,o9,some (.str (if b=true then s else z))] μ) :
    seq3 (ifs3 c (set3 10 (c3 (.str s))) zb0) rest D' [o0,o1,o2,o3',o4,o5,o6,o7,o8,o9,some (.str z)] μ :=
 if_n hc (λ e=>by rw [if_pos e] at k; exact k) (λ e=>by simp_all)
theorem md_l {n:Int} {K:Bool->Mu->Prop} (hv:getI ρ i=some (.int n)) (k:K (decide (n % 2=j)) μ):b3 (o3 eqR (o3 modR (v3 i) [30]) (c3 (.int j))) ρ μ K:=by
 unfold b3 o3 v3;rw [hv];exact ⟨(by decide:(0:Int) < 2),k⟩
theorem xo3 (ts:[50]) (x0 y1 r c:Int):(if (decide (r % 2=1) && (decide (c % 2=0) && decide ((x0 + c / 2,y1 - r / 2 - 1,1) ∈ ts)))=true then ("|" : Str) else if (decide (r % 2=0) && (decide (c % 2=1) && decide ((x0 + c / 2,y1 - r / 2,0) ∈ ts)))=true then "-" else if (decide (r % 2=0) && (decide (c % 2=0) && decide ((x0 + c / 2,y1 - r / 2) ∈ yl0 ts)))=true then "+" else ".")=⟨#[sgc ts x0 y1 r c]⟩:=by
 have en:(x0 + c / 2,y1 - r / 2) ∈ yl0 ts ↔ ts.any (has (x0 + c / 2,y1 - r / 2))=true:=by
  rw [List.any_eq_true];unfold yl0;rw [List.mem_flatMap];constructor
  ·rintro ⟨s,hs,h⟩;refine ⟨s,hs,?_⟩;unfold has;simp at h;rcases h with h | h <;> simp [h]
  ·rintro ⟨s,hs,h⟩;refine ⟨s,hs,?_⟩;unfold has at h;simp at h;rcases h with h | h <;> simp [h]
 have p1:("+" : Str)=⟨#[43]⟩:=wh0 [20];unfold sgc;rw [mns,brs,dots,p1];simp only [Bool.and_eq_true,decide_eq_true_eq,en];by_cases a:r % 2=0
 ·have a':¬ r % 2=1:=by omega
  by_cases b:c % 2=0
  ·have b':¬ c % 2=1:=by omega
   simp only [a,b,true_and];by_cases u:ts.any (has (x0 + c / 2,y1 - r / 2))=true <;> simp [u]
  ·have b':c % 2=1:=by omega
   simp only [a,b',true_and];by_cases u:(x0 + c / 2,y1 - r / 2,0) ∈ ts <;> simp [u]
 ·have a':r % 2=1:=by omega
  by_cases b:c % 2=0
  ·simp only [a',b,true_and];by_cases u:(x0 + c / 2,y1 - r / 2 - 1,1) ∈ ts <;> simp [u]
  simp_all
theorem zv2 (ts:[50]) (x0 y1 r:Int) (c:Nat):rowS ts x0 y1 r (c + 1)=rowS ts x0 y1 r c ++ ⟨#[sgc ts x0 y1 r c]⟩:=by
 apply wh0;rw [yj0];unfold rowS;simp [cp,range_succ]
theorem wh5 {K:Bool->Mu->Prop} {p:Pt} (h9:getI ρ 9=some (.int p.1)) (h6:getI ρ 6=some (.int p.2)) (h1:getI ρ 1=some (.ref d)) (hd:μ d=some (.dcl false (pmk ks f))) (me:∀ p,p ∈ ks ↔ p ∈ yl0 ts) (k:K (decide (p ∈ yl0 ts)) μ):b3 (o3 (dinR false) (tup3 (xa0 (v3 9) (xa0 (v3 6) nil3))) (v3 1)) ρ μ K:=by
 have e:∀ K:VK3,dinR false (encQ p) (.ref d) μ K=K (.bl (decide (p ∈ yl0 ts))) μ:=λ K=>by
  simp only [dinR,zx3,hd];by_cases c:p ∈ ks
  ·rw [vo1 c,decide_eq_true ((me p).mp c)]; rfl
  ·rw [wg3 c,decide_eq_false (λ z=>c ((me p).mpr z))]; rfl
 unfold b3 o3 tup3 xa0 v3 nil3;rw [h9,h6,h1];refine ⟨z2,?_⟩;have e':∀ K:VK3,dinR false (.tup [.int p.1,.int p.2]) (.ref d) μ K=K (.bl (decide (p ∈ yl0 ts))) μ:=e
 simp_all
variable {x y:Int}
theorem xi4 {ty:TE3} {K:Bool->Mu->Prop} (h9:getI ρ 9=some (.int x)) (hy:∀ K:VK3,K (.int y) μ->ty ρ μ K) (h0:getI ρ 0=some (.tup [16])) (k:K (decide ((x,y,j) ∈ ts)) μ):b3 (o3 (inR false) (tup3 (xa0 (v3 9) (xa0 ty (xa0 (c3 (.int j)) nil3)))) (v3 0)) ρ μ K:=by
 unfold b3 o3 tup3 xa0 v3 nil3;rw [h9,h0];refine hy _ ⟨z3,?_⟩;exact in_T (t:=(x,y,j)) k
theorem app_l {j:Nat} {l:List D} {x:D} (hi:getI ρ i=some [66]) (hj:getI ρ j=some x) (h:μ p=some (.lst l)) (k:l.length < sizeLine /\ D'.nx ρ (updM μ p (.lst (l ++ [x])))):yo0 (mt3 appR (v3 i) (xa0 (v3 j) nil3)) D' ρ μ:=by
 unfold yo0 mt3 xa0 v3 nil3;rw [hi];dsimp only;rw [h];dsimp only;rw [hj];simp only [appR,h];exact k
theorem so3 {d:D} {rest:TS3} (k:rest D' (ρ.set i (some d)) μ):seq3 (set3 i (c3 d)) rest D' ρ μ:=k
def ti1:Sp3:=λ ds μ Q=>∃ ts:List T3,ds=[.tup [16]] /\ (∀ t ∈ ts,wy t) /\ gds ts /\ ts.length < 30 /\ (ts=[]->∀ μ',Ext μ μ'->Q (.str "none") μ') /\ (ts ≠ []->∃ (x0 y0 y1:Int) (w h:Nat),Bw ts x0 y0 y1 w h /\ ∀ μ',Ext μ μ'->Q (.str (up0 ts x0 y0 y1 w h)) μ')
theorem zs4:RdQ ti1 (uh4 yu2) xe4:=by
 rintro ds μ Q ⟨ts,rfl,hw,hg,hl,q0,q1⟩;have hz:(1048576:Nat) < sizeLine:=by decide
 have d2:(0:Int) < 2 /\ (2:Int) < 2 ^ 120:=[74];refine ⟨ts,rfl,by omega,λ d ks μ1 I=>?_⟩;show tj0 yu2 _ [some (.tup [16]),some (.ref d),none,none,none,none,none,none,none,none,none] μ1;refine if_n (λ K k=>tc5 rfl k) (λ e=>q0 (of_decide_eq_true e) μ1 I.ex) λ e=>?_;have hn:ts ≠ []:=of_decide_eq_false e;obtain ⟨x0,y0,y1,w,h,⟨x1,bx,ew,eh,w4,h4⟩,q⟩:=q1 hn;have kl:ks.length < 60:=by have:=I.le; rw [ul1] at this; omega
 have kn:ks ≠ []:=λ e=>by
  obtain ⟨s,hs⟩:=List.exists_mem_of_ne_nil _ hn;have:e0 s ∈ ks:=(I.me _).mpr (List.mem_flatMap.mpr ⟨s,hs,by simp⟩)
  simp_all
 unfold uj0;dsimp only [seq3,set3,wa0,xa0];refine zk3 (i:=0) (.inl ⟨rfl,rfl⟩) rfl I.dc [5] λ r1 μ2 ex2 er1=>?_;dsimp only [nil3];refine xf3 er1 [57] λ ms pm sm a ha=>?_;have ea:updM μ2 a (.lst (ms.map D.int)) a=some (.lst (ms.map D.int)):=za0;have ex3:Ext μ2 (updM μ2 a (.lst (ms.map D.int))):=Ext.new ha;generalize updM μ2 a (.lst (ms.map D.int))=μ3 at ea ex3;have ed3:=ex3 _ _ (ex2 _ _ I.dc);unfold vj0;dsimp only [seq3,set3,wa0,xa0];refine zk3 (i:=1) (.inr ⟨rfl,rfl⟩) rfl ed3 [5] λ r2 μ4 ex4 er2=>?_;dsimp only [nil3];refine xf3 er2 [57] λ ns' pn sn b hb=>?_;have eb:updM μ4 b (.lst (ns'.map D.int)) b=some (.lst (ns'.map D.int)):=za0;have ex5:Ext μ4 (updM μ4 b (.lst (ns'.map D.int))):=Ext.new hb;generalize updM μ4 b (.lst (ns'.map D.int))=μ5 at eb ex5;have ed5:=ex5 _ _ (ex4 _ _ ed3);have ea5:=ex5 _ _ (ex4 _ _ ea);obtain ⟨u0,u1,f0,f1,u0m,u1m,u0l,u1l⟩:=se3 sm (λ e=>kn [36]);obtain ⟨v0,v1,g0,g1,v0m,v1m,v0l,v1l⟩:=se3 sn (λ e=>kn [36]);obtain ⟨rfl,rfl,rfl,rfl⟩:=bx.one (bx_of hw I.me (pm.mem_iff.mp u0m) (λ v hv=>u0l v (pm.mem_iff.mpr hv)) (pn.mem_iff.mp v0m) (λ v hv=>v0l v (pn.mem_iff.mpr hv)) (pm.mem_iff.mp u1m) (λ v hv=>u1l v (pm.mem_iff.mpr hv)) (pn.mem_iff.mp v1m) (λ v hv=>v1l v (pn.mem_iff.mpr hv)))
 have bg:gd x0 /\ gd y0:=by
  obtain ⟨s,hs,rfl⟩:=bx.a0;obtain ⟨s',hs',rfl⟩:=bx.b0;exact ⟨(hg s hs).1,(hg s' hs').2⟩
 have n0:=zw0 bg.1;have n1:=zw0 bg.2;rw [<- zc0] at n0 n1;have E5:Ext μ μ5:=I.ex.trans (ex2.trans (ex3.trans (ex4.trans ex5)));show ixR (.ref a) (.int 0) μ5 (λ d μ1=>_);refine yd0 ea5 f0 ⟨uu1 bg.1,?_⟩
 refine ⟨by show (nsT x0).length + (" " : Str).length<=sizeLine; have:(" " : Str).length=1:=by decide +kernel
            omega,?_⟩
 show ixR (.ref b) (.int 0) μ5 (λ d μ1=>_);refine yd0 eb g0 ⟨uu1 bg.2,?_⟩;refine ⟨by show (nsT x0 ++ " ").length + (nsT y0).length<=sizeLine; rw [zc0 (nsT x0 ++ " "),yj0,length_append,vz3,<- zc0]; simp_all;omega,Z1,λ pl hpl=>?_⟩;have epl:updM μ5 pl (.lst [.str (cnl x0 y0)]) pl=some (.lst [.str (cnl x0 y0)]):=za0;have E6:Ext μ5 (updM μ5 pl (.lst [.str (cnl x0 y0)])):=Ext.new hpl;show wj0 yu2 _ [some (.tup [16]),some (.ref d),some (.ref a),some (.ref b),some (.ref pl),none,none,none,none,none,none] (updM μ5 pl (.lst [.str (cnl x0 y0)]));generalize updM μ5 pl (.lst [.str (cnl x0 y0)])=μ6 at epl E6;show ixR (.ref b) (.int (-1)) μ6 (λ d μ1=>_);refine yd0 (E6 _ _ eb) g1 ?_;show ixR (.ref b) (.int 0) μ6 (λ d μ1=>_);refine yd0 (E6 _ _ eb) g0 ⟨.inl (.inl [14]),[75],?_⟩;have e2:(2 * (y1 - y0) + 1).toNat=2 * h + 1:=by omega
 have e3:(2 * (x1 - x0) + 1).toNat=2 * w + 1:=by omega
 rw [e2];refine forR (λ r ρ μ'=>∃ y5 y6 y7 y8 y9 y10,ρ=[some (.tup [16]),some (.ref d),some (.ref a),some (.ref b),some (.ref pl),y5,y6,y7,y8,y9,y10] /\ Ext μ5 μ' /\ μ' pl=some (.lst (sD (cnl x0 y0 :: (List.range r).map λ r:Nat=>rowS ts x0 y1 r (2 * w + 1))))) (λ _=>trivial) ⟨_,_,_,_,_,_,rfl,E6,epl⟩ ?_ ?_
 ·rintro ρ μ' ⟨y5,y6,y7,y8,y9,y10,rfl,ex,el⟩;have rs:=we1 ts x0 y1 w h;have rl:(sd0 ts x0 y1 w h).length=2 * h + 1:=by simp [sd0]
  have hc:=sq2 bg.1 bg.2;have hm:(2 * h + 1) * (2 * w + 1)<=79 * 79:=Nat.mul_le_mul [5] [5];refine jo_l (l:=cnl x0 y0 :: sd0 ts x0 y1 w h) el [20] ?_ (q μ' (E5.trans ex))
  simp_all;omega
 ·rintro r ρ μ' hr ⟨y5,y6,y7,y8,y9,y10,rfl,ex,el⟩;show ixR (.ref b) (.int (-1)) μ' (λ d μ1=>_);refine yd0 (ex _ _ eb) g1 ⟨d2,?_⟩;show ixR (.ref a) (.int (-1)) μ' (λ d μ1=>_);refine yd0 (ex _ _ ea5) f1 ?_;show ixR (.ref a) (.int 0) μ' (λ d μ1=>_);refine yd0 (ex _ _ ea5) f0 ⟨.inl (.inl [14]),[75],?_⟩;rw [e3];refine forR (λ c ρ μ2=>μ2=μ' /\ ∃ y8 y9 y10,ρ=[some (.tup [16]),some (.ref d),some (.ref a),some (.ref b),some (.ref pl),some (.int (r:Int)),some (.int (y1 - (r:Int) / 2)),some (.str (rowS ts x0 y1 r c)),y8,y9,y10]) (λ _=>trivial) ⟨rfl,_,_,_,rfl⟩ ?_ ?_
  ·rintro ρ μ2 ⟨rfl,y8,y9,y10,rfl⟩;dsimp only;refine app_l rfl rfl el ⟨by rw [uz0]; simp; omega,_,_,_,_,_,_,rfl,ex.upd hpl,?_⟩;rw [za0,range_succ];simp [sD]
  ·rintro c ρ μ2 hc ⟨rfl,y8,y9,y10,rfl⟩;show ixR (.ref a) (.int 0) μ2 (λ d μ1=>_);refine yd0 (ex _ _ ea5) f0 ⟨d2,?_⟩;dsimp only [List.set];refine so3 ?_;dsimp only [List.set]
   refine vo3 (b:=decide ((r:Int) % 2=0) && (decide ((c:Int) % 2=0) && decide ((x0 + (c:Int) / 2,y1 - (r:Int) / 2) ∈ yl0 ts))) (by
    intro K k;exact vd2 (λ K k=>md_l rfl k) (λ K k=>vd2 (λ K k=>md_l rfl k) (λ K k=>wh5 (p:=(x0 + (c:Int) / 2,y1 - (r:Int) / 2)) rfl rfl rfl (ex _ _ ed5) I.me k) k) k) ?_
   refine vo3 (b:=decide ((r:Int) % 2=0) && (decide ((c:Int) % 2=1) && decide ((x0 + (c:Int) / 2,y1 - (r:Int) / 2,0) ∈ ts))) (by
    intro K k;exact vd2 (λ K k=>md_l rfl k) (λ K k=>vd2 (λ K k=>md_l rfl k) (λ K k=>xi4 (x:=x0 + (c:Int) / 2) (y:=y1 - (r:Int) / 2) rfl (λ K k=>k) rfl k) k) k) ?_
   refine vo3 (b:=decide ((r:Int) % 2=1) && (decide ((c:Int) % 2=0) && decide ((x0 + (c:Int) / 2,y1 - (r:Int) / 2 - 1,1) ∈ ts))) (by
    intro K k;exact vd2 (λ K k=>md_l rfl k) (λ K k=>vd2 (λ K k=>md_l rfl k) (λ K k=>xi4 (x:=x0 + (c:Int) / 2) (y:=y1 - (r:Int) / 2 - 1) rfl (λ K k=>k) rfl k) k) k) ?_
   rw [xo3];refine ⟨?_,rfl,some (.int (c:Int)),some (.int (x0 + (c:Int) / 2)),some (.str ⟨#[sgc ts x0 y1 r c]⟩),?_⟩
   ·show (rowS ts x0 y1 r c).length + 1<=sizeLine;rw [ve1]; omega
   ·rw [zv2]; rfl
open Mt
def Asc (z:Str):Prop:=∀ c ∈ cp z,c < 128
theorem hex2:∀ c,c < 128->(Nat.toDigits 16 c).length<=2:=by decide +kernel
theorem vr3 {q c:Nat} (h:c < 128):(Builtin.Str.reprChar q c).length<=4:=by
 have:=hex2 c h;unfold Builtin.Str.reprChar
 (repeat' split) <;> simp <;> omega
theorem yo2 {f:Nat->Nat} {k:Nat}:∀ (l:[88]) (n:Nat),(∀ c ∈ l,f c<=k)->l.foldl (λ n c=>n + f c) n<=n + k * l.length
 | [],n,_=>by simp
 | c :: l,n,h=>by
  have:=yo2 (f:=f) (k:=k) l (n + f c) λ d hd=>h d (mem_cons_of_mem _ hd);have h2:=h c [65];rw [foldl_cons,length_cons,Nat.mul_succ];omega
theorem yw2 (h:Asc z) (hl:z.length<=640):(reprText z).length<=sizeLine:=by
 have:=yo2 (f:=λ c=>(Builtin.Str.reprChar (reprQuote z) c).length) (k:=4) (cp z) 2 λ c hc=>vr3 (h c hc);rw [<- reprLen_eq,<- Array.foldl_toList];have hz:(10000:Nat) < sizeLine:=by decide
 have e:(cp z).length=z.length:=(zc0 z).symm
 simp_all;omega
theorem xo2:∀ (l:[88]) (a n:Nat),(∀ d ∈ l,d < 10)->a < 10 ^ n->l.foldl (λ acc d=>acc * 10 + d) a < 10 ^ (n + l.length)
 | [],a,n,_,h=>by simpa using h
 | d :: l,a,n,hd,h=>by
  have h1:=hd d [65];have:=xo2 l (a * 10 + d) (n + 1) (λ e he=>hd e (mem_cons_of_mem _ he)) [5];rw [foldl_cons,length_cons,show n + (l.length + 1)=n + 1 + l.length by omega];exact this
theorem yn3 {p q:Array Nat × Bool} {c:Nat} (h:NumText.step 10 p c=some q) (hp:∀ d ∈ p.1.toList,d < 10):∀ d ∈ q.1.toList,d < 10:=by
 obtain ⟨ds,b⟩:=p;unfold NumText.step at h;revert h
 (repeat' split) <;> intro h
 all_goals first | cases h | skip
 all_goals (try (injection h with h; subst h))
 all_goals (try exact hp)
 all_goals
  intro d hd;simp at hd;rcases hd with hd | hd
  ·simp_all
  omega
theorem tr1:∀ {cs:[88]} {p q:Array Nat × Bool},cs.foldlM (NumText.step 10) p=some q->(∀ d ∈ p.1.toList,d < 10)->∀ d ∈ q.1.toList,d < 10
 | [],p,q,h,hp=>by simp_all
 | c :: cs,p,q,h,hp=>by
  rw [List.foldlM_cons] at h;cases e:NumText.step 10 p c with
  | none=>simp_all
  | some p'=>rw [e] at h; exact tr1 h (yn3 e hp)
theorem zz3 {cs:[88]} {ds:[76]} (h:NumText.digits? 10 cs=some ds):∀ d ∈ ds.toList,d < 10:=by
 unfold NumText.digits? at h;cases e:cs.foldlM (NumText.step 10) (#[],false) with
 | none=>simp_all
 | some q =>
  rw [e] at h;have:=tr1 e [17]
  simp_all
theorem ub5 {n:Int} (h:intText? z=some n):n.natAbs < 10 ^ z.length:=by
 unfold intText? at h;split at h
 ·split at h
  ·next ds e =>
   split at h
   ·injection h with h
    have a:=xo2 ds.toList 0 0 (zz3 e) [14];have b:=NumText.digits_size e;have c:=NumText.core_length (numSeenOf z);have d:=seen_length z;have f:10 ^ (0 + ds.toList.length)<=10 ^ z.length:=Nat.pow_le_pow_right [14] [57]
    have g:n.natAbs=ds.toList.foldl (λ acc d=>acc * 10 + d) 0:=by
     rw [<- h];unfold NumText.worth;split <;> simp
    omega
   ·cases h
  ·cases h
 ·cases h
theorem vv1 {n:Int} (h:intText? z=some n) (hl:z.length<=80):n.natAbs < 10 ^ 80:=Nat.lt_of_lt_of_le (ub5 h) (Nat.pow_le_pow_right [14] hl)
def xj4 (XE:XE3):Sp3:=λ ds μ Q=>∃ z:Str,ds=[.str z] /\ z.length<=80 /\ Asc z /\ (∀ n,intText? z=some n->Q (.int n) μ) /\ (intText? z=none->XE "BadNote" μ)
theorem tq4 (XE:XE3):RdQ (xj4 XE) (wg4 XE) tc4:=by
 rintro ds μ Q ⟨z,rfl,hl,ha,q,x⟩;refine ⟨⟨by omega,yw2 ha [5]⟩,?_⟩;cases e:intText? z with
 | some n=>exact q n e
 | none=>exact ⟨Z1,x e⟩
def CiV (l:Str):Option (Int × Int):=match Txt.split l " " with
 | [a,b]=>match intText? a,intText? b with
  | some x,some y=>some (x,y)
  | _,_=>none
 | _=>none
def yj4 (XE:XE3):Sp3:=λ ds μ Q=>∃ l:Str,ds=[.str l] /\ l.length<=80 /\ Asc l /\ ∀ μ',Ext μ μ'->(∀ x y,CiV l=some (x,y)->x.natAbs < 10 ^ 80->y.natAbs < 10 ^ 80->Q (encQ (x,y)) μ') /\ (CiV l=none->XE "BadNote" μ')
theorem ze3 {l a b:Str} (h:Txt.split l " " = [a,b]):cp l=cp a ++ 32 :: cp b:=by
 have:=StrLaws.join_split l " ";rw [h] at this;rw [<- this,wk0]; rfl
theorem wr4 (XE:XE3):RdQ (yj4 XE) (xh4 XE xj4) wd4:=by
 rintro ds μ Q ⟨l,rfl,hl,ha,q⟩;refine ⟨⟨by decide,by omega⟩,λ p hp=>?_⟩;have e1:updM μ p (.lst ((Txt.split l " ").map D.str)) p=some (.lst ((Txt.split l " ").map D.str)):=za0;have ex:Ext μ (updM μ p (.lst ((Txt.split l " ").map D.str))):=Ext.new hp;generalize updM μ p (.lst ((Txt.split l " ").map D.str))=μ1 at e1 ex;obtain ⟨q1,q2⟩:=q μ1 ex;unfold CiV at q1 q2
 conv=>whnf
 rw [e1];show ite ((!decide ((((Txt.split l " ").map D.str).length:Int)=2))=true) _ _;have t2:∀ a b,Txt.split l " " = [a,b]->cp l=cp a ++ 32 :: cp b:=λ a b h=>ze3 h;generalize Txt.split l " " = ms at e1 q1 q2 t2 ⊢
 match ms with
 | []=>exact ⟨Z1,q2 rfl⟩
 | [_]=>exact ⟨Z1,q2 rfl⟩
 | [a,b] =>
  have t:=t2 a b rfl
  have la:a.length<=80 /\ b.length<=80:=by
   have:=congrArg List.length t;rw [length_append,length_cons,<- zc0,<- zc0,<- zc0] at this;omega
  have aa:Asc a:=λ c hc=>ha c (by rw [t]; simp [hc]);have ab:Asc b:=λ c hc=>ha c (by rw [t]; simp [hc]);show ixR [66] (.int 0) μ1 (λ d μ1=>_);refine yd0 e1 rfl ⟨a,rfl,la.1,aa,λ x hx=>?_,λ hx=>?_⟩
  ·show ixR [66] (.int 1) μ1 (λ d μ1=>_);refine yd0 e1 rfl ⟨b,rfl,la.2,ab,λ y hy=>⟨z2,q1 x y (by simp only [hx,hy]) (vv1 hx la.1) (vv1 hy la.2)⟩,λ hy=>q2 (by simp only [hx,hy])⟩
  simp_all
 | u :: v :: w :: r =>
  have:(!decide ((((u :: v :: w :: r:List Str).map D.str).length:Int)=2))=true:=by simp; omega
  rw [if_pos this];exact ⟨Z1,q2 rfl⟩
open Mt
def shw (n:Nat) (p:Pt):List T3:=if n=45 then [(p.1,p.2,0)] else if n=124 then [(p.1,p.2 - 1,1)] else []
def vn3:Sp3:=λ ds μ Q=>∃ (n:Nat) (p:Pt),ds=[.str ⟨#[n]⟩,encQ p] /\ ∀ r μ',Ext μ μ'->μ r=none->μ' r=some (.lst ((shw n p).map encT))->Q (.ref r) μ'
theorem yh3 (n m:Nat):((⟨#[n]⟩:Str)=⟨#[m]⟩) ↔ n=m:=⟨λ h=>by simp_all,λ h=>by rw [h]⟩
theorem up4:RdQ vn3 zf4 ub4:=by
 rintro ds μ Q ⟨n,p,rfl,q⟩;unfold shw at q;show if decide ((⟨#[n]⟩:Str) = "-")=true then _ else _;by_cases c1:n=45
 ·rw [decide_eq_true (by rw [mns]; simp_all),if_pos rfl];rw [if_pos c1] at q;exact ⟨z3,Z1,λ r hr=>q r _ (Ext.new hr) hr za0⟩
 ·rw [decide_eq_false (λ h=>c1 ((yh3 _ _).mp [21])),if_neg [14]];rw [if_neg c1] at q;show if decide ((⟨#[n]⟩:Str) = "|")=true then _ else _;by_cases c2:n=124
  ·rw [decide_eq_true (by rw [brs]; simp_all),if_pos rfl];rw [if_pos c2] at q;exact ⟨z3,Z1,λ r hr=>q r _ (Ext.new hr) hr za0⟩
  ·rw [decide_eq_false (λ h=>c2 ((yh3 _ _).mp [21])),if_neg [14]];rw [if_neg c2] at q;exact ⟨Nat.zero_le _,λ r hr=>q r _ (Ext.new hr) hr za0⟩
def IsPic (L us:[50]):Prop:=us.Nodup /\ us.Pairwise le3 /\ ∀ x,x ∈ us ↔ x ∈ L
variable {L:[50]}
theorem IsPic.one {vs:[50]} (h:IsPic L us) (k:IsPic L vs):us=vs :=
 uniq ((List.perm_ext_iff_of_nodup h.1 k.1).mpr λ x=>(h.2.2 x).trans (k.2.2 x).symm) h.2.1 k.2.1
def spPw:Sp3:=λ ds μ Q=>∃ (g:Addr) (L ts:[50]),ds=[.ref g] /\ μ g=some (.lst (L.map encT)) /\ (∀ x ∈ L,x ∈ ts) /\ ts.length < 60 /\ ∀ (us:[50]) μ',Ext μ μ'->IsPic L us->Q (.tup (us.map encT)) μ'
theorem wq4:RdQ spPw xg4 wc4:=by
 rintro ds μ Q ⟨g,L,ts,rfl,hg,hs,hl,q⟩;refine ⟨L,hg,λ l nd hl'=>?_,λ ks nd mk us pm up r hr=>?_⟩
 ·have:=List.Nodup.length_le_of_subset nd λ x hx=>hs x (hl' x hx);omega
 ·exact xm3 za0 (q us _ (Ext.new hr) ⟨pm.nodup_iff.mpr nd,up,λ x=>(pm.mem_iff).trans (mk x)⟩)
def stk (c:Nat):Bool:=decide (c=45) || decide (c=124)
def colG (G:Nat->Nat->Nat->List T3) (r:Nat) (cs:[88]) (n:Nat):List T3:=(List.range n).flatMap λ c=>G r c (cs.getD c 0)
def rowA (rows:[35]) (r:Nat):List Nat:=cp (rows.getD r ⟨#[]⟩)
def allG (G:Nat->Nat->Nat->List T3) (rows:[35]) (n:Nat):List T3:=(List.range n).flatMap λ r=>colG G r [51] [51].length
theorem xh0 {f:Nat->List T3} (n:Nat):(List.range (n + 1)).flatMap f=(List.range n).flatMap f ++ f n:=by rw [range_succ,List.flatMap_append]; simp
theorem zo2 {f:Nat->List T3} {n m:Nat} (h:n<=m):((List.range n).flatMap f).length<=((List.range m).flatMap f).length:=by
 induction m with
 | zero=>simp_all
 | succ m ih =>
  by_cases c:n=m + 1
  ·simp_all
  ·have:=ih [5];rw [xh0,length_append]; omega
def G1 (G:Nat->Nat->Nat->List T3):Prop:=∀ r c n,(G r c n).length<=if stk n=true then 1 else 0
theorem uw1 {G:Nat->Nat->Nat->List T3} (hG:G1 G) (r:Nat) (cs:[88]):∀ n,n<=cs.length->(colG G r cs n).length<=(cs.take n).countP stk
 | 0,_=>by simp [colG]
 | n + 1,h=>by
  have ih:=uw1 hG r cs n [5];have h1:=hG r n (cs.getD n 0);have e:cs.getD n 0=cs[n]'(by omega):=by simp [List.getD,getElem?_eq_getElem (show n < cs.length by omega)]
  unfold colG at ih ⊢;rw [xh0,length_append,List.take_succ_eq_append_getElem [5],countP_append]
  simp_all;omega
def nS (rows:[35]):Nat:=(rows.map λ s=>(cp s).countP stk).sum
theorem tx1 {G:Nat->Nat->Nat->List T3} (hG:G1 G) (rows:[35]):∀ n,n<=rows.length->(allG G rows n).length<=nS (rows.take n)
 | 0,_=>by simp [allG,nS]
 | n + 1,h=>by
  have ih:=tx1 hG rows n [5];have e:rows.getD n ⟨#[]⟩=rows[n]'(by omega):=by simp [List.getD,getElem?_eq_getElem (show n < rows.length by omega)]
  have h1:=uw1 hG n (rowA rows n) (rowA rows n).length [18];rw [take_of_length_le [18]] at h1;have h2:rowA rows n=cp (rows[n]'(by omega)):=by unfold rowA; rw [e]
  unfold allG at ih ⊢;rw [xh0,length_append,List.take_succ_eq_append_getElem [5]];unfold nS at ih ⊢;rw [map_append,sum_append]
  simp_all;omega
theorem yu0 {G:Nat->Nat->Nat->List T3} (hG:G1 G) (rows:[35]):(allG G rows rows.length).length<=nS rows:=by
 have:=tx1 hG rows rows.length [18]
 simp_all
variable {r:Nat} {rows:[35]}
theorem uk2 {G:Nat->Nat->Nat->List T3} (hG:G1 G) {c:Nat} (hr:r < rows.length) (hc:c<=[51].length):(allG G rows r ++ colG G r [51] c).length<=nS rows:=by
 have h1:(allG G rows (r + 1)).length<=(allG G rows rows.length).length:=zo2 [5];have h2:allG G rows (r + 1)=allG G rows r ++ colG G r [51] [51].length:=xh0 r;have h3:(colG G r [51] c).length<=(colG G r [51] [51].length).length:=zo2 hc;have h4:=yu0 hG rows
 simp_all;omega
def Gp (x0 yt:Int) (r c n:Nat):List T3:=shw n (x0 + (c:Int) / 2,yt - (r:Int) / 2)
theorem Gp1 (x0 yt:Int):G1 (Gp x0 yt):=λ r c n=>by
 unfold Gp shw stk;by_cases a:n=45
 ·simp [a]
 ·by_cases b:n=124 <;> simp [a,b]
variable {q:Addr} {Q:VK3}
theorem ext_l {l m:List D} (h1:μ p=some (.lst l)) (h2:μ q=some (.lst m)) (hl:l.length + m.length<=sizeLine) (k:Q .non (updM μ p (.lst (l ++ m)))):extR [66] [.ref q] μ Q:=by
 simp only [extR,h1,h2];exact ⟨hl,k⟩
theorem su2 (hr:r < rows.length):(sD rows)[r]?=some (.str (rows.getD r ⟨#[]⟩)):=by
 simp [sD,getElem?_map,getElem?_eq_getElem hr,List.getD]
theorem vt0 (h:∀ s ∈ rows,s.length<=200) (r:Nat):(rows.getD r ⟨#[]⟩).length<=200:=by
 rw [List.getD];cases e:rows[r]? with
 | none=>simp [Str.length]
 | some s=>exact h s (mem_of_getElem? e)
theorem ze5 {s:Str} {c:Nat} (hc:c < (cp s).length):s.cps.toList[c]?=some ((cp s).getD c 0):=by
 simp_all
def spPi:Sp3:=λ ds μ Q=>∃ (q:Addr) (rows:[35]) (x0 y0:Int),ds=[.ref q,encQ (x0,y0)] /\ μ q=some (.lst (sD rows)) /\ rows.length<=200 /\ (∀ s ∈ rows,s.length<=200) /\ nS rows < 60 /\ ∀ (us:[50]) μ',Ext μ μ'->IsPic (allG (Gp x0 (y0 + (rows.length:Int) / 2)) rows rows.length) us->Q (.tup (us.map encT)) μ'
theorem vq4:RdQ spPi (yg4 spPw vn3) vc4:=by
 rintro ds μ Q ⟨q,rows,x0,y0,rfl,hq,hR,hC,hS,k⟩;have hz:(1048576:Nat) < sizeLine:=by decide
 have d2:(0:Int) < 2 /\ (2:Int) < 2 ^ 120:=[74];have ln:(sD rows).length=rows.length:=uz0 rows
 conv=>whnf
 rw [hq];refine ⟨d2,?_⟩;show zj0 spPw vn3 _ [some (.ref q),some (encQ (x0,y0)),some (.int (y0 + ((sD rows).length:Int) / 2)),none,none,none,none] μ;rw [ln];generalize hy:y0 + (rows.length:Int) / 2=yt at k;refine ⟨Nat.zero_le _,λ g hg=>?_⟩;have hq1:updM μ g (.lst []) q=some (.lst (sD rows)):=Ext.new hg _ _ hq;have hg1:updM μ g (.lst []) g=some (.lst []):=za0;have ex1:Ext μ (updM μ g (.lst [])):=Ext.new hg;generalize updM μ g (.lst [])=μ1 at hq1 hg1 ex1
 conv=>whnf
 rw [hq1];refine ⟨⟨by rw [ln]; omega,by rw [ln]; omega⟩,?_⟩;rw [Int.toNat_natCast,ln];refine forR (λ r ρ μ'=>∃ y4 y5 y6,ρ=[some (.ref q),some (encQ (x0,y0)),some (.int yt),some (.ref g),y4,y5,y6] /\ Ext μ μ' /\ μ' q=some (.lst (sD rows)) /\ μ' g=some (.lst ((allG (Gp x0 yt) rows r).map encT))) (λ _=>trivial) ⟨_,_,_,rfl,ex1,hq1,hg1⟩ ?_ ?_
 ·rintro ρ μ' ⟨y4,y5,y6,rfl,ex,_,eg⟩;have:=yu0 (Gp1 x0 yt) rows;exact ⟨g,_,_,rfl,eg,λ x hx=>hx,by omega,λ us μ2 ex2 ip=>k us μ2 (ex.trans ex2) ip⟩
 ·rintro r ρ μ' hr ⟨y4,y5,y6,rfl,ex,eq,eg⟩;have rl:=vt0 hC r;have rA:[51].length=(rows.getD r ⟨#[]⟩).length:=by rfl
  show ixR (.ref q) (.int (r:Int)) μ' (λ d μ1=>_);refine yd0 eq (yx1 (su2 hr)) ?_;refine ⟨by omega,⟨?_,?_⟩,?_⟩
  ·omega
  ·omega
  rw [Int.toNat_natCast,<- rA];refine forR (λ c ρ μ'=>∃ y5 y6,ρ=[some (.ref q),some (encQ (x0,y0)),some (.int yt),some (.ref g),some (.int (r:Int)),y5,y6] /\ Ext μ μ' /\ μ' q=some (.lst (sD rows)) /\ μ' g=some (.lst ((allG (Gp x0 yt) rows r ++ colG (Gp x0 yt) r [51] c).map encT))) (λ _=>trivial) ⟨_,_,rfl,ex,eq,by rw [eg]; simp [colG]⟩ ?_ ?_
  ·rintro ρ μ' ⟨y5,y6,rfl,ex,eq,eg⟩;refine ⟨_,_,_,rfl,ex,eq,?_⟩;rw [eg]; congr 3; exact (xh0 r).symm
  ·rintro c ρ μ' hc ⟨y5,y6,rfl,ex,eq,eg⟩;refine ⟨d2,d2,z2,?_⟩
   conv=>whnf
   rw [eg];show ixR (.ref q) (.int (r:Int)) μ' (λ d μ1=>_);refine yd0 eq (yx1 (su2 hr)) ?_;refine ⟨by omega,_,L2.atI_nat (ze5 [21]),?_⟩;refine ⟨_,(x0 + (c:Int) / 2,yt - (r:Int) / 2),rfl,λ p μ2 ex2 hp ep=>?_⟩;have l1:=uk2 (Gp1 x0 yt) hr (Nat.le_of_lt hc)
   have l3:(shw ((cp (rows.getD r ⟨#[]⟩)).getD c 0) (x0 + (c:Int) / 2,yt - (r:Int) / 2)).length<=1:=by
    have:=Gp1 x0 yt r c ((cp (rows.getD r ⟨#[]⟩)).getD c 0);unfold Gp at this;split at this <;> omega
   dsimp only [nil3];refine ext_l (ex2 _ _ eg) ep [57] ?_;refine ⟨_,_,rfl,λ a o ha=>?_,?_,?_⟩
   ·have nq:a ≠ g:=λ e=>by simp_all
    rw [ta0 nq];exact ex2 _ _ (ex _ _ ha)
   ·have nq:q ≠ g:=λ e=>by simp_all
    rw [ta0 nq];exact ex2 _ _ eq
   ·rw [za0,show colG (Gp x0 yt) r [51] (c + 1)=colG (Gp x0 yt) r [51] c ++ Gp x0 yt r c ([51].getD c 0) from xh0 c,<- List.append_assoc,map_append (l₁:=allG (Gp x0 yt) rows r ++ colG (Gp x0 yt) r [51] c)];rfl
open Mt
def colL (ts:[50]) (x0 y1 r:Int) (n:Nat):List T3:=(List.range n).flatMap λ c:Nat=>shw (sgc ts x0 y1 r c) (x0 + (c:Int) / 2,y1 - r / 2)
def allL (ts:[50]) (x0 y1:Int) (w n:Nat):List T3:=(List.range n).flatMap λ r:Nat=>colL ts x0 y1 r (2 * w + 1)
theorem zb3 (ts:[50]) (x0 y1 r:Int) (n:Nat):colL ts x0 y1 r (n + 1)=colL ts x0 y1 r n ++ shw (sgc ts x0 y1 r n) (x0 + (n:Int) / 2,y1 - r / 2):=by unfold colL; rw [range_succ,List.flatMap_append]; simp
theorem zd3 (ts:[50]) (x0 y1:Int) (w n:Nat):allL ts x0 y1 w (n + 1)=allL ts x0 y1 w n ++ colL ts x0 y1 n (2 * w + 1):=by unfold allL; rw [range_succ,List.flatMap_append]; simp
theorem wg2 {r c:Int} (h:s ∈ shw (sgc ts x0 y1 r c) (x0 + c / 2,y1 - r / 2)):s ∈ ts:=by
 unfold shw sgc at h;by_cases a:r % 2=0 /\ c % 2=0 /\ ts.any (has (x0 + c / 2,y1 - r / 2))=true
 ·simp_all
 ·rw [if_neg a] at h;by_cases b:r % 2=0 /\ c % 2=1 /\ (x0 + c / 2,y1 - r / 2,0) ∈ ts
  ·simp_all
  ·rw [if_neg b] at h;by_cases d:r % 2=1 /\ c % 2=0 /\ (x0 + c / 2,y1 - r / 2 - 1,1) ∈ ts
   ·simp_all
   simp_all
variable {h:Nat}
theorem zb4 (hw:∀ t ∈ ts,wy t) (bx:Bx ts x0 y0 x1 y1) (ew:x1 - x0=w) (eh:y1 - y0=h) (s:T3):s ∈ allL ts x0 y1 w (2 * h + 1) ↔ s ∈ ts:=by
 constructor
 ·intro hs;obtain ⟨r,_,hs⟩:=List.mem_flatMap.mp hs;obtain ⟨c,_,hs⟩:=List.mem_flatMap.mp hs;exact wg2 hs
 ·intro hs;obtain ⟨x,y,k⟩:=s;have a0:=bx.l0 _ hs;have a1:=bx.m0 _ hs;have a2:=bx.l1 _ hs;have a3:=bx.m1 _ hs;simp only [gx,gy] at a0 a1 a2 a3;rcases hw _ hs with e | e <;> dsimp only at e <;> subst e
  ·refine List.mem_flatMap.mpr ⟨(2 * (y1 - y)).toNat,List.mem_range.mpr [5],List.mem_flatMap.mpr ⟨(2 * (x - x0) + 1).toNat,List.mem_range.mpr [5],?_⟩⟩;have e1:(((2 * (y1 - y)).toNat:Nat):Int)=2 * (y1 - y):=by omega
   have e2:(((2 * (x - x0) + 1).toNat:Nat):Int)=2 * (x - x0) + 1:=by omega
   rw [e1,e2];have e3:x0 + (2 * (x - x0) + 1) / 2=x:=by omega
   have e4:y1 - 2 * (y1 - y) / 2=y:=by omega
   have sg:sgc ts x0 y1 (2 * (y1 - y)) (2 * (x - x0) + 1)=45:=by
    unfold sgc
    simp_all
   rw [sg,e3,e4];simp [shw]
  ·refine List.mem_flatMap.mpr ⟨(2 * (y1 - y) - 1).toNat,List.mem_range.mpr [5],List.mem_flatMap.mpr ⟨(2 * (x - x0)).toNat,List.mem_range.mpr [5],?_⟩⟩;have e1:(((2 * (y1 - y) - 1).toNat:Nat):Int)=2 * (y1 - y) - 1:=by omega
   have e2:(((2 * (x - x0)).toNat:Nat):Int)=2 * (x - x0):=by omega
   rw [e1,e2];have e3:x0 + 2 * (x - x0) / 2=x:=by omega
   have e4:y1 - (2 * (y1 - y) - 1) / 2=y + 1:=by omega
   have e5:y + 1 - 1=y:=by omega
   have sg:sgc ts x0 y1 (2 * (y1 - y) - 1) (2 * (x - x0))=124:=by
    unfold sgc
    simp_all
   rw [sg,e3,e4];simp [shw]
theorem zu1 (n:Int):10 ∉ cp (nsT n):=by
 by_cases h0:0<=n
 ·rw [xg1 h0];intro h;have:=xj0 _ _ h;omega
 ·rw [tn0 [5]];intro h;rcases List.mem_cons.mp h with h | h
  ·cases h
  ·have:=xj0 _ _ h;omega
theorem wb3 (x0 y0:Int):10 ∉ cp (cnl x0 y0):=by
 unfold cnl;rw [wk0];show 10 ∉ cp (nsT x0) ++ 32 :: cp (nsT y0);intro h;rcases List.mem_append.mp h with h | h
 ·exact zu1 _ h
 ·rcases List.mem_cons.mp h with h | h
  ·cases h
  ·exact zu1 _ h
theorem vv2 (ts:[50]) (x0 y1 r:Int) (w:Nat):10 ∉ cp (rowS ts x0 y1 r w):=by
 intro h;simp only [cp,rowS,mem_map] at h;obtain ⟨c,_,e⟩:=h;unfold sgc at e;split at e
 ·cases e
 ·split at e
  ·cases e
  ·split at e <;> cases e
theorem vg2 (ts:[50]) (x0 y0 y1:Int) (w h:Nat):∀ t ∈ cnl x0 y0 :: sd0 ts x0 y1 w h,10 ∉ cp t:=by
 intro t ht;rcases List.mem_cons.mp ht with rfl | ht
 ·exact wb3 _ _
 ·obtain ⟨r,_,rfl⟩:=List.mem_map.mp ht;exact vv2 _ _ _ _ _
theorem tm2:∀ l:List Str,(jm (l.map cp)).length<=(l.map (·.length)).sum + l.length
 | []=>Nat.le_refl _
 | [a]=>by simp [jm,zc0]
 | a :: b :: r=>by
  have:=tm2 (b :: r);have e:((a :: b :: r).map (·.length)).sum=(cp a).length + ((b :: r).map (·.length)).sum:=by rfl
  show (cp a ++ 10 :: jm ((b :: r).map cp)).length<=_
  simp_all;omega
theorem sg5 {G:Nat->Nat->Nat->List T3} (hG:∀ r c:Nat,r < 2 * h + 1->G r c (sgc ts x0 y1 r c)=shw (sgc ts x0 y1 r c) (x0 + (c:Int) / 2,y1 - (r:Int) / 2)):allG G (sd0 ts x0 y1 w h) (2 * h + 1)=allL ts x0 y1 w (2 * h + 1):=by
 have fc:∀ {n:Nat} {f g:Nat->List T3},(∀ i,i < n->f i=g i)->(List.range n).flatMap f=(List.range n).flatMap g:=λ {n} {f g} h=>by
  induction n with
  | zero=>rfl
  | succ n ih=>rw [xh0,xh0,ih λ i hi=>h i [5],h n [5]]
 unfold allG allL;refine fc λ r hr=>?_
 have e:rowA (sd0 ts x0 y1 w h) r=(List.range (2 * w + 1)).map λ c:Nat=>sgc ts x0 y1 r c:=by
  unfold rowA sd0;rw [List.getD,getElem?_map,List.getElem?_range hr];simp [rowS,cp]
 unfold colG colL
 simp_all
theorem sd1:Txt.split (up0 ts x0 y0 y1 w h) "\n" = cnl x0 y0 :: sd0 ts x0 y1 w h:=uv0 [17] (vg2 _ _ _ _ _ _)
theorem ue5 (g0:gd x0) (g1:gd y0):CiV (cnl x0 y0)=some (x0,y0):=by
 have hs:Txt.split (cnl x0 y0) " " = [nsT x0,nsT y0]:=xz0 [17] λ t ht=>by
  simp only [mem_cons,not_mem_nil,or_false] at ht;rcases ht with rfl | rfl <;> exact zl2 _
 unfold CiV;rw [hs];simp only [yu1 g0,yu1 g1]
def ShO (us:[50]) (z:Str):Prop:=(us=[] /\ z = "none") \/ (us ≠ [] /\ ∃ (x0 y0 y1:Int) (w h:Nat),Bw us x0 y0 y1 w h /\ z=up0 us x0 y0 y1 w h)
def Shd (P:[50]) (z:Str):Prop:=Pc P /\ gds P /\ P ≠ [] /\ ∃ (x0 y0 y1:Int) (w h:Nat),Bw P x0 y0 y1 w h /\ z=up0 P x0 y0 y1 w h
theorem bx_gd (bx:Bx ts x0 y0 x1 y1) (hg:gds ts):gd x0 /\ gd y0:=by
 obtain ⟨s,hs,rfl⟩:=bx.a0;obtain ⟨s',hs',rfl⟩:=bx.b0;exact ⟨(hg s hs).1,(hg s' hs').2⟩
variable {P:[50]}
theorem sg3 (hP:Pc P):P.Nodup /\ P.Pairwise le3:=⟨pc_nd hP,pc_up hP⟩
theorem ss0 (h:Shd P z):∃ (x0 y0:Int) (l0:Str) (rows:[35]),Txt.split z "\n" = l0 :: rows /\ CiV l0=some (x0,y0) /\ gd x0 /\ gd y0 /\ l0=cnl x0 y0 ∧
    ∀ G:Nat->Nat->Nat->List T3,(∀ r c n:Nat,r < rows.length->rows.length % 2=1->(n=45->r % 2=0)->(n=124->r % 2=1)->G r c n=Gp x0 (y0 + (rows.length:Int) / 2) r c n)->IsPic (allG G rows rows.length) P:=by
 obtain ⟨hP,hg,hn,x0,y0,y1,w,h,⟨x1,bx,ew,eh,w4,h4⟩,rfl⟩:=h;obtain ⟨g0,g1⟩:=bx_gd bx hg;refine ⟨x0,y0,_,_,sd1,ue5 g0 g1,g0,g1,rfl,λ G hG=>?_⟩;have rl:(sd0 P x0 y1 w h).length=2 * h + 1:=by simp [sd0]
 rw [rl] at hG ⊢;have ey:y0 + ((2 * h + 1:Nat):Int) / 2=y1:=by omega
 rw [ey] at hG;rw [sg5 (λ r c hr=>hG r c _ hr [5] ?_ ?_)]
 ·exact ⟨(sg3 hP).1,(sg3 hP).2,λ x=>(zb4 hP.2.1 bx ew eh x).symm⟩
 ·intro e;unfold sgc at e;by_cases a:(r:Int) % 2=0
  ·omega
  ·rw [if_neg (λ z=>a z.1),if_neg (λ z=>a z.1)] at e;split at e <;> cases e
 ·intro e;unfold sgc at e;by_cases a:(r:Int) % 2=1
  ·omega
  ·split at e
   ·cases e
   ·split at e
    ·cases e
    simp_all
def wj4:Sp3:=λ ds μ Q=>∃ (P:[50]) (z:Str),ds=[.str z,.tup (P.map encT)] /\ Pc P /\ gds P /\ ∀ μ',Ext μ μ'->(ShO P z->Q (.bl true) μ') /\ (¬ ShO P z->Q (.bl false) μ')
theorem xr4:RdQ wj4 (ug4 zn3) xd4:=by
 rintro ds μ Q ⟨P,z,rfl,hP,hg,q⟩;refine .inr ⟨P,rfl,hP,hg,λ c μ' ex=>?_,λ c x0 y0 x1 y1 μ' bx ex=>⟨λ wd=>?_,λ w h ew eh w4 h4=>?_⟩⟩
 ·show Q (.bl (decide (("none" : Str)=z))) μ';by_cases e:("none" : Str)=z
  ·rw [decide_eq_true e]; exact (q μ' ex).1 (.inl ⟨c,e.symm⟩)
  ·rw [decide_eq_false e]; exact (q μ' ex).2 λ o=>o.elim (λ o=>e o.2.symm) λ o=>o.1 c
 ·refine ⟨rfl,(q μ' ex).2 λ o=>?_⟩;rcases o with o | ⟨_,u0,v0,v1,w,h,⟨u1,bx',ew,eh,w4,h4⟩,_⟩
  ·exact c o.1
  ·obtain ⟨rfl,rfl,rfl,rfl⟩:=bx.one bx';omega
 ·show Q (.bl (decide (up0 P x0 y0 y1 w h=z))) μ';by_cases e:up0 P x0 y0 y1 w h=z
  ·rw [decide_eq_true e]; exact (q μ' ex).1 (.inr ⟨c,x0,y0,y1,w,h,⟨x1,bx,ew,eh,w4,h4⟩,e.symm⟩)
  ·rw [decide_eq_false e];refine (q μ' ex).2 λ o=>?_;rcases o with o | ⟨_,u0,v0,v1,w',h',⟨u1,bx',ew',eh',_,_⟩,e'⟩
   ·exact c o.1
   ·obtain ⟨rfl,rfl,rfl,rfl⟩:=bx.one bx';have f1:w'=w:=by omega
    have f2:h'=h:=by omega
    simp_all
structure Zok (z:Str):Prop where
 asc:Asc z
 len:z.length<=100000
 row:∀ l0 rows,Txt.split z "\n" = l0 :: rows->l0.length<=80 /\ rows.length<=200 /\ (∀ s ∈ rows,s.length<=200) /\ nS rows < 60
theorem yp1:∀ {ls:List (List Nat)} {a:[88]} {c:Nat},a ∈ ls->c ∈ a->c ∈ jm ls
 | [x],a,c,h,hc=>by rw [mem_singleton] at h; subst h; exact hc
 | x :: y :: r,a,c,h,hc=>by
  show c ∈ x ++ 10 :: jm (y :: r);rcases List.mem_cons.mp h with rfl | h
  ·simp [hc]
  ·have:=yp1 (ls:=y :: r) h hc;simp [this]
theorem zx1 {l:Str} (h:Asc z) (hl:l ∈ Txt.split z "\n"):Asc l:=λ c hc=>h c (by
 have:=StrLaws.join_split z "\n";rw [<- this,te0];exact yp1 (List.mem_map.mpr ⟨l,hl,rfl⟩) hc)
theorem ux1 {G:Nat->Nat->Nat->List T3} {n:Nat} (h:s ∈ allG G rows n):∃ r c m:Nat,r < n /\ c < [51].length /\ s ∈ G r c m:=by
 obtain ⟨r,hr,h⟩:=List.mem_flatMap.mp h;obtain ⟨c,hc,h⟩:=List.mem_flatMap.mp h;exact ⟨r,c,_,List.mem_range.mp hr,List.mem_range.mp hc,h⟩
theorem gp_ok {yt:Int} (hx:x.natAbs < 10 ^ 80) (hy:yt.natAbs < 10 ^ 80 + 300) (hR:rows.length<=200) (hC:∀ s ∈ rows,s.length<=200) (h:s ∈ allG (Gp x yt) rows rows.length):wy s /\ gd s.1 /\ gd s.2.1:=by
 obtain ⟨r,c,m,hr,hc,h⟩:=ux1 h;have l:=vt0 hC r;unfold rowA at hc;rw [<- zc0] at hc;have t:(10:Int) ^ 80 + 1000<=10 ^ 89:=by decide
 unfold Gp shw at h;unfold gd B wy;split at h
 ·rw [mem_singleton] at h; subst h;dsimp only;omega
 ·split at h
  ·rw [mem_singleton] at h; subst h;dsimp only;omega
  ·cases h
theorem ug3 (ip:IsPic L P) (hw:∀ s ∈ L,wy s) (hl:L.length < 60):Pc P:=by
 refine uw4 ip.1 (λ t ht=>hw t ((ip.2.2 t).mp ht)) ?_ (List.Perm.refl _) ip.2.1;exact Nat.lt_of_le_of_lt (List.Nodup.length_le_of_subset ip.1 λ x hx=>(ip.2.2 x).mp hx) hl
def si4 (XE:XE3):Sp3:=λ ds μ Q=>∃ z:Str,ds=[.str z] /\ Zok z /\ (z = "none" -> ∀ μ',Ext μ μ'->Q (.tup []) μ') /\ (z ≠ "none" -> (∀ P,Shd P z->∀ μ',Ext μ μ'->Q (.tup (P.map encT)) μ') /\ ((¬ ∃ P,Shd P z)->∀ μ',Ext μ μ'->XE "BadNote" μ'))
theorem zq4 (XE:XE3):RdQ (si4 XE) (sf4 XE yj4 wj4 spPi) zc4:=by
 rintro ds μ Q ⟨z,rfl,ok,q0,q1⟩;have hz:(1048576:Nat) < sizeLine:=by decide
 show if decide (z = "none")=true then _ else _;by_cases zn:z = "none"
 ·rw [decide_eq_true zn,if_pos rfl];exact ⟨Nat.zero_le _,q0 zn μ (Ext.refl _)⟩
 rw [decide_eq_false zn,if_neg [14]];obtain ⟨qs,qx⟩:=q1 zn;have zl:=ok.len;refine ⟨⟨by decide +kernel,by omega⟩,λ p hp=>?_⟩;have rd:=λ P (h:Shd P z)=>ss0 h;have al:=λ l hl=>zx1 (l:=l) ok.asc hl;have rw':=ok.row;have sp:=PyProof.Rows.split_pos z "\n";generalize Txt.split z "\n" = ls at rd al rw' sp ⊢;cases ls with
 | nil=>simp at sp
 | cons l0 rows =>
  obtain ⟨hl0,hR,hC,hS⟩:=rw' l0 rows rfl;have e1:updM μ p (.lst ((l0 :: rows).map D.str)) p=some (.lst (.str l0 :: sD rows)):=za0;have ex1:Ext μ (updM μ p (.lst ((l0 :: rows).map D.str))):=Ext.new hp;generalize updM μ p (.lst ((l0 :: rows).map D.str))=μ1 at e1 ex1
  conv=>whnf
  rw [e1];intro r hr
  have ct:cut3 (D.str l0 :: sD rows) (some 1) none=sD rows:=by
   unfold cut3 sIx3;simp
  rw [ct];have e2:updM μ1 r (.lst (sD rows)) r=some (.lst (sD rows)):=za0;have ex2:Ext μ1 (updM μ1 r (.lst (sD rows))):=Ext.new hr;have e3:=ex2 _ _ e1;generalize updM μ1 r (.lst (sD rows))=μ2 at e2 ex2 e3;show ixR [66] (.int 0) μ2 (λ d μ1=>_);refine yd0 e3 atI0 ⟨l0,rfl,hl0,al l0 [65],λ μ3 ex3=>⟨λ x y ci bx by'=>?_,λ ci=>?_⟩⟩
  ·refine ⟨r,rows,x,y,rfl,ex3 _ _ e2,hR,hC,hS,λ P μ4 ex4 ip=>?_⟩;have E4:=ex1.trans (ex2.trans (ex3.trans ex4));have gp:=λ s hs=>gp_ok (yt:=y + (rows.length:Int) / 2) bx [5] hR hC (s:=s) hs;have hP:Pc P:=ug3 ip (λ s hs=>(gp s hs).1) (Nat.lt_of_le_of_lt (yu0 (Gp1 _ _) rows) hS);have hg:gds P:=λ s hs=>(gp s ((ip.2.2 s).mp hs)).2
   have uq:∀ P',Shd P' z->P'=P:=λ P' h=>by
    obtain ⟨x',y',l',rows',e,ci',_,_,_,hG⟩:=rd P' h;injection e with e5 e6
    subst e5 e6;rw [ci] at ci';injection ci' with ci'
    injection ci' with e7 e8
    subst e7 e8;exact (hG _ λ _ _ _ _ _ _ _=>rfl).one ip
   refine ⟨P,z,rfl,hP,hg,λ μ5 ex5=>⟨λ o=>?_,λ o=>?_⟩⟩
   ·rcases o with o | o
    ·exact absurd o.2 zn
    ·exact qs P ⟨hP,hg,o.1,o.2⟩ μ5 (E4.trans ex5)
   ·refine ⟨Z1,qx (λ ⟨P',h⟩=>o ?_) μ5 (E4.trans ex5)⟩;have:=uq P' h;subst this;exact .inr h.2.2
  ·refine qx (λ ⟨P',h⟩=>?_) μ3 (ex1.trans (ex2.trans ex3));obtain ⟨x',y',l',rows',e,ci',_⟩:=rd P' h
   simp_all
open Mt
def bare (l:[88]):List Nat:=match l with
 | 45 :: t=>t
 | l=>l
def BOK (l:[88]):Prop:=l ≠ [] /\ l.length<=25 /\ NumText.AllDigits l
theorem zw3:∀ c,c < 128->(Builtin.Str.occurrences "0123456789" (⟨#[c]⟩:Str) 0 ("0123456789" : Str).length 1).isEmpty = !(decide (48<=c) && decide (c<=57)):=by decide +kernel
def spLn:Sp3:=λ ds μ Q=>∃ z:Str,ds=[.str z] /\ Asc z /\ z.length<=640 /\ ∀ μ',Ext μ μ'->(BOK (bare (cp z))->∀ n,intText? z=some n->Q (.int n) μ') /\ (¬ BOK (bare (cp z))->Q .non μ')
theorem sc3 (h:BOK (bare (cp z))) (hl:z.length<=640):∃ n,intText? z=some n:=by
 obtain ⟨h1,h2,h3⟩:=h;by_cases c:∃ t,cp z=45 :: t
 ·obtain ⟨t,e⟩:=c;rw [e] at h1 h3;exact ⟨_,intText_neg e h3 h1 [5]⟩
 ·have e:bare (cp z)=cp z:=by
    unfold bare
    simp_all
  rw [e] at h1 h3;exact ⟨_,intText_digits h3 h1 [5]⟩
theorem xm2 {b:Str} (hb:cp b=bare (cp z)) (ha:Asc b) (hl:z.length<=640) (hbl:b.length<=640) (q:∀ μ',Ext μ μ'->(BOK (bare (cp z))->∀ n,intText? z=some n->Q (.int n) μ') /\ (¬ BOK (bare (cp z))->Q .non μ')) :
    (seq3 (ifs3 (or3 (b3 (o3 eqR (v3 1) (c3 (.str "")))) (or3 (b3 (o3 gtR (wa0 lenR [55]) (c3 (.int 25)))) (b3 (o3 gtR (wa0 lenR (xa0 (xe0 [none] (ist3 (v3 1)) (gn3 0) (b3 (o3 ninR (v3 0) (c3 (.str "0123456789")))) (v3 0)) nil3)) [12])))) (ret3 (c3 .non)) zb0) (ret3 (wa0 intR [52]))) { nx:=λ _ μ'=>Q .non μ',rt:=Q } [some (.str z),some (.str b)] μ:=by
 have hz:(10000:Nat) < sizeLine:=by decide
 rw [<- hb] at q
 have fin:∀ μ',Ext μ μ'->BOK (cp b)->(ret3 (wa0 intR [52])) { nx:=λ _ μ'=>Q .non μ',rt:=Q } [some (.str z),some (.str b)] μ':=λ μ' ex h=>by
  obtain ⟨n,e⟩:=sc3 (z:=z) [36] hl;show intR [.str z] μ' Q;simp only [intR,e]
  simp_all
 show if decide (b = "")=true then _ else _;by_cases c1:b = ""
 ·rw [decide_eq_true c1,if_pos rfl];refine (q μ (Ext.refl _)).2 λ h=>h.1 ?_;rw [c1]; decide +kernel
 rw [decide_eq_false c1,if_neg [14]];refine ⟨by omega,?_⟩;show if decide ((25:Int) < (b.length:Int))=true then _ else _;by_cases c2:(25:Int) < (b.length:Int)
 ·rw [decide_eq_true c2,if_pos rfl];refine (q μ (Ext.refl _)).2 λ h=>?_;have:=h.2.1;rw [<- zc0] at this;omega
 rw [decide_eq_false c2,if_neg [14]];intro p hp;refine yb3 (rest:=[]) (λ d=>match d with | .str y=>!(decide (48<=(cp y).headD 0) && decide ((cp y).headD 0<=57)) | _=>false) hp (by rw [length_map]; show (cp b).length<=_; rw [<- zc0]; omega) (λ _ _=>trivial) ?_ ?_
 ·intro x hx μ' R ex kk;obtain ⟨c,hc,rfl⟩:=List.mem_map.mp hx;have e:=zw3 c (ha c hc);show R (!(!(Builtin.Str.occurrences "0123456789" (⟨#[c]⟩:Str) 0 ("0123456789" : Str).length 1).isEmpty)) μ';rw [e,Bool.not_not];exact kk
 ·intro μ' ex e;dsimp only [nil3];refine len_l e ?_
  have el:(((cp b).map λ c=>D.str ⟨#[c]⟩).filter (λ d=>match d with | .str y=>!(decide (48<=(cp y).headD 0) && decide ((cp y).headD 0<=57)) | _=>false)).length=((cp b).filter λ c=>!(decide (48<=c) && decide (c<=57))).length:=by
   rw [List.filter_map,length_map]; rfl
  show if decide ((0:Int) < ((((cp b).map λ c=>D.str ⟨#[c]⟩).filter _).length:Int))=true then _ else _;rw [el];by_cases c3':(0:Int) < (((cp b).filter λ c=>!(decide (48<=c) && decide (c<=57))).length:Int)
  ·rw [decide_eq_true c3',if_pos rfl];refine (q μ' ex).2 λ h=>?_;obtain ⟨c,hc⟩:=List.exists_mem_of_length_pos (show 0 < ((cp b).filter λ c=>!(decide (48<=c) && decide (c<=57))).length by omega);obtain ⟨h1,h2⟩:=List.mem_filter.mp hc;have:=h.2.2 c h1
   simp_all
  ·rw [decide_eq_false c3',if_neg [14]];refine fin μ' ex ⟨λ e=>c1 (wh0 [21]),by rw [<- zc0]; omega,λ c hc=>?_⟩
   simp_all
theorem cut1 (l:[88]):cut3 l none (some 1)=l.take 1:=by
 unfold cut3 sIx3;cases l <;> simp
theorem cut2 (l:[88]):cut3 l (some 1) none=l.drop 1:=by
 unfold cut3 sIx3;cases l <;> simp
theorem sk5:RdQ spLn t_q8 N_q8:=by
 rintro ds μ Q ⟨z,rfl,ha,hl,q⟩;have hz:(10000:Nat) < sizeLine:=by decide
 refine ⟨by omega,?_⟩;show if decide ((⟨(cut3 (cp z) none (some 1)).toArray⟩:Str) = "-")=true then _ else _;rw [cut1,mns];by_cases c:(⟨((cp z).take 1).toArray⟩:Str)=⟨#[45]⟩
 ·rw [decide_eq_true c,if_pos rfl];refine ⟨by omega,?_⟩
  obtain ⟨t,e⟩:∃ t,cp z=45 :: t:=by
   have:(cp z).take 1=[45]:=congrArg cp c;cases e:cp z with
   | nil=>simp_all
   | cons a t=>simp_all
  have e2:(⟨(cut3 (cp z) (some 1) none).toArray⟩:Str)=⟨t.toArray⟩:=by rw [cut2,e]; rfl
  show (seq3 _ _) _ [some (.str z),some (.str ⟨(cut3 (cp z) (some 1) none).toArray⟩)] μ;rw [e2];have lt:t.length + 1=z.length:=by rw [zc0,e]; rfl
  exact xm2 (by rw [e]; rfl) (λ c hc=>ha c [36]) hl (by show t.toArray.size<=640; simp_all;omega) q
 ·rw [decide_eq_false c,if_neg [14]];refine xm2 ?_ ha hl hl q;unfold bare;split
  ·simp_all
  ·rfl
open Mt
def Gl (x y:Int) (R:Nat) (r c n:Nat):List T3:=if n=45 then [(x + (c:Int) / 2,y + ((R:Int) - 1 - r) / 2,0)] else if n=124 then [(x + (c:Int) / 2,y + ((R:Int) - 1 - r) / 2,1)] else []
theorem Gl1 (x y:Int) (R:Nat):G1 (Gl x y R):=λ r c n=>by
 unfold Gl stk;by_cases a:n=45
 ·simp [a]
 ·by_cases b:n=124 <;> simp [a,b]
theorem Gl_p {R c n:Nat} (hr:r < R) (ho:R % 2=1) (h1:n=45->r % 2=0) (h2:n=124->r % 2=1):Gl x y R r c n=Gp x (y + (R:Int) / 2) r c n:=by
 unfold Gl Gp shw;by_cases a:n=45
 ·simp_all;omega
 ·rw [if_neg a,if_neg a];by_cases b:n=124
  ·simp_all;omega
  simp_all
def dgt (c:Nat):Bool:=decide (48<=c) && decide (c<=57)
structure Zdk (z:Str):Prop where
 ok:Zok z
 row2:∀ l0 rows,Txt.split z "\n" = l0 :: rows->rows.length<=78 /\ (∀ s ∈ rows,s.length<=78) /\ nS rows < 30
 dig:(cp z).countP dgt<=25
theorem zm3 {c:Nat} {K:Bool->Mu->Prop} {s:Str} (h5:getI ρ 5=some (.ref q)) (h7:getI ρ 7=some (.int (r:Int))) (h8:getI ρ 8=some (.int (c:Int))) (hq:μ q=some (.lst (sD rows))) (hr:r < rows.length) (hc:c < [51].length) (hl:(rows.getD r ⟨#[]⟩).length<=200) (k:K (decide ((⟨#[[51].getD c 0]⟩:Str)=s)) μ):b3 (o3 eqR (o3 sixR (o3 ixR (v3 5) (v3 7)) (v3 8)) (c3 (.str s))) ρ μ K:=by
 have hz:(10000:Nat) < sizeLine:=by decide
 unfold b3 o3 v3 c3;rw [h5,h7,h8];refine yd0 hq (yx1 (su2 hr)) ?_;exact ⟨by omega,_,L2.atI_nat (ze5 hc),k⟩
variable {g:Addr}
theorem tg5 {b k:Int} {c:Nat} (h3:getI ρ 3=some (.int x)) (h6:getI ρ 6=some (.ref g)) (h8:getI ρ 8=some (.int (c:Int))) (h9:getI ρ 9=some (.int b)) (hg:μ g=some (.lst (L.map encT))) (hl:L.length < 1000) (kk:D'.nx ρ (updM μ g (.lst ((L ++ [(x + (c:Int) / 2,b,k)]).map encT)))) :
    yo0 (mt3 appR (v3 6) (xa0 (tup3 (xa0 (o3 addR (v3 3) (o3 wg0 (v3 8) [30])) (xa0 (v3 9) (xa0 (c3 (.int k)) nil3)))) nil3)) D' ρ μ:=by
 have hz:(10000:Nat) < sizeLine:=by decide
 unfold yo0 mt3 xa0 v3 nil3 tup3 o3 c3;rw [h6];dsimp only;rw [hg];dsimp only;simp only [h3,h8,h9];refine ⟨[74],z3,?_⟩;simp only [appR,hg];refine ⟨by simp_all;omega,?_⟩;rw [map_append] at kk;exact kk
abbrev vi4:TS3:=(seq3 (ifs3 (b3 (o3 eqR (o3 sixR (o3 ixR (v3 5) (v3 7)) (v3 8)) (c3 (.str "-")))) (yo0 (mt3 appR (v3 6) (xa0 (tup3 (xa0 (o3 addR (v3 3) (o3 wg0 (v3 8) [30])) (xa0 (v3 9) (xa0 [12] nil3)))) nil3))) zb0) (ifs3 (b3 (o3 eqR (o3 sixR (o3 ixR (v3 5) (v3 7)) (v3 8)) (c3 (.str "|")))) (yo0 (mt3 appR (v3 6) (xa0 (tup3 (xa0 (o3 addR (v3 3) (o3 wg0 (v3 8) [30])) (xa0 (v3 9) (xa0 [9] nil3)))) nil3))) zb0))
abbrev wi5:TS3:=seq3 (set3 9 (o3 addR (v3 4) (o3 wg0 (o3 subR (o3 subR (wa0 lenR (xa0 (v3 5) nil3)) [9]) (v3 7)) [30]))) vi4
theorem wa3 {o9 o10:Option D} {c:Nat} (hq:μ q=some (.lst (sD rows))) (hg:μ g=some (.lst (L.map encT))) (hqg:q ≠ g) (hr:r < rows.length) (hc:c < [51].length) (hC:∀ s ∈ rows,s.length<=200) (hl:L.length < 900)
    (k:∀ o9 μ',(∀ a,a ≠ g->μ' a=μ a)->μ' g=some (.lst ((L ++ Gl x y rows.length r c ([51].getD c 0)).map encT))->D'.nx [o0,o1,o2,some (.int x),some (.int y),some (.ref q),some (.ref g),some (.int (r:Int)),some (.int (c:Int)),o9,o10] μ') :
    wi5 D' [o0,o1,o2,some (.int x),some (.int y),some (.ref q),some (.ref g),some (.int (r:Int)),some (.int (c:Int)),o9,o10] μ:=by
 have hl2:=vt0 hC r
 conv=>whnf
 rw [hq];refine ⟨[74],?_⟩;rw [uz0];show vi4 D' [o0,o1,o2,some (.int x),some (.int y),some (.ref q),some (.ref g),some (.int (r:Int)),some (.int (c:Int)),some (.int (y + ((rows.length:Int) - 1 - r) / 2)),o10] μ;have E:=λ (s:Str) (n:Nat) (e:s=⟨#[n]⟩)=>show decide ((⟨#[[51].getD c 0]⟩:Str)=s)=decide ([51].getD c 0=n) by simp_all
 have E1:=E "-" 45 mns;have E2:=E "|" 124 brs;unfold Gl at k;refine if_n (b:=decide ([51].getD c 0=45)) (λ K kk=>zm3 rfl rfl rfl hq hr hc hl2 (by rw [E1]; exact kk)) (λ e=>?_) (λ e=>?_)
 ·have e1:=of_decide_eq_true e;refine tg5 rfl rfl rfl rfl hg [5] ?_;have hq2:updM μ g (.lst ((L ++ [(x + (c:Int) / 2,y + ((rows.length:Int) - 1 - r) / 2,0)]).map encT)) q=some (.lst (sD rows)):=by rw [ta0 hqg]; exact hq
  refine zm3 (ρ:=[o0,o1,o2,some (.int x),some (.int y),some (.ref q),some (.ref g),some (.int (r:Int)),some (.int (c:Int)),some (.int (y + ((rows.length:Int) - 1 - r) / 2)),o10]) rfl rfl rfl hq2 hr hc hl2 ?_;rw [E2,e1];show D'.nx _ _;rw [if_pos e1] at k;exact k _ _ (λ a ha=>ta0 ha) za0
 ·have e1:=of_decide_eq_false e;refine zm3 (ρ:=[o0,o1,o2,some (.int x),some (.int y),some (.ref q),some (.ref g),some (.int (r:Int)),some (.int (c:Int)),some (.int (y + ((rows.length:Int) - 1 - r) / 2)),o10]) rfl rfl rfl hq hr hc hl2 ?_;rw [E2];rw [if_neg e1] at k;by_cases e2:[51].getD c 0=124
  ·rw [decide_eq_true e2,if_pos rfl];rw [if_pos e2] at k;exact tg5 rfl rfl rfl rfl hg [5] (k _ _ (λ a ha=>ta0 ha) za0)
  ·rw [decide_eq_false e2,if_neg [14]];rw [if_neg e2,append_nil] at k;exact k _ _ (λ a ha=>rfl) hg
theorem wl1 (f:T3->Int):∀ {ts:[50]},ts ≠ []->∃ s ∈ ts,∀ t ∈ ts,f s<=f t
 | [],h=>absurd rfl h
 | [s],_=>⟨s,by simp,λ t ht=>by simp_all⟩
 | s :: u :: r,_=>by
  obtain ⟨v,hv,hm⟩:=wl1 f (ts:=u :: r) [17];by_cases c:f s<=f v
  ·refine ⟨s,by simp,λ t ht=>?_⟩;rcases List.mem_cons.mp ht with rfl | ht
   ·exact Int.le_refl _
   ·have:=hm t ht; omega
  ·refine ⟨v,mem_cons_of_mem _ hv,λ t ht=>?_⟩;rcases List.mem_cons.mp ht with rfl | ht
   ·omega
   ·exact hm t ht
theorem yg5 (hn:P ≠ []) (hw:∀ s ∈ P,wy s) (hb:∀ s ∈ P,x<=s.1 /\ gx s<=x + 39 /\ y<=s.2.1 /\ gy s<=y + 39):∃ (x0 y0 y1:Int) (w h:Nat),Bw P x0 y0 y1 w h:=by
 obtain ⟨s1,a1,b1⟩:=wl1 (λ s=>s.1) hn;obtain ⟨s2,a2,b2⟩:=wl1 (λ s=>s.2.1) hn;obtain ⟨s3,a3,b3'⟩:=wl1 (λ s=>-gx s) hn;obtain ⟨s4,a4,b4⟩:=wl1 (λ s=>-gy s) hn;have c1:=hb s1 a1; have c2:=hb s2 a2; have c3':=hb s3 a3; have c4:=hb s4 a4
 have d1:s1.1<=gx s3:=by
  have:=b1 s3 a3; have:=hw s3 a3;unfold gx; unfold wy at this; omega
 have d2:s2.2.1<=gy s4:=by
  have:=b2 s4 a4; have:=hw s4 a4;unfold gy; unfold wy at this; omega
 refine ⟨s1.1,s2.2.1,gy s4,(gx s3 - s1.1).toNat,(gy s4 - s2.2.1).toNat,gx s3,⟨⟨s1,a1,rfl⟩,b1,⟨s2,a2,rfl⟩,b2,⟨s3,a3,rfl⟩,λ s hs=>?_,⟨s4,a4,rfl⟩,λ s hs=>?_⟩,by omega,by omega,by omega,by omega⟩
 ·simp_all
 simp_all
theorem sb5 (hx:x.natAbs < 10 ^ 80) (hy:y.natAbs < 10 ^ 80) (hR:rows.length<=78) (hC:∀ s ∈ rows,s.length<=78) (h:s ∈ allG (Gl x y rows.length) rows rows.length):wy s /\ (gd s.1 /\ gd s.2.1) /\ x<=s.1 /\ gx s<=x + 39 /\ y<=s.2.1 /\ gy s<=y + 39:=by
 obtain ⟨r,c,m,hr,hc,h⟩:=ux1 h
 have l:(rows.getD r ⟨#[]⟩).length<=78:=by
  simp_all
 unfold rowA at hc;rw [<- zc0] at hc;have t:(10:Int) ^ 80 + 1000<=10 ^ 89:=by decide
 unfold Gl at h;unfold gd B wy gx gy;split at h
 ·rw [mem_singleton] at h; subst h;dsimp only;omega
 ·split at h
  ·rw [mem_singleton] at h; subst h;dsimp only;omega
  ·cases h
theorem due_7 (hq:μ q=some (.lst (sD rows))) (hg:μ g=some (.lst [])) (hqg:q ≠ g) (hx:x.natAbs < 10 ^ 80) (hy:y.natAbs < 10 ^ 80) (hR:rows.length<=78) (hC:∀ s ∈ rows,s.length<=78) (hS:nS rows < 30) (zn:z ≠ "none")
    (uq:∀ P,Shd P z->IsPic (allG (Gl x y rows.length) rows rows.length) P) (qs:∀ P,Shd P z->∀ μ',Q (.tup (P.map encT)) μ') (qn:(¬ ∃ P,Shd P z)->∀ μ',Q .non μ') :
    zn0 spLn ti1 { nx:=λ _ μ'=>Q .non μ',rt:=Q } [some (.str z),o1,o2,some (.int x),some (.int y),some (.ref q),some (.ref g),none,none,none,none] μ:=by
 have hz:(1048576:Nat) < sizeLine:=by decide
 have hC2:∀ s ∈ rows,s.length<=200:=λ s hs=>Nat.le_trans (hC s hs) [14];have ln:(sD rows).length=rows.length:=uz0 rows
 conv=>whnf
 rw [hq];refine ⟨⟨by rw [ln]; omega,by rw [ln]; omega⟩,?_⟩;rw [Int.toNat_natCast,ln];refine forR (λ r ρ μ'=>∃ y7 y8 y9,ρ=[some (.str z),o1,o2,some (.int x),some (.int y),some (.ref q),some (.ref g),y7,y8,y9,none] /\ μ' q=some (.lst (sD rows)) /\ μ' g=some (.lst ((allG (Gl x y rows.length) rows r).map encT))) (λ _=>trivial) ⟨_,_,_,rfl,hq,hg⟩ ?_ ?_
 ·rintro ρ μ' ⟨y7,y8,y9,rfl,_,eg⟩;have al:=yu0 (Gl1 x y rows.length) rows;refine ⟨_,eg,λ l nd hl'=>?_,λ ks nd mk us pm up r hr=>?_⟩
  ·have:=List.Nodup.length_le_of_subset nd λ x hx=>hl' x hx;omega
  dsimp only [nil3];refine xm3 za0 ?_;have ip:IsPic (allG (Gl x y rows.length) rows rows.length) us:=⟨pm.nodup_iff.mpr nd,up,λ x=>(pm.mem_iff).trans (mk x)⟩;have gp:=λ s (hs:s ∈ us)=>sb5 hx hy hR hC ((ip.2.2 s).mp hs);have hP:Pc us:=ug3 ip (λ s hs=>(sb5 hx hy hR hC hs).1) [5];have hgs:gds us:=λ s hs=>(gp s hs).2.1;have one:∀ P,Shd P z->P=us:=λ P h=>(uq P h).one ip;show vh0 spLn ti1 _ [some (.str z),o1,o2,some (.int x),some (.int y),some (.ref q),some (.ref g),y7,y8,y9,some (.tup (us.map encT))] _;unfold vh0;dsimp only [seq3,ifs3,or3];refine tc5 rfl ?_;by_cases c:us=[]
  ·rw [decide_eq_true c,if_pos rfl];exact qn (λ ⟨P,h⟩=>h.2.2.1 (by rw [one P h]; exact c)) _
  rw [decide_eq_false c,if_neg [14]];obtain ⟨x0,y0,y1,w,h,bw⟩:=yg5 (x:=x) (y:=y) c hP.2.1 λ s hs=>(gp s hs).2.2;refine ⟨us,rfl,hP.2.1,hgs,?_,λ e=>absurd e c,λ _=>⟨x0,y0,y1,w,h,bw,λ μ2 ex2=>?_⟩⟩
  ·exact Nat.lt_of_le_of_lt (List.Nodup.length_le_of_subset ip.1 λ x hx=>(ip.2.2 x).mp hx) [5]
  show ite ((!decide (up0 us x0 y0 y1 w h=z))=true) _ _;by_cases e:up0 us x0 y0 y1 w h=z
  ·rw [decide_eq_true e,if_neg [14]];exact qs us ⟨hP,hgs,c,x0,y0,y1,w,h,bw,e.symm⟩ μ2
  ·rw [decide_eq_false e,if_pos (show (!false)=true from rfl)];refine qn (λ ⟨P,hh⟩=>e ?_) μ2;have e1:=one P hh;subst e1;obtain ⟨_,_,_,u0,v0,v1,w',h',⟨u1,bx',ew',eh',_,_⟩,e'⟩:=hh;obtain ⟨x1,bx,ew,eh,_,_⟩:=bw;obtain ⟨rfl,rfl,rfl,rfl⟩:=bx.one bx';have f1:w'=w:=by omega
   have f2:h'=h:=by omega
   simp_all
 ·rintro r ρ μ' hr ⟨y7,y8,y9,rfl,eq,eg⟩;have rl:=vt0 hC2 r;have rA:[51].length=(rows.getD r ⟨#[]⟩).length:=by rfl
  show ixR (.ref q) (.int (r:Int)) μ' (λ d μ1=>_);refine yd0 eq (yx1 (su2 hr)) ?_;refine ⟨by omega,⟨?_,?_⟩,?_⟩
  ·omega
  ·omega
  rw [Int.toNat_natCast,<- rA];refine forR (λ c ρ μ'=>∃ y8 y9,ρ=[some (.str z),o1,o2,some (.int x),some (.int y),some (.ref q),some (.ref g),some (.int (r:Int)),y8,y9,none] /\ μ' q=some (.lst (sD rows)) /\ μ' g=some (.lst ((allG (Gl x y rows.length) rows r ++ colG (Gl x y rows.length) r [51] c).map encT))) (λ _=>trivial) ⟨_,_,rfl,eq,by rw [eg]; simp [colG]⟩ ?_ ?_
  ·rintro ρ μ' ⟨y8,y9,rfl,eq,eg⟩;refine ⟨_,_,_,rfl,eq,?_⟩;rw [eg]; congr 3; exact (xh0 r).symm
  ·rintro c ρ μ' hc ⟨y8,y9,rfl,eq,eg⟩;have l1:=uk2 (Gl1 x y rows.length) hr (Nat.le_of_lt hc);refine wa3 eq eg hqg hr hc hC2 [5] λ o9 μ2 hk e2=>⟨_,_,rfl,by simp_all,?_⟩;rw [e2,show colG (Gl x y rows.length) r [51] (c + 1)=colG (Gl x y rows.length) r [51] c ++ Gl x y rows.length r c ([51].getD c 0) from xh0 c,<- List.append_assoc]
open Mt
theorem ts2 (n:Int):bare (cp (nsT n))=dg n.natAbs:=by
 by_cases h0:0<=n
 ·have e:n.toNat=n.natAbs:=by omega
  rw [xg1 h0,e];unfold bare;split
  ·next t e =>
   have:=xj0 n.natAbs 45 (by rw [e]; simp);omega
  ·rfl
 ·rw [tn0 [5]]; rfl
theorem ve5 {l:[88]} (h:NumText.AllDigits l):l.countP dgt=l.length:=by
 refine List.countP_eq_length.mpr λ c hc=>?_;have:=h c hc;unfold dgt;simp; omega
theorem zg5 (hs:Txt.split z "\n" = cnl x0 y0 :: rows) (hd:(cp z).countP dgt<=25):BOK (bare (cp (nsT x0))) /\ BOK (bare (cp (nsT y0))):=by
 have hz:=StrLaws.join_split z "\n";rw [hs] at hz
 have sub:∀ p:Nat->Bool,(cp (cnl x0 y0)).countP p<=(cp z).countP p:=λ p=>by
  rw [<- hz,te0];cases rows with
  | nil=>exact Nat.le_refl _
  | cons a r =>
   show _<=(cp (cnl x0 y0) ++ 10 :: jm ((a :: r).map cp)).countP p;simp
 have h1:=sub dgt;have e:cp (cnl x0 y0)=cp (nsT x0) ++ 32 :: cp (nsT y0):=by unfold cnl; rw [wk0]; rfl
 rw [e,countP_append,countP_cons] at h1
 have cn:∀ n:Int,(dg n.natAbs).length<=(cp (nsT n)).countP dgt:=λ n=>by
  have c1:=ve5 (xj0 n.natAbs);by_cases h0:0<=n
  ·have e:n.toNat=n.natAbs:=by omega
   rw [xg1 h0,e,c1]; exact Nat.le_refl _
  ·rw [tn0 [5],countP_cons,c1]; omega
 have a:=cn x0;have b:=cn y0;rw [ts2,ts2];have ne:∀ m,dg m ≠ []:=λ m h=>by have:=zp2 m; simp_all
 exact ⟨⟨ne _,by omega,xj0 _⟩,⟨ne _,by omega,xj0 _⟩⟩
def uf2:Sp3:=λ ds μ Q=>∃ z:Str,ds=[.str z] /\ Zdk z /\ (z = "none" -> ∀ μ',Q (.tup []) μ') /\ (z ≠ "none" -> (∀ P,Shd P z->∀ μ',Q (.tup (P.map encT)) μ') /\ ((¬ ∃ P,Shd P z)->∀ μ',Q .non μ'))
theorem rd_q3:RdQ uf2 (t_q3 spLn ti1) N_q3:=by
 rintro ds μ Q ⟨z,rfl,ok,q0,q1⟩;have hz:(1048576:Nat) < sizeLine:=by decide
 have zl:=ok.ok.len;refine ⟨⟨by decide +kernel,by omega⟩,λ p hp=>?_⟩
 have rd:∀ P,Shd P z->∃ (x0 y0:Int) (l0:Str) (rows:[35]),Txt.split z "\n" = l0 :: rows /\ CiV l0=some (x0,y0) /\ Txt.split l0 " " = [nsT x0,nsT y0] /\ (BOK (bare (cp (nsT x0))) /\ BOK (bare (cp (nsT y0)))) /\ ∀ x y,CiV l0=some (x,y)->IsPic (allG (Gl x y rows.length) rows rows.length) P:=λ P h=>by
  obtain ⟨x0,y0,l0,rows,e1,e2,g0,g1,e3,hG⟩:=ss0 h;refine ⟨x0,y0,l0,rows,e1,e2,?_,?_,λ x y e=>?_⟩
  ·rw [e3]
   exact xz0 [17] λ t ht=>by
    simp only [mem_cons,not_mem_nil,or_false] at ht;rcases ht with rfl | rfl <;> exact zl2 _
  ·exact zg5 (by rw [e1,e3]) ok.dig
  ·rw [e2] at e;injection e with e
   injection e with e4 e5
   subst e4 e5;exact hG _ λ r c n hr ho h1 h2=>Gl_p hr ho h1 h2
 have al:=λ l hl=>zx1 (l:=l) ok.ok.asc hl;have rw':=ok.ok.row;have rw2:=ok.row2;have sp:=PyProof.Rows.split_pos z "\n";generalize Txt.split z "\n" = ls at rd al rw' rw2 sp ⊢;cases ls with
 | nil=>simp at sp
 | cons l0 rows =>
  obtain ⟨hl0,_,_,_⟩:=rw' l0 rows rfl;obtain ⟨hR,hC,hS⟩:=rw2 l0 rows rfl;have e1:updM μ p (.lst ((l0 :: rows).map D.str)) p=some (.lst (.str l0 :: sD rows)):=za0;generalize updM μ p (.lst ((l0 :: rows).map D.str))=μ1 at e1;show ixR [66] (.int 0) μ1 (λ d μ1=>_);refine yd0 e1 atI0 ⟨⟨by decide +kernel,by omega⟩,λ p2 hp2=>?_⟩;have e2:updM μ1 p2 (.lst ((Txt.split l0 " ").map D.str)) p2=some (.lst ((Txt.split l0 " ").map D.str)):=za0;have e12:updM μ1 p2 (.lst ((Txt.split l0 " ").map D.str)) p=some (.lst (.str l0 :: sD rows)):=Ext.new hp2 _ _ e1;generalize updM μ1 p2 (.lst ((Txt.split l0 " ").map D.str))=μ2 at e2 e12;show if decide (z = "none")=true then _ else _;by_cases zn:z = "none"
  ·rw [decide_eq_true zn,if_pos rfl];exact ⟨Nat.zero_le _,q0 zn μ2⟩
  rw [decide_eq_false zn,if_neg [14]];obtain ⟨qs,qn⟩:=q1 zn
  conv=>whnf
  rw [e2];show ite ((!decide ((((Txt.split l0 " ").map D.str).length:Int)=2))=true) _ _;have t2:∀ a b,Txt.split l0 " " = [a,b]->cp l0=cp a ++ 32 :: cp b:=λ a b h=>ze3 h;have aL:=al l0 [65]
  have rd':∀ P,Shd P z->∃ x0 y0:Int,Txt.split l0 " " = [nsT x0,nsT y0] /\ (BOK (bare (cp (nsT x0))) /\ BOK (bare (cp (nsT y0)))) /\ ∀ x y,CiV l0=some (x,y)->IsPic (allG (Gl x y rows.length) rows rows.length) P:=λ P h=>by
   obtain ⟨x0,y0,l',rows',e,_,e5,e6,e7⟩:=rd P h;injection e with e8 e9
   subst e8 e9;exact ⟨x0,y0,e5,e6,e7⟩
  clear rd
  have cv:CiV l0=match Txt.split l0 " " with
   | [a,b]=>match intText? a,intText? b with
    | some x,some y=>some (x,y)
    | _,_=>none
   | _=>none:=rfl
  generalize Txt.split l0 " " = ms at e2 t2 rd' cv ⊢
  have bad:(∀ a b,ms ≠ [a,b])->¬ ∃ P,Shd P z:=λ h ⟨P,hP⟩=>by
   simp_all
  match ms with
  | []=>exact qn (bad λ _ _ e=>by cases e) _
  | [_]=>exact qn (bad λ _ _ e=>by cases e) _
  | u :: v :: w :: r =>
   have:(!decide ((((u :: v :: w :: r:List Str).map D.str).length:Int)=2))=true:=by simp; omega
   rw [if_pos this];exact qn (bad λ _ _ e=>by cases e) _
  | [a,b] =>
   have t:=t2 a b rfl
   have la:a.length<=80 /\ b.length<=80:=by
    have:=congrArg List.length t;rw [length_append,length_cons,<- zc0,<- zc0,<- zc0] at this;omega
   have aa:Asc a:=λ c hc=>aL c (by rw [t]; simp [hc]);have ab:Asc b:=λ c hc=>aL c (by rw [t]; simp [hc])
   have no1:¬ BOK (bare (cp a))->¬ ∃ P,Shd P z:=λ h ⟨P,hP⟩=>by
    obtain ⟨x0,y0,e,k,_⟩:=rd' P hP
    simp_all
   have no2:¬ BOK (bare (cp b))->¬ ∃ P,Shd P z:=λ h ⟨P,hP⟩=>by
    obtain ⟨x0,y0,e,k,_⟩:=rd' P hP
    simp_all
   have c0:∀ μ',Ext μ2 μ'->μ' p2=some (.lst [.str a,.str b]):=λ μ' ex=>ex _ _ e2;show ixR (.ref p2) (.int 0) μ2 (λ d μ1=>_);refine yd0 (c0 _ (Ext.refl _)) rfl ⟨a,rfl,aa,by omega,λ μ3 ex3=>⟨λ ba x hx=>?_,λ nb=>qn (no1 nb) _⟩⟩;show ixR (.ref p2) (.int 1) μ3 (λ d μ1=>_);refine yd0 (c0 _ ex3) rfl ⟨b,rfl,ab,by omega,λ μ4 ex4=>⟨λ bb y hy=>?_,λ nb=>qn (no2 nb) _⟩⟩;have E4:=ex3.trans ex4;show ixR (.ref p2) (.int 0) μ4 (λ d μ1=>_);refine yd0 (c0 _ E4) rfl ⟨a,rfl,aa,by omega,λ μ5 ex5=>⟨λ _ x' hx'=>?_,λ nb=>absurd ba nb⟩⟩;show ixR (.ref p2) (.int 1) μ5 (λ d μ1=>_);refine yd0 (c0 _ (E4.trans ex5)) rfl ⟨b,rfl,ab,by omega,λ μ6 ex6=>⟨λ _ y' hy'=>?_,λ nb=>absurd bb nb⟩⟩;rw [hx] at hx';injection hx' with hx'
   subst hx';rw [hy] at hy';injection hy' with hy'
   subst hy';have ci:CiV l0=some (x,y):=by simp_all
   have e6:=(E4.trans (ex5.trans ex6)) _ _ e12
   conv=>whnf
   rw [e6];intro r hr
   have ct:cut3 (D.str l0 :: sD rows) (some 1) none=sD rows:=by
    unfold cut3 sIx3;simp
   rw [ct];refine ⟨Nat.zero_le _,λ g hg=>?_⟩;refine due_7 (z:=z) (o1:=some [66]) (o2:=some (.ref p2)) (q:=r) (g:=g) (rows:=rows) (Ext.new hg _ _ za0) za0 (uc0 za0 hg) (vv1 hx la.1) (vv1 hy la.2) hR hC hS zn (λ P hP=>?_) qs qn;obtain ⟨_,_,_,_,k⟩:=rd' P hP;exact k x y ci
def yf2:Sp3:=λ ds μ Q=>∃ i:Int,ds=[.int i] /\ Q (.bl true) μ
theorem tr4:RdQ yf2 zh4 ud4:=by
 rintro ds μ Q ⟨i,rfl,q⟩;assumption
theorem eqv_T:∀ L:List T3,PyData.eqvAll (L.map pT) (L.map pT)=true:=λ L=>by rw [zj3]; simp
def vf2:Sp3:=λ ds μ Q=>∃ us:List T3,ds=[.tup (us.map encT),.tup (us.map encT)] /\ us.length < 64 /\ ∀ μ',Ext μ μ'->Q (.bl true) μ'
theorem rd_q6:RdQ vf2 (t_q6 yf2) N_q6:=by
 rintro ds μ Q ⟨us,rfl,hl,q⟩;have dd:datM μ (.tup (us.map encT))=some (.tuple (us.map pT)):=by simp only [datM,dat,zw1]
 have ee:∀ K:VK3,neR (.tup (us.map encT)) (.tup (us.map encT)) μ K=K (.bl false) μ:=λ K=>by
  rw [to1 rfl dd dd (st0 us) (st0 us)];simp [PyData.eqv,eqv_T]
 simp only [t_q6,seq3,ifs3,or3,not3,b3,wa0,xa0,v3,xb0,map_cons,map_nil,N_q6,length_cons,length_nil,Nat.zero_add,Nat.reduceAdd,Nat.reduceSub,List.replicate,cons_append,nil_append,getI,c3,nil3,isiR,tyN,isIn,if_true,Bool.not_true,Bool.false_eq_true,ret3,zb0,for3,is3,o3,ee,if_false];refine vi0 (λ l ρ μ'=>Ext μ μ' /\ ∃ (vs:[50]) (sd:Option D),l=vs.map encT /\ ρ=[some (.tup (us.map encT)),some (.tup (us.map encT)),sd]) ?_ (λ _ _ _ _=>trivial) ?_ ?_
 ·exact ⟨Ext.refl _,us,none,rfl,rfl⟩
 ·rintro ρ μ' ⟨ex,vs,sd,_,rfl⟩;exact q μ' ex
 ·rintro d r ρ μ' ⟨ex,vs,sd,el,rfl⟩;cases vs with
  | nil=>cases el
  | cons t vs =>
   rw [map_cons] at el;injection el with e1 e2
   subst e1 e2;simp only [gn3,ifs3,or3,not3,b3,wa0,xa0,v3,encT,set_cons_succ,set_cons_zero,getI,c3,nil3,isiR,tyN,isIn,if_true,Bool.not_true,Bool.false_eq_true,ret3,zb0,o3,lenR,length_cons,length_nil,Nat.zero_add,Nat.reduceAdd,cst3,xe0,is3,Bool.not_eq_true',map_cons,Option.bind_none,map_nil,vy4,decide_eq_false_iff_not,if_false];intro p hp;refine sg0 (rest:=[]) (λ _=>.bl true) hp (show 3<=sizeLine by decide) (λ _ _=>trivial) ?_ ?_
   ·intro x hx μ2 R e3 k;simp only [mem_cons,not_mem_nil,or_false] at hx;rcases hx with rfl | rfl | rfl <;> exact ⟨_,rfl,k _ (Ext.refl _)⟩
   ·intro μ2 e3 e4;simp only [map_cons,map_nil] at e4;simp only [allR,e4,bls?];simp;exact ⟨ex.trans e3,vs,rfl⟩
def BLn (i:Int):List D:=[.bl false,.bl false,.bl false,.bl (decide (i=3)),.bl false,.bl (decide (i=5)),.bl true]
theorem sx1:subX "NoWord" "NoPicture" = some false:=by decide
theorem sx2:subX "NoRoom" "NoPicture" = some false:=by decide
theorem sx3:subX "NoStep" "NoPicture" = some false:=by decide
theorem sx4:subX "NoPicture" "NoPicture" = some true:=by decide
theorem sx5:subX "NoNumber" "NoPicture" = some false:=by decide
theorem sx6:subX "BadNote" "NoPicture" = some false:=by decide
theorem sx7:subX "ValueError" "NoPicture" = some true:=by decide
theorem sy1:subX "NoWord" "BadNote" = some false:=by decide
theorem sy2:subX "NoRoom" "BadNote" = some false:=by decide
theorem sy3:subX "NoStep" "BadNote" = some false:=by decide
theorem sy4:subX "NoPicture" "BadNote" = some false:=by decide
theorem sy5:subX "NoNumber" "BadNote" = some false:=by decide
theorem sy6:subX "BadNote" "BadNote" = some true:=by decide
theorem sy7:subX "ValueError" "BadNote" = some true:=by decide
def spMk:Sp3:=λ ds μ Q=>∃ (c:Str) (i:Int),ds=[.exc c] /\ ((c = "NoPicture" /\ i=3) \/ (c = "BadNote" /\ i=5)) /\ ∀ p μ',μ' p=some (.lst (BLn i))->Q [66] μ'
theorem xl5:RdQ spMk t_q7 N_q7:=by
 rintro ds μ Q ⟨c,i,rfl,h | h,q⟩
 all_goals obtain ⟨rfl,rfl⟩:=h
 ·simp only [t_q7,seq3,set3,lst3,xa0,isx3,v3,xb0,map_cons,map_nil,N_q7,length_cons,length_nil,Nat.zero_add,Nat.reduceAdd,Nat.reduceSub,List.replicate,cons_append,nil_append,getI,sx1,sx2,sx3,sx4,nil3,ret3,o3,set_cons_succ,set_cons_zero,sx5,sx6,sx7,addR];refine ⟨by decide,λ p hp=>⟨by decide,λ r hr=>?_⟩⟩;have hpr:p ≠ r:=uc0 za0 hr;simp only [ta0 hpr,za0,length_cons,length_nil,Nat.zero_add,Nat.reduceAdd,cons_append,nil_append];exact ⟨by decide,λ t ht=>q t _ za0⟩
 ·simp only [t_q7,seq3,set3,lst3,xa0,isx3,v3,xb0,map_cons,map_nil,N_q7,length_cons,length_nil,Nat.zero_add,Nat.reduceAdd,Nat.reduceSub,List.replicate,cons_append,nil_append,getI,sy1,sy2,sy3,sy4,nil3,ret3,o3,set_cons_succ,set_cons_zero,sy5,sy6,sy7,addR];refine ⟨by decide,λ p hp=>⟨by decide,λ r hr=>?_⟩⟩;have hpr:p ≠ r:=uc0 za0 hr;simp only [ta0 hpr,za0,length_cons,length_nil,Nat.zero_add,Nat.reduceAdd,cons_append,nil_append];exact ⟨by decide,λ t ht=>q t _ za0⟩
def PLn (i:Int):PyData:=.list [.bool false,.bool false,.bool false,.bool (decide (i=3)),.bool false,.bool (decide (i=5)),.bool true]
def wf2:Sp3:=λ ds μ Q=>∃ (p:Addr) (i:Int),ds=[.ref p,.int i] /\ (i=3 \/ i=5) /\ μ p=some (.lst (BLn i)) /\ ∀ μ',Q (.bl true) μ'
theorem ws4:RdQ wf2 um3 td3:=by
 rintro ds μ Q ⟨p,i,rfl,hi,ep,q⟩;simp only [um3,ret3,o3,v3,xb0,map_cons,map_nil,td3,length_cons,length_nil,Nat.zero_add,Nat.reduceAdd,Nat.reduceSub,List.replicate,cons_append,nil_append,getI,xe0,ir3,xa0,c3,nil3,lst3,addR,Option.bind_none,Option.bind_some];refine ⟨by decide,λ r hr=>?_⟩;have hl:(rngD 0 (6:Int).toNat).length<=sizeLine:=by decide
 refine sg0 (λ x=>match x with | .int j=>.bl (decide (j=i)) | _=>.non) hr hl (λ _ _=>trivial) ?_ ?_
 ·intro x hx μ' R ex k;obtain ⟨j,_,rfl⟩:=List.mem_map.mp hx;simp only [o3,v3,getI,vj3];exact k _ (Ext.refl _)
 ·intro μ1 e1 y1;have y2:μ1 r=some (.lst ((BLn i).take 6)):=by rw [y1]; rcases hi with rfl | rfl <;> rfl
  refine ⟨by decide,λ t ht=>?_⟩;have hrt:r ≠ t:=uc0 y2 ht;simp only [ta0 hrt,y2,za0,length_cons,length_nil,Nat.zero_add];refine ⟨show 7<=sizeLine by decide,λ z hz=>?_⟩;have eb:(BLn i).take 6 ++ [.bl true]=BLn i:=rfl;rw [eb];have e2:Ext μ (updM (updM μ1 t (.lst [.bl true])) z (.lst (BLn i))):=e1.trans ((Ext.new ht).trans (Ext.new hz))
  have d1:datM (updM (updM μ1 t (.lst [.bl true])) z (.lst (BLn i))) [66]=some (PLn i):=by
   have:=e2 p _ ep;simp only [datM,this]; rfl
  have d2:datM (updM (updM μ1 t (.lst [.bl true])) z (.lst (BLn i))) (.ref z)=some (PLn i):=by simp only [datM,za0]; rfl
  have dp:(PLn i).depth<=64:=by rcases hi with rfl | rfl <;> decide
  show eqR [66] (.ref z) (updM (updM μ1 t (.lst [.bl true])) z (.lst (BLn i))) Q;rw [to2 rfl d1 d2 dp dp];have ev:PyData.eqv (PLn i) (PLn i)=true:=by rcases hi with rfl | rfl <;> decide
  simp_all
theorem sl0 {cls c:Str} (h:subX cls c=some b):c ∈ xnames:=by
 unfold subX at h
 simp_all
abbrev D0 (Q:VK3):Ends3:={ nx:=λ _ μ'=>Q .non μ',rt:=Q }
theorem xe5 {α:Type} (l:List α) (i:Int) (h0:0<=i) (h1:i<=l.length):cut3 l none (some i)=l.take i.toNat:=by
 unfold cut3 sIx3;simp only [if_neg (show ¬ i < 0 by omega),List.drop_zero,Nat.sub_zero];simp
theorem sd5 {α:Type} (l:List α) (i:Int) (h0:0<=i) (h1:i<=l.length):cut3 l (some i) none=l.drop i.toNat:=by
 unfold cut3 sIx3;simp only [if_neg (show ¬ i < 0 by omega)];rw [show min i.toNat l.length=i.toNat by omega];apply take_of_length_le;simp
theorem zi3 {n:Nat} {i:Int} (h0:0<=i) (h1:i < n):ixN n i=some i.toNat:=by
 unfold ixN
 simp_all
theorem ya1 {x:T3}:¬ Lt x x:=λ h=>by simp [Lt,lt3] at h
theorem ss2 {s:Nat} (hs:s < ts.length):¬ (ts.take (s + 1) ++ ts.drop s).Pairwise Lt:=λ h=>by
 have m1:ts[s] ∈ ts.take (s + 1):=List.mem_iff_getElem.mpr ⟨s,by simp_all;omega,by simp⟩;have m2:ts[s] ∈ ts.drop s:=List.mem_iff_getElem.mpr ⟨0,by simp_all;omega,by simp⟩;have h1:=(List.pairwise_append.mp h).2.2 _ m1 _ m2;exact ya1 h1
theorem xd3 (hp:ts.Pairwise Lt) {s:Nat} (hs:s + 1 < ts.length):¬ ((ts.set s ts[s + 1]).set (s + 1) (ts[s]'(by omega))).Pairwise Lt:=λ h=>by
 have z:=List.pairwise_iff_getElem.mp h s (s + 1) (by simp; omega) (by simp; omega) [5];have k:=List.pairwise_iff_getElem.mp hp s (s + 1) [5] hs [5];rw [List.getElem_set_ne [5],List.getElem_set_self,List.getElem_set_self] at z;exact ya1 (uz4 k z)
theorem xj5 (far:Int) (hf:2<=far) {i:Int} (h0:0<=i) (h1:i < 7):∃ xs:List Int,atI [.tup [.int 0,.int 0,.int 2],.tup [.int 0,.int 0,.int (-1)],.tup [.int 0,.int 0],.tup [.int 0,.int 0,.int 0,.int 0],.tup [],.tup [.int 0,.int 0,.int far],.tup [.int far,.int far,.int (0 - far)]] i=some (encI xs) /\ xs.length<=4 /\ ¬ okS xs:=by
 have c:i=0 \/ i=1 \/ i=2 \/ i=3 \/ i=4 \/ i=5 \/ i=6:=by omega
 rcases c with rfl | rfl | rfl | rfl | rfl | rfl | rfl
 ·exact ⟨[0,0,2],rfl,by decide,λ h=>absurd (okS3 h) [14]⟩
 ·exact ⟨[0,0,-1],rfl,by decide,λ h=>absurd (okS3 h) [14]⟩
 ·exact ⟨[0,0],rfl,by decide,λ ⟨t,e,_⟩=>by have:=congrArg List.length e; simp [tk3] at this⟩
 ·exact ⟨[0,0,0,0],rfl,by decide,λ ⟨t,e,_⟩=>by have:=congrArg List.length e; simp [tk3] at this⟩
 ·exact ⟨[],rfl,by decide,λ ⟨t,e,_⟩=>by trivial⟩
 ·exact ⟨[0,0,far],rfl,(show 3<=4 by decide),λ h=>by have:=okS3 h; omega⟩
 ·exact ⟨[far,far,0 - far],rfl,(show 3<=4 by decide),λ h=>by have:=okS3 h; omega⟩
def si1:Sp3:=λ ds μ Q=>∃ (z:Addr) (a:Int) (b:Bool),ds=[.ref z] /\ μ z=some (.lst [.int a,.bl b]) /\ 0<=a /\ ∀ l μ',BadL l->Q (.tup (l.map encI)) μ'
theorem ty3 (A:[50]) (xs:[64]) (B:[50]):(A.map tk3 ++ xs :: B.map tk3).map encI=A.map encT ++ encI xs :: B.map encT:=by
 rw [map_append,map_cons,vu0,vu0]
variable {far:Int}
theorem bp6 (q:∀ l μ',BadL l->Q (.tup (l.map encI)) μ') {z:Addr} {a at':Int} (hz:μ z=some (.lst [.int a,.bl b])) (ha:0<=a) (hg:μ g=some (.lst [16])) (hp:Pc ts) (hf:2<=far) (t0:0<=at') (t1:at'<=ts.length) :
    se0 vc0 vd1 (D0 Q) [some (.ref z),some (.ref g),some (.int far),some (.int at'),o4,o5,none] μ:=by
 have z100:(200:Nat) < sizeLine:=by decide
 have hzg:z ≠ g:=λ e=>by
  subst e;rw [hz] at hg;injection hg with hg
  injection hg with hg
  cases ts with
  | nil=>cases hg
  | cons t ts=>injection hg with h1 _; cases h1
 refine ⟨z3,z3,z2,Z0,(show 0<=sizeLine by decide),z3,z3,(show 7<=sizeLine by decide),λ p2 hp2=>?_⟩;have hz2:z ≠ p2:=uc0 hz hp2;have hg2:g ≠ p2:=uc0 hg hp2;refine ⟨z,7,a,b,[],rfl,by decide,by decide,by rw [ta0 hz2]; exact hz,ha,λ i a5 i0 i1 a5n=>?_⟩;obtain ⟨xs,e,h4,hn⟩:=xj5 far hf i0 i1;refine yd0 (by rw [ta0 (Ne.symm hz2),za0]) e ?_;have hg3:updM (updM μ p2 (.lst [.tup [.int 0,.int 0,.int 2],.tup [.int 0,.int 0,.int (-1)],.tup [.int 0,.int 0],.tup [.int 0,.int 0,.int 0,.int 0],.tup [],.tup [.int 0,.int 0,.int far],.tup [.int far,.int far,.int (0 - far)]])) z (.lst [.int a5,.bl b]) g=some (.lst [16]):=by rw [ta0 (Ne.symm hzg),ta0 hg2]; exact hg
 generalize updM (updM μ p2 (.lst [.tup [.int 0,.int 0,.int 2],.tup [.int 0,.int 0,.int (-1)],.tup [.int 0,.int 0],.tup [.int 0,.int 0,.int 0,.int 0],.tup [],.tup [.int 0,.int 0,.int far],.tup [.int far,.int far,.int (0 - far)]])) z (.lst [.int a5,.bl b])=μ3 at hg3;have ll:[16].length=ts.length:=length_map _;have hl:=hp.2.2
 conv=>whnf
 rw [hg3];intro r1 hr1;rw [xe5 _ at' t0 (by rw [ll]; exact t1)];refine ⟨Z1,λ r2 hr2=>?_⟩;have e1:updM (updM μ3 r1 (.lst ([16].take at'.toNat))) r2 (.lst [encI xs]) r1=some (.lst ([16].take at'.toNat)):=Ext.new hr2 _ _ za0;have eg:updM (updM μ3 r1 (.lst ([16].take at'.toNat))) r2 (.lst [encI xs]) g=some (.lst [16]):=Ext.new hr2 _ _ (Ext.new hr1 _ _ hg3);refine tl0 e1 za0 [57] λ r3 hr3=>?_;have eg3:=Ext.new (o:=.lst ([16].take at'.toNat ++ [encI xs])) hr3 _ _ eg
 conv=>whnf
 rw [eg3];intro r4 hr4;rw [sd5 _ at' t0 (by rw [ll]; exact t1)];refine tl0 (Ext.new hr4 _ _ za0) za0 [57] λ r5 hr5=>?_
 conv=>whnf
 rw [za0];have:=q ((ts.take at'.toNat).map tk3 ++ xs :: (ts.drop at'.toNat).map tk3) (updM (updM (updM (updM (updM μ3 r1 (.lst ([16].take at'.toNat))) r2 (.lst [encI xs])) r3 (.lst ([16].take at'.toNat ++ [encI xs]))) r4 (.lst ([16].drop at'.toNat))) r5 (.lst ([16].take at'.toNat ++ [encI xs] ++ [16].drop at'.toNat))) (.inl ⟨_,xs,_,rfl,λ t ht=>hp.2.1 t (mem_of_mem_take ht),h4,hn⟩);rw [ty3,map_take,map_drop] at this
 simp_all
theorem za3 (q:∀ l μ',BadL l->Q (.tup (l.map encI)) μ') {Dd:Ends3} (hD:Dd.rt=Q) {s:Int} (hg:μ g=some (.lst [16])) (hp:Pc ts) (h8:ts.length < 50) (s0:0<=s) (s1:s < ([16].length:Int)) :
    (ret3 (wa0 tupR (xa0 (o3 addR (sl3 slR (v3 1) np3 (pt3 (o3 addR (v3 5) [9]))) (sl3 slR (v3 1) (pt3 (v3 5)) np3)) nil3))) Dd [o0,some (.ref g),o2,o3',o4,some (.int s),o6] μ:=by
 have z100:(200:Nat) < sizeLine:=by decide
 have ll:[16].length=ts.length:=length_map _;have hl:=hp.2.2
 conv=>whnf
 rw [hg];intro r1 hr1;rw [xe5 _ (s + 1) [5] [5]];have eg:updM μ r1 (.lst ([16].take (s + 1).toNat)) g=some (.lst [16]):=Ext.new hr1 _ _ hg
 conv=>whnf
 rw [eg];intro r2 hr2;rw [sd5 _ s s0 [5]];refine tl0 (Ext.new hr2 _ _ za0) za0 [57] λ r3 hr3=>?_
 conv=>whnf
 rw [za0,hD];have e1:(s + 1).toNat=s.toNat + 1:=by omega
 have hs:s.toNat < ts.length:=by omega
 have:=q ((ts.take (s.toNat + 1) ++ ts.drop s.toNat).map tk3) (updM (updM (updM μ r1 (.lst ([16].take (s + 1).toNat))) r2 (.lst ([16].drop s.toNat))) r3 (.lst ([16].take (s + 1).toNat ++ [16].drop s.toNat)))
  (.inr ⟨_,rfl,λ t ht=>hp.2.1 t ((List.mem_append.mp ht).elim mem_of_mem_take mem_of_mem_drop),by simp_all;omega,ss2 hs⟩)
 rw [vu0,map_append,map_take,map_drop] at this
 simp_all
theorem ue2 (q:∀ l μ',BadL l->Q (.tup (l.map encI)) μ') {Dd:Ends3} (hD:Dd.rt=Q) {s:Int} (hg:μ g=some (.lst [16])) (hp:Pc ts) (s0:0<=s) (s1:s < ([16].length:Int) - 1) :
    (seq3 (asg3 (tup3 (xa0 (o3 ixR (v3 1) (o3 addR (v3 5) [9])) (xa0 (o3 ixR (v3 1) (v3 5)) nil3))) (xx0 2 (ye0 (sub3 (v3 1) (v3 5)) (ye0 (sub3 (v3 1) (o3 addR (v3 5) [9])) yx0)))) (ret3 (wa0 tupR [55]))) Dd [o0,some (.ref g),o2,o3',o4,some (.int s),o6] μ:=by
 have ll:[16].length=ts.length:=length_map _;have hl:=hp.2.2;obtain ⟨b1,e1⟩:=xi1 (ts:=ts) (i:=s + 1) [5] [5];obtain ⟨b2,e2⟩:=xi1 (ts:=ts) (i:=s) [5] [5];have i1:(s + 1).toNat=s.toNat + 1:=by omega
 simp only [i1] at e1 b1
 conv=>whnf
 rw [hg];dsimp only;rw [e1]
 conv=>whnf
 rw [hg];dsimp only;rw [e2];refine ⟨z2,rfl,?_⟩
 conv=>whnf
 rw [hg];dsimp only;rw [zi3 s0 [5]]
 conv=>whnf
 rw [za0];dsimp only;have j1:ixN ([16].set s.toNat (encT ts[s.toNat + 1])).length (s + 1)=some (s.toNat + 1):=by rw [zi3 (show 0<=s + 1 by omega) [57],i1]
 rw [j1]
 conv=>whnf
 rw [za0,hD]
 have:=q (((ts.set s.toNat ts[s.toNat + 1]).set (s.toNat + 1) ts[s.toNat]).map tk3) (updM (updM μ g (.lst ([16].set s.toNat (encT ts[s.toNat + 1])))) g (.lst (([16].set s.toNat (encT ts[s.toNat + 1])).set (s.toNat + 1) (encT ts[s.toNat]))))
  (.inr ⟨_,rfl,λ t ht=>?_,by simp_all,xd3 hp.1 b1⟩)
 ·rw [vu0,List.map_set,List.map_set] at this;exact this
 ·rcases List.mem_or_eq_of_mem_set ht with h | rfl
  ·rcases List.mem_or_eq_of_mem_set h with h | rfl
   ·exact hp.2.1 t h
   ·exact hp.2.1 _ (getElem_mem _)
  ·exact hp.2.1 _ (getElem_mem _)
theorem bp5 (q:∀ l μ',BadL l->Q (.tup (l.map encI)) μ') {z:Addr} {a at':Int} (hz:μ z=some (.lst [.int a,.bl b])) (ha:0<=a) (hg:μ g=some (.lst [16])) (hp:Pc ts) (h8:ts.length < 50) (hf:2<=far) (t0:0<=at') (t1:at'<=ts.length) :
    xf0 vc0 vd1 (D0 Q) [some (.ref z),some (.ref g),some (.int far),some (.int at'),some (.int 1),none,none] μ:=by
 have z100:(200:Nat) < sizeLine:=by decide
 have ll:[16].length=ts.length:=length_map _;have hl:=hp.2.2
 conv=>whnf
 rw [hg];show (if decide (([16].length:Int) > 0)=true then _ else _);by_cases c:([16].length:Int) > 0
 ·rw [decide_eq_true c]
  conv=>whnf
  rw [hg];refine ⟨c,?_⟩;exact za3 q rfl (s:=at' % ([16].length:Int)) hg hp h8 (Int.emod_nonneg _ [5]) (Int.emod_lt_of_pos _ c)
 ·rw [decide_eq_false c];exact bp6 q hz ha hg hp hf t0 t1
theorem bp4 (q:∀ l μ',BadL l->Q (.tup (l.map encI)) μ') {z:Addr} {a at' kind:Int} (hz:μ z=some (.lst [.int a,.bl b])) (ha:0<=a) (hg:μ g=some (.lst [16])) (hp:Pc ts) (h8:ts.length < 50) (hf:2<=far) (t0:0<=at') (t1:at'<=ts.length) (k0:0<=kind) (k1:kind < 4) :
    yf0 vc0 vd1 (D0 Q) [some (.ref z),some (.ref g),some (.int far),some (.int at'),some (.int kind),none,none] μ:=by
 have z100:(200:Nat) < sizeLine:=by decide
 have ll:[16].length=ts.length:=length_map _;have hl:=hp.2.2;have k:kind=0 \/ kind=1 \/ kind=2 \/ kind=3:=by omega
 rcases k with rfl | rfl | rfl | rfl
 ·conv=>whnf
  rw [hg];show (if decide (([16].length:Int) > 1)=true then _ else _);by_cases c:([16].length:Int) > 1
  ·rw [decide_eq_true c]
   conv=>whnf
   rw [hg];refine ⟨(show (0:Int) < ([16].length:Int) - 1 by omega),?_⟩;exact ue2 q rfl (s:=at' % (([16].length:Int) - 1)) hg hp (Int.emod_nonneg _ [5]) (Int.emod_lt_of_pos _ [5])
  ·rw [decide_eq_false c];exact bp6 q hz ha hg hp hf t0 t1
 ·exact bp5 q hz ha hg hp h8 hf t0 t1
 ·exact bp6 q hz ha hg hp hf t0 t1
 ·exact bp6 q hz ha hg hp hf t0 t1
theorem rd_q0:RdQ si1 (t_q0 vc0 vd1) N_q0:=by
 rintro ds μ Q ⟨z,a,b,rfl,hz,ha,q⟩;refine ⟨z,8,a,b,rfl,hz,ha,by decide,by decide,λ ts a1 b1 μ1 hp _ lt a1n m1 g hg=>?_⟩;have hzg:z ≠ g:=uc0 m1 hg;have ez:updM μ1 g (.lst [16]) z=some (.lst [.int a1,.bl b1]):=by rw [ta0 hzg]; exact m1
 have eg:updM μ1 g (.lst [16]) g=some (.lst [16]):=za0;generalize updM μ1 g (.lst [16])=μ2 at ez eg;refine ⟨⟨by decide,by decide,by decide⟩,z,_,a1,b1,[],rfl,by decide,by decide,ez,a1n,λ c a2 c0 c1 a2n=>⟨⟨by decide,by decide,by decide⟩,.inl (.inr [74]),?_⟩⟩;have eg3:updM μ2 z (.lst [.int a2,.bl b1]) g=some (.lst [16]):=by rw [ta0 (Ne.symm hzg)]; exact eg
 have ez3:updM μ2 z (.lst [.int a2,.bl b1]) z=some (.lst [.int a2,.bl b1]):=za0
 have far2:2<=2 + c * (10:Int) ^ (12:Int).toNat:=by
  simp_all;omega
 generalize updM μ2 z (.lst [.int a2,.bl b1])=μ3 at eg3 ez3;have ll:[16].length=ts.length:=length_map _;have l8:ts.length<=8:=by omega
 conv=>whnf
 rw [eg3];refine ⟨z,([16].length:Int) + 1,a2,b1,[],rfl,by omega,by omega,ez3,a2n,λ at' a3 t0 t1 a3n=>?_⟩;have eg4:updM μ3 z (.lst [.int a3,.bl b1]) g=some (.lst [16]):=by rw [ta0 (Ne.symm hzg)]; exact eg3
 have ez4:updM μ3 z (.lst [.int a3,.bl b1]) z=some (.lst [.int a3,.bl b1]):=za0;generalize updM μ3 z (.lst [.int a3,.bl b1])=μ4 at eg4 ez4;refine ⟨z,4,a3,b1,[],rfl,by decide,by decide,ez4,a3n,λ kind a4 k0 k1 a4n=>?_⟩;exact bp4 q za0 a4n (by rw [ta0 (Ne.symm hzg)]; exact eg4) hp [5] far2 t0 [5] k0 k1
open Mt
def ui1:Sp3:=λ ds μ Q=>(∃ z:Str,ds=[.int 0,.str z] /\ Zok z /\ (z = "none" -> ∀ p μ',μ' p=some (.lst [])->Q (.tup [.tup [],.ref p]) μ') /\ (z ≠ "none" -> (∀ P,Shd P z->∀ p μ',μ' p=some (.lst [])->Q (.tup [.tup (P.map encT),.ref p]) μ') /\ ((¬ ∃ P,Shd P z)->∀ p μ',μ' p=some (.lst (BLn 5))->Q (.tup [.non,.ref p]) μ'))) ∨
 ∃ l,ds=[.int 1,.tup (l.map encI)] /\ BadL l /\ ∀ p μ',μ' p=some (.lst (BLn 3))->Q (.tup [.non,.ref p]) μ'
theorem sr4 (ds:List D) (μ:Mu) (Q:VK3) (h:ui1 ds μ Q):wh4 spMk si4 zn3 { nx:=λ _ μ'=>Q .non μ',rt:=Q } (xb0 td4 ds) μ:=by
 rcases h with ⟨z,rfl,ok,q0,q1⟩ | ⟨l,rfl,hb,q⟩
 ·refine ⟨Nat.zero_le _,λ p hp=>?_⟩;refine ⟨z,rfl,ok,λ e μ' ex=>⟨z2,q0 e p μ' (ex _ _ za0)⟩,λ e=>⟨λ P h μ' ex=>⟨z2,(q1 e).1 P h p μ' (ex _ _ za0)⟩,λ h μ' ex=>⟨by decide, "BadNote",5,rfl,.inr ⟨rfl,rfl⟩,λ r μ2 er=>⟨z2,(q1 e).2 h r μ2 er⟩⟩⟩⟩
 ·refine ⟨Nat.zero_le _,λ p hp=>?_⟩;exact .inl ⟨l,rfl,hb,⟨by decide, "NoPicture",3,rfl,.inl ⟨rfl,rfl⟩,λ r μ2 er=>⟨z2,q r μ2 er⟩⟩⟩
open Mt
def rk (n:Nat):Nat->List Nat->Bool
 | k,[]=>decide (k<=n)
 | k,c :: l=>if c=10 then decide (k<=n) && rk n 0 l else rk n (k + 1) l
theorem tq3 {n:Nat}:∀ {l:[88]} {k:Nat},rk n k l=true->k<=n
 | [],k,h=>by simpa [rk] using h
 | c :: l,k,h=>by
  unfold rk at h;split at h
  ·simp_all
  ·have:=tq3 h; omega
theorem xm0 {n m:Nat} (hm:n<=m):∀ {l:[88]} {k j:Nat},rk n k l=true->j<=k->rk m j l=true
 | [],k,j,h,hj=>by simp [rk] at h ⊢; omega
 | c :: l,k,j,h,hj=>by
  unfold rk at h ⊢;split
  ·next e=>rw [if_pos e] at h; simp at h ⊢; exact ⟨by omega,xm0 hm h.2 [18]⟩
  ·next e=>rw [if_neg e] at h; exact xm0 hm h [5]
theorem uf3 {n j:Nat}:∀ {l:[88]} {k:Nat},rk n k l=true->rk (n + j) (k + j) l=true
 | [],k,h=>by simp [rk] at h ⊢; omega
 | c :: l,k,h=>by
  unfold rk at h ⊢;split
  ·next e=>rw [if_pos e] at h; simp at h ⊢; exact ⟨by omega,xm0 [5] h.2 [18]⟩
  ·next e=>rw [if_neg e] at h; have:=uf3 (j:=j) h; rw [show k + 1 + j=k + j + 1 by omega] at this; exact this
theorem ts1 {n m:Nat} {b:[88]} (hb:rk m 0 b=true):∀ {a:[88]} {k:Nat},rk n k a=true->rk (n + m) k (a ++ b)=true
 | [],k,h=>by
  have:=uf3 (j:=k) hb;have hk:=tq3 h;exact xm0 [5] this [5]
 | c :: a,k,h=>by
  show rk (n + m) k (c :: (a ++ b))=true;unfold rk at h ⊢;split
  ·next e=>rw [if_pos e] at h; simp at h ⊢; exact ⟨by omega,ts1 hb h.2⟩
  ·next e=>rw [if_neg e] at h; exact ts1 hb h
theorem yo1 {n:Nat}:∀ {l:[88]} {k:Nat} (i:Nat),rk n k l=true->rk n k (l.take i)=true
 | l,k,0,h=>by simp [rk]; exact tq3 h
 | [],k,i + 1,h=>by simpa using h
 | c :: l,k,i + 1,h=>by
  rw [List.take_succ_cons];unfold rk at h ⊢;split
  ·next e=>rw [if_pos e] at h; simp at h ⊢; exact ⟨h.1,yo1 i h.2⟩
  ·next e=>rw [if_neg e] at h; exact yo1 i h
theorem zo1 {n:Nat}:∀ {l:[88]} {k:Nat} (i:Nat),rk n k l=true->rk n 0 (l.drop i)=true
 | l,k,0,h=>xm0 [18] h (Nat.zero_le _)
 | [],k,i + 1,h=>by simp [rk]
 | c :: l,k,i + 1,h=>by
  rw [List.drop_succ_cons];unfold rk at h;split at h
  ·simp at h; exact zo1 i h.2
  ·exact zo1 i h
theorem te1 {n:Nat} {b:[88]}:∀ {a:[88]} {k:Nat},10 ∉ a->rk n k (a ++ b)=rk n (k + a.length) b
 | [],k,_=>rfl
 | c :: a,k,h=>by
  have hc:c ≠ 10:=λ e=>h (by simp [e]);have e:rk n k (c :: (a ++ b))=rk n (k + 1) (a ++ b):=if_neg hc;show rk n k (c :: (a ++ b))=_;rw [e,te1 (λ m=>h (mem_cons_of_mem _ m)),length_cons,show k + 1 + a.length=k + (a.length + 1) by omega]
theorem us1 {n:Nat} {a:[88]} {k:Nat} (h:10 ∉ a):rk n k a=decide (k + a.length<=n):=by
 have:=te1 (n:=n) (b:=[]) (k:=k) h;rw [append_nil] at this;rw [this]; rfl
theorem sq3 {n:Nat}:∀ {ls:List (List Nat)},(∀ l ∈ ls,10 ∉ l /\ l.length<=n)->rk n 0 (jm ls)=true
 | [],_=>by simp [jm,rk]
 | [a],h=>by
  have:=h a [17];show rk n 0 a=true;rw [us1 this.1]; simp; exact this.2
 | a :: b :: r,h=>by
  have:=h a [17];show rk n 0 (a ++ 10 :: jm (b :: r))=true;rw [te1 this.1];unfold rk;simp;exact ⟨this.2,sq3 λ l hl=>h l (mem_cons_of_mem _ hl)⟩
theorem ue1 {n:Nat}:∀ {ls:List (List Nat)},(∀ l ∈ ls,10 ∉ l)->rk n 0 (jm ls)=true->∀ l ∈ ls,l.length<=n
 | [],_,_,l,hl=>by cases hl
 | [a],h,hr,l,hl=>by
  rw [mem_singleton] at hl;subst hl;have h2:rk n 0 l=true:=hr;rw [us1 (h l [17])] at h2;simpa using h2
 | a :: b :: r,h,hr,l,hl=>by
  have h2:rk n 0 (a ++ 10 :: jm (b :: r))=true:=hr;rw [te1 (h a [17])] at h2;unfold rk at h2;simp at h2;rcases List.mem_cons.mp hl with rfl | hl
  ·exact h2.1
  ·exact ue1 (λ l hl=>h l (mem_cons_of_mem _ hl)) h2.2 l hl
theorem wa1 (p:Nat->Bool) (h:p 10=false):∀ ls:List (List Nat),(jm ls).countP p=(ls.map λ l=>l.countP p).sum
 | []=>rfl
 | [a]=>by simp [jm]
 | a :: b :: r=>by
  show (a ++ 10 :: jm (b :: r)).countP p=_;rw [countP_append,countP_cons,wa1 p h (b :: r),h];simp
theorem vp1:∀ {ls:List (List Nat)},(∀ l ∈ ls,10 ∉ l)->(jm ls).countP (λ c=>decide (c=10))=ls.length - 1
 | [],_=>rfl
 | [a],h=>by
  show a.countP _=0;rw [List.countP_eq_zero];intro c hc e
  simp_all
 | a :: b :: r,h=>by
  show (a ++ 10 :: jm (b :: r)).countP _=_;rw [countP_append,countP_cons,vp1 (ls:=b :: r) λ l hl=>h l (mem_cons_of_mem _ hl)]
  have:a.countP (λ c=>decide (c=10))=0:=by
   rw [List.countP_eq_zero];intro c hc e
   simp_all
  rw [this];simp
def isNl (c:Nat):Bool:=decide (c=10)
def Lk (n r s d:Nat) (l:[88]):Bool:=l.all (λ c=>decide (c < 128)) && decide (l.countP isNl<=n) && rk r 0 l && decide (l.countP stk<=s) && decide (l.countP dgt<=d)
theorem lk_mk {n s d:Nat} {l:[88]}:Lk n r s d l=true ↔ (∀ c ∈ l,c < 128) /\ l.countP isNl<=n /\ rk r 0 l=true /\ l.countP stk<=s /\ l.countP dgt<=d:=by
 unfold Lk;simp only [Bool.and_eq_true,all_eq_true,decide_eq_true_eq,and_assoc]
def Lz (z:Str):Prop:=Lk 77 78 29 25 (cp z)=true
theorem lz_a {t l:[88]} {s:[88]} {j:Nat} (h:Lk 35 35 12 10 t=true) (hs:s.length<=1) (ha:∀ c ∈ s,c < 128) (e:l=t.take i ++ s ++ t.drop j):Lk 77 78 29 25 l=true:=by
 obtain ⟨h1,h2,h3,h4,h5⟩:=lk_mk.mp h
 have cn:∀ p:Nat->Bool,l.countP p<=2 * t.countP p + 1:=λ p=>by
  rw [e,countP_append,countP_append];have a:=(List.take_sublist i t).countP_le (p:=p);have b:=(List.drop_sublist j t).countP_le (p:=p);have c:=List.countP_le_length (p:=p) (l:=s);omega
 have c1:=cn isNl; have c2:=cn stk; have c3':=cn dgt
 have hr:rk 1 0 s=true:=by
  match s,hs with
  | [],_=>decide
  | [c],_=>unfold rk; split <;> simp [rk]
 refine lk_mk.mpr ⟨λ c hc=>?_,by omega,?_,by omega,by omega⟩
 ·rw [e,mem_append,mem_append] at hc;rcases hc with (hc | hc) | hc
  ·exact h1 c (mem_of_mem_take hc)
  ·exact ha c hc
  ·exact h1 c (mem_of_mem_drop hc)
 ·rw [e];exact xm0 [5] (ts1 (zo1 j h3) (ts1 hr (yo1 i h3))) [18]
theorem ts0 (z:Str):(∀ l ∈ (Txt.split z "\n").map cp,10 ∉ l) /\ cp z=jm ((Txt.split z "\n").map cp) /\ Txt.split z "\n" ≠ []:=by
 have e1:=StrLaws.join_split z "\n";have e2:=StrLaws.split_free z 10;rw [<- zy4] at e2;have e3:=PyProof.Rows.split_pos z "\n";refine ⟨by simpa using e2,?_,λ e=>by simp_all⟩;have:=congrArg cp e1;rw [te0] at this;exact this.symm
variable {T:Str} {ls:[35]}
theorem lz_b (h:Lk 35 35 12 10 (cp T)=true) (hm:∀ l ∈ ls,l ∈ Txt.split T "\n") (hf:∀ f:Str->Nat,(ls.map f).sum<=2 * ([15].map f).sum):Lz (Str.join "\n" ls):=by
 obtain ⟨h1,h2,h3,h4,h5⟩:=lk_mk.mp h;obtain ⟨fr,e,ne⟩:=ts0 T;unfold Lz;rw [te0]
 have l1:∀ l ∈ ls.map cp,l ∈ [15].map cp:=λ l hl=>by
  obtain ⟨a,ha,rfl⟩:=List.mem_map.mp hl;exact List.mem_map.mpr ⟨a,hm a ha,rfl⟩
 have fr':∀ l ∈ ls.map cp,10 ∉ l:=λ l hl=>fr l (l1 l hl);have one:∀ l:List Str,(l.map λ _=>1).sum=l.length:=λ l=>by induction l with | nil=>rfl | cons a r ih=>simp [ih]; omega
 have nl:=vp1 fr;rw [<- e] at nl
 have lt:[15].length<=36:=by
  have:(cp T).countP (λ c=>decide (c=10))<=35:=h2
  simp_all
 have ll:=hf λ _=>1;rw [one,one] at ll
 have cn:∀ p:Nat->Bool,p 10=false->(jm (ls.map cp)).countP p<=2 * (cp T).countP p:=λ p hp=>by
  rw [wa1 p hp,e,wa1 p hp,map_map,map_map]
  simp_all
 have c2:=cn stk [14];have c3':=cn dgt [14];refine lk_mk.mpr ⟨λ c hc=>?_,?_,?_,by omega,by omega⟩
 ·have mj:∀ {ls:List (List Nat)} {c:Nat},c ∈ jm ls->c=10 \/ ∃ l ∈ ls,c ∈ l:=λ {ls}=>by
    induction ls with
    | nil=>intro c h; cases h
    | cons a r ih =>
     intro c h;cases r with
     | nil=>exact .inr ⟨a,by simp,h⟩
     | cons b r =>
      have h':c ∈ a ++ 10 :: jm (b :: r):=h;rcases List.mem_append.mp h' with h' | h'
      ·simp_all
      ·rcases List.mem_cons.mp h' with h' | h'
       ·exact .inl h'
       ·rcases ih h' with h' | ⟨l,hl,hc⟩
        ·exact .inl h'
        ·exact .inr ⟨l,mem_cons_of_mem _ hl,hc⟩
  rcases mj hc with rfl | ⟨l,hl,hcl⟩
  ·decide
  ·exact h1 c (by rw [e]; exact yp1 (l1 l hl) hcl)
 ·show (jm (ls.map cp)).countP (λ c=>decide (c=10))<=77;rw [vp1 fr',length_map];omega
 ·rw [e] at h3;have:=ue1 fr h3;exact xm0 (by decide:35<=78) (sq3 λ l hl=>⟨fr' l hl,this l (l1 l hl)⟩) [18]
open Mt
def O1:List Str:=["", "None", "none ", "none\n", " none", "0 0", "0 0\n", "0 0\n+", "0 0\n.", "0 0\n+-+\n", "0 0\n+-+ "]
def O2:List Str:=["0 0\n+-+", "0\n+-+", "0 0 0\n+-+", "00 0\n+-+", "+0 0\n+-+", "-0 0\n+-+", "0 0\n-", "0 0\n+-"]
def O3:List Str:=["0 0\n+\n|\n+", "0 0\n+\n+", "0 0\n+\n|", "0 0\n|\n+", "0 0\n+-+\n...\n...", "a b\n+-+"]
def O4:List Str:=["0 0\n+-+.+-+", "0 0\n+-+..", "0 0\n..+-+", "1 1\n+-+", "0 -3\n+-+", "0  0\n+-+", "0 0\n+--+"]
theorem xy4:(O1 ++ O2 ++ O3 ++ O4).all (λ z=>Lk 77 78 29 25 (cp z))=true:=by decide +kernel
def zj4:Sp3:=λ ds μ Q=>∃ (s:Addr) (a:Int) (b:Bool),ds=[.ref s] /\ μ s=some (.lst [.int a,.bl b]) /\ 0<=a /\ ∀ z μ',Lz z->Q (.str z) μ'
theorem tk5:RdQ zj4 (t_q9 vc0) N_q9:=by
 rintro ds μ Q ⟨s,a,b,rfl,hs,ha,q⟩;refine ⟨(show 11<=sizeLine by decide),λ p hp=>?_⟩;show yn0 vc0 _ [some (.ref s),some [66]] (updM μ p (.lst (sD O1)));have e1:updM μ p (.lst (sD O1)) p=some (.lst (sD O1)):=za0;have s1:updM μ p (.lst (sD O1)) s=_:=Ext.new hp _ _ hs;generalize updM μ p (.lst (sD O1))=μ1 at e1 s1 ⊢;refine ⟨(show 8<=sizeLine by decide),λ p2 hp2=>?_⟩;refine tl0 (m:=sD O2) (Ext.new hp2 _ _ e1) za0 [14] λ p3 hp3=>?_;change updM μ1 p2 (.lst (sD O2)) p3=none at hp3;have s2:=Ext.new (o:=.lst (sD O1 ++ sD O2)) hp3 _ _ (Ext.new (o:=.lst (sD O2)) hp2 _ _ s1);have e2:updM (updM μ1 p2 (.lst (sD O2))) p3 (.lst (sD O1 ++ sD O2)) p3=some (.lst (sD O1 ++ sD O2)):=za0;show xn0 vc0 _ [some (.ref s),some (.ref p3)] (updM (updM μ1 p2 (.lst (sD O2))) p3 (.lst (sD O1 ++ sD O2)));generalize updM (updM μ1 p2 (.lst (sD O2))) p3 (.lst (sD O1 ++ sD O2))=μ2 at e2 s2 ⊢;refine ⟨(show 6<=sizeLine by decide),λ p4 hp4=>?_⟩;refine tl0 (m:=sD O3) (Ext.new hp4 _ _ e2) za0 [14] λ p5 hp5=>?_;change updM μ2 p4 (.lst (sD O3)) p5=none at hp5;have s3:=Ext.new (o:=.lst (sD O1 ++ sD O2 ++ sD O3)) hp5 _ _ (Ext.new (o:=.lst (sD O3)) hp4 _ _ s2);have e3:updM (updM μ2 p4 (.lst (sD O3))) p5 (.lst (sD O1 ++ sD O2 ++ sD O3)) p5=some (.lst (sD O1 ++ sD O2 ++ sD O3)):=za0;show sm0 vc0 _ [some (.ref s),some (.ref p5)] (updM (updM μ2 p4 (.lst (sD O3))) p5 (.lst (sD O1 ++ sD O2 ++ sD O3)));generalize updM (updM μ2 p4 (.lst (sD O3))) p5 (.lst (sD O1 ++ sD O2 ++ sD O3))=μ3 at e3 s3 ⊢;refine ⟨(show 7<=sizeLine by decide),λ p6 hp6=>?_⟩;refine tl0 (m:=sD O4) (Ext.new hp6 _ _ e3) za0 [14] λ p7 hp7=>?_;change updM μ3 p6 (.lst (sD O4)) p7=none at hp7;have s4:=Ext.new (o:=.lst (sD O1 ++ sD O2 ++ sD O3 ++ sD O4)) hp7 _ _ (Ext.new (o:=.lst (sD O4)) hp6 _ _ s3);have e4:updM (updM μ3 p6 (.lst (sD O4))) p7 (.lst (sD O1 ++ sD O2 ++ sD O3 ++ sD O4)) p7=some (.lst (sD O1 ++ sD O2 ++ sD O3 ++ sD O4)):=za0;have ns7:p7 ≠ s:=(uc0 (Ext.new (o:=.lst (sD O4)) hp6 _ _ s3) hp7).symm;show tm0 vc0 _ [some (.ref s),some (.ref p7)] (updM (updM μ3 p6 (.lst (sD O4))) p7 (.lst (sD O1 ++ sD O2 ++ sD O3 ++ sD O4)));generalize updM (updM μ3 p6 (.lst (sD O4))) p7 (.lst (sD O1 ++ sD O2 ++ sD O3 ++ sD O4))=μ4 at e4 s4 ⊢;have sd:sD O1 ++ sD O2 ++ sD O3 ++ sD O4=sD (O1 ++ O2 ++ O3 ++ O4):=by rfl
 rw [sd] at e4
 conv=>whnf
 rw [e4];have l32:(sD (O1 ++ O2 ++ O3 ++ O4)).length=32:=by decide
 refine ⟨s,_,a,b,[],rfl,by rw [l32]; decide,by rw [l32]; decide,s4,ha,λ i a2 i0 i1 _=>?_⟩;obtain ⟨d,hd,e⟩:=xt2 (l:=sD (O1 ++ O2 ++ O3 ++ O4)) i0 i1;obtain ⟨z,hz,rfl⟩:=List.mem_map.mp hd;exact yd0 (by rw [ta0 ns7]; exact e4) e (q z _ (List.all_eq_true.mp xy4 z hz))
theorem cutT {α:Type} (l:List α) {i:Int} (h:0<=i):cut3 l none (some i)=l.take i.toNat:=by
 unfold cut3 sIx3;simp only [if_neg (show ¬ i < 0 by omega),List.drop_zero,Nat.sub_zero];simp
theorem cutD {α:Type} (l:List α) {i:Int} (h:0<=i):cut3 l (some i) none=l.drop i.toNat:=by
 unfold cut3 sIx3;simp only [if_neg (show ¬ i < 0 by omega)];by_cases c:i.toNat<=l.length
 ·rw [Nat.min_eq_left c];exact take_of_length_le [17]
 ·rw [Nat.min_eq_right [5],List.drop_of_length_le [18],List.drop_of_length_le [5]]; simp
theorem cutM {α:Type} (l:List α) {i:Int} (h:0<=i) (hj:i<=j):cut3 l (some i) (some j)=(l.drop i.toNat).take (j.toNat - i.toNat):=by
 unfold cut3 sIx3;simp only [if_neg (show ¬ i < 0 by omega),if_neg (show ¬ j < 0 by omega)];by_cases c:i.toNat<=l.length
 ·simp_all;omega
 ·rw [Nat.min_eq_right (show l.length<=i.toNat by omega),List.drop_of_length_le [18],List.drop_of_length_le (show l.length<=i.toNat by omega)]; simp
theorem wq2 {α:Type} (l:List α) (lo hi:Option Int):(cut3 l lo hi).length<=l.length:=by
 unfold cut3
 simp_all;omega
theorem yd1 (f:Str->Nat) (l:[35]) (i:Nat):((l.take i).map f).sum<=(l.map f).sum:=by
 have e:=take_append_drop i l;have:(l.map f).sum=((l.take i).map f).sum + ((l.drop i).map f).sum:=by rw [<- sum_append,<- map_append,e]
 omega
theorem zd1 (f:Str->Nat) (l:[35]) (i:Nat):((l.drop i).map f).sum<=(l.map f).sum:=by
 have e:=take_append_drop i l;have:(l.map f).sum=((l.take i).map f).sum + ((l.drop i).map f).sum:=by rw [<- sum_append,<- map_append,e]
 omega
abbrev tSig:Str := "+-|. 01\nx"
theorem zo3:∀ c ∈ cp tSig,c < 128:=by decide +kernel
theorem yo3:(cp tSig).length=9:=by decide +kernel
def zf2:Sp3:=λ ds μ Q=>∃ (s:Addr) (a:Int) (b:Bool) (T:Str),ds=[.ref s,.str T] /\ μ s=some (.lst [.int a,.bl b]) /\ 0<=a /\ Lk 35 35 12 10 (cp T)=true /\ T.length<=5000 /\ ∀ z μ',Lz z->Q (.str z) μ'
theorem cat3 {g:Str} {i:Int} (hi:0<=i) (hj:0<=j) (h:Lk 35 35 12 10 (cp T)=true) (hs:(cp g).length<=1) (ha:∀ c ∈ cp g,c < 128):Lz ((⟨(cut3 (cp T) none (some i)).toArray⟩:Str) ++ g ++ ⟨(cut3 (cp T) (some j) none).toArray⟩) :=
 lz_a (i:=i.toNat) (j:=j.toNat) h hs ha (by rw [yj0,yj0,<- cutT _ hi,<- cutD _ hj])
theorem cat2 {i:Int} (hi:0<=i) (hj:0<=j) (h:Lk 35 35 12 10 (cp T)=true):Lz ((⟨(cut3 (cp T) none (some i)).toArray⟩:Str) ++ ⟨(cut3 (cp T) (some j) none).toArray⟩) :=
 lz_a (s:=[]) (i:=i.toNat) (j:=j.toNat) h (Nat.zero_le _) (λ c hc=>by cases hc) (by rw [yj0,<- cutT _ hi,<- cutD _ hj]; simp)
theorem wg1 {r:Addr} (h:Lk 35 35 12 10 (cp T)=true) (hl:T.length<=5000) (hr:μ r=some (.lst (sD ls))) (hm:∀ l ∈ ls,l ∈ Txt.split T "\n") (hf:∀ f:Str->Nat,(ls.map f).sum<=2 * ([15].map f).sum) (q:∀ z μ',Lz z->Q (.str z) μ'):yq0 "\n" [.ref r] μ Q:=by
 refine jo_l hr [20] ?_ (q _ _ (lz_b h hm hf));have one:∀ l:List Str,(l.map λ _=>1).sum=l.length:=λ l=>by induction l with | nil=>rfl | cons a r ih=>simp [ih]; omega
 have a:=hf (·.length);have b:=hf λ _=>1;rw [one,one] at b;obtain ⟨fr,e,ne⟩:=ts0 T;have nl:=vp1 fr;rw [<- e] at nl;have lt:(cp T).countP (λ c=>decide (c=10))<=35:=(lk_mk.mp h).2.1;rw [nl,length_map] at lt
 have sl:([15].map (·.length)).sum<=T.length:=by
  have:∀ ls:List (List Nat),(ls.map (·.length)).sum<=(jm ls).length:=λ ls=>by
   induction ls with
   | nil=>exact Nat.le_refl _
   | cons a r ih =>
    cases r with
    | nil=>simp [jm]
    | cons b r =>
     show _<=(a ++ 10 :: jm (b :: r)).length
     simp_all;omega
  have:=this ([15].map cp);rw [<- e,map_map,<- zc0] at this;assumption
 omega
theorem ys4:RdQ zf2 (vh4 vc0 zj4) sd4:=by
 rintro ds μ Q ⟨s,a,b,T,rfl,hs,ha,hT,hL,q⟩;have hz:(1048576:Nat) < sizeLine:=by decide
 refine ⟨s,7,a,b,[],rfl,by decide,by decide,hs,ha,λ way a1 w0 w1 a1n=>?_⟩;refine ⟨by omega,s,_,a1,b,[],rfl,by omega,by omega,za0,a1n,λ at' a2 t0 t1 a2n=>?_⟩;refine ⟨s,9,a2,b,[],rfl,by decide,by decide,za0,a2n,λ si a3 s0 s1 a3n=>⟨by decide +kernel,?_⟩⟩;have s9:si.toNat < (cp tSig).length:=by rw [yo3]; omega
 have es:L2.atI (cp tSig) si=some (cp tSig)[si.toNat]:=by
  have:=L2.atI_nat (xs:=cp tSig) (j:=si.toNat) (getElem?_eq_getElem s9);rw [Int.toNat_of_nonneg s0] at this;exact this
 refine ⟨_,es,?_⟩;have ag:(cp tSig)[si.toNat] < 128:=zo3 _ (getElem_mem _);generalize (cp tSig)[si.toNat]=sg at ag;refine ⟨⟨by decide +kernel,by omega⟩,λ p hp=>?_⟩;have e1:updM (updM (updM (updM μ s (.lst [.int a1,.bl b])) s (.lst [.int a2,.bl b])) s (.lst [.int a3,.bl b])) p (.lst ([15].map D.str)) p=some (.lst [83]):=za0;have es1:updM (updM (updM (updM μ s (.lst [.int a1,.bl b])) s (.lst [.int a2,.bl b])) s (.lst [.int a3,.bl b])) p (.lst ([15].map D.str)) s=some (.lst [.int a3,.bl b]):=Ext.new hp _ _ za0;have nps:p ≠ s:=(uc0 za0 hp).symm;generalize updM (updM (updM (updM μ s (.lst [.int a1,.bl b])) s (.lst [.int a2,.bl b])) s (.lst [.int a3,.bl b])) p (.lst ([15].map D.str))=μ1 at e1 es1
 conv=>whnf
 rw [e1];obtain ⟨fr,e,ne⟩:=ts0 T;have nl:=vp1 fr;rw [<- e] at nl;have lt:(cp T).countP (λ c=>decide (c=10))<=35:=(lk_mk.mp hT).2.1;rw [nl,length_map] at lt;have lp:=List.length_pos_iff.mpr ne;have ln:=uz0 [15];refine ⟨s,_,a3,b,[],rfl,by omega,by omega,es1,a3n,λ sp a4 p0 p1 a4n=>?_⟩;have e2:updM μ1 s (.lst [.int a4,.bl b]) p=some (.lst [83]):=by rw [ta0 nps]; exact e1
 have es2:updM μ1 s (.lst [.int a4,.bl b]) s=some (.lst [.int a4,.bl b]):=za0;generalize updM μ1 s (.lst [.int a4,.bl b])=μ2 at e2 es2
 have c1:∀ lo hi,(⟨(cut3 T.cps.toList lo hi).toArray⟩:Str).length<=5000:=λ lo hi=>by
  show (cut3 (cp T) lo hi).toArray.size<=5000;rw [size_toArray];have:=wq2 (cp T) lo hi;rw [<- zc0] at this;omega
 have c2:∀ x y:Str,(x ++ y).length=x.length + y.length:=λ x y=>by rw [zc0,yj0,length_append,<- zc0,<- zc0]
 have o1:(⟨#[sg]⟩:Str).length=1:=rfl;have sdT:∀ i:Int,0<=i->cut3 [83] none (some i)=sD ([15].take i.toNat):=λ i h=>by rw [cutT _ h]; unfold sD; rw [map_take]
 have sdD:∀ i:Int,0<=i->cut3 [83] (some i) none=sD ([15].drop i.toNat):=λ i h=>by rw [cutD _ h]; unfold sD; rw [map_drop]
 have sdM:∀ i j:Int,0<=i->i<=j->cut3 [83] (some i) (some j)=sD (([15].drop i.toNat).take (j.toNat - i.toNat)):=λ i j h hj=>by rw [cutM _ h hj]; unfold sD; simp
 have sda:∀ x y:List Str,sD x ++ sD y=sD (x ++ y):=λ x y=>by unfold sD; simp
 have szd:∀ lo hi,(cut3 [83] lo hi).length<=36:=λ lo hi=>by
  have:=wq2 [83] lo hi;omega
 have W:way=0 \/ way=1 \/ way=2 \/ way=3 \/ way=4 \/ way=5 \/ way=6:=by omega
 rcases W with rfl | rfl | rfl | rfl | rfl | rfl | rfl
 ·refine ⟨by omega,by rw [o1]; have:=c1 none (some at'); omega,by omega,by rw [c2,o1]; have:=c1 none (some at'); have:=c1 (some at') none; omega,q _ _ ?_⟩;exact cat3 t0 t0 hT (Nat.le_refl 1) (λ c hc=>by simp_all)
 ·refine ⟨by omega,by rw [o1]; have:=c1 none (some at'); omega,by omega,by rw [c2,o1]; have:=c1 none (some at'); have:=c1 (some (at' + 1)) none; omega,q _ _ ?_⟩;exact cat3 t0 [5] hT (Nat.le_refl 1) (λ c hc=>by simp_all)
 ·refine ⟨by omega,by omega,by have:=c1 none (some at'); have:=c1 (some (at' + 1)) none; omega,q _ _ ?_⟩;exact cat2 t0 [5] hT
 ·conv=>whnf
  rw [e2];intro r1 hr1;have e3:updM μ2 r1 (.lst (cut3 [83] none (some sp))) p=some (.lst [83]):=Ext.new hr1 _ _ e2
  conv=>whnf
  rw [e3];intro r2 hr2;refine tl0 (Ext.new hr2 _ _ za0) za0 (by have:=szd none (some sp); have:=szd [62] none; omega) λ r3 hr3=>?_;dsimp only [nil3];rw [sdT sp p0,sdD (sp + 1) [5],sda]
  exact wg1 hT hL za0 (λ l hl=>(List.mem_append.mp hl).elim mem_of_mem_take mem_of_mem_drop) (λ f=>by
   rw [map_append,sum_append];have:=yd1 f [15] sp.toNat;have:=zd1 f [15] (sp + 1).toNat;omega) q
 ·conv=>whnf
  rw [e2];intro r1 hr1;have e3:updM μ2 r1 (.lst (cut3 [83] none [62])) p=some (.lst [83]):=Ext.new hr1 _ _ e2
  conv=>whnf
  rw [e3];intro r2 hr2;refine tl0 (Ext.new hr2 _ _ za0) za0 (by have:=szd none [62]; have:=szd (some sp) none; omega) λ r3 hr3=>?_;dsimp only [nil3];rw [sdT (sp + 1) [5],sdD sp p0,sda]
  exact wg1 hT hL za0 (λ l hl=>(List.mem_append.mp hl).elim mem_of_mem_take mem_of_mem_drop) (λ f=>by
   rw [map_append,sum_append];have:=yd1 f [15] (sp + 1).toNat;have:=zd1 f [15] sp.toNat;omega) q
 ·conv=>whnf
  rw [e2];intro r1 hr1;have e3:updM μ2 r1 (.lst (cut3 [83] [62] (some (sp + 2)))) p=some (.lst [83]):=Ext.new hr1 _ _ e2
  conv=>whnf
  rw [e3];intro r2 hr2;have e4:=Ext.new (o:=.lst (cut3 [83] (some sp) [62])) hr2 _ _ e3;have zA:=szd [62] (some (sp + 2));have zB:=szd (some sp) [62];have zC:=szd none (some sp);have zD:=szd (some (sp + 2)) none;refine tl0 (Ext.new hr2 _ _ za0) za0 [5] λ r3 hr3=>?_;have e5:=Ext.new (o:=.lst (cut3 [83] [62] (some (sp + 2)) ++ cut3 [83] (some sp) [62])) hr3 _ _ e4;have m5:updM (updM (updM μ2 r1 (.lst (cut3 [83] [62] (some (sp + 2))))) r2 (.lst (cut3 [83] (some sp) [62]))) r3 (.lst (cut3 [83] [62] (some (sp + 2)) ++ cut3 [83] (some sp) [62])) r3=some (.lst (cut3 [83] [62] (some (sp + 2)) ++ cut3 [83] (some sp) [62])):=za0;generalize updM (updM (updM μ2 r1 (.lst (cut3 [83] [62] (some (sp + 2))))) r2 (.lst (cut3 [83] (some sp) [62]))) r3 (.lst (cut3 [83] [62] (some (sp + 2)) ++ cut3 [83] (some sp) [62]))=μ5 at e5 m5 ⊢
  conv=>whnf
  rw [e5];intro r4 hr4;have k4:updM μ5 r4 (.lst (cut3 [83] none (some sp))) r4=some (.lst (cut3 [83] none (some sp))):=za0;have k3:=Ext.new (o:=.lst (cut3 [83] none (some sp))) hr4 _ _ m5;have k5:=Ext.new (o:=.lst (cut3 [83] none (some sp))) hr4 _ _ e5;generalize updM μ5 r4 (.lst (cut3 [83] none (some sp)))=μ6 at k4 k3 k5 ⊢
  conv=>whnf
  rw [k4]
  conv=>whnf
  rw [k3];refine ⟨by rw [length_append]; omega,λ r5 hr5=>?_⟩;have e6:=Ext.new (o:=.lst (cut3 [83] none (some sp) ++ (cut3 [83] [62] (some (sp + 2)) ++ cut3 [83] (some sp) [62]))) hr5 _ _ k5
  conv=>whnf
  rw [e6];intro r6 hr6;refine tl0 (l:=cut3 [83] none (some sp) ++ (cut3 [83] [62] (some (sp + 2)) ++ cut3 [83] (some sp) [62])) (m:=cut3 [83] (some (sp + 2)) none) (Ext.new hr6 _ _ za0) za0 (by rw [length_append,length_append]; omega) λ r7 hr7=>?_;dsimp only [nil3];rw [sdT sp p0,sdM (sp + 1) (sp + 2) [5] [5],sdM sp (sp + 1) p0 [5],sdD (sp + 2) [5],sda,sda,sda];have x1:(sp + 1).toNat=sp.toNat + 1:=by omega
  have x2:(sp + 2).toNat=sp.toNat + 2:=by omega
  refine wg1 hT hL za0 (λ l hl=>?_) (λ f=>?_) q
  ·rcases List.mem_append.mp hl with hl | hl
   ·rcases List.mem_append.mp hl with hl | hl
    ·exact mem_of_mem_take hl
    ·exact (List.mem_append.mp hl).elim (λ h=>mem_of_mem_drop (mem_of_mem_take h)) λ h=>mem_of_mem_drop (mem_of_mem_take h)
   ·exact mem_of_mem_drop hl
  ·rw [x1,x2,show sp.toNat + 2 - (sp.toNat + 1)=1 by omega,show sp.toNat + 1 - sp.toNat=1 by omega];have a1:=yd1 f [15] (sp.toNat + 1);have a2:=zd1 f [15] (sp.toNat + 1);have b2:=take_append_drop 1 ([15].drop (sp.toNat + 1));rw [List.drop_drop] at b2;rw [List.take_add,map_append,sum_append] at a1;rw [<- b2,map_append,sum_append] at a2;simp only [map_append,sum_append];rw [show sp.toNat + 1 + 1=sp.toNat + 2 by omega] at a2;omega
 ·exact ⟨s,a4,b,rfl,es2,a4n,q⟩
open Mt
theorem ue3 {k:Nat}:∀ {l:[88]},(∀ n ∈ l,n<=k)->l.sum<=k * l.length
 | [],_=>Nat.zero_le _
 | n :: l,h=>by
  have a:=h n [17];have b:=ue3 (k:=k) (l:=l) λ m hm=>h m (mem_cons_of_mem _ hm);rw [sum_cons,length_cons,Nat.mul_succ];omega
theorem we4 (h:Lz z):Zdk z:=by
 obtain ⟨h1,h2,h3,h4,h5⟩:=lk_mk.mp h;obtain ⟨fr,e,ne⟩:=ts0 z;have nl:=vp1 fr;rw [<- e,length_map] at nl;have n2:(cp z).countP (λ c=>decide (c=10))<=77:=h2;have rl:=ue1 fr (by rw [<- e]; exact h3);have st:=wa1 stk [14] ((Txt.split z "\n").map cp);rw [<- e,map_map] at st;have jl:=tm2 (Txt.split z "\n");rw [<- e,<- zc0] at jl;have rl':∀ s ∈ Txt.split z "\n",s.length<=78:=λ s hs=>by rw [zc0]; simp_all
 have sl:=ue3 (k:=78) (l:=(Txt.split z "\n").map (·.length)) λ n hn=>by
  obtain ⟨s,hs,rfl⟩:=List.mem_map.mp hn;exact rl' s hs
 rw [length_map] at sl
 have main:∀ l0 rows,Txt.split z "\n" = l0 :: rows->l0.length<=78 /\ rows.length<=77 /\ (∀ s ∈ rows,s.length<=78) /\ nS rows<=29:=λ l0 rows hs=>by
  rw [hs] at nl rl' st;refine ⟨rl' _ [17],by simp_all,λ s h=>rl' s (by simp [h]),?_⟩;rw [map_cons,sum_cons] at st;unfold nS;have e2:((λ l:List Nat=>l.countP stk) ∘ cp)=λ s:Str=>(cp s).countP stk:=rfl;rw [e2] at st;omega
 refine ⟨⟨h1,by omega,λ l0 rows hs=>?_⟩,λ l0 rows hs=>?_,h5⟩
 ·obtain ⟨a,b,c,d⟩:=main l0 rows hs;exact ⟨by omega,by omega,λ s h=>Nat.le_trans (c s h) [14],by omega⟩
 simp_all;omega
theorem td1 {r c:Int} (h:s ∈ shw (sgc ts x0 y1 r c) (x0 + c / 2,y1 - r / 2)):2 * (y1 - s.2.1) - s.2.2=r /\ 2 * (s.1 - x0) + 1 - s.2.2=c:=by
 unfold shw sgc at h;by_cases a:r % 2=0 /\ c % 2=0 /\ ts.any (has (x0 + c / 2,y1 - r / 2))=true
 ·simp_all
 ·rw [if_neg a] at h;by_cases b:r % 2=0 /\ c % 2=1 /\ (x0 + c / 2,y1 - r / 2,0) ∈ ts
  ·simp_all;omega
  ·rw [if_neg b] at h;by_cases d:r % 2=1 /\ c % 2=0 /\ (x0 + c / 2,y1 - r / 2 - 1,1) ∈ ts
   ·simp_all;omega
   simp_all
theorem zg2 (n:Nat) (p:Pt):(shw n p).length=if stk n=true then 1 else 0:=by
 unfold shw stk;by_cases a:n=45
 ·simp [a]
 ·by_cases b:n=124 <;> simp [a,b]
theorem vb4 (ts:[50]) (x0 y1:Int) (w n:Nat):(allL ts x0 y1 w n).Nodup:=by
 unfold allL List.Nodup;rw [List.pairwise_flatMap];refine ⟨λ r _=>?_,List.pairwise_lt_range.imp λ {r r'} h x hx y hy e=>?_⟩
 ·unfold colL;rw [List.pairwise_flatMap];refine ⟨λ c _=>?_,List.pairwise_lt_range.imp λ {c c'} h x hx y hy e=>?_⟩
  ·have:=zg2 (sgc ts x0 y1 r c) (x0 + (c:Int) / 2,y1 - (r:Int) / 2);generalize shw (sgc ts x0 y1 r c) (x0 + (c:Int) / 2,y1 - (r:Int) / 2)=l at this
   match l with
   | []=>exact .nil
   | [a]=>simp
   | a :: b :: l=>exfalso; rw [length_cons,length_cons] at this; split at this <;> omega
  ·have a:=(td1 hx).2;have b:=(td1 hy).2;rw [e] at a;omega
 ·obtain ⟨c,_,hx⟩:=List.mem_flatMap.mp hx;obtain ⟨c',_,hy⟩:=List.mem_flatMap.mp hy;have a:=(td1 hx).1;have b:=(td1 hy).1;rw [e] at a;omega
theorem tq2 (ts:[50]) (x0 y1 r:Int):∀ n,(colL ts x0 y1 r n).length=((List.range n).map λ c:Nat=>sgc ts x0 y1 r c).countP stk
 | 0=>rfl
 | n + 1=>by
  rw [zb3,length_append,tq2 ts x0 y1 r n,zg2,range_succ,map_append,countP_append];simp
theorem zt2 (ts:[50]) (x0 y1:Int) (w:Nat):∀ n,(allL ts x0 y1 w n).length=((List.range n).map λ r:Nat=>(cp (rowS ts x0 y1 r (2 * w + 1))).countP stk).sum
 | 0=>rfl
 | n + 1=>by
  rw [zd3,length_append,zt2 ts x0 y1 w n,tq2,range_succ (n:=n),map_append,sum_append];simp [rowS,cp]
theorem ww3 (ts:[50]) (x0 y1:Int) (w h:Nat):nS (sd0 ts x0 y1 w h)<=ts.length:=by
 have e:nS (sd0 ts x0 y1 w h)=(allL ts x0 y1 w (2 * h + 1)).length:=by
  rw [zt2];unfold nS sd0;rw [map_map]; rfl
 rw [e];refine List.Nodup.length_le_of_subset (vb4 ..) λ s hs=>?_;obtain ⟨r,_,hs⟩:=List.mem_flatMap.mp hs;obtain ⟨c,_,hs⟩:=List.mem_flatMap.mp hs;exact wg2 hs
theorem tj4 (ts:[50]) (x0 y1 r c:Int):sgc ts x0 y1 r c=43 \/ sgc ts x0 y1 r c=45 \/ sgc ts x0 y1 r c=124 \/ sgc ts x0 y1 r c=46:=by
 unfold sgc;split
 ·simp
 ·split
  ·simp
  ·split <;> simp
theorem xu1 {n:Int} (h:n.natAbs < 10):(cp (nsT n)).length<=2:=by
 by_cases h0:0<=n
 ·rw [xg1 h0];exact Nat.le_trans (sa3 (k:=1) [14] [5]) [14]
 ·rw [tn0 [5],length_cons];exact Nat.succ_le_succ (sa3 (k:=1) [14] [5])
theorem zh3 (n:Int):∀ c ∈ cp (nsT n),c < 128:=by
 by_cases h0:0<=n
 ·rw [xg1 h0]; intro c hc; have:=xj0 _ c hc; omega
 ·rw [tn0 [5]];intro c hc;rcases List.mem_cons.mp hc with rfl | hc
  ·decide
  ·have:=xj0 _ c hc; omega
theorem xi3:∀ {ls:List (List Nat)} {c:Nat},c ∈ jm ls->c=10 \/ ∃ l ∈ ls,c ∈ l
 | [],c,h=>by cases h
 | [a],c,h=>.inr ⟨a,by simp,h⟩
 | a :: b :: r,c,h=>by
  have h':c ∈ a ++ 10 :: jm (b :: r):=h;rcases List.mem_append.mp h' with h' | h'
  ·simp_all
  ·rcases List.mem_cons.mp h' with h' | h'
   ·exact .inl h'
   ·rcases xi3 h' with h' | ⟨l,hl,hc⟩
    ·exact .inl h'
    ·exact .inr ⟨l,mem_cons_of_mem _ hl,hc⟩
theorem tu1 (hs:∀ t ∈ us,sm 6 t) (hw:∀ t ∈ us,wy t) (hl:us.length<=6) (hn:us ≠ []):gds us /\ ∃ (x0 y0 y1:Int) (w h:Nat),Bw us x0 y0 y1 w h /\ Lk 35 35 12 10 (cp (up0 us x0 y0 y1 w h))=true /\ (up0 us x0 y0 y1 w h).length<=5000:=by
 have bd:∀ s ∈ us,-8<=s.1 /\ gx s<=9 /\ -8<=s.2.1 /\ gy s<=9 /\ s.1<=8 /\ s.2.1<=8:=λ s h=>by
  have a:=hs s h;have b:=hw s h;unfold sm at a;unfold wy at b;unfold gx gy;omega
 have hg:gds us:=λ s h=>by
  have:=bd s h;have t:(100:Int)<=10 ^ 89:=by decide
  unfold gd B;omega
 obtain ⟨x0,y0,y1,w,h,bw⟩:=yg5 (x:=-8) (y:=-8) hn hw λ s h=>by have:=bd s h; omega
 refine ⟨hg,x0,y0,y1,w,h,bw,?_⟩;obtain ⟨x1,bx,ew,eh,_,_⟩:=bw;have c0 : -8<=x0 /\ x0<=8:=by obtain ⟨s,h,rfl⟩:=bx.a0; simp [*]
 have d0 : -8<=y0 /\ y0<=8:=by obtain ⟨s,h,rfl⟩:=bx.b0; simp [*]
 have c1:x1<=9:=by obtain ⟨s,h,rfl⟩:=bx.a1; exact (bd s h).2.1
 have d1:y1<=9:=by obtain ⟨s,h,rfl⟩:=bx.b1; simp_all
 have rl:(sd0 us x0 y1 w h).length=2 * h + 1:=by simp [sd0]
 have ec:cp (cnl x0 y0)=cp (nsT x0) ++ 32 :: cp (nsT y0):=by unfold cnl; rw [wk0]; rfl
 have lc:(cp (cnl x0 y0)).length<=5:=by
  have a:=xu1 (n:=x0) [5];have b:=xu1 (n:=y0) [5]
  simp_all;omega
 have fr:∀ l ∈ (cnl x0 y0 :: sd0 us x0 y1 w h).map cp,10 ∉ l:=λ l hl=>by
  obtain ⟨a,ha,rfl⟩:=List.mem_map.mp hl;exact vg2 _ _ _ _ _ _ a ha
 have row:∀ l ∈ sd0 us x0 y1 w h,(cp l).length<=35 /\ (∀ c ∈ cp l,c < 128) /\ (cp l).countP dgt=0:=λ l hl=>by
  obtain ⟨r,_,rfl⟩:=List.mem_map.mp hl;refine ⟨by rw [<- zc0,ve1]; omega,λ c hc=>?_,List.countP_eq_zero.mpr λ c hc=>?_⟩
  all_goals
   simp only [cp,rowS,mem_map] at hc;obtain ⟨i,_,rfl⟩:=hc;rcases tj4 us x0 y1 r i with e | e | e | e <;> rw [e] <;> decide
 have hd:∀ p:Nat->Bool,(cp (cnl x0 y0)).countP p<=5:=λ p=>Nat.le_trans List.countP_le_length lc
 have z0:∀ l:List Str,(∀ s ∈ l,(cp s).countP dgt=0)->(l.map λ s=>(cp s).countP dgt).sum=0:=λ l=>by
  induction l with
  | nil=>intro _; rfl
  | cons a r ih=>intro h; simp_all
 constructor
 ·unfold up0;rw [te0];refine lk_mk.mpr ⟨λ c hc=>?_,?_,sq3 λ l hl=>⟨fr l hl,?_⟩,?_,?_⟩
  ·rcases xi3 hc with rfl | ⟨l,hl,hc⟩
   ·decide
   ·obtain ⟨a,ha,rfl⟩:=List.mem_map.mp hl;rcases List.mem_cons.mp ha with rfl | ha
    ·rw [ec,mem_append,mem_cons] at hc;rcases hc with hc | rfl | hc
     ·exact zh3 _ c hc
     ·decide
     ·exact zh3 _ c hc
    ·exact (row a ha).2.1 c hc
  ·show List.countP (λ c=>decide (c=10)) _<=35;rw [vp1 fr,length_map,length_cons,rl]; omega
  ·obtain ⟨a,ha,rfl⟩:=List.mem_map.mp hl;rcases List.mem_cons.mp ha with rfl | ha
   ·omega
   simp_all
  ·rw [wa1 stk [14],map_map,map_cons,sum_cons];have a:=hd stk;have b:=ww3 us x0 y1 w h;have e2:((λ l:List Nat=>l.countP stk) ∘ cp)=λ s:Str=>(cp s).countP stk:=rfl;rw [e2];unfold nS at b;dsimp only;omega
  ·rw [wa1 dgt [14],map_map,map_cons,sum_cons];have a:=hd dgt;have e2:((λ l:List Nat=>l.countP dgt) ∘ cp)=λ s:Str=>(cp s).countP dgt:=rfl;rw [e2,z0 _ λ s hs=>(row s hs).2.2];dsimp only;omega
 ·unfold up0;rw [zc0,te0];have a:=tm2 (cnl x0 y0 :: sd0 us x0 y1 w h);have b:=we1 us x0 y1 w h;have m:(2 * h + 1) * (2 * w + 1)<=35 * 35:=Nat.mul_le_mul [5] [5];have f:((cnl x0 y0 :: sd0 us x0 y1 w h).map (·.length)).sum=(cnl x0 y0).length + ((sd0 us x0 y1 w h).map (·.length)).sum:=rfl;rw [<- zc0] at lc
  simp_all;omega
theorem sw3:Lk 35 35 12 10 (cp ("none" : Str))=true:=by decide +kernel
open Mt
theorem t_ne {K:Bool->Mu->Prop} (hv:getI ρ i=some [66]) (h:μ p=some (.lst [])) (k:∀ μ',K false μ'):b3 (o3 neR (v3 i) (lst3 nil3)) ρ μ K:=by
 unfold b3 o3 v3 lst3 nil3;rw [hv];refine ⟨Nat.zero_le _,λ q hq=>?_⟩;have h1:updM μ q (.lst []) p=some (.lst []):=Ext.new hq _ _ h;have h2:updM μ q (.lst []) q=some (.lst []):=za0;dsimp only;generalize updM μ q (.lst [])=μ1 at h1 h2;have d1:datM μ1 [66]=some (.list []):=by simp only [datM,h1,dats]
 have d2:datM μ1 (.ref q)=some (.list []):=by simp only [datM,h2,dats]
 rw [to1 rfl d1 d2 [14] [14]];exact k _
def zA:Str := "0 0\n" ++ L2.srep "+-" 40 ++ "+"
def rA':Str:=L2.srep "+-" 40 ++ "+"
def zB:Str := "0 0\n" ++ L2.srep "+\n|\n" 40 ++ "+"
def rB:List Str:=(List.range 81).map λ i=>if i % 2=0 then ⟨#[43]⟩ else ⟨#[124]⟩
def zC:Str := "0 0\n" ++ L2.srep "+-" 39 ++ "+"
def rC:Str:=L2.srep "+-" 39 ++ "+"
theorem spl {l:[35]} (e:cp z=jm (l.map cp)) (h:l ≠ []) (hf:l.all (λ t=>!(cp t).contains 10)=true):Txt.split z "\n" = l:=by
 rw [<- te0] at e;rw [wh0 e];refine uv0 h λ t ht hm=>?_
 simp_all
theorem spA:Txt.split zA "\n" = [("0 0" : Str),rA']:=spl [20] [17] [20]
theorem spB:Txt.split zB "\n" = ("0 0" : Str) :: rB:=spl [20] [17] [20]
theorem spC:Txt.split zC "\n" = [("0 0" : Str),rC]:=spl [20] [17] [20]
theorem ud2 {l:Str} (hs:Txt.split z "\n" = l :: rows) (h1:(cp z).all (λ c=>decide (c < 128))=true) (h2:z.length<=1000) (h3:(decide (l.length<=80) && decide (rows.length<=200) && rows.all (λ s=>decide (s.length<=200)) && decide (nS rows < 60))=true):Zok z:=by
 simp only [Bool.and_eq_true,all_eq_true,decide_eq_true_eq] at h1 h3;obtain ⟨⟨⟨a,b⟩,c⟩,d⟩:=h3;refine ⟨h1,by omega,λ l0 r e=>?_⟩
 simp_all
theorem okA:Zok zA:=ud2 spA [20] [20] [20]
theorem okB:Zok zB:=ud2 spB [20] [20] [20]
theorem okC:Zok zC:=ud2 spC [20] [20] [20]
theorem noA:¬ ∃ P,Shd P zA:=λ ⟨P,_,_,_,x0,y0,y1,w,h,⟨_,_,_,_,w4,_⟩,e⟩=>by
 have s:=spA;rw [e,sd1] at s;injection s with _ s
 have:rA' ∈ sd0 P x0 y1 w h:=by rw [s]; simp
 obtain ⟨r,_,e2⟩:=List.mem_map.mp this;have l:=congrArg Str.length e2;rw [ve1] at l;have:rA'.length=81:=by decide +kernel
 omega
theorem noB:¬ ∃ P,Shd P zB:=λ ⟨P,_,_,_,x0,y0,y1,w,h,⟨_,_,_,_,_,h4⟩,e⟩=>by
 have s:=spB;rw [e,sd1] at s;injection s with _ s
 have l:=congrArg List.length s;have:(sd0 P x0 y1 w h).length=2 * h + 1:=by simp [sd0]
 have:rB.length=81:=by decide
 omega
def pC:List T3:=(List.range 39).map λ i:Nat=>((i:Int),0,0)
theorem xa1 (h:s ∈ pC):∃ i:Nat,i < 39 /\ s=((i:Int),0,0):=by
 obtain ⟨i,hi,rfl⟩:=List.mem_map.mp h;exact ⟨i,List.mem_range.mp hi,rfl⟩
theorem yesC:Shd pC zC:=by
 have m0:((0:Int),(0:Int),(0:Int)) ∈ pC:=List.mem_map.mpr ⟨0,by decide,rfl⟩;have m38:((38:Int),(0:Int),(0:Int)) ∈ pC:=List.mem_map.mpr ⟨38,by decide,rfl⟩;refine ⟨⟨?_,λ s hs=>?_,by decide⟩,λ s hs=>?_,(λ e=>by trivial),0,0,0,39,0,⟨39,⟨⟨_,m0,rfl⟩,λ s hs=>?_,⟨_,m0,rfl⟩,λ s hs=>?_,⟨_,m38,rfl⟩,λ s hs=>?_,⟨_,m0,rfl⟩,λ s hs=>?_⟩,by decide,by decide,by decide,by decide⟩,?_⟩
 ·show List.Pairwise (λ a b=>lt3 a b=true) pC;decide +kernel
 ·obtain ⟨i,hi,rfl⟩:=xa1 hs;exact .inl rfl
 ·obtain ⟨i,hi,rfl⟩:=xa1 hs;have t:(100:Int)<=10 ^ 89:=by decide
  unfold gd B;dsimp only;omega
 ·obtain ⟨i,hi,rfl⟩:=xa1 hs;dsimp only; omega
 ·obtain ⟨i,hi,rfl⟩:=xa1 hs;exact Int.le_refl _
 ·obtain ⟨i,hi,rfl⟩:=xa1 hs;unfold gx; dsimp only; omega
 ·obtain ⟨i,hi,rfl⟩:=xa1 hs;exact Int.le_refl _
 ·exact wh0 [20]
theorem nnA:zA ≠ "none" /\ zB ≠ "none" /\ zC ≠ "none" := by
 refine ⟨?_,?_,?_⟩ <;> (trivial)
abbrev D9 (Q:VK3):Ends3:={ nx:=λ _ μ'=>Q .non μ',rt:=Q }
def zu2:Sp3:=λ ds μ Q=>∃ nsT:List Int,ds=[.fls (nsT.map D.int)] /\ nsT.length<=63 /\ ∀ μ',Q (.bl true) μ'
variable {ns':[64]}
theorem law_5 (q:∀ μ',Q (.bl true) μ'):wr1 si1 uf2 vf2 vd1 wf2 ti1 zf2 sv0 ui1 (D9 Q) [some (.fls (ns'.map D.int)),o1,o2,o3',o4,o5,o6] μ:=by
 refine ⟨ns',5,rfl,by decide,λ a b s ha hs=>⟨s,a,b,rfl,za0,ha,λ l μ2 hb=>?_⟩⟩;exact .inr ⟨l,rfl,hb,λ p μ3 hp=>⟨p,3,rfl,.inl rfl,hp,q⟩⟩
theorem law_2 (q:∀ μ',Q (.bl true) μ'):vr1 si1 uf2 vf2 vd1 wf2 ti1 zf2 sv0 ui1 (D9 Q) [some (.fls (ns'.map D.int)),o1,o2,o3',o4,o5,o6] μ:=by
 obtain ⟨n1,n2,n3⟩:=nnA;have hz:(10000:Nat) < sizeLine:=by decide
 refine ⟨[74],⟨by decide +kernel,by decide +kernel⟩,by decide +kernel,by decide +kernel,.inl ⟨zA,rfl,okA,λ e=>absurd e n1,λ _=>⟨λ P h=>absurd ⟨P,h⟩ noA,λ _ p μ2 hp=>?_⟩⟩⟩;refine ⟨p,5,rfl,.inr rfl,hp,λ μ3=>?_⟩;refine ⟨[74],⟨by decide +kernel,by decide +kernel⟩,by decide +kernel,by decide +kernel,.inl ⟨zB,rfl,okB,λ e=>absurd e n2,λ _=>⟨λ P h=>absurd ⟨P,h⟩ noB,λ _ p μ4 hp=>?_⟩⟩⟩;refine ⟨p,5,rfl,.inr rfl,hp,λ μ5=>?_⟩;refine ⟨[74],⟨by decide +kernel,by decide +kernel⟩,by decide +kernel,by decide +kernel,.inl ⟨zC,rfl,okC,λ e=>absurd e n3,λ _=>⟨λ P h p μ6 hp=>?_,λ h=>absurd ⟨_,yesC⟩ h⟩⟩⟩;refine ⟨Nat.zero_le _,λ r hr=>?_⟩;have h1:updM μ6 r (.lst []) p=some (.lst []):=Ext.new hr _ _ hp;have h2:updM μ6 r (.lst []) r=some (.lst []):=za0;generalize updM μ6 r (.lst [])=μ7 at h1 h2;have d1:datM μ7 [66]=some (.list []):=by simp only [datM,h1,dats]
 have d2:datM μ7 (.ref r)=some (.list []):=by simp only [datM,h2,dats]
 show neR [66] (.ref r) μ7 (λ d μ1=>_);rw [to1 rfl d1 d2 [14] [14]];exact law_5 q
theorem xa5 (hT:Lk 35 35 12 10 (cp T)=true) (hL:T.length<=5000) (q:∀ μ',Q (.bl true) μ'):ur1 si1 uf2 vf2 vd1 wf2 ti1 zf2 sv0 ui1 (D9 Q) [some (.fls (ns'.map D.int)),some (.str T),none,none,none,none,none] μ:=by
 refine ⟨[74],?_⟩;refine vi0 (λ l ρ μ'=>(∃ o2 o3' o4 o5 o6,ρ=[some (.fls (ns'.map D.int)),some (.str T),o2,o3',o4,o5,o6]) /\ ∀ d ∈ l,∃ k:Int,d=.int k /\ 0<=k) ?_ (λ _ _ _ _=>trivial) ?_ ?_
 ·refine ⟨⟨_,_,_,_,_,rfl⟩,λ d hd=>?_⟩;obtain ⟨i,_,rfl⟩:=List.mem_map.mp hd;simp
 ·rintro ρ μ' ⟨⟨o2,o3',o4,o5,o6,rfl⟩,_⟩;exact law_2 q
 ·rintro d rest ρ μ' ⟨⟨o2,o3',o4,o5,o6,rfl⟩,hk⟩;obtain ⟨k,rfl,k0⟩:=hk d [65];have hk':∀ d ∈ rest,∃ k:Int,d=.int k /\ 0<=k:=λ d hd=>hk d (mem_cons_of_mem _ hd);refine ⟨ns',1 + k,rfl,by omega,λ a b s ha hs=>⟨s,a,b,T,rfl,za0,ha,hT,hL,λ z μ2 hz=>?_⟩⟩;have zd:=we4 hz;refine ⟨z,rfl,zd,λ e μ3=>?_,λ ne=>⟨λ P hP μ3=>?_,λ no μ3=>?_⟩⟩
  ·refine .inl ⟨z,rfl,zd.ok,λ _ p μ4 hp=>⟨rfl,?_⟩,λ ne=>absurd e ne⟩;refine t_ne (i:=6) (ρ:=[some (.fls (ns'.map D.int)),some (.str T),some (.int k),some (.str z),some (.tup []),some (.tup []),some [66]]) rfl hp λ μ5=>?_;exact ⟨[],rfl,by decide,λ μ6 _=>⟨⟨_,_,_,_,_,rfl⟩,hk'⟩⟩
  ·refine .inl ⟨z,rfl,zd.ok,λ e=>absurd e ne,λ _=>⟨λ P' hP' p μ4 hp=>⟨rfl,?_⟩,λ no=>absurd ⟨P,hP⟩ no⟩⟩
   have e:P'=P:=by
    obtain ⟨x,y,l0,rows,s1,c1,_,_,_,g1⟩:=ss0 hP;obtain ⟨x',y',l0',rows',s2,c2,_,_,_,g2⟩:=ss0 hP';rw [s1] at s2;injection s2 with e1 e2
    subst e1 e2;rw [c1] at c2;injection c2 with c2
    injection c2 with e3 e4
    subst e3 e4;exact (g2 _ λ _ _ _ _ _ _ _=>rfl).one (g1 _ λ _ _ _ _ _ _ _=>rfl)
   subst e;refine t_ne (i:=6) (ρ:=[some (.fls (ns'.map D.int)),some (.str T),some (.int k),some (.str z),some (.tup (P'.map encT)),some (.tup (P'.map encT)),some [66]]) rfl hp λ μ5=>?_;exact ⟨P',rfl,by have:=hP'.1.2.2; omega,λ μ6 _=>⟨⟨_,_,_,_,_,rfl⟩,hk'⟩⟩
  ·refine .inl ⟨z,rfl,zd.ok,λ e=>absurd e ne,λ _=>⟨λ P' hP'=>absurd ⟨P',hP'⟩ no,λ _ p μ4 hp=>⟨rfl,?_⟩⟩⟩;exact ⟨p,5,rfl,.inr rfl,hp,λ μ5=>⟨⟨_,_,_,_,_,rfl⟩,hk'⟩⟩
theorem sq4:RdQ zu2 (vg4 si1 uf2 vf2 vd1 wf2 ti1 zf2 sv0 ui1) sc4:=by
 rintro ds μ Q ⟨ns',rfl,hn,q⟩;refine ⟨ns',0,rfl,by decide,λ a b s ha hs=>?_⟩;refine ⟨s,6,a,b,rfl,za0,ha,by decide,by decide,λ us a2 b2 μ2 hP hsm hl ha2 hz2=>?_⟩;refine ⟨us,rfl,hP.2.1,?_,by omega,λ e μ3 _=>xa5 sw3 [20] q,λ hn=>?_⟩
 ·by_cases c:us=[]
  ·intro s hs; simp_all
  ·exact (tu1 hsm hP.2.1 [5] c).1
 ·obtain ⟨_,x0,y0,y1,w,h,bw,lk,ll⟩:=tu1 hsm hP.2.1 [5] hn;exact ⟨x0,y0,y1,w,h,bw,λ μ3 _=>xa5 lk ll q⟩
end Pv
namespace Wc
open PySem PySem.Spec PyProof.Rows PySem.W
theorem enter_c {M:Model} {A:Around} {s:[47]} {f:Value} {pos:[25]} {kw:List (Str × Value)} {c:ClaimW} {cl:Str->Option Addr} {mean:ExcName->Option Value} {args:List WData} {s₁:[47]} (h:codeC M A (.call f ⟨pos,kw⟩) (GoodWG c cl mean args s₁) s):wpC M A (PySem.call f pos kw) (λ v s'=>GoodWG c cl mean args s₁ (.ok (.ret v)) s') (λ e s'=>GoodWG c cl mean args s₁ (.error e) s') s :=
 vm1 (cc_mono h λ res s' g=>by rcases g.1 with ⟨v,_,_,rfl,_⟩ | ⟨e,_,_,rfl,_⟩ <;> exact g)
end Wc
namespace Att
open PySem PySem.W PySem.Calls PyProof.Rows
theorem attach_c {l:OpenLaw} {n:Nat} {q:[60]} {loose:[35]} {XP:(Str->Option Value)->Heap->Prop} {YP:World->Heap->Prop} {d:DefRec}
    (hn:l.most=some n) (hdf:d.params.defaults=[])
    (call:∀ (w:World) (s₀ s₁:[47]) (mg mb:[24]) (fa:Addr) (o:Obj) (pm cd doc:Value) (a:Addr) (vs:[25]) (nsT:[64]),
     Ground q loose [] XP w s₀ mg mb s₁.heap->YP w s₁.heap ->
     s₁.heap.get? fa=some o->o.data=.func (docDef d.name d.params d.body d.scope pm cd doc)->s₁.heap.CodeRec cd d.name->mg d.name=some (.ref fa) ->
     s₁.heap.get? a=some { cls:=.type "list",data:=.seq vs.toArray }->IntsAre vs nsT->nsT.length<=n->s₁.gens = #[] ->
     Wc.codeC (model l.prog w) callerA (.call (.ref fa) ⟨[.ref a],[]⟩) (λ r s'=>r=.ok (.ret (.bool true)) /\ OldK s₁.heap s'.heap /\ s'.os=s₁.os /\ AllBare s'.gens) s₁) :
    Wc.WalkC q loose XP YP l.row.toRowW d [] (λ f vs=>PySem.call f vs):=by
 intro w s₀ s₁ mg mb G Y fa o pm cd doc dV kV ho hd hcd hD hmg hg args vals as hpre hlay hrd hwl hlo;obtain rfl:dV=.none:=Dflts.none hD hdf;obtain rfl:kV=.none:=Dflts.noKw hD;obtain ⟨a,vs,nsT,rfl,rfl,hobj,hints,hlen⟩:=tg2 hn hpre hwl;refine Wc.enter_c (Wc.cc_mono (call w s₀ s₁ mg mb fa o pm cd doc a vs nsT G Y ho (fd_plain hd) hcd hmg hobj hints hlen hg) λ r s' hq=>?_);obtain ⟨rfl,h2,h3,h4⟩:=hq;exact ⟨.inl ⟨.bool true,.bool true,[],rfl,λ _=>rfl,.bool true,vj2 l _,λ _=>⟨List.Pairwise.nil,λ _ hm=>(nomatch hm)⟩⟩,h2,h3,h4⟩
end Att
namespace L2
open PySem PySem.Spec PyProof.Rows
variable {k:Nat} {x:Str}
theorem zm2 {P:[60]} {w:World} {K:[56]} {mg mb:[24]} {CX:CXT} {fa a:Addr} {fd:FuncData} {sp:Sp} {s₁:[47]} {vs:[25]} {nsT:[64]}
    (KX:K.In s₁.heap) (hns:s₁.heap.Ns mainGlobals mg) (hb:s₁.heap.Ns builtinsNs mb) (hbb:∀ x:Str,x ≠ "__name__" -> mb x=bootBuiltins x) (hlim:s₁.heap.NoLimit) (hg:s₁.gens = #[])
    (ha:s₁.heap.get? a=some { cls:=.type "list",data:=.seq vs.toArray }) (hi:IntsAre vs nsT) (hl:nsT.length<=sizeLine) (hr:Room k callerA)
    (F:∀ base:Heap,K.In base->base.Ns mainGlobals mg->Pv.FnC P w K mg base CX k fa fd [x] sp) (hbind:∀ (s:[47]) (u:Value),BindsTo s fd ⟨[u],[]⟩ [(x,u)])
    (hsp:∀ H:Hp,Only H->SqL K H a (nsT.map V.int)->sp [.ref a] H (λ v _=>v=.bl true) λ _ _ _=>False)
    (hCX:∀ H e s',CX [] H s₁ (λ _ _ _=>False) e s'->False) :
    Wc.codeC (model P w) callerA (.call (.ref fa) ⟨[.ref a],[]⟩) (λ r s'=>r=.ok (.ret (.bool true)) /\ OldK s₁.heap s'.heap /\ s'.os=s₁.os /\ AllBare s'.gens) s₁:=by
 have rv:=yi1 hi;have lenV:=hi.length
 have core:∀ H:Hp,Only H->SqL K H a (nsT.map V.int)->HOk P w H s₁.heap->(∀ b,H b ≠ none->b=a)->(H a ≠ none->K.lookup a=none) ->
     Wc.codeC (model P w) callerA (.call (.ref fa) ⟨[.ref a],[]⟩) (λ r s'=>r=.ok (.ret (.bool true)) /\ OldK s₁.heap s'.heap /\ s'.os=s₁.os /\ AllBare s'.gens) s₁:=by
  intro H hO hS hok hA hK;have base_of:∀ {b:Addr} {o:Obj},s₁.heap.get? b=some o->H b=none->(hidT s₁.heap H).get? b=some o:=λ e n=>tz2 e n
  have noA:∀ {b:Addr} {o:Obj} {es:Array DictEntry} {ep:Nat},s₁.heap.get? b=some o->o.data=.dict es ep->H b=none:=λ {b o es ep} e d=>by
   cases q:H b with
   | none=>rfl
   | some u =>
    have e':b=a:=hA b (by rw [q]; simp);subst e';rw [ha] at e; cases e;trivial
  have nsK:∀ {b:Addr} {m:[24]},s₁.heap.Ns b m->(hidT s₁.heap H).Ns b m:=λ {b m} ⟨o,es,ep,e,d,r⟩=>⟨o,es,ep,base_of e (noA e d),d,r⟩
  have hKb:K.In (hidT s₁.heap H):=λ b o e=>base_of (KX b o e) (by
   cases q:H b with
   | none=>rfl
   | some u =>
    have e':b=a:=hA b (by rw [q]; simp);subst e'
    simp_all)
  have hM:Mod K mg (hidT s₁.heap H):=⟨hKb,nsK hns,⟨mb,nsK hb,hbb⟩,let ⟨mc,h1,h2⟩:=hlim; ⟨mc,nsK h1,h2⟩⟩;have e0:Env0 P w K mg (hidT s₁.heap H) callerA [] s₁ H:=⟨rfl,hM,λ b o e=>xw3 e,Nat.le_of_eq (zn2 _ _),trivial,λ b hb=>absurd (show b ∈ ([]:List Addr) from hb) [17],hok,.of_eq hg⟩;refine Wc.cc_mono ((F _ hKb (nsK hns)).run callerA [] s₁ H ⟨[.ref a],[]⟩ [.ref a] [.ref a] _ _ hr e0 (hbind s₁ (.ref a)) (.cons rfl .nil) (hsp H hO hS)) λ r s' h=>?_;cases r with
  | error e=>exact (hCX H e s' h).elim
  | ok fl =>
   cases fl with
   | next=>exact False.elim h
   | brk=>exact False.elim h
   | cont=>exact False.elim h
   | ret u =>
    obtain ⟨v,H',os,bare,un,hok',r',q⟩:=h;have q':v=.bl true:=q;subst q';obtain rfl:u=Value.bool true:=r';refine ⟨rfl,OldK.of_keep λ b o e=>?_,os,bare⟩;cases q:H b with
    | none=>exact un.keep b o e q (by intro z; trivial) [17]
    | some u =>
     rcases hO b with z | ⟨ob,xs,z⟩
     ·simp_all
     ·have z2:=un.frzs b ob _ z;obtain ⟨e1,_⟩:=hok b _ z;obtain ⟨e2,_⟩:=hok' b _ z2
      simp_all
 cases hk:K.lookup a with
 | some o =>
  have e:=KX a o hk;rw [ha] at e;cases e;refine core (λ _=>none) (λ _=>.inl rfl) (.inr ⟨_,vs.toArray,_,hk,rfl,rfl,rfl,by simp_all,by simpa using rv⟩) (λ b u z=>by trivial) (λ b z=>absurd rfl z) λ z=>absurd rfl z
 | none =>
  refine core (λ b=>if b=a then some (.frz { cls:=.type "list",data:=.seq vs.toArray } (.lst (nsT.map V.int))) else none) (λ b=>?_) (.inl (.inr ⟨{ cls:=.type "list",data:=.seq vs.toArray },if_pos rfl⟩)) (λ b u z=>?_) (λ b z=>?_) λ _=>hk
  ·by_cases hb:b=a
   ·simp_all
   simp_all
  ·by_cases hb:b=a
   ·have z':=(if_pos hb).symm.trans z;cases z';subst hb;exact ⟨ha,by simp_all,vs,_,rv,ha⟩
   simp_all
  simp_all
theorem walk_c {l:PySem.W.OpenLaw} {n:Nat} {q:[60]} {loose:[35]} {XP:(Str->Option Value)->Heap->Prop} {YP:World->Heap->Prop} {d:DefRec} {K:Params->PySem.W.Frag} {CX:World->CXT} {sp:World->Sp} 
    (hn:l.most=some n) (hn2:n<=sizeLine) (hdf:d.params.defaults=[]) (hr:Room k callerA)
    (hY:∀ (w:World) (h:Heap),YP w h->(K w.params).In h)
    (F:∀ (w:World) (mg:[24]) (fa:Addr) (h:Heap),(K w.params).In h->h.Ns mainGlobals mg->mg d.name=some (.ref fa) ->
     ∃ fd:FuncData,(∀ (s:[47]) (u:Value),BindsTo s fd ⟨[u],[]⟩ [(x,u)]) ∧
      ∀ base:Heap,(K w.params).In base->base.Ns mainGlobals mg->Pv.FnC l.prog w (K w.params) mg base (CX w) k fa fd [x] (sp w))
    (hsp:∀ (w:World) (H:Hp) (a:Addr) (nsT:[64]),nsT.length<=n->Only H->SqL (K w.params) H a (nsT.map V.int)->sp w [.ref a] H (λ v _=>v=.bl true) λ _ _ _=>False)
    (hCX:∀ (w:World) (H:Hp) (s:[47]) (e:Value) (s':[47]),CX w [] H s (λ _ _ _=>False) e s'->False) :
    Wc.WalkC q loose XP YP l.row.toRowW d [] (λ f vs=>PySem.call f vs):=by
 refine Att.attach_c hn hdf λ w s₀ s₁ mg mb fa o pm cd doc a vs nsT G Y ho hd hcd hmg hobj hints hlen hg=>?_;have KX:=hY w _ Y;obtain ⟨fd,hb,hF⟩:=F w mg fa _ KX G.T.g hmg;exact zm2 KX G.T.g G.T.b G.T.builtins G.T.nolimit hg hobj hints (Nat.le_trans hlen hn2) hr hF hb (λ H hO hS=>hsp w H a nsT hlen hO hS) λ H e s'=>hCX w H s₁ e s'
end L2
namespace Pv
open PySem PySem.Spec PyProof.Rows L2
variable {P:List Value->Prop}
theorem bnS {n:Nat} (h:∀ a us,us.length=n->P (a :: us)) (us:[25]) (e:us.length=n + 1):P us:=by
 cases us with
 | nil=>cases e
 | cons a us=>exact h a us (Nat.succ.inj e)
theorem bn1 (h:∀ a0,P [a0]) (us:[25]) (e:us.length=1):P us:=bnS (λ a us e=>List.eq_nil_of_length_eq_zero e ▸ h a) us e
theorem bn2 (h:∀ a0 a1,P [a0,a1]) (us:[25]) (e:us.length=2):P us:=bnS (λ a us e=>bn1 (P:=λ us=>P (a :: us)) (h a) us e) us e
theorem bn3 (h:∀ a0 a1 a2,P [a0,a1,a2]) (us:[25]) (e:us.length=3):P us:=bnS (λ a us e=>bn2 (P:=λ us=>P (a :: us)) (h a) us e) us e
abbrev NsR (K:Fg) (x:Str) (p:Addr):Prop:=nsIn K mainGlobals x=some (some [66])
def FnA (K:Fg) (x:Str) (st:Stmt) (p:Addr):Prop:=∃ oc od sl kV dc pm an cd ct,K.lookup p=some ⟨oc,od,.func (fnOf x x (ui0 st) (va0 st) (ya0 st) .none kV dc pm an cd ct),sl⟩ /\ codeIn K cd x=true /\ keepIn K [66]=true
variable {K:Fg} {x:Str} {p:Addr} {sl:Array (Option Value)}
theorem fnA_mk {st:Stmt} {oc kV dc pm cd ct:Value} {od an:Option Addr} (l:K.lookup p=some ⟨oc,od,.func (fnOf x x (ui0 st) (va0 st) (ya0 st) .none kV dc pm an cd ct),sl⟩) (c:codeIn K cd x=true) (k:keepIn K [66]=true):FnA K x st p:=⟨_,_,_,_,_,_,_,_,_,l,c,k⟩
theorem FnA.fn {st:Stmt} (h:FnA K x st p):∃ fd,Fun K x x st p fd:=by
 obtain ⟨_,_,_,_,_,_,_,_,_,l,c,k⟩:=h;exact ⟨_,vi3 (st:=st) l c k⟩
local macro_rules | `(tactic| trivial)=>`(tactic| first | (intro _ _ F; exact F.binds λ _ _ _ _ _ _=>by first | exact bn1 λ _=>rfl | exact bn2 λ _ _=>rfl | exact bn3 λ _ _ _=>rfl) | (intros; rename_i h; (first | exact h.elim | exact h.1 | (obtain h | h:=h <;> (obtain ⟨_,e,_⟩:=h; subst e; rfl)) | repeat first | omega | (obtain ⟨e,_⟩:=h; subst e; rfl) | obtain ⟨_,h⟩:=h); done))
local macro_rules | `(tactic| trivial)=>`(tactic| first | with_reducible assumption | decide | exact Cal.mono (by with_reducible assumption) (by omega) | exact CalX.mono (by with_reducible assumption) (by omega))
def FnB (K:Fg) (x:Str) (st:Stmt):Prop:=∃ p,NsR K x p /\ FnA K x st p
theorem fnB_mk {st:Stmt} {oc kV dc pm cd ct:Value} {od an:Option Addr} (a:NsR K x p) (l:K.lookup p=some ⟨oc,od,.func (fnOf x x (ui0 st) (va0 st) (ya0 st) .none kV dc pm an cd ct),sl⟩) (c:codeIn K cd x=true) (k:keepIn K [66]=true):FnB K x st:=⟨p,a,fnA_mk l c k⟩
theorem calB {P:[60]} {w:World} {K:Fg} {mg:[24]} {base h:Heap} {x:Str} {st:Stmt} {N ps:[35]} {k:Nat} {sp:Sp3} {t:TS3} (X:K.In h) (G:h.Ns mainGlobals mg) (A:FnB K x st) (S:FnScope N ps (ya0 st))
    (rs:∀ (f:Addr) (cdv:Value) (A:Around) (outer:List Env) (s:[47]) (H:Hp) (E:XK),Room k ([87])->RSs (cxOf CX0 P w K mg base N x (ya0 st) f cdv A outer s H E).nox (va0 st) t)
    (rd:∀ (ds:List D) (μ:Mu) (Q:VK3),sp ds μ Q->t { nx:=λ _ μ'=>Q .non μ',rt:=Q } (xb0 N ds) μ)
    (hb:∀ f fd,Fun K x x st f fd->Binds K fd ps []:=by trivial)
    (len:∀ (ds:List D) (μ:Mu) (Q:VK3),sp ds μ Q->ds.length=ps.length:=by trivial):Cal P w K mg base (k + 1) x ps sp:=by
 obtain ⟨p,a,A⟩:=A;obtain ⟨_,F⟩:=A.fn;exact se5 F (mg_of X G a) (hb _ _ F) S len (rs p) rd
theorem ur2 {P:[60]} {w:World} {K:Fg} {mg:[24]} {base h:Heap} {x:Str} {st:Stmt} {N ps:[35]} {k:Nat} {sp:XE3->Sp3} {t:XE3->TS3} (X:K.In h) (G:h.Ns mainGlobals mg) (A:FnB K x st) (S:FnScope N ps (ya0 st))
    (rs:∀ (f:Addr) (cdv:Value) (A:Around) (outer:List Env) (s:[47]) (H:Hp) (E:XK) (XE:XE3),Room k ([87])->EXok K mg XE E->RSs (cxOf (CXn P w) P w K mg base N x (ya0 st) f cdv A outer s H E) (va0 st) (t XE))
    (rd:∀ (XE:XE3) (ds:List D) (μ:Mu) (Q:VK3),sp XE ds μ Q->t XE { nx:=λ _ μ'=>Q .non μ',rt:=Q } (xb0 N ds) μ)
    (hb:∀ f fd,Fun K x x st f fd->Binds K fd ps []:=by trivial)
    (len:∀ (XE:XE3) (ds:List D) (μ:Mu) (Q:VK3),sp XE ds μ Q->ds.length=ps.length:=by trivial):CalX P w K mg base (k + 1) x ps sp:=by
 obtain ⟨p,a,A⟩:=A;obtain ⟨_,F⟩:=A.fn;exact wa4 F (mg_of X G a) (hb _ _ F) S len (rs p) rd
variable {w:World} {mg:[24]}
theorem ua4 {P:[60]} {base:Heap} {st:Stmt} {g:Addr} {fd:FuncData} {N ps:[35]} {k:Nat} {sp:Sp3} {t:TS3} (F:Fun K x x st g fd) (hm:mg x=some (.ref g)) (hb:Binds K fd ps []) (S:FnScope N ps (ya0 st)) (len:∀ ds μ Q,sp ds μ Q->ds.length=ps.length)
    (body:∀ (cdv:Value) (A:Around) (outer:List Env) (s:[47]) (H:Hp) (E:XK),Room k (A.deeper (envOfC x (ya0 st) s.heap.objs.size g cdv))->RSsc (cxOf CX0 P w K mg base N x (ya0 st) g cdv A outer s H E).nox (va0 st) t)
    (rd:∀ ds μ Q,sp ds μ Q->t { nx:=λ _ μ'=>Q .non μ',rt:=Q } (xb0 N ds) μ):CalC P w K mg base (k + 1) x ps sp:=⟨g,fd,si3 F S len body rd,hm,F.kp,hb⟩
theorem x_mkn {cn r1 r2 r3:Str} {C1 C2 C3:Addr} {T:Value} {y1 y2 y3:Bool} (hs:xnames=[r1,r2,r3] /\ subX cn r1=some y1 /\ subX cn r2=some y2 /\ subX cn r3=some y3) (a1:nsIn K mainGlobals r1=some (some (.ref C1))) (a2:nsIn K mainGlobals r2=some (some (.ref C2))) (a3:nsIn K mainGlobals r3=some (some (.ref C3))) (E1:ExcK K C1) (E2:ExcK K C2) (E3:ExcK K C3) (k1:kitOne K (.ref C1) T=some y1) (k2:kitOne K (.ref C2) T=some y2) (k3:kitOne K (.ref C3) T=some y3) (c:Str) (C:Addr) (b:Bool) (h:subX cn c=some b) (hn:nsIn K mainGlobals c=some (some [72])):ExcK K C /\ kitOne K [72] T=some b:=by
 have hin:=sl0 h;rw [hs.1] at hin;simp only [mem_cons,not_mem_nil,or_false] at hin;rcases hin with rfl | rfl | rfl
 . rw [a1] at hn
   cases hn;rw [hs.2.1] at h;cases h;exact ⟨E1,k1⟩
 . rw [a2] at hn
   cases hn;rw [hs.2.2.1] at h;cases h;exact ⟨E2,k2⟩
 . rw [a3] at hn
   cases hn;rw [hs.2.2.2] at h;cases h;exact ⟨E3,k3⟩
theorem all_mk {l:PySem.W.OpenLaw} {h:Heap} {fa:Addr} (X:K.In h) (G:h.Ns mainGlobals mg) (hfa:mg "law" = some (.ref fa))
    {jex:Addr}
    {jey:Addr}
    {jez:Addr}
    {p_q7:Addr}
    {je0:Addr}
    {je1:Addr}
    {t_2:Tok}
    {t_3:Tok}
    {q_1:Addr} {qo_1:Option Addr} {qn_1:Nat} {qs_1:Array (Option Value)}
    {t_4:Tok}
    {t_5:Tok}
    {t_7:Tok}
    {t_8:Tok}
    {q_6:Addr} {qo_6:Option Addr} {qn_6:Nat} {qs_6:Array (Option Value)}
    {C_BadNote:Addr} {jdp:ClassData}
    {C_NoNumber:Addr} {jdn:ClassData}
    {C_NoPicture:Addr} {jdj:ClassData}
    {C_NoRoom:Addr} {jds:ClassData}
    {C_NoStep:Addr} {jdt:ClassData}
    {C_NoWord:Addr} {jdu:ClassData}
    {C_PenError:Addr} {jdo:ClassData}
    (jd4:FnB K "check_picture" wa2)
    (jd5:FnB K "check_stroke" za2)
    (jd6:FnB K "ends_of" sz1)
    (jd7:FnB K "picture_with" zz1)
    (jd8:FnB K "picture_box" vz1)
    (jd9:FnB K "sheet_of" xz1)
    (jea:FnB K "corner_line" xa2)
    (jeb:FnB K "sign_lines" uy1)
    (jec:FnB K "sign_line" ty1)
    (jed:FnB K "signs_of" vy1)
    (jee:NsR K "read_sheet" jex) (jef:FnA K "read_sheet" yz1 jex)
    (jeg:NsR K "corner_in" jey) (jeh:FnA K "corner_in" ya2 jey)
    (jei:NsR K "number_in" jez) (jej:FnA K "number_in" uz1 jez)
    (jek:FnB K "picture_in" wz1)
    (jel:FnB K "strokes_shown" wy1)
    (jem:FnB K "is_sheet_of" tz1)
    (A_q1:FnB K "_law_cell_at" s_q1)
    (jen:FnB K "_law_whole" va2)
    (jeo:FnB K "_law_state" ta2)
    (A_q2:FnB K "_law_choice" s_q2)
    (jep:FnB K "_law_picture" wb2)
    (A_q0:FnB K "_law_bad_picture" s_q0)
    (A_q6:FnB K "_law_is_picture" s_q6)
    (A_q4:FnB K "_law_ends" s_q4)
    (jeq:FnB K "_law_points" zb2)
    (jer:FnB K "_law_sheet" xb2)
    (a_q7:NsR K "_law_marks" p_q7) (A_q7:FnA K "_law_marks" s_q7 p_q7)
    (jes:FnB K "_law_refused" yb2)
    (A_q8:FnB K "_law_number" s_q8)
    (A_q3:FnB K "_law_due" s_q3)
    (A_q9:FnB K "_law_odd" s_q9)
    (jet:FnB K "_law_spoilt" sa2)
    (jeu:NsR K "_law_told" je0) (jev:FnA K "_law_told" ua2 je0)
    (jd3:NsR K "law" je1) (jew:FnA K "law" vy0 je1)
    (jdv:nsIn K mainGlobals "WAYS" = some (some (.ref q_1)))
    (ql_1:K.lookup q_1=some ⟨.type "tuple",qo_1,.seq #[.int (0) t_2,.int (1) t_3] qn_1,qs_1⟩)
    (jbq:nsIn K mainGlobals "MOST_POINTS" = some (some (.int (40) t_4)))
    (jb2:nsIn K mainGlobals "NO_STROKES" = some (some (.str "none" t_5)))
    (jbn:nsIn K mainGlobals "STROKE_SIGNS" = some (some (.ref q_6)))
    (ql_6:K.lookup q_6=some ⟨.type "tuple",qo_6,.seq #[.str "-" t_7,.str "|" t_8] qn_6,qs_6⟩)
    (jab:nsIn K mainGlobals "BadNote" = some (some [37]))
    (jbo:clsIn K C_BadNote=some jdp)
    (jcc:typeIn K [37]=some (.type "type"))
    (jcg:nsIn K mainGlobals "NoNumber" = some (some (.ref C_NoNumber)))
    (jbh:clsIn K C_NoNumber=some jdn)
    (jbi:typeIn K (.ref C_NoNumber)=some (.type "type"))
    (jaa:nsIn K mainGlobals "NoPicture" = some (some [34]))
    (jbb:clsIn K C_NoPicture=some jdj)
    (jbm:typeIn K [34]=some (.type "type"))
    (jad:nsIn K mainGlobals "NoRoom" = some (some [33]))
    (jbp:clsIn K C_NoRoom=some jds)
    (jb3:typeIn K [33]=some (.type "type"))
    (jdf:nsIn K mainGlobals "NoStep" = some (some (.ref C_NoStep)))
    (jb4:clsIn K C_NoStep=some jdt)
    (jb5:typeIn K (.ref C_NoStep)=some (.type "type"))
    (jdg:nsIn K mainGlobals "NoWord" = some (some (.ref C_NoWord)))
    (jb6:clsIn K C_NoWord=some jdu)
    (jb7:typeIn K (.ref C_NoWord)=some (.type "type"))
    (jch:nsIn K mainGlobals "PenError" = some (some (.ref C_PenError)))
    (jbj:clsIn K C_PenError=some jdo)
    (jbk:typeIn K (.ref C_PenError)=some (.type "type"))
    (jdh:excIn K C_BadNote [.type "ValueError",.type "Exception",.type "BaseException",.type "object"] "ValueError.__new__" = true)
    (jci:findIn K [37] "__getattribute__" = some (some (.builtin "BaseException.__getattribute__")))
    (jcj:findIn K [37] "__getattr__" = some none)
    (jck:mroIn K C_BadNote [40]=some true)
    (jcl:findIn K [37] "__class__" = some (some [42]))
    (jcm:specialIn K [42] "__get__" = some (some [73]))
    (jcn:takesIn K [42]=some true)
    (jco:mroIn K C_BadNote (.type "object")=some true)
    (jcp:excIn K C_NoPicture [.type "ValueError",.type "Exception",.type "BaseException",.type "object"] "ValueError.__new__" = true)
    (jbr:findIn K [34] "__getattribute__" = some (some (.builtin "BaseException.__getattribute__")))
    (jbs:findIn K [34] "__getattr__" = some none)
    (jbt:mroIn K C_NoPicture [40]=some true)
    (jbu:findIn K [34] "__class__" = some (some [42]))
    (jbv:specialIn K [42] "__get__" = some (some [73]))
    (jbw:takesIn K [42]=some true)
    (jbx:mroIn K C_NoPicture (.type "object")=some true)
    (jdk:excIn K C_NoRoom [.type "ValueError",.type "Exception",.type "BaseException",.type "object"] "ValueError.__new__" = true)
    (jcz:findIn K [33] "__getattribute__" = some (some (.builtin "BaseException.__getattribute__")))
    (jc0:findIn K [33] "__getattr__" = some none)
    (jc1:mroIn K C_NoRoom [40]=some true)
    (jc2:findIn K [33] "__class__" = some (some [42]))
    (jc3:specialIn K [42] "__get__" = some (some [73]))
    (jc4:takesIn K [42]=some true)
    (jc5:mroIn K C_NoRoom (.type "object")=some true)
    (jaj:subIn K [34] [37]=some false)
    (jak:(Value.ref C_NoPicture == Value.ref C_BadNote)=false)
    (ja2:subIn K [33] [37]=some false)
    (ja3:(Value.ref C_NoRoom == Value.ref C_BadNote)=false)
    (jao:subIn K [37] (.ref C_NoNumber)=some false)
    (jap:(Value.ref C_BadNote == Value.ref C_NoNumber)=false)
    (jae:subIn K [34] (.ref C_NoNumber)=some false)
    (jaf:(Value.ref C_NoPicture == Value.ref C_NoNumber)=false)
    (jaz:subIn K [33] (.ref C_NoNumber)=some false)
    (ja0:(Value.ref C_NoRoom == Value.ref C_NoNumber)=false)
    (jal:subIn K [37] [34]=some false)
    (jam:(Value.ref C_BadNote == Value.ref C_NoPicture)=false)
    (jaq:subIn K [33] [34]=some false)
    (jar:(Value.ref C_NoRoom == Value.ref C_NoPicture)=false)
    (ja4:subIn K [37] [33]=some false)
    (ja5:(Value.ref C_BadNote == Value.ref C_NoRoom)=false)
    (jas:subIn K [34] [33]=some false)
    (jat:(Value.ref C_NoPicture == Value.ref C_NoRoom)=false)
    (ja6:subIn K [37] (.ref C_NoStep)=some false)
    (ja7:(Value.ref C_BadNote == Value.ref C_NoStep)=false)
    (jau:subIn K [34] (.ref C_NoStep)=some false)
    (jav:(Value.ref C_NoPicture == Value.ref C_NoStep)=false)
    (jbc:subIn K [33] (.ref C_NoStep)=some false)
    (jbd:(Value.ref C_NoRoom == Value.ref C_NoStep)=false)
    (ja8:subIn K [37] (.ref C_NoWord)=some false)
    (ja9:(Value.ref C_BadNote == Value.ref C_NoWord)=false)
    (jaw:subIn K [34] (.ref C_NoWord)=some false)
    (jax:(Value.ref C_NoPicture == Value.ref C_NoWord)=false)
    (jbe:subIn K [33] (.ref C_NoWord)=some false)
    (jbf:(Value.ref C_NoRoom == Value.ref C_NoWord)=false)
    (jag:subIn K [37] (.type "ValueError")=some true)
    (jac:subIn K [34] (.type "ValueError")=some true)
    (jan:subIn K [33] (.type "ValueError")=some true)
    (k3s:subIn K (.type "type") (.type "tuple")=some false)
    (jb8:subIn K (.ref C_PenError) [40]=some true)
    (jay:subIn K [37] (.ref C_PenError)=some true)
    (jah:subIn K [34] (.ref C_PenError)=some true)
    (ja1:subIn K [33] (.ref C_PenError)=some true)
    (jc6:subIn K [33] [40]=some true)
    (jbg:subIn K [33] [33]=some true)
    (jby:nsIn K mainGlobals "ValueError" = some none)
    (jdw:nsIn K mainGlobals "all" = some none)
    (jdq:nsIn K mainGlobals "bool" = some none)
    (jdx:nsIn K mainGlobals "int" = some none)
    (jbz:nsIn K mainGlobals "isinstance" = some none)
    (jdy:nsIn K mainGlobals "len" = some none)
    (jdr:nsIn K mainGlobals "list" = some none)
    (jdz:nsIn K mainGlobals "max" = some none)
    (jd0:nsIn K mainGlobals "min" = some none)
    (jdl:nsIn K mainGlobals "range" = some none)
    (jd1:nsIn K mainGlobals "set" = some none)
    (jdi:nsIn K mainGlobals "sorted" = some none)
    (jd2:nsIn K mainGlobals "str" = some none)
    (jdm:nsIn K mainGlobals "tuple" = some none) :
    ∃ fd:FuncData,(∀ (s:[47]) (v:Value),BindsTo s fd ⟨[v],[]⟩ [("script",v)]) /\ ∀ base:Heap,K.In base->base.Ns mainGlobals mg->FnC l.prog w K mg base CX0 8 fa fd ["script"] (lift K zu2):=by
 have e:=hfa.symm.trans (mg_of X G jd3);cases e;have g_WAYS:Gd K mg "WAYS" vl0:=wi3 X G jdv (TupK.mk ql_1 (show 2<=sizeLine by decide) (.int (.int .nil)));have g_MOST_POINTS:Gd K mg "MOST_POINTS" yi0:=yc5 X G jbq;have g_NO_STROKES:Gd K mg "NO_STROKES" vf0:=xc5 X G jb2;have g_STROKE_SIGNS:Gd K mg "STROKE_SIGNS" zd0:=wi3 X G jbn (TupK.mk ql_6 (show 2<=sizeLine by decide) (.str (.str .nil)));have m_BadNote:=mg_of X G jab;have m_NoNumber:=mg_of X G jcg;have m_NoPicture:=mg_of X G jaa;have m_NoRoom:=mg_of X G jad;have m_NoStep:=mg_of X G jdf;have m_NoWord:=mg_of X G jdg;have m_PenError:=mg_of X G jch;have jba:ExcK K C_BadNote:=⟨jci,jcj,jck,(by rw [jbo]; rfl),jcl,jcm,jcn,jco⟩;have jai:ExcK K C_NoPicture:=⟨jbr,jbs,jbt,(by rw [jbb]; rfl),jbu,jbv,jbw,jbx⟩;have jbl:ExcK K C_NoRoom:=⟨jcz,jc0,jc1,(by rw [jbp]; rfl),jc2,jc3,jc4,jc5⟩;have jcw:kitOne K [37] [37]=some true:=vw0;have jcd:kitOne K [34] [37]=some false:=wd0 jak (ub0 jbo jcc jaj);have jc7:kitOne K [33] [37]=some false:=wd0 ja3 (ub0 jbo jcc ja2);have x_BadNote:=x_mkn (cn:="BadNote") ⟨rfl,by decide,by decide,by decide⟩ jab jaa jad jba jai jbl jcw jcd jc7;have jcq:kitOne K [37] (.ref C_NoNumber)=some false:=wd0 jap (ub0 jbh jbi jao);have jb9:kitOne K [34] (.ref C_NoNumber)=some false:=wd0 jaf (ub0 jbh jbi jae);have jcx:kitOne K [33] (.ref C_NoNumber)=some false:=wd0 ja0 (ub0 jbh jbi jaz);have x_NoNumber:=x_mkn (cn:="NoNumber") ⟨rfl,by decide,by decide,by decide⟩ jab jaa jad jba jai jbl jcq jb9 jcx;have jce:kitOne K [37] [34]=some false:=wd0 jam (ub0 jbb jbm jal);have jb1:kitOne K [34] [34]=some true:=vw0;have jcr:kitOne K [33] [34]=some false:=wd0 jar (ub0 jbb jbm jaq);have x_NoPicture:=x_mkn (cn:="NoPicture") ⟨rfl,by decide,by decide,by decide⟩ jab jaa jad jba jai jbl jce jb1 jcr;have jc8:kitOne K [37] [33]=some false:=wd0 ja5 (ub0 jbp jb3 ja4);have jcs:kitOne K [34] [33]=some false:=wd0 jat (ub0 jbp jb3 jas);have jdb:kitOne K [33] [33]=some true:=vw0;have x_NoRoom:=x_mkn (cn:="NoRoom") ⟨rfl,by decide,by decide,by decide⟩ jab jaa jad jba jai jbl jc8 jcs jdb;have jc9:kitOne K [37] (.ref C_NoStep)=some false:=wd0 ja7 (ub0 jb4 jb5 ja6);have jct:kitOne K [34] (.ref C_NoStep)=some false:=wd0 jav (ub0 jb4 jb5 jau);have jdc:kitOne K [33] (.ref C_NoStep)=some false:=wd0 jbd (ub0 jb4 jb5 jbc);have x_NoStep:=x_mkn (cn:="NoStep") ⟨rfl,by decide,by decide,by decide⟩ jab jaa jad jba jai jbl jc9 jct jdc;have jda:kitOne K [37] (.ref C_NoWord)=some false:=wd0 ja9 (ub0 jb6 jb7 ja8);have jcu:kitOne K [34] (.ref C_NoWord)=some false:=wd0 jax (ub0 jb6 jb7 jaw);have jdd:kitOne K [33] (.ref C_NoWord)=some false:=wd0 jbf (ub0 jb6 jb7 jbe);have x_NoWord:=x_mkn (cn:="NoWord") ⟨rfl,by decide,by decide,by decide⟩ jab jaa jad jba jai jbl jda jcu jdd;have jca:kitOne K [37] (.type "ValueError")=some true:=wd0 rfl (xq0 [20] jag);have jb0:kitOne K [34] (.type "ValueError")=some true:=wd0 rfl (xq0 [20] jac);have jcf:kitOne K [33] (.type "ValueError")=some true:=wd0 rfl (xq0 [20] jan);have x_ValueError:=x_mkn (cn:="ValueError") ⟨rfl,by decide,by decide,by decide⟩ jab jaa jad jba jai jbl jca jb0 jcf;have k3:kitCls K (.type "type") (.type "tuple")=some false:=xq0 [20] k3s;have k2_PenError:=xq0 (T := "BaseException") [20] jb8;have jcv:=ub0 jbj jbk jay;have jcb:=ub0 jbj jbk jah;have jcy:=ub0 jbj jbk ja1
 have ok_PenError:∀ c,okX c=true->∃ C,nsIn K mainGlobals c=some (some [72]) /\ mg c=some [72] /\ kitCls K [72] (.ref C_PenError)=some true:=by
  intro c h;have hin:c ∈ xnames:=by simpa [okX] using h
  simp only [xnames,mem_cons,not_mem_nil,or_false] at hin;rcases hin with rfl | rfl | rfl
  ·exact ⟨C_BadNote,jab,m_BadNote,jcv⟩
  ·exact ⟨C_NoPicture,jaa,m_NoPicture,jcb⟩
  ·exact ⟨C_NoRoom,jad,m_NoRoom,jcy⟩
 have k2_NoRoom:=xq0 (T := "BaseException") [20] jc6;have jde:=ub0 jbp jb3 jbg;have k4_NoRoom:=jde;have z_ValueError:=mg_none_of X G jby
 have z_all:=mg_none_of X G jdw;have z_bool:=mg_none_of X G jdq;have z_int:=mg_none_of X G jdx;have z_isinstance:=mg_none_of X G jbz;have z_len:=mg_none_of X G jdy;have z_list:=mg_none_of X G jdr;have z_max:=mg_none_of X G jdz;have z_min:=mg_none_of X G jd0;have z_range:=mg_none_of X G jdl;have z_set:=mg_none_of X G jd1;have z_sorted:=mg_none_of X G jdi;have z_str:=mg_none_of X G jd2;have z_tuple:=mg_none_of X G jdm;obtain ⟨_,je2⟩:=jef.fn;have jfd:=je2.binds (ps:=["text"]) λ _ _ _ _ _ _=>bn1 λ _=>rfl;have jfe:=mg_of X G jee;obtain ⟨_,je3⟩:=jeh.fn;have jff:=je3.binds (ps:=["line"]) λ _ _ _ _ _ _=>bn1 λ _=>rfl;have jfg:=mg_of X G jeg;obtain ⟨_,je4⟩:=jej.fn;have jfh:=je4.binds (ps:=["mark"]) λ _ _ _ _ _ _=>bn1 λ _=>rfl;have jfi:=mg_of X G jei;obtain ⟨_,F_q7⟩:=A_q7.fn;have b_q7:=F_q7.binds (ps:=["e"]) λ _ _ _ _ _ _=>bn1 λ _=>rfl;have m_q7:=mg_of X G a_q7;obtain ⟨_,je5⟩:=jev.fn;have jfj:=je5.binds (ps:=["way", "thing"]) λ _ _ _ _ _ _=>bn2 λ _ _=>rfl;have jfk:=mg_of X G jeu;obtain ⟨_,_,_,je6,je7,je8,je9,jfa,jfb,jfl,jfm,jfn⟩:=jew;have jfc:=vi3 (st:=vy0) jfl jfm jfn;have jf0:=jfc.binds (ps:=["script"]) λ _ _ _ _ _ _=>bn1 λ _=>rfl;have jf1:=mg_of X G jd3;refine ⟨fnOf "law" "law" (ui0 vy0) (va0 vy0) (ya0 vy0) .none je6 je7 je8 je9 jfa jfb,λ s v=>.of_eq rfl,λ base KB GB=>?_⟩;have O_BadNote:=sk2 KB GB jab jdh;have O_NoPicture:=sk2 KB GB jaa jcp;have O_NoRoom:=sk2 KB GB jad jdk;have calB:=@calB l.prog w K mg base h;have ur2:=@ur2 l.prog w K mg base h;have jf2:=ur2 X G jd5 (k:=0) wl4 (λ _ _ _ _ _ _ _ _ r e=>by apply rs_all.1.2.1 e (hr:=r) <;> trivial) vr4;have jf3:=ur2 X G jd4 (k:=1) vl4 (λ _ _ _ _ _ _ _ _ r e=>by apply rs_all.1.1 e (hr:=r) <;> trivial) ur4;have jf4:=calB X G jd6 (k:=0) yl4 (λ _ _ _ _ _ _ _ r=>by apply rs_all.1.2.2.1 (hr:=r) <;> trivial) yr4;have jf5:=calB X G jd8 (k:=1) sk4 (λ _ _ _ _ _ _ _ r=>by apply rs_all.1.2.2.2.2.1 (hr:=r) <;> trivial) uq4;have jf6:=calB X G jd7 (k:=0) uk4 (λ _ _ _ _ _ _ _ r=>by apply rs_all.1.2.2.2.1 (hr:=r) <;> trivial) wq4;have jf7:=calB X G jed (k:=1) yk4 (λ _ _ _ _ _ _ _ r=>by apply rs_all.2.1.2.1 (hr:=r) <;> trivial) tp4;have jf8:=calB X G jec (k:=0) wk4 (λ _ _ _ _ _ _ _ r=>by apply rs_all.2.1.1 (hr:=r) <;> trivial) xq4;have jf9:=calB X G jeb (k:=2) zk4 (λ _ _ _ _ _ _ _ r=>by apply rs_all.1.2.2.2.2.2.2.2 (hr:=r) <;> trivial) sp4;have jga:=calB X G jea (k:=0) zl4 (λ _ _ _ _ _ _ _ r=>by apply rs_all.1.2.2.2.2.2.2.1 (hr:=r) <;> trivial) zr4;have jfo:=ur2 X G jd9 (k:=3) vk4 (λ _ _ _ _ _ _ _ _ r e=>by apply rs_all.1.2.2.2.2.2.1 e (hr:=r) <;> trivial) yq4;have jfp:=uh1 (P:=l.prog) (w:=w) je4 jfi jfh sc_q25 (by rintro _ _ _ _ ⟨_,rfl,_⟩; rfl) (k:=0) (λ cdv A outer s H E XE hr EX=>vn4 EX O_BadNote z_ValueError z_int hr) tq4;have jfq:=uh1 (P:=l.prog) (w:=w) je3 jfg jff sc_q20 (by rintro _ _ _ _ ⟨_,rfl,_⟩; rfl) (k:=1) (λ cdv A outer s H E XE hr EX=>tn4 EX jfp [14] O_BadNote z_len hr) wr4;have jgb:=calB X G jel (k:=0) xk4 (λ _ _ _ _ _ _ _ r=>by apply rs_all.2.1.2.2.2.1 (hr:=r) <;> trivial) up4;have jfr:=calB X G jek (k:=1) tk4 (λ _ _ _ _ _ _ _ r=>by apply rs_all.2.1.2.2.1 (hr:=r) <;> trivial) vq4;have jfs:=calB X G jem (k:=4) xl4 (λ _ _ _ _ _ _ _ r=>by apply rs_all.2.1.2.2.2.2.1 (hr:=r) <;> trivial) xr4;have jft:=uh1 (P:=l.prog) (w:=w) je2 jfe jfd sc_q29 (by rintro _ _ _ _ ⟨_,rfl,_⟩; rfl) (k:=5) (λ cdv A outer s H E XE hr EX=>wn4 EX jfq [14] jfs [14] jfr [14] O_BadNote g_NO_STROKES hr) zq4;have h_q1:=calB X G A_q1 (k:=0) yk5 (λ _ _ _ _ _ _ _ r=>by apply rs_all.2.1.2.2.2.2.2.1 (hr:=r) <;> trivial) rd_q1;have jgc:=calB X G jen (k:=0) ul4 (λ _ _ _ _ _ _ _ r=>by apply rs_all.2.1.2.2.2.2.2.2.1 (hr:=r) <;> trivial) tr4;have jfu:=calB X G jeo (k:=1) tl4 (λ _ _ _ _ _ _ _ r=>by apply rs_all.2.1.2.2.2.2.2.2.2 (hr:=r) <;> trivial) xs4;have h_q2:=calB X G A_q2 (k:=0) xk5 (λ _ _ _ _ _ _ _ r=>by apply rs_all.2.2.1.1 (hr:=r) <;> trivial) rd_q2;have jfv:=calB X G jep (k:=1) wm4 (λ _ _ _ _ _ _ _ r=>by apply rs_all.2.2.1.2.1 (hr:=r) <;> trivial) us4;have h_q0:=calB X G A_q0 (k:=2) zk5 (λ _ _ _ _ _ _ _ r=>by apply rs_all.2.2.1.2.2.1 (hr:=r) <;> trivial) rd_q0;have h_q6:=calB X G A_q6 (k:=1) uj5 (λ _ _ _ _ _ _ _ r=>by apply rs_all.2.2.1.2.2.2.1 (hr:=r) <;> trivial) rd_q6;have h_q4:=calB X G A_q4 (k:=0) tj5 (λ _ _ _ _ _ _ _ r=>by apply rs_all.2.2.1.2.2.2.2.1 (hr:=r) <;> trivial) rd_q4;have jgd:=calB X G jeq (k:=1) zm4 (λ _ _ _ _ _ _ _ r=>by apply rs_all.2.2.1.2.2.2.2.2.1 (hr:=r) <;> trivial) vs4;have jfw:=calB X G jer (k:=2) xm4 (λ _ _ _ _ _ _ _ r=>by apply rs_all.2.2.1.2.2.2.2.2.2.1 (hr:=r) <;> trivial) zs4;have h_q7:=va4 (P:=l.prog) (w:=w) (base:=base) F_q7 m_q7 b_q7 vj5 (by rintro _ _ _ ⟨_,_,rfl,_⟩; rfl) (k:=0) (λ _ _ _ _ _ _ r=>by apply rs_all.2.2.1.2.2.2.2.2.2.2 (hr:=r) <;> trivial) xl5;have jfx:=calB X G jes (k:=0) ym4 (λ _ _ _ _ _ _ _ r=>by apply rs_all.2.2.2.1 (hr:=r) <;> trivial) ws4;have h_q8:=calB X G A_q8 (k:=0) wj5 (λ _ _ _ _ _ _ _ r=>by apply rs_all.2.2.2.2.1 (hr:=r) <;> trivial) sk5;have h_q3:=calB X G A_q3 (k:=3) sj5 (λ _ _ _ _ _ _ _ r=>by apply rs_all.2.2.2.2.2.1 (hr:=r) <;> trivial) rd_q3;have h_q9:=calB X G A_q9 (k:=1) zj5 (λ _ _ _ _ _ _ _ r=>by apply rs_all.2.2.2.2.2.2.1 (hr:=r) <;> trivial) tk5;have jfy:=calB X G jet (k:=2) sl4 (λ _ _ _ _ _ _ _ r=>by apply rs_all.2.2.2.2.2.2.2 (hr:=r) <;> trivial) ys4;have jfz:=ua4 (P:=l.prog) (w:=w) je5 jfk jfj sc_q16 (by intro ds μ Q h; first | exact h.elim | exact h.1 | (rcases h with ⟨_,rfl,_⟩ | ⟨_,rfl,_⟩ <;> rfl) | (obtain ⟨rfl,_⟩:=h; rfl) | (obtain ⟨_,rfl,_⟩:=h; rfl) | (obtain ⟨_,_,rfl,_⟩:=h; rfl) | (obtain ⟨_,_,_,rfl,_⟩:=h; rfl) | (obtain ⟨_,_,_,_,rfl,_⟩:=h; rfl) | (obtain ⟨_,_,_,_,_,rfl,_⟩:=h; rfl) | (obtain ⟨_,_,_,_,_,_,rfl,_⟩:=h; rfl) | (obtain ⟨_,_,_,_,_,_,_,rfl,_⟩:=h; rfl) | (obtain ⟨_,_,_,_,_,_,_,_,rfl,_⟩:=h; rfl)) (k:=6) (λ cdv A outer s H E hr=>sn4 h_q7 [14] jft [14] jfo [14] m_PenError k2_PenError k3 ok_PenError hr) sr4;exact si3 jfc sc_q24 (by rintro _ _ _ ⟨_,rfl,_⟩; rfl) (k:=7) (λ cdv A outer s H E hr=>un4 h_q0 [14] h_q3 [14] h_q6 [14] jfv [14] jfx [14] jfw [14] jfy [14] jfu [14] jfz [14] z_range hr) sq4
theorem walk {l:PySem.W.OpenLaw} {q:[60]} {loose:[35]} {XP:(Str->Option Value)->Heap->Prop} {YP:World->Heap->Prop} {d:DefRec} {K:Params->Fg} (hn:l.most=some 63) (hdf:d.params.defaults=[])
    (hY:∀ (w:World) (h:Heap),YP w h->(K w.params).In h)
    (F:∀ (w:World) (mg:[24]) (fa:Addr) (h:Heap),(K w.params).In h->h.Ns mainGlobals mg->mg d.name=some (.ref fa) ->
     ∃ fd:FuncData,(∀ (s:[47]) (u:Value),BindsTo s fd ⟨[u],[]⟩ [("script",u)]) /\ ∀ base:Heap,(K w.params).In base->base.Ns mainGlobals mg->FnC l.prog w (K w.params) mg base CX0 8 fa fd ["script"] (lift (K w.params) zu2)) :
    Wc.WalkC q loose XP YP l.row.toRowW d [] (λ f vs=>PySem.call f vs) :=
 L2.walk_c (n:=63) (k:=8) (x := "script") (CX:=λ _=>CX0) (sp:=λ w=>lift (K w.params) zu2) hn [14] hdf ⟨rfl,by decide,by decide⟩ hY F (λ _ _ a nsT hl hO hS=>zy2 hO hS ⟨nsT,rfl,hl,λ _=>rfl⟩) λ _ _ _ _ _ z=>z
abbrev vb:Value:=.bool true
abbrev vi:Value:=.int 181 0
end Pv
open PySem PySem.W PyProof.Rows
set_option maxRecDepth 100000 in
set_option maxHeartbeats 0 in
theorem PySem.Challenge.cw_penwright_k86_texts_that_show_no_picture_holds : PySem.Challenge.rw_penwright_k86_texts_that_show_no_picture.Holds := by
 w_on
 refine PySem.W.holds_law Pv.h_said λ said=>?_;refine Wc.holds_c (YP:=PySem.W.Hook.says (kHook Pv.KK Pv.KA Pv.ke)) Pv.h_left (PySem.W.Hook.of (kHook Pv.KK Pv.KA Pv.ke)) (PySem.W.Hook.keeps (kHook Pv.KK Pv.KA Pv.ke)) (λ s e=>PySem.W.xl_of s (Bool.and_eq_true_iff.mp e).1) PySem.W.XL.keeps (by rfl) (by rfl) (by rfl) (λ s e=>PySem.W.recFacts_of (Bool.and_eq_true_iff.mp e).2) (by rfl) said (by decide +kernel) ⟨rfl,rfl,rfl,rfl,rfl,by decide +kernel⟩ ?hw ?hc
 case hw=>w_witness2
 k_fill
 refine Pv.walk (l:=PySem.Challenge.rw_penwright_k86_texts_that_show_no_picture) rfl rfl (λ w h Y=>PySem.W.kIn_of Y) ?F
 case F =>
  intro w mg fa h KX G hmg;refine' Pv.all_mk KX G hmg ?jd4 ?jd5 ?jd6 ?jd7 ?jd8 ?jd9 ?jea ?jeb ?jec ?jed ?jee ?jef ?jeg ?jeh ?jei ?jej ?jek ?jel ?jem ?A_q1 ?jen ?jeo ?A_q2 ?jep ?A_q0 ?A_q6 ?A_q4 ?jeq ?jer ?a_q7 ?A_q7 ?jes ?A_q8 ?A_q3 ?A_q9 ?jet ?jeu ?jev ?jd3 ?jew ?jdv ?ql_1 ?jbq ?jb2 ?jbn ?ql_6 ?jab ?jbo ?jcc ?jcg ?jbh ?jbi ?jaa ?jbb ?jbm ?jad ?jbp ?jb3 ?jdf ?jb4 ?jb5 ?jdg ?jb6 ?jb7 ?jch ?jbj ?jbk ?jdh ?jci ?jcj ?jck ?jcl ?jcm ?jcn ?jco ?jcp ?jbr ?jbs ?jbt ?jbu ?jbv ?jbw ?jbx ?jdk ?jcz ?jc0 ?jc1 ?jc2 ?jc3 ?jc4 ?jc5 ?jaj ?jak ?ja2 ?ja3 ?jao ?jap ?jae ?jaf ?jaz ?ja0 ?jal ?jam ?jaq ?jar ?ja4 ?ja5 ?jas ?jat ?ja6 ?ja7 ?jau ?jav ?jbc ?jbd ?ja8 ?ja9 ?jaw ?jax ?jbe ?jbf ?jag ?jac ?jan ?k3s ?jb8 ?jay ?jah ?ja1 ?jc6 ?jbg ?jby ?jdw ?jdq ?jdx ?jbz ?jdy ?jdr ?jdz ?jd0 ?jdl ?jd1 ?jdi ?jd2 ?jdm
  (case jdv | ql_1 | jbq | jb2 | jbn | ql_6 | jab | jbo | jcc | jcg | jbh | jbi | jaa | jbb | jbm | jad | jbp | jb3 | jdf | jb4 | jb5 | jdg | jb6 | jb7 | jch | jbj | jbk | jci | jcj | jck | jcl | jcm | jcn | jco | jbr | jbs | jbt | jbu | jbv | jbw | jbx | jcz | jc0 | jc1 | jc2 | jc3 | jc4 | jc5 | jaj | ja2 | jao | jae | jaz | jal | jaq | ja4 | jas | ja6 | jau | jbc | ja8 | jaw | jbe | jag | jac | jan | k3s | jb8 | jay | jah | ja1 | jc6 | jbg | jby | jdw | jdq | jdx | jbz | jdy | jdr | jdz | jd0 | jdl | jd1 | jdi | jd2 | jdm=>k_is)
  (case jd4 | jd5 | jd6 | jd7 | jd8 | jd9 | jea | jeb | jec | jed | jek | jel | jem | A_q1 | jen | jeo | A_q2 | jep | A_q0 | A_q6 | A_q4 | jeq | jer | jes | A_q8 | A_q3 | A_q9 | jet=>(refine' Pv.fnB_mk ?a ?l ?c ?k; (case a=>(show _=_; k_is)); (case l=>k_is); (case c=>k_is); (case k=>k_is)))
  (case jee | jeg | jei | a_q7 | jeu | jd3=>(show _=_; k_is))
  (case jef | jeh | jej | A_q7 | jev | jew=>(refine' Pv.fnA_mk ?l ?c ?k; (case l=>k_is); (case c=>k_is); (case k=>k_is)))
  (case jdh | jcp | jdk=>k_exc)
  (case jak | ja3 | jap | jaf | ja0 | jam | jar | ja5 | jat | ja7 | jav | jbd | ja9 | jax | jbf=>rfl)
