import PyProof.Rows.All
import Wide.All
import OpenK.AllK
import Wide.FinOn
import Lean
import PyProof.EqAt
import PyProof.EqKinds
import PyProof.TupleCall
import PyProof.P3Statements
import KE.KIntText
import KE.KRevIter
import KE.KRevSl
import KE.KSortTup
import KE.KDictSum
import PySem.Challenge.RW_penwright_k32_whole_drawn_again
open List(map_cons getElem?_eq_getElem append_assoc mem_singleton length_map length_cons length_append map_append mem_cons_of_mem nil_append mem_cons_self getElem?_append_right cons_append getElem?_map append_nil length_nil getElem?_append_left mem_append_left map_nil mem_append_right getD_eq_getElem?_getD map_map take_append_drop getElem_mem mem_append mem_of_getElem? replicate_succ pairwise_singleton find?_cons nodup_nil flatten_cons take_zero take_of_length_le length_take nodup_append mem_cons any_cons map_congr_left getElem?_take_of_lt set_cons_succ getElem?_cons_succ set_cons_zero nodup_cons drop_sublist getElem?_drop getElem_of_mem append_inj' length_filter_le take_sublist lookup_cons drop_eq_nil_of_le perm_append_comm mem_of_mem_drop length_drop mem_of_mem_take ext_getElem length_range foldl_cons ext_getElem? reverse_perm filter_append mem_filter range_succ)
open Array(length_toList getElem?_toList toList_append toList_push)
set_option Elab.async false
set_option linter.all false
set_option maxRecDepth 100000
set_option maxHeartbeats 4000000
open PySem.W (fnOf kHook instObj methodObj lookIn plainGet hasDictIn findIn handedIn plainGet_of isFn plainOver takerIn makesIn emptyDict keepIn callWith_K cellsFrom_some codeIn nsIn kitOne kia_one mg_of mg_none_of)
open PySem.F (slot_tuple_add entry_tuple_add args_tuple_add_2)
noncomputable section
set_option compiler.extract_closed false
set_option hygiene false
local macro_rules|`([4])=>`(⟨rfl,rfl,rfl,by decide +kernel,rfl,by decide +kernel,by decide +kernel⟩)|`([5])=>`(by omega)|`([6])=>`(model prog w)|`([7])=>`(Value->Shared->Prop)|`([8])=>`(Inv X pins σ H s)|`([9])=>`(c3 (.int 0))|`([10])=>`(@sa0 P w K mg base)|`([11])=>`(c3 (.int 1))|`([12])=>`(model X.prog X.w)|`([13])=>`(sb0 X NN scope cl C fp s₀ H₀ pn)|`([14])=>`(by assumption)|`([15])=>`(⟨λ b ys q=>by rw [xb0 (ul0 q h (by intro z; cases z))]; exact q,λ b o u q=>by rw [xb0 (ul0 q h (by intro z; cases z))]; exact q,λ b x q=>by rw [xb0 (ul0 q h (by intro z; cases z))]; exact q⟩)|`([16])=>`(.ListComp elt [⟨target,iter,ifs,0⟩] scope pos)|`([17])=>`(by simp)|`([18])=>`(List (Addr × Obj))|`([19])=>`({ s with heap:=h',toks:=tk })|`([20])=>`(by simp_all;omega)|`([21])=>`(Nat.le_refl _)|`([22])=>`((e :: es).length + ([]:List Keyword).length + (if ([]:List Keyword).isEmpty then 0 else 1) < 30)|`([23])=>`(((s.heap.push (seqObj "list" #[] 0)).update s.heap.objs.size (Obj.mapSeq (· ++ vs.toArray))))|`([24])=>`(List Value)|`([25])=>`(xa0 (v3 0) nil3)|`([26])=>`(by simp_all)|`([27])=>`(by decide)|`([28])=>`(Str->Option Value)|`([29])=>`(Cm prog w A s κ lt M)|`([30])=>`(x == ("__debug__" : Str))|`([31])=>`(vs.toArray.zip vs.toArray)|`([32])=>`(o3 ixR (v3 0) [9])|`([33])=>`(∀ sl wd,k ∉ xs.map (·.1)->sl ∉ t.place.toList->(∃ m,tr t.mask (hf k) m=sl /\ ∀ l,l < m->Occ t (tr t.mask (hf k) l))->(wd=true->t.slot sl=.dummy)->Q (.free sl wd) s)|`([34])=>`((false,eval e X.env))|`([35])=>`(wpAny_pure ?_)|`([36])=>`(s.heap.objs.size + 1)|`([37])=>`(⟨_,n,rfl,by omega,by omega,by simp only [Pv.kn_go_jump,Pv.kn_go_turn,Pv.kn_go_times,Pv.kn_jump_go,Pv.kn_jump_turn,Pv.kn_jump_times,Pv.kn_turn_go,Pv.kn_turn_jump,Pv.kn_turn_times,Pv.kn_times_go,Pv.kn_times_jump,Pv.kn_times_turn,Pv.kp_go,Pv.kp_jump,Pv.kp_turn,Pv.kp_times,Pv.kz_go,Pv.kz_jump,Pv.kz_turn,Pv.kz_times]; simp,q⟩)|`([38])=>`(λ _ _ _ _ _=>?_)|`([39])=>`({ cls:=.type "range",data:=.fields #[.int lo t,.int hi u,.int 1 v] })|`([40])=>`(∀ b ∈ ch,(b ∈ X.ex \/ X.s₀.heap.objs.size<=b) /\ b ≠ X.env.locals /\ (∀ x c,X.env.cells.lookup x=some c->c ≠ b) /\ ∀ p ∈ X.pn ++ pins,p.1 ≠ b)|`([41])=>`(List.toArray (List.range vs.length))|`([42])=>`(X.A.units + 64 < cLine)|`([43])=>`(Option Nat)
set_option bootstrap.genMatcherCode false
local macro_rules | `(tactic| trivial) => `(tactic| first | exact Or.inl rfl | exact Or.inr rfl | exact Or.inr (Or.inl rfl) | exact Or.inr (Or.inr rfl) | fail)
theorem Z0:3<=PySem.sizeLine:=by decide
theorem Z1:1<=PySem.sizeLine:=by decide
theorem Z2:2<=PySem.sizeLine:=by decide
namespace L2
open PySem PySem.Spec PyProof.Rows
noncomputable def tg0 (s:Stmt):Arguments:=match s with
 | .FunctionDef _ a _ _ _ _ _ _ _ _=>a
 | _=>{ posonlyargs:=[],args:=[],vararg:=none,kwonlyargs:=[],kw_defaults:=[],kwarg:=none,defaults:=[] }
noncomputable def vc0 (s:Stmt):List Stmt:=match s with
 | .FunctionDef _ _ b _ _ _ _ _ _ _=>b
 | _=>[]
noncomputable def wa0 (s:Stmt):Scope:=match s with
 | .FunctionDef _ _ _ _ _ _ sc _ _ _=>sc
 | _=>{ kind:=.function,names:=[],isGenerator:=false,isCoroutine:=false }
end L2
namespace Pv
open PySem PySem.Spec PyProof.Rows L2
noncomputable def top (i:Nat):Stmt:=PySem.Challenge.pw_penwright_k32_whole_drawn_again.main.body.getD i (.Pass ⟨0,0,0,0⟩)
noncomputable def mth (i j:Nat):Stmt:=match top i with
 | .ClassDef _ _ _ b _ _ _ _ _ _ _=>b.getD j (.Pass ⟨0,0,0,0⟩)
 | _=>.Pass ⟨0,0,0,0⟩
abbrev xp2:Stmt:=top 14
abbrev to2:Stmt:=top 15
abbrev uo2:Stmt:=top 16
abbrev s_q7:Stmt:=top 17
abbrev zn2:Stmt:=top 18
abbrev um2:Stmt:=top 20
abbrev wl2:Stmt:=top 22
abbrev zo2:Stmt:=top 23
abbrev yo2:Stmt:=top 24
abbrev xo2:Stmt:=top 25
abbrev vo2:Stmt:=top 26
abbrev wo2:Stmt:=top 27
abbrev un2:Stmt:=top 28
abbrev s_q8:Stmt:=top 31
abbrev s_q9:Stmt:=top 32
abbrev tn2:Stmt:=top 33
abbrev tl2:Stmt:=top 34
abbrev ul2:Stmt:=top 35
abbrev zm2:Stmt:=top 36
abbrev vm2:Stmt:=top 37
abbrev zl2:Stmt:=top 38
abbrev xm2:Stmt:=top 39
abbrev yl2:Stmt:=top 40
abbrev wm2:Stmt:=top 43
abbrev vl2:Stmt:=top 44
abbrev ym2:Stmt:=top 45
abbrev xl2:Stmt:=top 46
abbrev xn2:Stmt:=top 47
abbrev uk2:Stmt:=top 48
abbrev vk2:Stmt:=top 49
abbrev wk2:Stmt:=top 50
abbrev yn2:Stmt:=top 51
abbrev sk2:Stmt:=top 52
abbrev sm2:Stmt:=top 53
abbrev tm2:Stmt:=top 54
abbrev vn2:Stmt:=top 55
abbrev s_q6:Stmt:=top 56
abbrev sn2:Stmt:=top 57
abbrev wn2:Stmt:=top 59
abbrev s_q0:Stmt:=top 61
abbrev s_q3:Stmt:=top 62
abbrev s_q1:Stmt:=top 63
abbrev s_q5:Stmt:=top 64
abbrev s_q2:Stmt:=top 65
abbrev s_q4:Stmt:=top 66
abbrev za1:Stmt:=top 67
abbrev tc0:Stmt:=mth 58 0
abbrev yd0:Stmt:=mth 58 1
noncomputable abbrev zd0:Stmt:=mth 58 2
abbrev yf0:Stmt:=mth 58 3
abbrev we0:Stmt:=mth 58 4
abbrev vb:Value:=.bool true
noncomputable abbrev vi:Value:=.int 181 0
noncomputable def en (P:Params) (x:Str) (t:Tok) (v:Value):DictEntry:=⟨PyData.keyHash P x,.str x t,v⟩
def fo (x y:Str) (st:Stmt) (m c:Value):Obj:=⟨.type "function",none,.func (fnOf x y (tg0 st) (vc0 st) (wa0 st) .none .none .none m none c .none),#[]⟩
noncomputable def co (x:Str) (a:Tok) (y:Str) (b c:Tok) (ns:List Int) (vs:[24]) (d e:Int) (f:Tok):Obj:=⟨.type "code",none,.fields (.str x a :: .str y b :: .str "/claim/cut.py" c :: (ns.map (λ n=>Value.int n 0) ++ (vs ++ [.int d 0,.int e 0,.str "/claim/cut.py" f]))).toArray,#[]⟩
def fq (x:Str) (st:Stmt) (m c:Value):Obj:=fo x x st m c
noncomputable def cq (x:Str) (a:Tok) (ns:List Int) (vs:[24]) (d e:Int) (f:Tok):Obj:=co x a x (a + 1) (a + 2) ns vs d e f
noncomputable def tO (vs:[24]):Obj:=⟨.type "tuple",none,.seq vs.toArray 0,#[]⟩
noncomputable abbrev z6:Value:=.str "law_penwright_k32_whole_drawn_again" 694
def z7 (x:Str) (s:Stmt) (c:Addr):Obj:=fo x x s z6 (.ref c)
noncomputable def z8 (x:Str) (a:Tok):=co x a x
noncomputable def z9 (P:Params) (x:Str) (t:Tok) (a:Addr):DictEntry:=en P x t (.ref a)
def Z3 (x:Str):=fo x x
noncomputable abbrev Z4:Value:=.str "penwright.errors" 187
noncomputable abbrev Z5:Value:=.str "penwright.words" 255
noncomputable abbrev Z6:Value:=.str "penwright.pictures" 404
noncomputable abbrev Z7:Value:=.str "penwright.trails" 487
def KK:PySem.Params->PySem.W.Frag:=λ P=>(nat_lit 2,⟨.none,none,.dict #[] 0,#[]⟩) :: (nat_lit 3,⟨.type "dict",none,.dict #[en P "__name__" 165 z6,en P "__doc__" 166 (.none),en P "__package__" 167 (.none),en P "__loader__" 168 (.builtin "__main__.__loader__#opaque"),en P "__spec__" 169 (.none),z9 P "__annotations__" 170 6,z9 P "__builtins__" 171 4,en P "__file__" 173 (.str "/claim/cut.py" 172),en P "__cached__" 174 (.none),z9 P "PenError" 206 24,z9 P "NoWord" 222 37,z9 P "NoPicture" 238 49,z9 P "NoRoom" 254 61,en P "MOST_DEEDS" 258 (.int 30 257),en P "MOST_DEEP" 260 (.int 4 259),en P "GREATEST_NUMBER" 262 (.int 99999999999999999999 261),en P "MOST_OF_SMALL" 264 (.int 400 263),z9 P "PLAIN_KINDS" 268 64,z9 P "KINDS_FROM_NOUGHT" 271 65,z9 P "START" 275 66,z9 P "AHEAD" 286 71,z9 P "check_word" 293 78,z9 P "checked_count" 303 85,z9 P "checked_deed_count" 311 92,z9 P "check_number" 319 99,z9 P "led" 330 106,z9 P "pen_behind" 339 113,z9 P "pen_behind_deed" 346 120,z9 P "pen_repeated" 356 127,z9 P "strokes_drawn" 363 134,z9 P "count_strokes" 369 139,z9 P "count_strokes_of_deed" 376 146,z9 P "deeds_done" 383 153,z9 P "count_done" 389 158,z9 P "count_done_of_deed" 396 165,z9 P "is_small" 403 172,z9 P "WAYS" 408 173,z9 P "check_picture" 417 180,z9 P "check_stroke" 424 187,z9 P "ends_of" 431 194,z9 P "stroke_between" 440 201,z9 P "strokes_along" 446 206,z9 P "picture_with" 453 213,z9 P "picture_of" 460 220,z9 P "strokes_from" 471 227,z9 P "plain_deeds" 480 234,z9 P "strokes_of_go" 486 239,en P "MOST_PARTS" 490 (.int 1000 489),z9 P "picture_pieces" 501 246,z9 P "strokes_at" 511 253,z9 P "piece_with" 524 260,z9 P "take_unseen" 530 265,z9 P "odd_points" 536 270,z9 P "trails_of" 545 277,z9 P "trails_of_piece" 551 282,z9 P "way_along" 565 289,z9 P "links_at" 575 296,z9 P "take_unused" 584 303,z9 P "other_end" 592 310,z9 P "parted_at_bridges" 602 317,z9 P "is_trail" 608 322,z9 P "are_next" 616 329,z9 P "deeds_of" 622 334,z9 P "Scribe" 683 377,z9 P "jumps_over" 693 388,z9 P "_law_cell_at" 703 395,z9 P "_law_state" 712 402,z9 P "_law_choice" 722 409,z9 P "_law_word" 733 416,z9 P "_law_drawn_word" 744 423,z9 P "_law_walked" 761 430,z9 P "law" 771 437] 72,#[]⟩) :: (nat_lit 15,tO [.type "ValueError"]) :: (nat_lit 22,tO []) :: (nat_lit 23,⟨.type "dict",none,.dict #[en P "__module__" 196 Z4,en P "__firstlineno__" 200 (.int 2 199),z9 P "__static_attributes__" 201 22,z9 P "__weakref__" 203 25,en P "__doc__" 204 (.none)] 3,#[]⟩) :: (nat_lit 24,⟨.type "type",none,.cls ⟨"PenError",[.type "ValueError"],[.ref 24,.type "ValueError",.type "Exception",.type "BaseException",.type "object"],23, "PenError",true,[],[.ref 37,.ref 49,.ref 61],false,none,false⟩,#[some (.ref 15),none,some (.str "PenError" 189),some (.str "PenError" 197),some (.builtin "ValueError.__new__"),some (.bool true)]⟩) :: (nat_lit 25,⟨.type "getset_descriptor",none,.fields #[.str "__weakref__" 202,.ref 24,.builtin "ExceptionGroup.__weakref__",.none],#[]⟩) :: (nat_lit 28,tO [.ref 24]) :: (nat_lit 35,tO []) :: (nat_lit 36,⟨.type "dict",none,.dict #[en P "__module__" 214 Z4,en P "__firstlineno__" 218 (.int 4 217),z9 P "__static_attributes__" 219 35,en P "__doc__" 220 (.none)] 2,#[]⟩) :: (nat_lit 37,⟨.type "type",none,.cls ⟨"NoWord",[.ref 24],[.ref 37,.ref 24,.type "ValueError",.type "Exception",.type "BaseException",.type "object"],36, "NoWord",true,[],[],false,none,false⟩,#[some (.ref 28),none,some (.str "NoWord" 207),some (.str "NoWord" 215),some (.builtin "ValueError.__new__"),some (.bool true)]⟩) :: (nat_lit 40,tO [.ref 24]) :: (nat_lit 47,tO []) :: (nat_lit 48,⟨.type "dict",none,.dict #[en P "__module__" 230 Z4,en P "__firstlineno__" 234 (.int 6 233),z9 P "__static_attributes__" 235 47,en P "__doc__" 236 (.none)] 2,#[]⟩) :: (nat_lit 49,⟨.type "type",none,.cls ⟨"NoPicture",[.ref 24],[.ref 49,.ref 24,.type "ValueError",.type "Exception",.type "BaseException",.type "object"],48, "NoPicture",true,[],[],false,none,false⟩,#[some (.ref 40),none,some (.str "NoPicture" 223),some (.str "NoPicture" 231),some (.builtin "ValueError.__new__"),some (.bool true)]⟩) :: (nat_lit 52,tO [.ref 24]) :: (nat_lit 59,tO []) :: (nat_lit 60,⟨.type "dict",none,.dict #[en P "__module__" 246 Z4,en P "__firstlineno__" 250 (.int 8 249),z9 P "__static_attributes__" 251 59,en P "__doc__" 252 (.none)] 2,#[]⟩) :: (nat_lit 61,⟨.type "type",none,.cls ⟨"NoRoom",[.ref 24],[.ref 61,.ref 24,.type "ValueError",.type "Exception",.type "BaseException",.type "object"],60, "NoRoom",true,[],[],false,none,false⟩,#[some (.ref 52),none,some (.str "NoRoom" 239),some (.str "NoRoom" 247),some (.builtin "ValueError.__new__"),some (.bool true)]⟩) :: (nat_lit 64,tO [.str "go" 265,.str "jump" 266,.str "turn" 267]) :: (nat_lit 65,tO [.str "go" 269,.str "times" 270]) :: (nat_lit 66,tO [.int 0 272,.int 0 273,.int 0 274]) :: (nat_lit 67,tO [.int 1 276,.int 0 277]) :: (nat_lit 68,tO [.int 0 278,.int 1 279]) :: (nat_lit 69,tO [.int (-1) 281,.int 0 282]) :: (nat_lit 70,tO [.int 0 283,.int (-1) 285]) :: (nat_lit 71,tO [.ref 67,.ref 68,.ref 69,.ref 70]) :: (nat_lit 77,cq "check_word" 287 [19,1,0,0,3] [.ref 72,.bool true,.int 181 0,.ref 73,.none,.ref 74,.ref 75,.ref 76] 291 19 292) :: (nat_lit 78,fq "check_word" xp2 Z5 (.ref 77)) :: (nat_lit 84,cq "checked_count" 294 [21,2,0,0,3] [.ref 79,.bool true,.int 181 0,.ref 80,.none,.ref 81,.ref 82,.ref 83] 301 21 302) :: (nat_lit 85,fq "checked_count" to2 Z5 (.ref 84)) :: (nat_lit 91,cq "checked_deed_count" 304 [32,2,0,0,3] [.ref 86,.bool true,.int 181 0,.ref 87,.none,.ref 88,.ref 89,.ref 90] 309 32 310) :: (nat_lit 92,fq "checked_deed_count" uo2 Z5 (.ref 91)) :: (nat_lit 98,cq "check_number" 312 [42,2,0,0,3] [.ref 93,.bool true,.int 181 0,.ref 94,.none,.ref 95,.ref 96,.ref 97] 317 42 318) :: (nat_lit 99,fq "check_number" s_q7 Z5 (.ref 98)) :: (nat_lit 105,cq "led" 320 [49,2,0,0,3] [.ref 100,.bool true,.int 181 0,.ref 101,.none,.ref 102,.ref 103,.ref 104] 328 49 329) :: (nat_lit 106,fq "led" zn2 Z5 (.ref 105)) :: (nat_lit 119,cq "pen_behind_deed" 340 [59,1,0,0,3] [.ref 114,.bool true,.int 181 0,.ref 115,.none,.ref 116,.ref 117,.ref 118] 344 59 345) :: (nat_lit 120,fq "pen_behind_deed" um2 Z5 (.ref 119)) :: (nat_lit 133,cq "strokes_drawn" 357 [72,1,0,0,3] [.ref 128,.bool true,.int 181 0,.ref 129,.none,.ref 130,.ref 131,.ref 132] 361 72 362) :: (nat_lit 134,fq "strokes_drawn" wl2 Z5 (.ref 133)) :: (nat_lit 138,cq "count_strokes" 364 [75,1,0,0,3] [.ref 135,.bool true,.int 181 0,.ref 136,.none,.none,.none,.ref 137] 367 75 368) :: (nat_lit 139,fq "count_strokes" zo2 Z5 (.ref 138)) :: (nat_lit 145,cq "count_strokes_of_deed" 370 [77,1,0,0,3] [.ref 140,.bool true,.int 181 0,.ref 141,.none,.ref 142,.ref 143,.ref 144] 374 77 375) :: (nat_lit 146,fq "count_strokes_of_deed" yo2 Z5 (.ref 145)) :: (nat_lit 152,cq "deeds_done" 377 [83,1,0,0,3] [.ref 147,.bool true,.int 181 0,.ref 148,.none,.ref 149,.ref 150,.ref 151] 381 83 382) :: (nat_lit 153,fq "deeds_done" xo2 Z5 (.ref 152)) :: (nat_lit 157,cq "count_done" 384 [86,1,0,0,3] [.ref 154,.bool true,.int 181 0,.ref 155,.none,.none,.none,.ref 156] 387 86 388) :: (nat_lit 158,fq "count_done" vo2 Z5 (.ref 157)) :: (nat_lit 164,cq "count_done_of_deed" 390 [88,1,0,0,3] [.ref 159,.bool true,.int 181 0,.ref 160,.none,.ref 161,.ref 162,.ref 163] 394 88 395) :: (nat_lit 165,fq "count_done_of_deed" wo2 Z5 (.ref 164)) :: (nat_lit 171,cq "is_small" 397 [92,1,0,0,3] [.ref 166,.bool true,.int 181 0,.ref 167,.none,.ref 168,.ref 169,.ref 170] 401 92 402) :: (nat_lit 172,fq "is_small" un2 Z5 (.ref 171)) :: (nat_lit 173,tO [.int 0 406,.int 1 407]) :: (nat_lit 179,cq "check_picture" 409 [96,1,0,0,3] [.ref 174,.bool true,.int 181 0,.ref 175,.none,.ref 176,.ref 177,.ref 178] 415 96 416) :: (nat_lit 180,fq "check_picture" s_q8 Z6 (.ref 179)) :: (nat_lit 186,cq "check_stroke" 418 [102,1,0,0,3] [.ref 181,.bool true,.int 181 0,.ref 182,.none,.ref 183,.ref 184,.ref 185] 422 102 423) :: (nat_lit 187,fq "check_stroke" s_q9 Z6 (.ref 186)) :: (nat_lit 193,cq "ends_of" 425 [105,1,0,0,3] [.ref 188,.bool true,.int 181 0,.ref 189,.none,.ref 190,.ref 191,.ref 192] 429 105 430) :: (nat_lit 194,fq "ends_of" tn2 Z6 (.ref 193)) :: (nat_lit 200,cq "stroke_between" 432 [109,2,0,0,3] [.ref 195,.bool true,.int 181 0,.ref 196,.none,.ref 197,.ref 198,.ref 199] 438 109 439) :: (nat_lit 201,fq "stroke_between" tl2 Z6 (.ref 200)) :: (nat_lit 205,cq "strokes_along" 441 [112,1,0,0,3] [.ref 202,.bool true,.int 181 0,.ref 203,.none,.none,.none,.ref 204] 444 112 445) :: (nat_lit 206,fq "strokes_along" ul2 Z6 (.ref 205)) :: (nat_lit 212,cq "picture_with" 447 [114,1,0,0,3] [.ref 207,.bool true,.int 181 0,.ref 208,.none,.ref 209,.ref 210,.ref 211] 451 114 452) :: (nat_lit 213,fq "picture_with" zm2 Z6 (.ref 212)) :: (nat_lit 219,cq "picture_of" 454 [116,1,0,0,3] [.ref 214,.bool true,.int 181 0,.ref 215,.none,.ref 216,.ref 217,.ref 218] 458 116 459) :: (nat_lit 220,fq "picture_of" vm2 Z6 (.ref 219)) :: (nat_lit 226,cq "strokes_from" 461 [120,2,0,0,3] [.ref 221,.bool true,.int 181 0,.ref 222,.none,.ref 223,.ref 224,.ref 225] 469 120 470) :: (nat_lit 227,fq "strokes_from" zl2 Z6 (.ref 226)) :: (nat_lit 233,cq "plain_deeds" 472 [128,1,0,0,3] [.ref 228,.bool true,.int 181 0,.ref 229,.none,.ref 230,.ref 231,.ref 232] 478 128 479) :: (nat_lit 234,fq "plain_deeds" xm2 Z6 (.ref 233)) :: (nat_lit 238,cq "strokes_of_go" 481 [136,2,0,0,3] [.ref 235,.bool true,.int 181 0,.ref 236,.none,.none,.none,.ref 237] 484 136 485) :: (nat_lit 239,fq "strokes_of_go" yl2 Z6 (.ref 238)) :: (nat_lit 245,cq "picture_pieces" 491 [142,1,0,0,3] [.ref 240,.bool true,.int 181 0,.ref 241,.none,.ref 242,.ref 243,.ref 244] 499 142 500) :: (nat_lit 246,fq "picture_pieces" wm2 Z7 (.ref 245)) :: (nat_lit 252,cq "strokes_at" 502 [151,1,0,0,3] [.ref 247,.bool true,.int 181 0,.ref 248,.none,.ref 249,.ref 250,.ref 251] 509 151 510) :: (nat_lit 253,fq "strokes_at" vl2 Z7 (.ref 252)) :: (nat_lit 259,cq "piece_with" 512 [157,3,0,0,3] [.ref 254,.bool true,.int 181 0,.ref 255,.none,.ref 256,.ref 257,.ref 258] 522 157 523) :: (nat_lit 260,fq "piece_with" ym2 Z7 (.ref 259)) :: (nat_lit 264,cq "take_unseen" 525 [167,2,0,0,3] [.ref 261,.bool true,.int 181 0,.ref 262,.none,.none,.none,.ref 263] 528 167 529) :: (nat_lit 265,fq "take_unseen" xl2 Z7 (.ref 264)) :: (nat_lit 269,cq "odd_points" 531 [172,1,0,0,3] [.ref 266,.bool true,.int 181 0,.ref 267,.none,.none,.none,.ref 268] 534 172 535) :: (nat_lit 270,fq "odd_points" xn2 Z7 (.ref 269)) :: (nat_lit 276,cq "trails_of" 537 [176,1,0,0,3] [.ref 271,.bool true,.int 181 0,.ref 272,.none,.ref 273,.ref 274,.ref 275] 543 176 544) :: (nat_lit 277,fq "trails_of" uk2 Z7 (.ref 276)) :: (nat_lit 281,cq "trails_of_piece" 546 [181,1,0,0,3] [.ref 278,.bool true,.int 181 0,.ref 279,.none,.none,.none,.ref 280] 549 181 550) :: (nat_lit 282,fq "trails_of_piece" vk2 Z7 (.ref 281)) :: (nat_lit 288,cq "way_along" 552 [187,2,0,0,3] [.ref 283,.bool true,.int 181 0,.ref 284,.none,.ref 285,.ref 286,.ref 287] 563 187 564) :: (nat_lit 289,fq "way_along" wk2 Z7 (.ref 288)) :: (nat_lit 295,cq "links_at" 566 [201,1,0,0,3] [.ref 290,.bool true,.int 181 0,.ref 291,.none,.ref 292,.ref 293,.ref 294] 573 201 574) :: (nat_lit 296,fq "links_at" yn2 Z7 (.ref 295)) :: (nat_lit 302,cq "take_unused" 576 [207,2,0,0,3] [.ref 297,.bool true,.int 181 0,.ref 298,.none,.ref 299,.ref 300,.ref 301] 582 207 583) :: (nat_lit 303,fq "take_unused" sk2 Z7 (.ref 302)) :: (nat_lit 309,cq "other_end" 585 [213,2,0,0,3] [.ref 304,.bool true,.int 181 0,.ref 305,.none,.ref 306,.ref 307,.ref 308] 590 213 591) :: (nat_lit 310,fq "other_end" sm2 Z7 (.ref 309)) :: (nat_lit 316,cq "parted_at_bridges" 593 [215,2,0,0,3] [.ref 311,.bool true,.int 181 0,.ref 312,.none,.ref 313,.ref 314,.ref 315] 600 215 601) :: (nat_lit 317,fq "parted_at_bridges" tm2 Z7 (.ref 316)) :: (nat_lit 321,cq "is_trail" 603 [222,1,0,0,3] [.ref 318,.bool true,.int 181 0,.ref 319,.none,.none,.none,.ref 320] 606 222 607) :: (nat_lit 322,fq "is_trail" vn2 Z7 (.ref 321)) :: (nat_lit 328,cq "are_next" 609 [224,2,0,0,3] [.ref 323,.bool true,.int 181 0,.ref 324,.none,.ref 325,.ref 326,.ref 327] 614 224 615) :: (nat_lit 329,fq "are_next" s_q6 Z7 (.ref 328)) :: (nat_lit 333,cq "deeds_of" 617 [226,1,0,0,3] [.ref 330,.bool true,.int 181 0,.ref 331,.none,.none,.none,.ref 332] 620 226 621) :: (nat_lit 334,fq "deeds_of" sn2 Z7 (.ref 333)) :: (nat_lit 347,co "__init__" 635 "Scribe.__init__" 636 637 [237,1,0,0,3] [.ref 342,vb,vi,.ref 343,.none,.ref 344,.ref 345,.ref 346] 639 237 640) :: (nat_lit 348,fo "__init__" "Scribe.__init__" tc0 Z7 (.ref 347)) :: (nat_lit 354,co "turn_to" 642 "Scribe.turn_to" 643 644 [241,2,0,0,3] [.ref 349,vb,vi,.ref 350,.none,.ref 351,.ref 352,.ref 353] 648 241 649) :: (nat_lit 355,fo "turn_to" "Scribe.turn_to" yd0 Z7 (.ref 354)) :: (nat_lit 361,co "jump_to" 651 "Scribe.jump_to" 652 653 [247,2,0,0,3] [.ref 356,vb,vi,.ref 357,.none,.ref 358,.ref 359,.ref 360] 656 247 657) :: (nat_lit 362,fo "jump_to" "Scribe.jump_to" zd0 Z7 (.ref 361)) :: (nat_lit 366,co "jump" 659 "Scribe.jump" 660 661 [251,3,0,0,3] [.ref 363,vb,vi,.ref 364,.none,.none,.none,.ref 365] 662 251 663) :: (nat_lit 367,fo "jump" "Scribe.jump" yf0 Z7 (.ref 366)) :: (nat_lit 373,co "go_to" 665 "Scribe.go_to" 666 667 [257,2,0,0,3] [.ref 368,vb,vi,.ref 369,.none,.ref 370,.ref 371,.ref 372] 671 257 672) :: (nat_lit 374,fo "go_to" "Scribe.go_to" we0 Z7 (.ref 373)) :: (nat_lit 375,tO [.str "deeds" 674,.str "pen" 675]) :: (nat_lit 376,⟨.type "dict",none,.dict #[en P "__module__" 630 Z7,en P "__firstlineno__" 634 (.int 235 633),z9 P "__init__" 641 348,z9 P "turn_to" 650 355,z9 P "jump_to" 658 362,z9 P "jump" 664 367,z9 P "go_to" 673 374,z9 P "__static_attributes__" 676 375,z9 P "__dict__" 678 378,z9 P "__weakref__" 680 379,en P "__doc__" 681 (.none)] 4,#[]⟩) :: (nat_lit 377,⟨.type "type",none,.cls ⟨"Scribe",[.type "object"],[.ref 377,.type "object"],376, "Scribe",true,[],[],false,none,false⟩,#[none,none,some (.str "Scribe" 623),some (.str "Scribe" 631),some (.builtin "object.__new__"),some (.bool true)]⟩) :: (nat_lit 378,⟨.type "getset_descriptor",none,.fields #[.str "__dict__" 677,.ref 377,.builtin "function.__dict__",.builtin "function.__dict__#set"],#[]⟩) :: (nat_lit 379,⟨.type "getset_descriptor",none,.fields #[.str "__weakref__" 679,.ref 377,.builtin "ExceptionGroup.__weakref__",.none],#[]⟩) :: (nat_lit 387,cq "jumps_over" 684 [264,1,0,0,3] [.ref 382,.bool true,.int 181 0,.ref 383,.none,.ref 384,.ref 385,.ref 386] 691 264 692) :: (nat_lit 388,fq "jumps_over" wn2 Z7 (.ref 387)) :: (nat_lit 394,cq "_law_cell_at" 696 [272,2,0,0,3] [.ref 389,.bool true,.int 181 0,.ref 390,.none,.ref 391,.ref 392,.ref 393] 701 272 702) :: (nat_lit 395,fq "_law_cell_at" s_q0 z6 (.ref 394)) :: (nat_lit 401,cq "_law_state" 704 [276,2,0,0,3] [.ref 396,.bool true,.int 181 0,.ref 397,.none,.ref 398,.ref 399,.ref 400] 710 276 711) :: (nat_lit 402,fq "_law_state" s_q3 z6 (.ref 401)) :: (nat_lit 408,cq "_law_choice" 713 [281,2,0,0,3] [.ref 403,.bool true,.int 181 0,.ref 404,.none,.ref 405,.ref 406,.ref 407] 720 281 721) :: (nat_lit 409,fq "_law_choice" s_q1 z6 (.ref 408)) :: (nat_lit 415,cq "_law_word" 723 [290,2,0,0,3] [.ref 410,.bool true,.int 181 0,.ref 411,.none,.ref 412,.ref 413,.ref 414] 731 290 732) :: (nat_lit 416,fq "_law_word" s_q5 z6 (.ref 415)) :: (nat_lit 422,cq "_law_drawn_word" 734 [305,4,0,0,3] [.ref 417,.bool true,.int 181 0,.ref 418,.none,.ref 419,.ref 420,.ref 421] 742 305 743) :: (nat_lit 423,fq "_law_drawn_word" s_q2 z6 (.ref 422)) :: (nat_lit 429,cq "_law_walked" 745 [308,2,0,0,3] [.ref 424,.bool true,.int 181 0,.ref 425,.none,.ref 426,.ref 427,.ref 428] 759 308 760) :: (nat_lit 430,fq "_law_walked" s_q4 z6 (.ref 429)) :: (nat_lit 436,cq "law" 762 [325,1,0,0,3] [.ref 431,.bool true,.int 181 0,.ref 432,.none,.ref 433,.ref 434,.ref 435] 769 325 770) :: (nat_lit 437,fq "law" za1 z6 (.ref 436)) :: []
noncomputable def KA:List Addr:=[2,3,15,22,23,24,25,28,35,36,37,40,47,48,49,52,59,60,61,64,65,66,67,68,69,70,71,77,78,84,85,91,92,98,99,105,106,119,120,133,134,138,139,145,146,152,153,157,158,164,165,171,172,173,179,180,186,187,193,194,200,201,205,206,212,213,219,220,226,227,233,234,238,239,245,246,252,253,259,260,264,265,269,270,276,277,281,282,288,289,295,296,302,303,309,310,316,317,321,322,328,329,333,334,347,348,354,355,361,362,366,367,373,374,375,376,377,378,379,387,388,394,395,401,402,408,409,415,416,422,423,429,430,436,437]
theorem ke:∀ P,KA=(KK P).map (·.1):=λ _=>by kernel_rfl
noncomputable def vw:Program:={ PySem.Challenge.pw_penwright_k32_whole_drawn_again with main:={ PySem.Challenge.pw_penwright_k32_whole_drawn_again.main with body:=[top 67] } }
noncomputable abbrev LS:List Str:=Program.boundNames (PySem.W.OpenLaw.row PySem.Challenge.rw_penwright_k32_whole_drawn_again).prog
theorem h_said:PySem.Challenge.rw_penwright_k32_whole_drawn_again.wellSaid=true:=by kernel_rfl
theorem h_left:PySem.W.LeftO (PySem.W.OpenLaw.row PySem.Challenge.rw_penwright_k32_whole_drawn_again).prog vw LS (λ s=>PySem.W.xlAt vw [] s && PySem.W.recOk (PySem.W.RowW.records (PySem.W.OpenRow.toRowW (PySem.W.OpenLaw.row PySem.Challenge.rw_penwright_k32_whole_drawn_again))) s) (PySem.W.Hook.obs (kHook KK KA ke)) (PySem.W.Hook.val (kHook KK KA ke)) 5726:=by
 intro w
 delta PySem.W.openEnds PySem.W.fencedOpening PySem.W.topFrom
 rw [PySem.W.Fast.te14082659384304107361,PySem.W.Fast.te10274390034422433532,PySem.W.Fast.te14289696077712309145,PySem.W.Fast.te1435165496053646825,PySem.W.Fast.te14364793385576792824,PySem.W.Fast.te4187177175401517315]
 kernel_rfl
end Pv
namespace L2
open PySem PySem.Spec PyProof.Rows
abbrev Key:=Sum Int Str
noncomputable def zr1:Key->Value->Bool
 | .inl k,v=>Value.isInt k v
 | .inr x,v=>Value.isStrOf x v
noncomputable def keyH (w:World):Key->Int
 | .inl k=>hashInt k
 | .inr x=>hashStr w x
theorem zc0:∀ {k:Key} {v:Value},zr1 k v=true->(∃ i t,k=Sum.inl i /\ v=Value.int i t) \/ (∃ x t,k=Sum.inr x /\ v=Value.str x t)
 | .inl i,v,h=>by
  obtain ⟨t,e⟩:=Value.isInt_shape (k:=i) (v:=v) h
  simp_all
 | .inr x,v,h=>by
  obtain ⟨t,e⟩:=Value.isStrOf_shape (x:=x) (v:=v) h
  simp_all
theorem tb2 (i:Int) (t:Tok):zr1 (.inl i) (.int i t)=true:=by simp [zr1,Value.isInt]
theorem ub2 (x:Str) (t:Tok):zr1 (.inr x) (.str x t)=true:=by simp [zr1,Value.isStrOf]
theorem wb5 (a b:Int):decide ((Sum.inl a:Key)=Sum.inl b)=(a == b):=by
 by_cases e:a=b
 ·subst e; simp
 simp_all
theorem sa5 (a b:Str):decide ((Sum.inr a:Key)=Sum.inr b)=decide (a=b):=by
 simp
theorem zb5 (a:Int) (b:Str):decide ((Sum.inl a:Key)=Sum.inr b)=false:=decide_eq_false (λ q=>nomatch q)
theorem xb5 (a:Str) (b:Int):decide ((Sum.inr a:Key)=Sum.inl b)=false:=decide_eq_false (λ q=>nomatch q)
noncomputable def xe0 (prog:Program) (w:World):PySem.KeyKind prog w Key where
 is:=zr1
 hash:=keyH w
 inj:=λ v a b ha hb=>by
  rcases zc0 ha with ⟨i,t,rfl,rfl⟩ | ⟨x,t,rfl,rfl⟩
  ·rcases zc0 hb with ⟨j,u,rfl,e⟩ | ⟨y,u,rfl,e⟩
   ·simp_all
   ·exact nomatch e
  ·rcases zc0 hb with ⟨j,u,rfl,e⟩ | ⟨y,u,rfl,e⟩
   ·exact nomatch e
   simp_all
 byValue:=λ k v h=>by
  rcases zc0 h with ⟨i,t,rfl,rfl⟩ | ⟨x,t,rfl,rfl⟩ <;> rfl
 pyHash:=λ hv h=>by
  rcases zc0 hv with ⟨i,t,rfl,rfl⟩ | ⟨x,t,rfl,rfl⟩
  ·exact wpAny_pyHash_int h
  ·exact wpAny_pyHash_str h
 eqBool:=λ hu hv h=>by
  rcases zc0 hu with ⟨i,t,rfl,rfl⟩ | ⟨x,t,rfl,rfl⟩
  ·rcases zc0 hv with ⟨j,u,rfl,rfl⟩ | ⟨y,u,rfl,rfl⟩
   ·rw [wb5] at h; exact wpAny_eqBool_int h
   ·rw [zb5] at h; exact SeqAt.EqAt.int_str i t y u _ _ _ _ h
  ·rcases zc0 hv with ⟨j,u,rfl,rfl⟩ | ⟨y,u,rfl,rfl⟩
   ·rw [xb5] at h; exact SeqAt.EqAt.str_int x t j u _ _ _ _ h
   ·rw [sa5] at h; exact wpAny_eqBool_str h
 «strs» := λ k x t v h=>by
  rcases zc0 h with ⟨i,u,rfl,e⟩ | ⟨y,u,rfl,e⟩
  ·exact nomatch e
  ·injection e with e1 _
   subst e1;cases v <;> rfl
theorem zg1 (prog:Program) (w:World) (i:Int) (t:Tok):(xe0 prog w).is (.inl i) (.int i t)=true:=tb2 i t
theorem yg1 (prog:Program) (w:World) (x:Str) (t:Tok):(xe0 prog w).is (.inr x) (.str x t)=true:=ub2 x t
inductive V where
 | non | bl (b:Bool) | int (i:Int) | str (x:Str) | byt (b:Array UInt8) | flt (b:UInt64) | ref (a:Addr) | ty (n:String)
 deriving DecidableEq
def RelV:V->Value->Prop
 | .non,u=>u=Value.none
 | .bl b,u=>u=Value.bool b
 | .int i,u=>∃ t,u=Value.int i t
 | .str x,u=>∃ t,u=Value.str x t
 | .byt b,u=>∃ t,u=Value.bytes b t
 | .flt b,u=>∃ t,u=Value.float b t
 | .ref a,u=>u=Value.ref a
 | .ty n,u=>u=Value.type n
abbrev Vals:List V->List Value->Prop:=Paired RelV
theorem Vals.length {xs:List V} {us:[24]} (r:Vals xs us):xs.length=us.length:=Paired.length r
theorem Vals.get:∀ {xs:List V} {us:[24]} {i:Nat} {x:V},Vals xs us->xs[i]?=some x->∃ u,us[i]?=some u /\ RelV x u
 | _,_,_,_,.nil,e=>by simp at e
 | _,_,0,_,.cons r _,e=>by simp_all
 | _,_,i + 1,x,.cons _ t,e=>by
  obtain ⟨u,h1,h2⟩:=Vals.get (i:=i) (x:=x) t (by simpa using e)
  simp_all
theorem Vals.set {x:V} {u:Value} (r:RelV x u):∀ {xs:List V} {us:[24]} (i:Nat),Vals xs us->Vals (xs.set i x) (us.set i u)
 | _,_,_,.nil=>.nil
 | _,_,0,.cons _ t=>.cons r t
 | _,_,i + 1,.cons q t=>.cons q (Vals.set r i t)
theorem Vals.append:∀ {xs ys:List V} {us ws:[24]},Vals xs us->Vals ys ws->Vals (xs ++ ys) (us ++ ws)
 | _,_,_,_,.nil,s=>s
 | _,_,_,_,.cons r t,s=>.cons r (Vals.append t s)
theorem Vals.take:∀ {xs:List V} {us:[24]} (n:Nat),Vals xs us->Vals (xs.take n) (us.take n)
 | _,_,0,_=>.nil
 | _,_,_ + 1,.nil=>.nil
 | _,_,n + 1,.cons r t=>.cons r (Vals.take n t)
theorem Vals.drop:∀ {xs:List V} {us:[24]} (n:Nat),Vals xs us->Vals (xs.drop n) (us.drop n)
 | _,_,0,r=>r
 | _,_,_ + 1,.nil=>.nil
 | _,_,n + 1,.cons _ t=>Vals.drop n t
def RelO:Option V->Option Value->Prop
 | some v,some u=>RelV v u
 | none,none=>True
 | _,_=>False
def KV {κ:Type}:List (κ × V)->List (κ × Value)->Prop:=Paired λ (p:κ × V) (q:κ × Value)=>p.1=q.1 /\ RelV p.2 q.2
noncomputable def kV:Key->V
 | .inl i=>.int i
 | .inr x=>.str x
inductive HO where
 | lst (xs:List V)
 | tup (xs:List V)
 | dK (kvs:List (Key × V)) | dT (kvs:List (List Key × V)) (ne:Nat)
 | set (S:Int->Bool) (n:Nat)
 | ins (C dx:Addr) (fs:List (Str × V))
 | own (x:Addr)
 | xd (fs:List (Str × V))
 | met (f x:Addr)
 | rng (lo hi:Int)
 | frz (o:Obj) (u:HO)
 | tbl (ps:Array Value)
 | ext (φ:Heap->Prop)
abbrev Hp:=Addr->Option HO
noncomputable def upd (H:Hp) (a:Addr) (o:HO):Hp:=λ b=>if b=a then some o else H b
variable {H:Hp}
theorem zg0 {a:Addr} {o:HO}:upd H a o a=some o:=by unfold upd; rw [if_pos rfl]
theorem xb0 {a b:Addr} {o:HO} (h:b ≠ a):upd H a o b=H b:=by unfold upd; rw [if_neg h]
theorem ul0 {a b:Addr} {o u:HO} (h:H a=some o) (h':H b=some u) (d:o ≠ u):a ≠ b:=by
 intro e; simp_all
theorem td0 {a b:Addr} {o:HO} (h:H a=some o) (h':H b=none):a ≠ b:=by
 intro e; simp_all
section
variable (P:Program) (w:World)
def ObjOk (H:Hp) (h:Heap) (a:Addr):HO->Prop
 | .lst xs=>xs.length<=sizeLine /\ ∃ (its:[24]) (n:Nat),Vals xs its /\ h.get? a=some { cls:=.type "list",data:=.seq its.toArray n }
 | .tup xs=>xs.length<=sizeLine /\ ∃ its:List Value,Vals xs its /\ IsTup h a its.toArray
 | .dK kvs=>kvs.length<=sizeLine /\ (a == sysModules)=false /\ ∃ vs,KV kvs vs /\ h.DictOf (xe0 P w) a vs
 | .dT kvs ne=>kvs.length<=sizeLine /\ (a == sysModules)=false /\ ∃ xs:List (List Key × Addr × Value),
     Paired (λ (p:List Key × V) (q:List Key × Addr × Value)=>p.1=q.1 /\ H q.2.1=some (.tup (p.1.map kV)) /\ RelV p.2 q.2.2) kvs xs ∧
     ∃ o es ep,h.get? a=some o /\ o.ExactDict /\ o.data=.dict es ep /\ es.toList=xs.map (entryOfKey (tupleKind (xe0 P w))) /\ (xs.map (·.1)).Nodup /\ ep=ne
 | .set S n=>h.SetOf (intKind P w) a S n
 | .ins C dx fs=>H dx=some (.own a) /\ fs.length<=1000 /\ dx ≠ a /\ h.get? a=some (instObj C dx) ∧
     ∃ mA,h.Ns1 dx mA /\ (∀ f,RelO (fs.lookup f) (mA f)) /\ PySem.Within mA (fs.map (·.1))
 | .own _=>∃ o,h.get? a=some o
 | .xd fs=>∃ mA,h.Ns1 a mA /\ ∀ f,RelO (fs.lookup f) (mA f)
 | .rng lo hi=>∃ t u v,h.get? a=some [39]
 | .frz o u=>h.get? a=some o /\ ObjOk H h a u
 | .tbl ps=>h.get? a=some { cls:=.none,data:=.fields ps }
 | .met f x=>h.get? a=some (methodObj (.ref f) (.ref x))
 | .ext φ=>φ h /\ (∃ o,h.get? a=some o) /\ ∀ h1 h2:Heap,φ h1->(∀ o,h1.get? a=some o->h2.get? a=some o)->φ h2
def HOk (H:Hp) (h:Heap):Prop:=∀ a o,H a=some o->ObjOk P w H h a o
end
variable {H':Hp} {h h':Heap}
section
variable {P:Program} {w:World} {a:Addr} {o:HO}
theorem ObjOk.lt (x:ObjOk P w H h a o):a < h.objs.size:=by
 cases o with
 | lst xs=>obtain ⟨_,_,_,_,e⟩:=x; exact Heap.lt_size e
 | tup xs=>obtain ⟨_,_,_,p⟩:=x; exact p.lt
 | dK kvs=>obtain ⟨_,_,_,_,o,_,_,e,_⟩:=x; exact Heap.lt_size e
 | dT kvs ne=>obtain ⟨_,_,_,_,o,_,_,e,_⟩:=x; exact Heap.lt_size e
 | set S n=>obtain ⟨o,_,_,_,e,_⟩:=x; exact Heap.lt_size e
 | ins C dx fs=>obtain ⟨_,_,_,e,_⟩:=x; exact Heap.lt_size e
 | own y=>obtain ⟨_,e⟩:=x; exact Heap.lt_size e
 | xd fs=>obtain ⟨_,⟨_,_,_,e,_⟩,_⟩:=x; exact Heap.lt_size e
 | rng lo hi=>obtain ⟨_,_,_,e⟩:=x; exact Heap.lt_size e
 | frz ob u=>obtain ⟨e,_⟩:=x; exact Heap.lt_size e
 | tbl ps=>exact Heap.lt_size (show h.get? a=some _ from x)
 | met f y=>exact Heap.lt_size (show h.get? a=some _ from x)
 | ext φ=>obtain ⟨_,⟨_,e⟩,_⟩:=x; exact Heap.lt_size e
theorem Paired.mapP {α β:Type} {F G:α->β->Prop}:∀ {l₁:List α} {l₂:List β},Paired F l₁ l₂->(∀ a b,F a b->G a b)->Paired G l₁ l₂
 | _,_,.nil,_=>.nil
 | _,_,.cons r t,f=>.cons (f _ _ r) (Paired.mapP t f)
theorem ObjOk.stay (x:ObjOk P w H h a o) (k:∀ b u,(b=a \/ H b=some (.own a))->h.get? b=some u->h'.get? b=some u)
    (ho:∀ b,H b=some (.own a)->H' b=some (.own a)) (ht:∀ b xs,H b=some (.tup xs)->H' b=some (.tup xs)):ObjOk P w H' h' a o:=by
 induction o with
 | lst xs=>obtain ⟨z,its,n,r,e⟩:=x; exact ⟨z,its,n,r,k _ _ (.inl rfl) e⟩
 | tup xs=>obtain ⟨z,its,r,ob,e,c⟩:=x; exact ⟨z,its,r,ob,k _ _ (.inl rfl) e,c⟩
 | dK kvs=>obtain ⟨z,y,vs,r,ob,es,ep,e,c⟩:=x; exact ⟨z,y,vs,r,ob,es,ep,k _ _ (.inl rfl) e,c⟩
 | dT kvs ne =>
  obtain ⟨z,y,xs,r,ob,es,ep,e,c⟩:=x;exact ⟨z,y,xs,Paired.mapP r λ p q z=>⟨z.1,ht _ _ z.2.1,z.2.2⟩,ob,es,ep,k _ _ (.inl rfl) e,c⟩
 | set S n=>obtain ⟨ob,es,ep,t,e,c⟩:=x; exact ⟨ob,es,ep,t,k _ _ (.inl rfl) e,c⟩
 | ins C dx fs =>
  obtain ⟨d,z,ne,e,mA,⟨od,es,ep,e2,c⟩,r⟩:=x;exact ⟨ho _ d,z,ne,k _ _ (.inl rfl) e,mA,⟨od,es,ep,k _ _ (.inr d) e2,c⟩,r⟩
 | own y=>obtain ⟨ob,e⟩:=x; exact ⟨ob,k _ _ (.inl rfl) e⟩
 | xd fs=>obtain ⟨mA,⟨od,es,ep,e,c⟩,r⟩:=x; exact ⟨mA,⟨od,es,ep,k _ _ (.inl rfl) e,c⟩,r⟩
 | rng lo hi=>obtain ⟨t,u,v,e⟩:=x; exact ⟨t,u,v,k _ _ (.inl rfl) e⟩
 | frz ob u ih=>obtain ⟨e,q⟩:=x; exact ⟨k _ _ (.inl rfl) e,ih q⟩
 | tbl ps =>
  have e:h.get? a=some { cls:=.none,data:=.fields ps }:=x;show h'.get? a=some { cls:=.none,data:=.fields ps }
  simp_all
 | met f y =>
  have e:h.get? a=some (methodObj (.ref f) (.ref y)):=x;show h'.get? a=some (methodObj (.ref f) (.ref y))
  simp_all
 | ext φ=>obtain ⟨p,⟨o,e⟩,st⟩:=x; exact ⟨st _ _ p λ o q=>k _ _ (.inl rfl) q,⟨o,k _ _ (.inl rfl) e⟩,st⟩
theorem HOk.lt (x:HOk P w H h) (e:H a=some o):a < h.objs.size:=(x a o e).lt
theorem HOk.fresh (x:HOk P w H h) (e:h.objs.size<=a):H a=none:=by
 cases q:H a with
 | none=>rfl
 | some u=>exact absurd (Nat.lt_of_lt_of_le (x.lt q) e) (Nat.lt_irrefl _)
theorem HOk.kept (x:HOk P w H h) (k:∀ b u,h.get? b=some u->h'.get? b=some u):HOk P w H h':=λ a o e =>
 (x a o e).stay (λ b u _ q=>k b u q) (λ _ q=>q) λ _ _ q=>q
theorem HOk.laid (x:HOk P w H h) (k:∀ b u,h.get? b=some u->h'.get? b=some u) (hp:h.objs.size<=a) (new:ObjOk P w (upd H a o) h' a o):HOk P w (upd H a o) h':=λ b u e=>by
 have hn:=x.fresh hp;by_cases hb:b=a
 ·subst hb; rw [zg0] at e; cases e; exact new
 ·rw [xb0 hb] at e;exact (x b u e).stay (λ c v _ q=>k c v q) (λ c q=>by rw [xb0 (td0 q hn)]; exact q) λ c xs q=>by rw [xb0 (td0 q hn)]; exact q
end
def Rd (H:Hp) (a:Addr) (u:HO):Prop:=H a=some u \/ ∃ o,H a=some (.frz o u)
theorem Rd.ok {P:Program} {w:World} {a:Addr} {u:HO} (r:Rd H a u) (x:HOk P w H h):ObjOk P w H h a u:=by
 rcases r with r | ⟨o,r⟩
 ·exact x a u r
 ·obtain ⟨_,q⟩:=x a _ r;exact q
def Mut:Option HO->Prop
 | some (.lst _)=>True
 | some (.dK _)=>True
 | some (.dT _ _)=>True
 | some (.set _ _)=>True
 | some (.ins _ _ _)=>True
 | some (.ext _)=>True
 | _=>False
section
variable {P:Program} {w:World} {x e:Addr} {o':HO}
theorem HOk.write (ok:HOk P w H h) (mu:Mut (H x)) (he:e=x \/ H e=some (.own x)) (k:∀ b u,b ≠ e->h.get? b=some u->h'.get? b=some u) (heo:∃ u,h'.get? e=some u)
    (new:ObjOk P w (upd H x o') h' x o'):HOk P w (upd H x o') h':=λ b u q=>by
 have nown:∀ c y,H c=some (.own y)->c ≠ x:=λ c y r z=>by subst z; rw [r] at mu; exact mu
 have ntup:∀ c xs,H c=some (.tup xs)->c ≠ x:=λ c xs r z=>by subst z; rw [r] at mu; exact mu
 by_cases hb:b=x
 ·subst hb; rw [zg0] at q; cases q; exact new
 ·rw [xb0 hb] at q;by_cases hbe:b=e
  ·have q':H b=some (.own x):=by
     simp_all
   rw [q] at q'; cases q';obtain ⟨v,hv⟩:=heo;exact ⟨v,by rw [hbe]; exact hv⟩
  ·refine (ok b u q).stay (λ c v hc r=>k c v ?_ r) (λ c r=>by rw [xb0 (nown c b r)]; exact r) λ c xs r=>by rw [xb0 (ntup c xs r)]; exact r
   rcases hc with rfl | hc
   ·exact hbe
   ·rintro rfl
    simp_all
end
structure Un (fs ex:List Addr) (H H':Hp) (h h':Heap):Prop where
 keep:∀ b o,h.get? b=some o->H b=none->b ∉ fs->b ∉ ex->h'.get? b=some o
 slot:∀ b o,h.get? b=some o->H b=none->b ∈ fs->b ∉ ex->∃ sl,h'.get? b=some { o with slots:=sl }
 free:∀ b o,h.get? b=some o->H b=none->b ∉ ex->H' b=none
 there:∀ b o,h.get? b=some o->b ∉ ex->∃ o',h'.get? b=some o'
 tups:∀ b xs,H b=some (.tup xs)->H' b=some (.tup xs)
 frzs:∀ b o u,H b=some (.frz o u)->H' b=some (.frz o u)
 tbls:∀ b ps,H b=some (.tbl ps)->∃ more,H' b=some (.tbl (ps ++ more))
section
variable {fs fs' ex ex':List Addr} {H1 H2:Hp} {h1 h2:Heap} {a x e:Addr} {o:HO}
theorem Un.any (u:Un fs ex H H1 h h1) {b:Addr} {ob:Obj} (q:h.get? b=some ob) (n:H b=none) (hx:b ∉ ex):∃ sl,h1.get? b=some { ob with slots:=sl }:=by
 by_cases hb:b ∈ fs
 ·exact u.slot b ob q n hb hx
 ·exact ⟨ob.slots,u.keep b ob q n hb hx⟩
theorem Un.kept (k:∀ b u,h.get? b=some u->h'.get? b=some u):Un fs ex H H h h' :=
 ⟨λ b ob q _ _ _=>k b ob q,λ b ob q _ _ _=>⟨ob.slots,k b ob q⟩,λ _ _ _ n _=>n,λ b ob q _=>⟨ob,k b ob q⟩,λ _ _ q=>q,λ _ _ _ q=>q,λ _ ps q=>⟨#[],by rw [q]; simp⟩⟩
theorem Un.refl:Un fs ex H H h h:=Un.kept λ _ _ q=>q
theorem Un.laid (k:∀ b u,h.get? b=some u->h'.get? b=some u) (hp:h.objs.size<=a) (hn:H a=none):Un fs ex H (upd H a o) h h' where
 keep:=λ b u q _ _ _=>k b u q
 slot:=λ b u q _ _ _=>⟨u.slots,k b u q⟩
 free:=λ b u q n _=>by rw [xb0 (Nat.ne_of_lt (Nat.lt_of_lt_of_le (Heap.lt_size q) hp))]; exact n
 there:=λ b u q _=>⟨u,k b u q⟩
 tups:=λ b xs q=>by rw [xb0 (td0 q hn)]; exact q
 frzs:=λ b u xs q=>by rw [xb0 (td0 q hn)]; exact q
 tbls:=λ b ps q=>⟨#[],by rw [xb0 (td0 q hn),q]; simp⟩
theorem Un.write (mu:Mut (H x)) (he:e=x \/ H e=some (.own x)) (k:∀ b u,b ≠ e->h.get? b=some u->h'.get? b=some u) (heo:∃ u,h'.get? e=some u):Un fs ex H (upd H x o) h h':=by
 have hx:∀ b,H b=none->b ≠ x:=λ b n z=>by subst z; rw [n] at mu; exact mu
 have hb:∀ b,H b=none->b ≠ e:=λ b n z=>by
  simp_all
 have hm:∀ b u,H b=some u->¬ Mut (some u)->b ≠ x:=λ b u q nm z=>by simp_all
 refine ⟨λ b u q n _ _=>k b u (hb b n) q,λ b u q n _ _=>⟨u.slots,k b u (hb b n) q⟩,λ b u q n _=>by rw [xb0 (hx b n)]; exact n,λ b u q _=>?_,
  λ b xs q=>by rw [xb0 (hm b _ q λ z=>z)]; exact q,λ b u xs q=>by rw [xb0 (hm b _ q λ z=>z)]; exact q,λ b ps q=>⟨#[],by rw [xb0 (hm b _ q λ z=>z),q]; simp⟩⟩
 by_cases hbe:b=e
 ·simp_all
 simp_all
end
noncomputable def trk (h:Heap) (H:Hp):List Addr:=(List.range h.objs.size).filter λ a=>(H a).isSome
noncomputable def hidT (h:Heap) (H:Hp):Heap:=PySem.W.hideAll h (trk h H)
theorem xd2 (h:Heap) (H:Hp):(hidT h H).objs.size=h.objs.size:=PySem.W.hideAll_size _ _
theorem yw2 {b:Addr} {o:Obj} (e:h.get? b=some o) (n:H b=none):(hidT h H).get? b=some o :=
 PySem.W.hideAll_get _ e λ hm=>by
  have q:(H b).isSome=true:=(List.mem_filter.mp hm).2
  simp_all
theorem tq3 {b:Addr} {o:Obj} (e:(hidT h H).get? b=some o):h.get? b=some o /\ H b=none:=by
 have e':h.get? b=some o:=PySem.W.of_hideAll (trk h H) e;refine ⟨e',?_⟩;cases q:H b with
 | none=>rfl
 | some x =>
  have hm:b ∈ trk h H:=List.mem_filter.mpr ⟨List.mem_range.mpr (Heap.lt_size e'),by simp [q]⟩;have z:(hidT h H).get? b=none:=PySem.W.hideAll_none (trk h H) hm
  simp_all
noncomputable def sv3 (g h:Heap) (L:Addr):List (Addr × Obj):=(List.range h.objs.size).filterMap λ a=>if a=L \/ (g.get? a).isSome=true then none else (h.get? a).map λ o=>(a,o)
noncomputable def rest (g h:Heap) (L d:Addr):List (Addr × Obj):=(sv3 g h L).filter λ p=>decide (p.1 ≠ d)
structure Mod (K:PySem.W.Frag) (mg:Str->Option Value) (base:Heap):Prop where
 kin:K.In base
 glob:base.Ns mainGlobals mg
 blt:∃ mb,base.Ns builtinsNs mb /\ ∀ x:Str,x ≠ "__name__" -> mb x=bootBuiltins x
 nolimit:base.NoLimit
structure Cx where
 prog:Program
 w:World
 K:PySem.W.Frag
 mg:Str->Option Value
 base:Heap
 A:Around
 N:List Str
 s₀:Shared
 H₀:Hp
 env:Env
 outer:List Env
 stack:List Env
 ex:List Addr
 fn:Str->Bool
 calm:Bool
 pn:List (Addr × Obj)
 xe:Value->Shared->Prop
noncomputable def frs (l:List Env):List Addr:=l.filterMap (·.frame)
noncomputable abbrev Cx.fs (X:Cx):List Addr:=frs X.outer
def Vis (sc:Scope) (x:Str):Prop:=sc.names.lookup x=some .local \/ sc.names.lookup x=some .cell \/ sc.names.lookup x=some .free
def Loc (sc:Scope) (x:Str):Prop:=sc.names.lookup x=some .local \/ sc.names.lookup x=some .cell
def Look (env:Env) (h:Heap) (m:[28]) (x:Str) (u:Value):Prop :=
 (env.kindOf x=some .local /\ m x=some u) \/ ((env.kindOf x=some .cell \/ env.kindOf x=some .free) /\ ∃ c,env.cells.lookup x=some c /\ h.IsCell c (some u))
structure Cx.Ok (X:Cx):Prop where
 mod:Mod X.K X.mg X.base
 kind:X.env.scope.kind=.function
 glob:X.env.globals=mainGlobals
 blt:X.env.builtins=builtinsNs
 above:X.s₀.heap.objs.size<=X.env.locals
 inj:∀ x y c,X.env.cells.lookup x=some c->X.env.cells.lookup y=some c->x=y
 has:∀ x,(X.env.kindOf x=some .cell \/ X.env.kindOf x=some .free)->∃ c,X.env.cells.lookup x=some c
 cab:∀ x c,X.fn x=true->X.env.cells.lookup x=some c->X.s₀.heap.objs.size<=c
 hd:X.calm=true->X.A.handled=none
 frames:X.A.frames=some X.stack
 stk:X.stack=X.outer \/ (X.stack=X.env :: X.outer /\ X.env.frame=some X.env.locals)
 exf:∀ b ∈ X.ex,b ≠ X.env.locals /\ ∀ x c,X.env.cells.lookup x=some c->c ≠ b
 bs:∀ b o,X.base.get? b=some o->X.s₀.heap.get? b=some o /\ X.H₀ b=none
 bsz:X.base.objs.size<=X.s₀.heap.objs.size
 noex:∀ b o,X.base.get? b=some o->b ∉ X.ex
 exfs:∀ b ∈ X.ex,b ∉ X.fs
 funs:X.s₀.heap.FunFrames X.base X.outer
 frf:∀ b ∈ X.fs,X.H₀ b=none
structure Inv (X:Cx) (pins:List (Addr × Obj)) (σ:List (Option V)) (H:Hp) (s:Shared):Prop where
 ok:X.Ok
 os:s.os=X.s₀.os
 bare:AllBare s.gens
 base:Un X.fs X.ex X.H₀ H X.s₀.heap s.heap
 loc:∃ m,s.heap.Ns X.env.locals m /\ ∀ (i:Nat) (x:Str) (v:V),X.N[i]?=some x->σ[i]?=some (some v)->Vis X.env.scope x->∃ u,RelV v u /\ Look X.env s.heap m x u
 cell:∀ x c,X.env.cells.lookup x=some c->∃ v,s.heap.IsCell c v
 free:H X.env.locals=none
 freeC:∀ x c,X.env.cells.lookup x=some c->H c=none
 pin:∀ p ∈ X.pn ++ pins,s.heap.get? p.1=some p.2 /\ H p.1=none /\ p.1 ≠ X.env.locals /\ p.1 ∉ X.fs /\ ∀ v,p.2.data ≠ .cell v
 hok:HOk X.prog X.w H s.heap
 len:σ.length=X.N.length
variable {X:Cx} {pins:[18]} {s s':Shared} {g':Array GenState} {t':Nat} {d':Drawn} {ch:List Addr} {it:Addr} {N:List Str} {M:Model} {A:Around}
section
variable {σ:List (Option V)} 
theorem Cx.Ok.nofr (ok:X.Ok) {b:Addr} {o:Obj} (e:X.base.get? b=some o):b ∉ X.fs:=λ hb=>by
 have:=(ok.funs.mem hb).1
 simp_all
theorem Inv.bs (I:[8]):∀ b o,X.base.get? b=some o->s.heap.get? b=some o /\ H b=none:=λ b o e =>
 ⟨I.base.keep b o (I.ok.bs b o e).1 (I.ok.bs b o e).2 (I.ok.nofr e) (I.ok.noex b o e),I.base.free b o (I.ok.bs b o e).1 (I.ok.bs b o e).2 (I.ok.noex b o e)⟩
theorem Inv.bk (I:[8]):∀ b o,X.base.get? b=some o->s.heap.get? b=some o:=λ b o e=>(I.bs b o e).1
theorem Inv.mod (I:[8]):Mod X.K X.mg X.base:=I.ok.mod
theorem Inv.kIn (I:[8]):X.K.In s.heap:=I.ok.mod.kin.keeps I.bk
theorem Inv.lt (I:[8]):X.env.locals < s.heap.objs.size:=let ⟨_,hn,_⟩:=I.loc; hn.lt
theorem Inv.sz (I:[8]):X.s₀.heap.objs.size<=s.heap.objs.size:=Nat.le_trans I.ok.above (Nat.le_of_lt I.lt)
theorem Inv.nofs (I:[8]) {a:Addr} (h:s.heap.objs.size<=a):a ∉ X.fs:=λ hb=>by
 obtain ⟨_,o,ho,_⟩:=I.ok.funs.mem hb;exact absurd (Nat.lt_of_lt_of_le (Heap.lt_size ho) (Nat.le_trans I.sz h)) (Nat.lt_irrefl _)
theorem Inv.cne (I:[8]):∀ x c,X.env.cells.lookup x=some c->c ≠ X.env.locals:=λ x c e z=>by
 obtain ⟨v,o,ho,hd⟩:=I.cell x c e;obtain ⟨m,⟨o',es,ep,ho',hd',_⟩,_⟩:=I.loc
 simp_all
theorem Inv.funs (I:[8]):s.heap.FunFrames X.base X.outer:=by
 have all:∀ (l:List Env),(∀ b ∈ frs l,b ∈ X.fs)->X.s₀.heap.FunFrames X.base l->s.heap.FunFrames X.base l:=by
  intro l
  induction l with
  | nil=>intro _ _; trivial
  | cons env r ih =>
   intro hs hl;obtain ⟨hk,⟨L,o,hf,hn,ho,hd⟩,hr⟩:=hl;have hL:L ∈ X.fs:=hs L (by unfold frs; simp_all);obtain ⟨sl,e⟩:=I.base.slot L o ho (I.ok.frf L hL) hL λ z=>I.ok.exfs L z hL;exact ⟨hk,⟨L,_,hf,hn,e,hd⟩,ih (λ b hb=>hs b (by unfold frs; rw [List.filterMap_cons,hf]; exact mem_cons_of_mem _ hb)) hr⟩
 exact all X.outer (λ _ hb=>hb) I.ok.funs
theorem Inv.stack (I:[8]):s.heap.FunFrames X.base X.stack:=by
 rcases I.ok.stk with e | ⟨e,hf⟩
 ·rw [e]; exact I.funs
 ·rw [e];obtain ⟨m,hn,_⟩:=I.loc;refine .cons (by rw [I.ok.kind]; decide) hf hn ?_ I.funs;exact Heap.get?_none_of_le (Nat.le_trans I.ok.bsz I.ok.above)
theorem Inv.stkSub (I:[8]):∀ b ∈ frs X.stack,b ∈ X.env.locals :: X.fs:=λ b hb=>by
 rcases I.ok.stk with e | ⟨e,hf⟩
 ·simp_all
 ·rw [e] at hb;unfold frs at hb;rw [List.filterMap_cons,hf] at hb;exact hb
theorem Inv.stkFree (I:[8]):∀ b ∈ frs X.stack,H b=none:=λ b hb=>by
 rcases List.mem_cons.mp (I.stkSub b hb) with e | hb
 ·rw [e]; exact I.free
 ·obtain ⟨_,o,ho,_⟩:=I.ok.funs.mem hb;exact I.base.free b o ho (I.ok.frf b hb) λ z=>I.ok.exfs b z hb
theorem Inv.step (I:[8])
    (hch:[40])
    (keep:∀ b o,b ≠ X.env.locals->b ∉ X.fs->b ∉ ch->s.heap.get? b=some o->H b=none->h'.get? b=some o)
    (slot:∀ b o,b ≠ X.env.locals->b ∈ X.fs->b ∉ ch->s.heap.get? b=some o->H b=none->∃ sl,h'.get? b=some { o with slots:=sl }) (free:∀ b o,b ∉ ch->s.heap.get? b=some o->H b=none->H' b=none)
    (there:∀ b o,b ∉ ch->s.heap.get? b=some o->∃ o',h'.get? b=some o')
    (tups:∀ b xs,H b=some (.tup xs)->H' b=some (.tup xs)) (frzs:∀ b o u,H b=some (.frz o u)->H' b=some (.frz o u)) (tbls:∀ b ps,H b=some (.tbl ps)->∃ more,H' b=some (.tbl (ps ++ more)))
    (ns:∀ m,s.heap.Ns X.env.locals m->h'.Ns X.env.locals m) (hok:HOk X.prog X.w H' h') (hg:AllBare g') :
    Inv X pins σ H' { s with heap:=h',gens:=g',drawn:=d',toks:=t' }:=by
 have neL:∀ b o,X.s₀.heap.get? b=some o->b ≠ X.env.locals:=λ b o e=>Nat.ne_of_lt (Nat.lt_of_lt_of_le (Heap.lt_size e) I.ok.above)
 have neC:∀ b o,X.s₀.heap.get? b=some o->b ∉ X.ex->b ∉ ch:=λ b o e hx hb=>by
  rcases (hch b hb).1 with z | z
  ·exact hx z
  ·exact absurd (Nat.lt_of_lt_of_le (Heap.lt_size e) z) (Nat.lt_irrefl _)
 have cellK:∀ x c,X.env.cells.lookup x=some c->∀ v,s.heap.IsCell c v->h'.IsCell c v:=λ x c e v ⟨o,ho,hd⟩=>by
  have nch:c ∉ ch:=λ z=>(hch c z).2.2.1 x c e rfl;by_cases hc:c ∈ X.fs
  ·obtain ⟨sl,q⟩:=slot c o (I.cne x c e) hc nch ho (I.freeC x c e);exact ⟨_,q,hd⟩
  ·exact ⟨o,keep c o (I.cne x c e) hc nch ho (I.freeC x c e),hd⟩
 refine ⟨I.ok,I.os,hg,⟨λ b o e n hb hx=>?_,λ b o e n hb hx=>?_,λ b o e n hx=>?_,λ b o e hx=>?_,λ b xs e=>tups b xs (I.base.tups b xs e),λ b o xs e=>frzs b o xs (I.base.frzs b o xs e),λ b ps e=>?_⟩,?_,λ x c e=>?_,?_,λ x c e=>?_,λ p hp=>?_,hok,I.len⟩
 ·exact keep b o (neL b o e) hb (neC b o e hx) (I.base.keep b o e n hb hx) (I.base.free b o e n hx)
 ·obtain ⟨sl,e1⟩:=I.base.slot b o e n hb hx;obtain ⟨sl',e2⟩:=slot b _ (neL b o e) hb (neC b o e hx) e1 (I.base.free b o e n hx);exact ⟨sl',e2⟩
 ·obtain ⟨o',e1⟩:=I.base.there b o e hx;exact free b o' (neC b o e hx) e1 (I.base.free b o e n hx)
 ·obtain ⟨o',e1⟩:=I.base.there b o e hx
  simp_all
 ·obtain ⟨m1,e1⟩:=I.base.tbls b ps e;obtain ⟨m2,e2⟩:=tbls b _ e1;exact ⟨m1 ++ m2,by simp_all⟩
 ·obtain ⟨m,hn,hl⟩:=I.loc;refine ⟨m,ns m hn,λ i x v e1 e2 e3=>?_⟩;obtain ⟨u,r,l⟩:=hl i x v e1 e2 e3;refine ⟨u,r,?_⟩;rcases l with l | ⟨k,c,e,z⟩
  ·exact .inl l
  ·exact .inr ⟨k,c,e,cellK x c e _ z⟩
 ·obtain ⟨v,z⟩:=I.cell x c e;exact ⟨v,cellK x c e v z⟩
 ·obtain ⟨m,⟨o,_,_,ho,_⟩,_⟩:=I.loc;exact free _ o (λ z=>(hch _ z).2.1 rfl) ho I.free
 ·obtain ⟨v,o,ho,hd⟩:=I.cell x c e;exact free c o (λ z=>(hch c z).2.2.1 x c e rfl) ho (I.freeC x c e)
 ·obtain ⟨e,n,ne,nf,d⟩:=I.pin p hp;have nch:p.1 ∉ ch:=λ z=>(hch p.1 z).2.2.2 p hp rfl
  simp_all
theorem Inv.un (I:[8]) (u:Un X.fs [] H H' s.heap h') (hok:HOk X.prog X.w H' h'):Inv X pins σ H' { s with heap:=h',toks:=t' }:=by
 obtain ⟨m,⟨o,es,ep,ho,r⟩,_⟩:=id I.loc;obtain ⟨sl,hL⟩:=u.any ho I.free [17]
 exact I.step (g':=s.gens) (d':=s.drawn) (ch:=[]) (λ _ z=>nomatch z) (λ b o _ hb _ e n=>u.keep b o e n hb [17]) (λ b o _ hb _ e n=>u.slot b o e n hb [17]) (λ b o _ e n=>u.free b o e n [17]) (λ b o _ e=>u.there b o e [17]) u.tups u.frzs u.tbls (λ m' hm=>by
  obtain ⟨o',es',ep',ho',r'⟩:=hm;rw [ho] at ho'; cases ho';exact ⟨_,es',ep',hL,r'⟩) hok I.bare
theorem Inv.call (I:[8]) (u:Un (frs X.stack) ch H H' s.heap h') (hok:HOk X.prog X.w H' h') (hg:AllBare g')
    (hch:[40]) :
    Inv X pins σ H' { s with heap:=h',gens:=g',drawn:=d',toks:=t' }:=by
 obtain ⟨m,⟨o,es,ep,ho,r⟩,_⟩:=id I.loc;obtain ⟨sl,hL⟩:=u.any ho I.free λ z=>(hch _ z).2.1 rfl
 exact I.step (ch:=ch) hch (λ b o hL hb hc e n=>u.keep b o e n (λ z=>(List.mem_cons.mp (I.stkSub b z)).elim hL hb) hc) (λ b o _ _ hc e n=>u.any e n hc) (λ b o hc e n=>u.free b o e n hc) (λ b o hc e=>u.there b o e hc) u.tups u.frzs u.tbls (λ m' hm=>by
  obtain ⟨o',es',ep',ho',r'⟩:=hm;rw [ho] at ho'; cases ho';exact ⟨_,es',ep',hL,r'⟩) hok hg
theorem Inv.turned (I:[8]) (k:∀ b o,b ≠ it->s.heap.get? b=some o->h'.get? b=some o) (hn:H it=none) (hL:it ≠ X.env.locals)
    (h1:it ∈ X.ex \/ X.s₀.heap.objs.size<=it) (h2:∀ x c,X.env.cells.lookup x=some c->c ≠ it) (h3:∀ p ∈ X.pn ++ pins,p.1 ≠ it):Inv X pins σ H { s with heap:=h',toks:=t' }:=by
 have nit:∀ b u,H b=some u->b ≠ it:=λ b u e z=>by simp_all
 refine I.step (g':=s.gens) (d':=s.drawn) (ch:=[it]) (λ b hb=>?_) (λ b o _ _ hc e _=>k b o (λ z=>hc (by simp [z])) e) (λ b o _ _ hc e _=>⟨o.slots,k b o (λ z=>hc (by simp [z])) e⟩) (λ _ _ _ _ n=>n)
  (λ b o hc e=>⟨o,k b o (λ z=>hc (by simp [z])) e⟩) (λ _ _ e=>e) (λ _ _ _ e=>e) (λ b ps e=>⟨#[],by rw [e]; simp⟩) (λ m hm=>?_) (λ b u e=>?_) I.bare
 ·have e:b=it:=by simpa using hb
  subst e;trivial
 ·obtain ⟨o,es,ep,ho,r⟩:=hm;exact ⟨o,es,ep,k _ o (Ne.symm hL) ho,r⟩
 ·refine (I.hok b u e).stay (λ c v hc q=>k c v ?_ q) (λ _ q=>q) λ _ _ q=>q;rcases hc with z | z
  ·simp_all
  ·exact nit c _ z
theorem Inv.tok (I:[8]) (t:Nat):Inv X pins σ H { s with toks:=t }:=I.un (h':=s.heap) (t':=t) Un.refl I.hok
theorem Inv.kept {t':Nat} (I:[8]) (k:∀ b u,s.heap.get? b=some u->h'.get? b=some u):Inv X pins σ H { s with heap:=h',toks:=t' }:=I.un (Un.kept k) (I.hok.kept k)
theorem Inv.laid {a:Addr} {o:HO} {t':Nat} (I:[8]) (k:∀ b u,s.heap.get? b=some u->h'.get? b=some u) (hp:s.heap.objs.size<=a) (new:ObjOk X.prog X.w (upd H a o) h' a o) :
    Inv X pins σ (upd H a o) { s with heap:=h',toks:=t' }:=I.un (Un.laid k hp (I.hok.fresh hp)) (I.hok.laid k hp new)
theorem Inv.write {x e:Addr} {o:HO} {t':Nat} (I:[8]) (mu:Mut (H x)) (he:e=x \/ H e=some (.own x)) (k:∀ b u,b ≠ e->s.heap.get? b=some u->h'.get? b=some u) (heo:∃ u,h'.get? e=some u)
    (new:ObjOk X.prog X.w (upd H x o) h' x o):Inv X pins σ (upd H x o) { s with heap:=h',toks:=t' }:=I.un (Un.write mu he k heo) (I.hok.write mu he k heo new)
theorem Inv.pins_of {pins':[18]} (I:[8]) (h:∀ p ∈ pins',s.heap.get? p.1=some p.2 /\ H p.1=none /\ p.1 ≠ X.env.locals /\ p.1 ∉ X.fs /\ ∀ v,p.2.data ≠ .cell v):Inv X pins' σ H s :=
 ⟨I.ok,I.os,I.bare,I.base,I.loc,I.cell,I.free,I.freeC,λ p hp=>(List.mem_append.mp hp).elim (λ z=>I.pin p (mem_append_left _ z)) (h p),I.hok,I.len⟩
theorem ym1 (hN:N.Nodup) {i j:Nat} {x:Str} (a:N[i]?=some x) (b:N[j]?=some x):i=j:=by
 obtain ⟨h1,e1⟩:=List.getElem?_eq_some_iff.mp a;obtain ⟨h2,e2⟩:=List.getElem?_eq_some_iff.mp b;exact (List.getElem_inj hN).mp (e1.trans e2.symm)
theorem zz0 {E:[7]} {i:Nat} {x:Str} {v:V} {u:Value} {Q:Unit->Shared->Prop} (I:[8]) (hN:X.N.Nodup) (hi:X.N[i]?=some x) (hx:Loc X.env.scope x) (r:RelV v u)
    (h:∀ s',Inv X pins (σ.set i (some v)) H s'->(∃ a,Heap.SameBut a s.heap s'.heap /\ (a=X.env.locals \/ X.env.cells.lookup x=some a))->Q () s') (hf:X.fn x=true \/ X.env.scope.names.lookup x=some .local:=by trivial):wpAny M A (storeName X.env x u) Q E s:=by
 obtain ⟨m,hn,hl⟩:=id I.loc;have hcls:(X.env.scope.kind == .class || (X.env.scope.kind == .module && X.env.locals != X.env.globals))=false:=by rw [I.ok.kind]; rfl
 have hiσ:i < σ.length:=by rw [I.len]; exact (List.getElem?_eq_some_iff.mp hi).1
 have cne:=I.cne
 have tracked:∀ {a:Addr} {h':Heap},(∃ o,s.heap.get? a=some o /\ H a=none)->Heap.SameBut a s.heap h'->HOk X.prog X.w H h':=λ {a h'} ha hs b ob e=>by
  obtain ⟨_,_,hfree⟩:=ha;refine (I.hok b ob e).stay (λ c w' hc q=>(hs.2 c ?_).trans q) (λ _ q=>q) λ _ _ q=>q;rintro rfl
  simp_all
 rcases hx with hk | hk
 ·refine wpAny_storeName_local hk hn (λ h' hn' hs=>?_) hcls;obtain ⟨oL,_,_,hoL,_⟩:=id hn;refine h _ ⟨I.ok,I.os,I.bare,⟨λ b o e n hb hx=>?_,λ b o e n hb hx=>?_,I.base.free,λ b o e hx=>?_,I.base.tups,I.base.frzs,I.base.tbls⟩,⟨_,hn',λ j y v' e1 e2 e3=>?_⟩,λ y c e=>?_,I.free,I.freeC,λ p hp=>?_,tracked ⟨oL,hoL,I.free⟩ hs,by simpa using I.len⟩ ⟨_,hs,.inl rfl⟩
  ·exact (hs.2 b (Nat.ne_of_lt (Nat.lt_of_lt_of_le (Heap.lt_size e) I.ok.above))).trans (I.base.keep b o e n hb hx)
  ·obtain ⟨sl,e1⟩:=I.base.slot b o e n hb hx;exact ⟨sl,(hs.2 b (Nat.ne_of_lt (Nat.lt_of_lt_of_le (Heap.lt_size e) I.ok.above))).trans e1⟩
  ·obtain ⟨o',e1⟩:=I.base.there b o e hx;exact ⟨o',(hs.2 b (Nat.ne_of_lt (Nat.lt_of_lt_of_le (Heap.lt_size e) I.ok.above))).trans e1⟩
  ·by_cases hj:j=i
   ·subst hj;rw [hi] at e1; cases e1;rw [List.getElem?_set_self hiσ] at e2;cases e2;exact ⟨u,r,.inl ⟨hk,by simp⟩⟩
   ·rw [List.getElem?_set_ne (Ne.symm hj)] at e2;obtain ⟨u',r',q⟩:=hl j y v' e1 e2 e3;refine ⟨u',r',?_⟩;rcases q with ⟨k,e⟩ | ⟨k,c,e,z⟩
    ·refine .inl ⟨k,?_⟩;have:y ≠ x:=λ e=>hj (ym1 hN e1 (e ▸ hi));simp [this,e]
    ·exact .inr ⟨k,c,e,z.sameBut hs (cne y c e)⟩
  ·obtain ⟨w',z⟩:=I.cell y c e;exact ⟨w',z.sameBut hs (cne y c e)⟩
  ·obtain ⟨e,n,ne,nf,d⟩:=I.pin p hp;exact ⟨(hs.2 p.1 ne).trans e,n,ne,nf,d⟩
 ·have hfn:X.fn x=true:=by
    simp_all
  obtain ⟨c,hc⟩:=I.ok.has x (.inl hk);obtain ⟨w',z⟩:=I.cell x c hc;refine wpAny_storeName_cell I.ok.kind hk hc z (λ h' hc' hs=>?_);obtain ⟨oc,hoc,hocd⟩:=id z;refine h { s with heap:=h' } ⟨I.ok,I.os,I.bare,⟨λ b o e n hb hx=>?_,λ b o e n hb hx=>?_,I.base.free,λ b o e hx=>?_,I.base.tups,I.base.frzs,I.base.tbls⟩,⟨m,hn.sameBut hs (Ne.symm (cne x c hc)),λ j y v' e1 e2 e3=>?_⟩,λ y c' e=>?_,I.free,I.freeC,λ p hp=>?_,tracked ⟨oc,hoc,I.freeC x c hc⟩ hs,by simpa using I.len⟩ ⟨c,hs,.inr hc⟩
  ·exact (hs.2 b (Nat.ne_of_lt (Nat.lt_of_lt_of_le (Heap.lt_size e) (I.ok.cab x c hfn hc)))).trans (I.base.keep b o e n hb hx)
  ·obtain ⟨sl,e1⟩:=I.base.slot b o e n hb hx;exact ⟨sl,(hs.2 b (Nat.ne_of_lt (Nat.lt_of_lt_of_le (Heap.lt_size e) (I.ok.cab x c hfn hc)))).trans e1⟩
  ·obtain ⟨o',e1⟩:=I.base.there b o e hx;exact ⟨o',(hs.2 b (Nat.ne_of_lt (Nat.lt_of_lt_of_le (Heap.lt_size e) (I.ok.cab x c hfn hc)))).trans e1⟩
  ·by_cases hj:j=i
   ·subst hj;rw [hi] at e1; cases e1;rw [List.getElem?_set_self hiσ] at e2;cases e2;exact ⟨u,r,.inr ⟨.inl hk,c,hc,hc'⟩⟩
   ·rw [List.getElem?_set_ne (Ne.symm hj)] at e2;obtain ⟨u',r',q⟩:=hl j y v' e1 e2 e3;refine ⟨u',r',?_⟩;rcases q with q | ⟨k,c',e,z'⟩
    ·exact .inl q
    ·refine .inr ⟨k,c',e,z'.sameBut hs ?_⟩;rintro rfl;exact hj (ym1 hN e1 (I.ok.inj _ _ _ e hc ▸ hi))
  ·by_cases hcc:c'=c
   ·subst hcc; exact ⟨_,hc'⟩
   ·obtain ⟨w2,z2⟩:=I.cell y c' e;exact ⟨w2,z2.sameBut hs hcc⟩
  ·obtain ⟨e,n,ne,nf,d⟩:=I.pin p hp;refine ⟨(hs.2 p.1 ?_).trans e,n,ne,nf,d⟩;intro q
   simp_all
theorem uj1 {E:[7]} {i:Nat} {x:Str} {v:V} {u:Value} {Q:Unit->Shared->Prop} (I:[8]) (hN:X.N.Nodup) (hi:X.N[i]?=some x) (hx:Loc X.env.scope x) (r:RelV v u)
    (h:∀ s',Inv X pins (σ.set i (some v)) H s'->Q () s') (hf:X.fn x=true \/ X.env.scope.names.lookup x=some .local:=by trivial):wpAny M A (storeName X.env x u) Q E s :=
 zz0 I hN hi hx r (λ s' I' _=>h s' I') hf
theorem Inv.call' (I:[8]) (ho:s'.os=s.os) (u:Un (frs X.stack) ch H H' s.heap s'.heap) (hok:HOk X.prog X.w H' s'.heap) (hg:AllBare s'.gens)
    (hch:[40]):Inv X pins σ H' s':=by
 obtain ⟨h',g',d',t',o'⟩:=s';have e:o'=s.os:=ho;subst e;exact I.call (g':=g') (t':=t') (d':=d') u hok hg hch
end
abbrev XK:=Value->Option Addr->Hp->Prop
abbrev St:=List (Option V)
abbrev VK:=V->Hp->Prop
abbrev TE:=St->Hp->VK->Prop
abbrev TT:=St->Hp->(Bool->Hp->Prop)->Prop
abbrev TA:=St->Hp->(List V->Hp->Prop)->Prop
structure Ends where
 nx:St->Hp->Prop
 rt:VK
 bk:St->Hp->Prop:=λ _ _=>False
 ct:St->Hp->Prop:=λ _ _=>False
abbrev TS:=Ends->St->Hp->Prop
def EP (X:Cx) (pins:[18]) (σ:St) (Q:VK) (u:Value) (s':Shared):Prop:=∃ v H',Inv X pins σ H' s' /\ RelV v u /\ Q v H'
def TP (X:Cx) (pins:[18]) (σ:St) (Q:Bool->Hp->Prop) (b:Bool) (s':Shared):Prop:=∃ H',Inv X pins σ H' s' /\ Q b H'
def AP (X:Cx) (pins:[18]) (σ:St) (Q:List V->Hp->Prop) (us:[24]) (s':Shared):Prop:=∃ vs H',Inv X pins σ H' s' /\ Vals vs us /\ Q vs H'
def SP (X:Cx) (pins:[18]) (D:Ends) (f:Flow) (s':Shared):Prop :=
 match f with
 | .next=>∃ σ' H',Inv X pins σ' H' s' /\ D.nx σ' H'
 | .brk=>∃ σ' H',Inv X pins σ' H' s' /\ D.bk σ' H'
 | .cont=>∃ σ' H',Inv X pins σ' H' s' /\ D.ct σ' H'
 | .ret u=>∃ v σ' H',Inv X pins σ' H' s' /\ RelV v u /\ D.rt v H'
def PE (X:Cx) (e:Expr) (t:TE):Prop :=
 ∀ (pins:[18]) (s:Shared) (σ:St) (H:Hp) (Q:VK),Inv X pins σ H s->t σ H Q->wpAny [12] X.A (eval e X.env) (EP X pins σ Q) X.xe s
def PT (X:Cx) (e:Expr) (t:TT):Prop :=
 ∀ (pins:[18]) (s:Shared) (σ:St) (H:Hp) (Q:Bool->Hp->Prop),Inv X pins σ H s->t σ H Q->wpAny [12] X.A (isTrue e X.env (eval e X.env)) (TP X pins σ Q) X.xe s
def PW (X:Cx) (e:Expr) (t:TT):Prop :=
 ∀ (whole:Sem Value) (pins:[18]) (s:Shared) (σ:St) (H:Hp) (Q:Bool->Hp->Prop),Inv X pins σ H s->t σ H Q->wpAny [12] X.A (isTrue e X.env whole) (TP X pins σ Q) X.xe s
theorem PW.pt {e:Expr} {t:TT} (h:PW X e t):PT X e t:=h _
def PA (X:Cx) (es:List Expr) (t:TA):Prop :=
 ∀ (pos:Pos) (pins:[18]) (s:Shared) (σ:St) (H:Hp) (Q:List V->Hp->Prop),Inv X pins σ H s->t σ H Q->wpAny [12] X.A (spliced (backTo pos (starEach es X.env))) (AP X pins σ Q) X.xe s
def PS (X:Cx) (st:Stmt) (t:TS):Prop :=
 ∀ (pins:[18]) (s:Shared) (σ:St) (H:Hp) (D:Ends),Inv X pins σ H s->t D σ H->wpAny [12] X.A (exec st X.env) (SP X pins D) X.xe s
def PSs (X:Cx) (st:List Stmt) (t:TS):Prop :=
 ∀ (pins:[18]) (s:Shared) (σ:St) (H:Hp) (D:Ends),Inv X pins σ H s->t D σ H->wpAny [12] X.A (execs st X.env) (SP X pins D) X.xe s
theorem thn {α:Type} {t:Sem α} {Q Q':α->Shared->Prop} {E:[7]} (h:wpAny M A t Q E s) (hQ:∀ a s,Q a s->Q' a s):wpAny M A t Q' E s:=wpAny_mono h hQ λ _ _ x=>x
variable {Q:[7]} {ta tb:TE}
section
def tVar (i:Nat):TE:=λ σ H Q=>∃ v,σ[i]?=some (some v) /\ Q v H
def tC (v:V):TE:=λ _ H Q=>Q v H
theorem vc3 {i:Nat} {x:Str} {pos:Pos} (hN:X.N[i]?=some x) (hv:Vis X.env.scope x) (hd:[30]=false:=by decide) (hcd:(x == ("__classdict__" : Str))=false:=by decide):PE X (.Name x pos) (tVar i):=by
 intro pins s σ H Q I h;obtain ⟨v,e,h⟩:=h;obtain ⟨m,hn,hl⟩:=I.loc;obtain ⟨u,r,l⟩:=hl i x v hN e hv;have fin:EP X pins σ Q u s:=⟨v,H,I,r,h⟩;rcases l with ⟨hk,hm⟩ | ⟨hk,c,hc,hcell⟩
 ·exact wpAny_Name (wpAny_loadName_local I.ok.kind hk hn hm fin) hd
 ·rcases hk with hk | hk
  ·exact wpAny_Name (wpAny_loadName_cell I.ok.kind hk hc hcell fin) hd
  ·exact wpAny_Name (wpAny_loadName_free I.ok.kind hk hc hcell fin hcd) hd
theorem yx4 {i j pos}:PE X (.Constant (.int i) j pos) (tC (.int i)):=λ _ _ _ H _ I h=>wpAny_Constant_int ⟨.int i,H,I.tok _,⟨_,rfl⟩,h⟩
theorem pe_bl {b j pos}:PE X (.Constant (.bool b) j pos) (tC (.bl b)):=λ _ _ _ H _ I h=>Constant_bool ⟨.bl b,H,I,rfl,h⟩
theorem sw4 {j pos}:PE X (.Constant .none j pos) (tC .non):=λ _ _ _ H _ I h=>Constant_none ⟨.non,H,I,rfl,h⟩
theorem uw4 {x j pos}:PE X (.Constant (.str x) j pos) (tC (.str x)):=λ _ _ _ H _ I h=>Calls.Constant_str ⟨.str x,H,I.tok _,⟨_,rfl⟩,h⟩
def Gl (X:Cx) (x:Str):Prop:=X.env.kindOf x=some .globalImplicit
theorem ug1 {E:[7]} {σ:St} {x:Str} {u:Value} {pos:Pos} (I:[8]) (hg:Gl X x) (hm:X.mg x=some u) (h:Q u s)
    (hd:[30]=false:=by decide):wpAny [12] X.A (eval (.Name x pos) X.env) Q E s :=
 Calls.Name_function_global I.ok.kind hg (Calls.loadGlobal_global (by rw [I.ok.glob]; exact I.mod.glob.keeps I.bk) hm h) hd
theorem yo0 {E:[7]} {σ:St} {x:Str} {u:Value} {pos:Pos} (I:[8]) (hg:Gl X x) (hm:X.mg x=none) (hv:bootBuiltins x=some u) (h:Q u s)
    (hn:x ≠ "__name__" := by decide) (hd:[30]=false:=by decide):wpAny [12] X.A (eval (.Name x pos) X.env) Q E s:=by
 obtain ⟨mb,h1,h2⟩:=I.mod.blt;exact Calls.Name_function_global I.ok.kind hg (Calls.loadGlobal_builtin (by rw [I.ok.glob]; exact I.mod.glob.keeps I.bk) hm (by rw [I.ok.blt]; exact h1.keeps I.bk) ((h2 x hn).trans hv) h) hd
theorem uz1 {x:Str} {v:V} {u:Value} {pos:Pos} (hg:Gl X x) (hm:X.mg x=some u) (r:RelV v u) (hd:[30]=false:=by decide):PE X (.Name x pos) (tC v) :=
 λ _ _ _ H _ I h=>ug1 I hg hm ⟨v,H,I,r,h⟩ hd
theorem xq3 {x:Str} {v:V} {u:Value} {pos:Pos} (hg:Gl X x) (hm:X.mg x=none) (hv:bootBuiltins x=some u) (r:RelV v u) (hn:x ≠ "__name__" := by decide) (hd:[30]=false:=by decide):PE X (.Name x pos) (tC v) :=
 λ _ _ _ H _ I h=>yo0 I hg hm hv ⟨v,H,I,r,h⟩ hn hd
variable {a b:Expr} {pos:Pos}
def tB (t:TE):TT:=λ σ H Q=>t σ H λ x H1=>∃ c,x=.bl c /\ Q c H1
theorem yv4 {e:Expr} {t:TE} (h:PE X e t) (he:∀ whole,isTrue e X.env whole=(do let v <- whole; standAt e.pos; holding [v] (truthy v)):=by intro _; rfl):PT X e (tB t):=by
 intro pins s σ H Q I hw;refine isTrue_plain (thn (h pins s σ H _ I hw) λ v s1 ⟨x,H1,I1,r1,q1⟩=>?_) (he _);obtain ⟨d,rfl,q⟩:=q1;cases r1;exact wpAny_truthy_bool ⟨H1,I1,q⟩
variable {tA tB':TT} {rest:List Expr}
def tAnd (t u:TT):TT:=λ σ H Q=>t σ H λ c H1=>if c=true then u σ H1 Q else Q false H1
def tOr (t u:TT):TT:=λ σ H Q=>t σ H λ c H1=>if c=true then Q true H1 else u σ H1 Q
def tNot (t:TT):TT:=λ σ H Q=>t σ H λ c H1=>Q (!c) H1
theorem zn3 (ha:PT X a tA):PW X (.BoolOp .And [a] pos) tA:=by
 intro wh pins s σ H Q I h;refine isTrue_and (thn (ha pins s σ H Q I h) λ c s1 e=>?_);cases c with
 | true=>exact isTrue_and_nil e
 | false=>exact e
theorem wu4 (ha:PT X a tA):PW X (.BoolOp .Or [a] pos) tA:=by
 intro wh pins s σ H Q I h;refine isTrue_or (thn (ha pins s σ H Q I h) λ c s1 e=>?_);cases c with
 | false=>exact isTrue_or_nil e
 | true=>exact e
theorem vu4 (ha:PT X a tA) (hb:PW X (.BoolOp .And (b :: rest) pos) tB'):PW X (.BoolOp .And (a :: b :: rest) pos) (tAnd tA tB'):=by
 intro wh pins s σ H Q I h;refine isTrue_and (thn (ha pins s σ H _ I h) λ c s1 ⟨H1,I1,q1⟩=>?_);cases c with
 | true=>exact hb wh pins s1 σ H1 Q I1 q1
 | false=>assumption
theorem pw_or (ha:PT X a tA) (hb:PW X (.BoolOp .Or (b :: rest) pos) tB'):PW X (.BoolOp .Or (a :: b :: rest) pos) (tOr tA tB'):=by
 intro wh pins s σ H Q I h;refine isTrue_or (thn (ha pins s σ H _ I h) λ c s1 ⟨H1,I1,q1⟩=>?_);cases c with
 | true=>assumption
 | false=>exact hb wh pins s1 σ H1 Q I1 q1
theorem zv4 (ha:PT X a tA):PT X (.UnaryOp .Not a pos) (tNot tA):=by
 intro pins s σ H Q I h;exact isTrue_not (ha pins s σ H (λ c H1=>Q (!c) H1) I h)
def sh5 (ta tb:TE):TE:=λ σ H Q=>ta σ H λ x H1=>∃ c,x=.bl c /\ if c=true then tb σ H1 Q else Q (.bl false) H1
def tOrV (ta tb:TE):TE:=λ σ H Q=>ta σ H λ x H1=>∃ c,x=.bl c /\ if c=true then Q (.bl true) H1 else tb σ H1 Q
theorem tw4 {op} {t:TE} (h:PE X a t):PE X (.BoolOp op [a] pos) t:=λ pins s σ H Q I hw=>BoolOp_one (h pins s σ H Q I hw)
theorem vx4 (ha:PE X a ta) (hb:PE X (.BoolOp .And (b :: rest) pos) tb):PE X (.BoolOp .And (a :: b :: rest) pos) (sh5 ta tb):=by
 intro pins s σ H Q I h;refine BoolOp_and (thn (ha pins s σ H _ I h) λ v s1 ⟨x,H1,I1,r1,q1⟩=>?_);obtain ⟨c,rfl,q1⟩:=q1;cases r1;refine wpAny_truthy_bool ?_;cases c with
 | true=>exact hb pins s1 σ H1 Q I1 q1
 | false=>exact ⟨.bl false,H1,I1,rfl,q1⟩
theorem pe_or (ha:PE X a ta) (hb:PE X (.BoolOp .Or (b :: rest) pos) tb):PE X (.BoolOp .Or (a :: b :: rest) pos) (tOrV ta tb):=by
 intro pins s σ H Q I h;refine BoolOp_or (thn (ha pins s σ H _ I h) λ v s1 ⟨x,H1,I1,r1,q1⟩=>?_);obtain ⟨c,rfl,q1⟩:=q1;cases r1;refine wpAny_truthy_bool ?_;cases c with
 | false=>exact hb pins s1 σ H1 Q I1 q1
 | true=>exact ⟨.bl true,H1,I1,rfl,q1⟩
def tIf (t:TT) (ta tb:TE):TE:=λ σ H Q=>t σ H λ c H1=>if c=true then ta σ H1 Q else tb σ H1 Q
theorem vs2 {c:Expr} (hc:PT X c tA) (ha:PE X a ta) (hb:PE X b tb):PE X (.IfExp c a b pos) (tIf tA ta tb):=by
 intro pins s σ H Q I h;refine wpAny_IfExp (thn (hc pins s σ H _ I h) λ d s1 ⟨H1,I1,q1⟩=>?_);cases d with
 | true=>exact ha pins s1 σ H1 Q I1 q1
 | false=>exact hb pins s1 σ H1 Q I1 q1
end
def SqL (K:PySem.W.Frag) (H:Hp) (a:Addr) (xs:List V):Prop :=
 Rd H a (.lst xs) ∨
  ∃ (o:Obj) (its:Array Value) (n:Nat),K.lookup a=some o /\ o.cls=.type "list" /\ o.dict=none /\ o.data=.seq its n /\ its.size<=sizeLine /\ Vals xs its.toList
def SqT (K:PySem.W.Frag) (H:Hp) (a:Addr) (xs:List V):Prop :=
 Rd H a (.tup xs) ∨
  ∃ (o:Obj) (its:Array Value) (n:Nat),K.lookup a=some o /\ o.cls=.type "tuple" /\ o.data=.seq its n /\ its.size<=sizeLine /\ Vals xs its.toList
noncomputable def absV:Value->Option V
 | .none=>some .non
 | .bool b=>some (.bl b)
 | .int i _=>some (.int i)
 | .str x _=>some (.str x)
 | .bytes b _=>some (.byt b)
 | .float b _=>some (.flt b)
 | .ref a=>some (.ref a)
 | .type n=>some (.ty n)
 | _=>none
theorem RelV.abs {x:V} {u:Value} (r:RelV x u):absV u=some x:=by
 cases x with
 | non=>cases r; rfl
 | bl _=>cases r; rfl
 | int _=>obtain ⟨t,rfl⟩:=r; rfl
 | str _=>obtain ⟨t,rfl⟩:=r; rfl
 | byt _=>obtain ⟨t,rfl⟩:=r; rfl
 | flt _=>obtain ⟨t,rfl⟩:=r; rfl
 | ref _=>cases r; rfl
 | ty _=>cases r; rfl
theorem RelV.inj {x y:V} {u:Value} (r:RelV x u) (q:RelV y u):x=y:=Option.some.inj (r.abs.symm.trans q.abs)
theorem Vals.inj:∀ {xs ys:List V} {us:[24]},Vals xs us->Vals ys us->xs=ys
 | _,_,_,.nil,.nil=>rfl
 | _,_,_,.cons r t,.cons r' t'=>by rw [r.inj r',Vals.inj t t']
variable {K:PySem.W.Frag}
section
variable {σ:St} {a:Addr} {xs ys:List V}
theorem SqL.of (h:H a=some (.lst xs)):SqL K H a xs:=.inl (.inl h)
theorem SqT.of (h:H a=some (.tup xs)):SqT K H a xs:=.inl (.inl h)
theorem Inv.list (I:[8]) (h:SqL X.K H a xs):∃ its:List Value,Vals xs its /\ PlainL s.heap a its.toArray /\ xs.length<=sizeLine:=by
 rcases h with h | ⟨o,its,n,hk,hc,hd,hs,hz,r⟩
 ·obtain ⟨z,its,n,r,e⟩:=h.ok I.hok;exact ⟨its,r,⟨_,n,e,rfl,rfl,rfl⟩,z⟩
 ·refine ⟨its.toList,r,⟨o,n,I.kIn a o hk,hc,hd,by simpa using hs⟩,?_⟩;have e:=r.length
  simp_all
theorem Inv.tuple (I:[8]) (h:SqT X.K H a xs):∃ its:List Value,Vals xs its /\ IsTup s.heap a its.toArray /\ xs.length<=sizeLine:=by
 rcases h with h | ⟨o,its,n,hk,hc,hs,hz,r⟩
 ·obtain ⟨z,its,r,p⟩:=h.ok I.hok;exact ⟨its,r,p,z⟩
 ·refine ⟨its.toList,r,⟨o,I.kIn a o hk,hc,n,by simpa using hs⟩,?_⟩;have e:=r.length
  simp_all
theorem Inv.list_inj (I:[8]) (h:SqL X.K H a xs) (h':SqL X.K H a ys):xs=ys:=by
 obtain ⟨its,r,⟨o,n,e,_,_,d⟩,_⟩:=I.list h;obtain ⟨its',r',⟨o',n',e',_,_,d'⟩,_⟩:=I.list h';rw [e] at e'; cases e';rw [d] at d';injection d' with d1 _
 have:its=its':=by simp_all
 subst this;exact r.inj r'
theorem Inv.tuple_inj (I:[8]) (h:SqT X.K H a xs) (h':SqT X.K H a ys):xs=ys:=by
 obtain ⟨its,r,⟨o,e,_,n,d⟩,_⟩:=I.tuple h;obtain ⟨its',r',⟨o',e',_,n',d'⟩,_⟩:=I.tuple h';rw [e] at e'; cases e';rw [d] at d';injection d' with d1 _
 have:its=its':=by simp_all
 subst this;exact r.inj r'
end
noncomputable abbrev Cx.wish (X:Cx) (E:[7]):Cx:={ X with xe:=E }
noncomputable abbrev Cx.nox (X:Cx):Cx:=X.wish λ _ _=>False
theorem Cx.Ok.wish {X:Cx} (ok:X.Ok) (E:[7]):(X.wish E).Ok :=
 ⟨ok.mod,ok.kind,ok.glob,ok.blt,ok.above,ok.inj,ok.has,ok.cab,ok.hd,ok.frames,ok.stk,ok.exf,ok.bs,ok.bsz,ok.noex,ok.exfs,ok.funs,ok.frf⟩
theorem Cx.Ok.unwish {E:[7]} (ok:(X.wish E).Ok):X.Ok :=
 ⟨ok.mod,ok.kind,ok.glob,ok.blt,ok.above,ok.inj,ok.has,ok.cab,ok.hd,ok.frames,ok.stk,ok.exf,ok.bs,ok.bsz,ok.noex,ok.exfs,ok.funs,ok.frf⟩
section
variable {σ:St} {E:[7]}
theorem Inv.wish (I:[8]) (E:[7]):Inv (X.wish E) pins σ H s:=⟨I.ok.wish E,I.os,I.bare,I.base,I.loc,I.cell,I.free,I.freeC,I.pin,I.hok,I.len⟩
theorem Inv.unwish (I:Inv (X.wish E) pins σ H s):Inv X pins σ H s:=⟨I.ok.unwish,I.os,I.bare,I.base,I.loc,I.cell,I.free,I.freeC,I.pin,I.hok,I.len⟩
theorem SP.unwish {D:Ends} {f:Flow} {s':Shared} (h:SP (X.wish E) pins D f s'):SP X pins D f s':=by
 cases f with
 | next=>obtain ⟨σ',H',I,q⟩:=h; exact ⟨σ',H',I.unwish,q⟩
 | brk=>obtain ⟨σ',H',I,q⟩:=h; exact ⟨σ',H',I.unwish,q⟩
 | cont=>obtain ⟨σ',H',I,q⟩:=h; exact ⟨σ',H',I.unwish,q⟩
 | ret u=>obtain ⟨v,σ',H',I,r,q⟩:=h; exact ⟨v,σ',H',I.unwish,r,q⟩
theorem PSs.nox {st:List Stmt} {t:TS} (h:PSs X.nox st t):PSs X st t:=λ pins s σ H D I hw =>
 wpAny_mono (h pins s σ H D (I.wish _) hw) (λ _ _ q=>q.unwish) λ _ _ z=>False.elim z
end
variable {te:TE}
section
variable {st:Stmt} {rest:List Stmt} {t u:TS} {e:Expr} {pos:Pos}
def xh5:TS:=λ D σ H=>D.nx σ H
def tSeq (t u:TS):TS:=λ D σ H=>t { D with nx:=u D } σ H
theorem xo3:PSs X [] xh5:=λ _ _ σ H _ I h=>wpAny_execs_nil ⟨σ,H,I,h⟩
theorem zr2 (h1:PS X st t) (h2:PSs X rest u):PSs X (st :: rest) (tSeq t u):=by
 intro pins s σ H D I h;refine wpAny_execs_cons (thn (h1 pins s σ H { D with nx:=u D } I h) λ f s1 q=>?_);cases f with
 | next =>
  obtain ⟨σ',H',I',q⟩:=q;exact h2 pins s1 σ' H' D I' q
 | ret v=>exact q
 | brk=>exact q
 | cont=>exact q
theorem sn3 (h1:PS X st t):PSs X [st] t:=by
 intro pins s σ H D I h;refine wpAny_execs_cons (thn (h1 pins s σ H D I h) λ f s1 q=>?_);cases f with
 | next=>exact wpAny_execs_nil q
 | ret v=>exact q
 | brk=>exact q
 | cont=>exact q
theorem Inv.quiet {σ:St} (I:[8]):interactive X.env=false:=by simp [interactive,I.ok.kind]
def wh5 (te:TE):TS:=λ D σ H=>te σ H λ _ H1=>D.nx σ H1
theorem zo3 (he:PE X e te) (hs:swapsWith e none pos.line X.env=pure false:=by rfl):PS X (.Expr e pos) (wh5 te):=by
 intro pins s σ H D I h;exact wpAny_Expr_any (thn (he pins s σ H _ I h) λ v s1 ⟨x,H1,I1,r1,q1⟩=>⟨σ,H1,I1,q1⟩) I.quiet hs
def tRet (te:TE):TS:=λ D σ H=>te σ H D.rt
theorem wv4 (he:PE X e te):PS X (.Return (some e) pos) (tRet te):=by
 intro pins s σ H D I h;exact wpAny_Return_some (thn (he pins s σ H _ I h) λ v s1 ⟨x,H1,I1,r1,q1⟩=>⟨x,σ,H1,I1,r1,q1⟩)
def tIfS (c:TT) (t u:TS):TS:=λ D σ H=>c σ H λ b H1=>if b=true then t D σ H1 else u D σ H1
theorem ps_if {c:Expr} {a b:List Stmt} {tc:TT} (hc:PT X c tc) (ha:PSs X a t) (hb:PSs X b u):PS X (.If c a b pos) (tIfS tc t u):=by
 intro pins s σ H D I h;refine wpAny_If (thn (hc pins s σ H _ I h) λ d s1 ⟨H1,I1,q1⟩=>?_);cases d with
 | true=>exact ha pins s1 σ H1 D I1 q1
 | false=>exact hb pins s1 σ H1 D I1 q1
def ze4:TS:=λ _ _ _=>False
theorem vr2:PS X st ze4:=λ _ _ _ _ _ _ h=>h.elim
end
abbrev TG:=V->St->Hp->(St->Hp->Prop)->Prop
abbrev TGs:=List V->St->Hp->(St->Hp->Prop)->Prop
def PG (X:Cx) (target:Expr) (t:TG):Prop :=
 ∀ (pins:[18]) (s:Shared) (σ:St) (H:Hp) (v:V) (u:Value) (Q:St->Hp->Prop),Inv X pins σ H s->RelV v u->t v σ H Q ->
  wpAny [12] X.A (assign target X.env u) (λ _ s'=>∃ σ' H',Inv X pins σ' H' s' /\ Q σ' H') X.xe s
def PGs (X:Cx) (ts:List Expr) (t:TGs):Prop :=
 ∀ (pins:[18]) (s:Shared) (σ:St) (H:Hp) (vs:List V) (us:[24]) (Q:St->Hp->Prop),Inv X pins σ H s->Vals vs us->t vs σ H Q ->
  wpAny [12] X.A (assignInOrder ((assignEach ts X.env).map (·.2)) us) (λ _ s'=>∃ σ' H',Inv X pins σ' H' s' /\ Q σ' H') X.xe s
abbrev TSet:=V->V->V->Hp->(Hp->Prop)->Prop
def PSet (X:Cx) (t:TSet):Prop :=
 ∀ (pins:[18]) (s:Shared) (σ:St) (H:Hp) (o i v:V) (ov iv u:Value) (Q:Hp->Prop),Inv X pins σ H s->RelV o ov->RelV i iv->RelV v u->t o i v H Q ->
  wpAny [12] X.A (setItem ov iv u) (λ _ s'=>∃ H',Inv X pins σ H' s' /\ Q H') X.xe s
variable {es:List Expr} {n:Nat} {tg:Expr} {g:TG} {pos':Pos}
section
variable {pos:Pos}
def zt3 (i:Nat):TG:=λ v σ H Q=>Q (σ.set i (some v)) H
theorem xp3 {i:Nat} {x:Str} (hN:X.N.Nodup) (hi:X.N[i]?=some x) (hx:Loc X.env.scope x) (hf:X.fn x=true \/ X.env.scope.names.lookup x=some .local:=by trivial):PG X (.Name x pos) (zt3 i):=by
 intro pins s σ H v u Q I r h;exact wpAny_assign_Name (uj1 I hN hi hx r (λ s' I'=>⟨_,H,I',h⟩) hf)
def gNil:TGs:=λ vs σ H Q=>vs=[] /\ Q σ H
def gCons (t:TG) (u:TGs):TGs:=λ vs σ H Q=>∃ v r,vs=v :: r /\ t v σ H λ σ' H'=>u r σ' H' Q
theorem to3:PGs X [] gNil:=by
 intro pins s σ H vs us Q I r h;obtain ⟨e,h⟩:=h;subst e;cases r;exact assignInOrder_nil ⟨σ,H,I,h⟩
theorem tr2 {e:Expr} {t:TG} {u:TGs} (h1:PG X e t) (h2:PGs X es u)
    (hs:(assignEach (e :: es) X.env).map (·.2)=assign e X.env :: (assignEach es X.env).map (·.2):=by rfl):PGs X (e :: es) (gCons t u):=by
 intro pins s σ H vs us Q I r h;obtain ⟨v,vr,e1,h⟩:=h;subst e1;cases r with
 | cons r rr =>
  rw [hs];refine assignInOrder_cons (thn (h1 pins s σ H _ _ _ I r h) λ _ s1 ⟨σ1,H1,I1,q1⟩=>?_);exact h2 pins s1 σ1 H1 _ _ Q I1 rr q1
def gTup (K:PySem.W.Frag) (n:Nat) (t:TGs):TG:=λ v σ H Q=>∃ a xs,v=.ref a /\ SqT K H a xs /\ xs.length=n /\ t xs σ H Q
theorem zw4 {k:Nat} {t:TGs} (hc:X.calm=true) (h:PGs X es t)
    (hn:(assignEach es X.env).length=n:=by rfl) (hst:(assignEach es X.env).findIdx? (·.1)=none:=by rfl):PG X (.Tuple es k pos) (gTup X.K n t):=by
 intro pins s σ H v u Q I r hw;obtain ⟨a,xs,e1,hq,hl,hw⟩:=hw;subst e1;cases r;obtain ⟨its,rv,ht,hz⟩:=I.tuple hq;refine assign_Tuple_tuple (I.ok.hd hc) ht (by simp [hn,<- hl,rv.length]) hst λ h' hx=>?_;have I1:Inv X pins σ H { s with heap:=h' }:=I.kept (t':=s.toks) λ b o e=>hx b o (Nat.ne_of_lt (Heap.lt_size e)) e;exact h pins _ σ H xs _ Q I1 (by simpa using rv) hw
def gSub (to ti:TE) (t:TSet):TG:=λ v σ H Q=>to σ H λ o H1=>ti σ H1 λ i H2=>t o i v H2 λ H3=>Q σ H3
theorem ww4 {o i:Expr} {to ti:TE} {t:TSet} (ho:PE X o to) (hi:PE X i ti) (hs:PSet X t)
    (ha:∀ v,assign (.Subscript o i pos) X.env v=(do
     let ov <- holding [v] (eval o X.env)
     let iv <- holding [v,ov] (eval i X.env)
     standAt pos
     holding [v,ov,iv] (setItem ov iv v)
     release [v,ov,iv] []):=by intro _; rfl):PG X (.Subscript o i pos) (gSub to ti t):=by
 intro pins s σ H v u Q I r h;rw [ha];refine wpAny_bind (wpAny_holding (thn (ho pins s σ H _ I h) λ ov s1 ⟨x,H1,I1,r1,q1⟩=>?_));refine wpAny_bind (wpAny_holding (thn (hi pins s1 σ H1 _ I1 q1) λ iv s2 ⟨y,H2,I2,r2,q2⟩=>?_));refine wpAny_bind (wpAny_standAt (wpAny_bind (wpAny_holding (thn (hs pins s2 σ H2 x y v ov iv u _ I2 r1 r2 r q2) λ _ s3 ⟨H3,I3,q3⟩=>?_))));exact wpAny_release ⟨σ,H3,I3,q3⟩
def tAsg (te:TE) (g:TG):TS:=λ D σ H=>te σ H λ x H1=>g x σ H1 D.nx
theorem tv4 {e:Expr} (he:PE X e te) (hg:PG X tg g) (hs:swapsWithSole [tg] e pos.line X.env=pure false:=by rfl) (hw:swappedStores [tg] e X.env=pure none:=by rfl)
    (h1:(assignEach [tg] X.env).map (·.2)=[assign tg X.env]:=by rfl):PS X (.Assign [tg] e pos) (tAsg te g):=by
 intro pins s σ H D I h;refine wpAny_Assign_stores (thn (he pins s σ H _ I h) λ v s1 ⟨x,H1,I1,r1,q1⟩=>?_) hs hw;rw [h1];exact thn (hg pins s1 σ H1 x v _ I1 r1 q1) λ _ s2 q=>q
theorem vy1 {i:Nat} {x:Str} {e:Expr} (hN:X.N.Nodup) (hi:X.N[i]?=some x) (hx:Loc X.env.scope x) (he:PE X e te) (hs:swapsWith e (some (.Name x pos')) pos.line X.env=pure false:=by rfl) (hf:X.fn x=true \/ X.env.scope.names.lookup x=some .local:=by trivial) :
    PS X (.Assign [.Name x pos'] e pos) (tAsg te (zt3 i)):=by
 intro pins s σ H D I h;refine wpAny_Assign_Name (thn (he pins s σ H _ I h) λ v s1 ⟨y,H1,I1,r1,q1⟩=>?_) hs;exact uj1 I1 hN hi hx r1 (λ s2 I2=>⟨_,H1,I2,q1⟩) hf
end
variable {body:List Stmt}
section
variable {pos:Pos}
def xe4 (c:TT) (tb:TS):TS:=λ D σ H=>∃ W:Nat->St->Hp->Prop,(∃ m,W m σ H) /\ ∀ m σ H,W m σ H ->
 c σ H λ b H1=>if b=true then ∃ N:St->Hp->Prop,(∀ σ' H',N σ' H'->∃ m',m' < m /\ W m' σ' H') /\ tb { D with nx:=N,ct:=N,bk:=D.nx } σ H1 else D.nx σ H1
theorem wr2 {c:Expr} {tc:TT} {tb:TS} (hp:PassesOwn [12] X.A X.env X.xe) (hc:PT X c tc) (hb:PSs X body tb):PS X (.While c body [] pos) (xe4 tc tb):=by
 intro pins s σ H D I h;obtain ⟨W,⟨m0,w0⟩,turn⟩:=h;refine wpAny_While (codeAny_whileLoop (λ n s'=>∃ σ' H',Inv X pins σ' H' s' /\ W n σ' H') ?_ m0 ⟨σ,H,I,w0⟩);rintro n s1 ⟨σ1,H1,I1,w1⟩;refine wpAny_passesOwn hp (thn (hc pins s1 σ1 H1 _ I1 (turn n σ1 H1 w1)) λ b s2 ⟨H2,I2,q2⟩=>?_);cases b with
 | true =>
  obtain ⟨N,hN,q2⟩:=q2;rw [if_pos rfl];refine wpAny_passesOwn hp (thn (hb pins s2 σ1 H2 _ I2 q2) λ f s3 q3=>?_);cases f with
  | next =>
   obtain ⟨σ3,H3,I3,n3⟩:=q3;obtain ⟨m',hm,w3⟩:=hN σ3 H3 n3;exact ⟨m',hm,σ3,H3,I3,w3⟩
  | cont =>
   obtain ⟨σ3,H3,I3,n3⟩:=q3;obtain ⟨m',hm,w3⟩:=hN σ3 H3 n3;exact ⟨m',hm,σ3,H3,I3,w3⟩
  | brk=>exact q3
  | ret v=>exact q3
 | false =>
  rw [if_neg Bool.false_ne_true];exact wpAny_execs_nil ⟨σ1,H2,I2,q2⟩
end
structure It where
 go:Nat->Hp->Prop
 yld:Nat->Hp->V->Hp->Prop
 stop:Nat->Hp->Prop
def FpOk (X:Cx) (pins:[18]) (H:Hp) (b:Addr):Prop :=
 H b=none /\ b ≠ X.env.locals /\ b ∉ X.fs /\ (b ∈ X.ex \/ X.s₀.heap.objs.size<=b) /\ (∀ x c,X.env.cells.lookup x=some c->c ≠ b) /\ ∀ p ∈ X.pn ++ pins,p.1 ≠ b
theorem Inv.fpOk {σ:St} {b:Addr} (I:[8]) (hb:s.heap.objs.size<=b) (hn:H' b=none):FpOk X pins H' b:=by
 refine ⟨hn,Nat.ne_of_gt (Nat.lt_of_lt_of_le I.lt hb),I.nofs hb,.inr (Nat.le_trans I.sz hb),λ x c e z=>?_,λ p hp z=>?_⟩
 ·obtain ⟨v,q⟩:=I.cell x c e;exact absurd (Nat.lt_of_lt_of_le q.lt (by rw [z]; exact hb)) (Nat.lt_irrefl _)
 ·exact absurd (Nat.lt_of_lt_of_le (Heap.lt_size (I.pin p hp).1) (by rw [z]; exact hb)) (Nat.lt_irrefl _)
structure Turn (P:Program) (w:World) (K:PySem.W.Frag) (tg:Expr) (J:It) (fp:List Addr) (it:Addr) (tn:Nat->Heap->Prop):Prop where
 mem:it ∈ fp
 obj:∀ i h,tn i h->∀ b ∈ fp,∃ o,h.get? b=some o /\ ∀ v,o.data ≠ .cell v
 keep:∀ i h h',tn i h->(∀ b ∈ fp,∀ o,h.get? b=some o->h'.get? b=some o)->tn i h'
 item:∀ (X:Cx),X.prog=P->X.w=w->X.K=K->X.calm=true->∀ (i:Nat) (pins:List (Addr × Obj)) (s:Shared) (σ:St) (H:Hp) (E:Value->Shared->Prop),Inv X pins σ H s->(∀ b ∈ fp,FpOk X pins H b)->tn i s.heap->J.go i H ->
  wpAny (model P w) X.A (pyNext (.ref it)) (λ r s1=>∃ u,r=some u ∧
   wpAny (model P w) X.A (letOwnedTupleGo tg (.ref it) u) (λ _ s2=>∃ x H',Inv X pins σ H' s2 /\ RelV x u /\ J.yld i H x H' /\ tn (i + 1) s2.heap /\ ∀ b ∈ fp,H' b=none) E s1) E s
 done:∀ (X:Cx),X.prog=P->X.w=w->X.K=K->X.calm=true->∀ (i:Nat) (pins:List (Addr × Obj)) (s:Shared) (σ:St) (H:Hp) (E:Value->Shared->Prop),Inv X pins σ H s->(∀ b ∈ fp,FpOk X pins H b)->tn i s.heap->J.stop i H ->
  wpAny (model P w) X.A (pyNext (.ref it)) (λ r s1=>r=none /\ Inv X pins σ H s1) E s
 self:∀ (A:Around) (i:Nat) (s:Shared) (Q:Value->Shared->Prop) (E:Value->Shared->Prop),tn i s.heap->Q (.ref it) s->wpAny (model P w) A (pyIter (.ref it)) Q E s
abbrev TI:=St->Hp->(It->Hp->Prop)->Prop
def PIE (X:Cx) (pins:[18]) (σ:St) (tg:Expr) (R:It->Hp->Prop) (itv:Value) (s2:Shared):Prop :=
 ∃ (it:Addr) (fp:List Addr) (tn:Nat->Heap->Prop) (J:It) (H':Hp),itv=.ref it /\ Inv X pins σ H' s2 /\ Turn X.prog X.w X.K tg J fp it tn /\ tn 0 s2.heap /\ (∀ b ∈ fp,FpOk X pins H' b) /\ R J H'
def PI (X:Cx) (tg iter:Expr) (wi:TI):Prop :=
 ∀ (pins:[18]) (s:Shared) (σ:St) (H:Hp) (R:It->Hp->Prop),Inv X pins σ H s->wi σ H R ->
  wpAny [12] X.A (eval iter X.env) (λ v s1=>wpAny [12] X.A (pyIter v) (PIE X pins σ tg R) X.xe s1) X.xe s
theorem xe2 {E:[7]} {u:Value} {o:Obj} {n:String} {vs:Array Value} {Q:Unit->Shared->Prop} (ho:s.heap.get? it=some o) (hc:o.cls=.type n) (hd:o.data=.fields vs)
    (hn:["enumerate", "zip", "dict_itemiterator", "dict_reverseitemiterator", "odict_iterator", "itertools.zip_longest", "itertools.pairwise"].contains n=false) (hQ:Q () s):wpAny M A (letOwnedTupleGo tg (.ref it) u) Q E s:=by
 unfold letOwnedTupleGo
 cases tg <;> first
  | exact wpAny_pure hQ
  | (cases u <;> first
      | exact wpAny_pure hQ
      | (refine wpAny_bind (wpAny_load ho ?_)
         rw [hc,hd];show wpAny M A (if (["enumerate", "zip", "dict_itemiterator", "dict_reverseitemiterator", "odict_iterator", "itertools.zip_longest", "itertools.pairwise"].contains n && vs[0]? == some (rawInt _))=true then _ else _) Q E s;rw [if_neg [26]];exact wpAny_pure hQ))
noncomputable def Itl (K:PySem.W.Frag) (a:Addr):It :=
 ⟨λ i H=>∃ xs x,SqL K H a xs /\ xs[i]?=some x,λ i H x H'=>H'=H /\ ∀ xs,SqL K H a xs->xs[i]?=some x,λ i H=>∃ xs,SqL K H a xs /\ xs.length<=i⟩
noncomputable def Itt (K:PySem.W.Frag) (a:Addr):It :=
 ⟨λ i H=>∃ xs x,SqT K H a xs /\ xs[i]?=some x,λ i H x H'=>H'=H /\ ∀ xs,SqT K H a xs->xs[i]?=some x,λ i H=>∃ xs,SqT K H a xs /\ xs.length<=i⟩
noncomputable def Itr (lo:Int) (n:Nat):It:=⟨λ i _=>i < n,λ i H x H'=>H'=H /\ x=.int (lo + i),λ i _=>n<=i⟩
theorem wt1 {P:Program} {w:World} (a it:Addr):Turn P w K tg (Itl K a) [it] it (λ i h=>h.IsListIter it a i) where
 mem:=by simp
 obj:=λ i h st b hb=>by
  have e:b=it:=by simpa using hb
  subst e;obtain ⟨o,e,c,d⟩:=st
  simp_all
 keep:=λ i h h' st k=>st.at λ o e=>k it [17] o e
 item:=by
  intro X hP hw hK hc i pins s σ H E I hf st hg;subst hP hw hK;obtain ⟨xs,x,hq,hx⟩:=hg;obtain ⟨its,rv,p,hz⟩:=I.list hq;obtain ⟨u,hu,ru⟩:=rv.get hx;obtain ⟨f0,f1,f2,f3,f4,f5⟩:=hf it [17];refine wpAny_pyNext_list_item st p.isList (x:=u) (by simpa using hu) λ h' st' sb=>?_;have I1:Inv X pins σ H { s with heap:=h' }:=I.turned (t':=s.toks) (λ b o hb e=>(sb.2 b hb).trans e) f0 f1 f3 f4 f5;obtain ⟨o,e,c,d⟩:=id st';exact ⟨u,rfl,xe2 (s:={ s with heap:=h' }) e c d [27] ⟨x,H,I1,ru,⟨rfl,λ ys hy=>by rw [I.list_inj hy hq]; exact hx⟩,st',λ b hb=>(hf b hb).1⟩⟩
 done:=by
  intro X hP hw hK hc i pins s σ H E I hf st hg;subst hP hw hK;obtain ⟨xs,hq,hx⟩:=hg;obtain ⟨its,rv,p,hz⟩:=I.list hq;obtain ⟨f0,f1,f2,f3,f4,f5⟩:=hf it [17];have hl:=rv.length;exact wpAny_pyNext_list_end (I.ok.hd hc) st p.isList (by simp; omega) λ h' eb=>⟨rfl,I.turned (t':=s.toks) (λ b o hb e=>eb b o hb e) f0 f1 f3 f4 f5⟩
 self:=λ _ _ _ _ _ st h=>wpAny_pyIter_listiter st h
theorem up1 {P:Program} {w:World} (a it:Addr):Turn P w K tg (Itt K a) [it] it (λ i h=>h.IsTupleIter it a i) where
 mem:=by simp
 obj:=λ i h st b hb=>by
  have e:b=it:=by simpa using hb
  subst e;obtain ⟨o,e,c,d⟩:=st
  simp_all
 keep:=λ i h h' st k=>st.at λ o e=>k it [17] o e
 item:=by
  intro X hP hw hK hc i pins s σ H E I hf st hg;subst hP hw hK;obtain ⟨xs,x,hq,hx⟩:=hg;obtain ⟨its,rv,p,hz⟩:=I.tuple hq;obtain ⟨u,hu,ru⟩:=rv.get hx;obtain ⟨f0,f1,f2,f3,f4,f5⟩:=hf it [17];refine wpAny_pyNext_tuple_item st (show s.heap.IsTuple a its.toArray from p) (x:=u) (by simpa using hu) λ h' st' sb=>?_;have I1:Inv X pins σ H { s with heap:=h' }:=I.turned (t':=s.toks) (λ b o hb e=>(sb.2 b hb).trans e) f0 f1 f3 f4 f5;obtain ⟨o,e,c,d⟩:=id st';exact ⟨u,rfl,xe2 (s:={ s with heap:=h' }) e c d [27] ⟨x,H,I1,ru,⟨rfl,λ ys hy=>by rw [I.tuple_inj hy hq]; exact hx⟩,st',λ b hb=>(hf b hb).1⟩⟩
 done:=by
  intro X hP hw hK hc i pins s σ H E I hf st hg;subst hP hw hK;obtain ⟨xs,hq,hx⟩:=hg;obtain ⟨its,rv,p,hz⟩:=I.tuple hq;obtain ⟨f0,f1,f2,f3,f4,f5⟩:=hf it [17];have hl:=rv.length;exact wpAny_pyNext_tuple_end (I.ok.hd hc) st (show s.heap.IsTuple a its.toArray from p) (by simp; omega) λ h' eb=>⟨rfl,I.turned (t':=s.toks) (λ b o hb e=>eb b o hb e) f0 f1 f3 f4 f5⟩
 self:=λ _ _ _ _ _ st h=>wpAny_pyIter_tupleiter st h
theorem tp1 {P:Program} {w:World} (it:Addr) (lo:Int) (n:Nat):Turn P w K tg (Itr lo n) [it] it (λ i h=>IsRangeIter h it (lo + (i:Nat) * 1) ((n:Int) - (i:Nat)) 1) where
 mem:=by simp
 obj:=λ i h st b hb=>by
  simp_all
 keep:=λ i h h' st k=>k it [17] _ st
 item:=by
  intro X hP hw hK hc i pins s σ H E I hf st hg;subst hP hw hK;obtain ⟨f0,f1,f2,f3,f4,f5⟩:=hf it [17];have W:=Walks.range (prog:=X.prog) (w:=X.w) (I.ok.hd hc) it lo 1 n;refine W.item i s _ _ hg st λ v h' tk hv st' kk=>?_;obtain ⟨t,rfl⟩:=hv;have I1:Inv X pins σ H [19]:=I.turned (λ b o hb e=>kk b o (by simpa using hb) e) f0 f1 f3 f4 f5;refine ⟨_,rfl,xe2 (s:=[19]) (n := "range_iterator") st' rfl rfl [27] ⟨.int (lo + i),H,I1,⟨t,?_⟩,⟨rfl,rfl⟩,st',λ b hb=>(hf b hb).1⟩⟩;rw [Int.mul_one]
 done:=by
  intro X hP hw hK hc i pins s σ H E I hf st hg;subst hP hw hK;obtain ⟨f0,f1,f2,f3,f4,f5⟩:=hf it [17];exact wpAny_pyNext_range_end (I.ok.hd hc) st (by have:n<=i:=hg; omega) λ h' eb=>⟨rfl,I.turned (t':=s.toks) (λ b o hb e=>eb b o hb e) f0 f1 f3 f4 f5⟩
 self:=λ _ _ _ _ _ st h=>wpAny_pyIter_rangeiter st h
variable {fp:List Addr}
section
theorem wl1 {σ:St} {R:It->Hp->Prop} {E:[7]} {lo hi:Int} {t u v:Tok} {tk:Nat} (I:[8]) (h1 : -(2 ^ 62)<=lo) (h2:lo < 2 ^ 62) (h3 : -(2 ^ 62)<=hi) (h4:hi < 2 ^ 62)
    (q:R (Itr lo (hi - lo).toNat) H):wpAny [12] X.A (pyIter (.ref s.heap.objs.size)) (PIE X pins σ tg R) E { s with heap:=s.heap.push [39],toks:=tk }:=by
 refine wpAny_pyIter_range (IsRange.new ..) (small_one h1 h2 h3 h4) ?_;have I1:Inv X pins σ H { s with heap:=s.heap.push [39],toks:=tk }:=I.kept λ b o e=>Heap.get?_push_of_some _ e
 refine ⟨(s.heap.push [39]).objs.size,[(s.heap.push [39]).objs.size],_,_,H,rfl,
  I1.kept (t':=tk) λ b o e=>Heap.get?_push_of_some _ e,tp1 _ lo (hi - lo).toNat,?_,λ b hb=>?_,q⟩
 ·have e1:lo + ((0:Nat):Int) * 1=lo:=by simp
  have e2:(((hi - lo).toNat:Nat):Int) - ((0:Nat):Int)=Builtin.Range.rangeSize lo hi 1:=by rw [rangeSize_one]; split <;> omega
  show IsRangeIter _ _ (lo + ((0:Nat):Int) * 1) ((((hi - lo).toNat:Nat):Int) - ((0:Nat):Int)) 1;rw [e1,e2];exact Heap.get?_push_size _ rfl
 ·have e:b=(s.heap.push [39]).objs.size:=by simpa using hb
  subst e;exact I1.fpOk [21] (I1.hok.fresh [21])
def iRng1 (ta:TA):TI:=λ σ H R=>ta σ H λ vs H1=>∃ j:Int,vs=[.int j] /\ -(2 ^ 62)<=j /\ j < 2 ^ 62 /\ R (Itr 0 j.toNat) H1
def iRng2 (ta:TA):TI:=λ σ H R=>ta σ H λ vs H1=>∃ i j:Int,vs=[.int i,.int j] /\ (-(2 ^ 62)<=i /\ i < 2 ^ 62 /\ -(2 ^ 62)<=j /\ j < 2 ^ 62) /\ R (Itr i (j - i).toNat) H1
theorem wz1 {a:Expr} {ta:TA} {p pos:Pos} (hg:Gl X "range") (hm:X.mg "range" = none) (ha:PA X [a] ta) (hs:starEach [a] X.env=[(false,eval a X.env)]:=by rfl):PI X tg (.Call (.Name "range" p) [a] [] pos) (iRng1 ta):=by
 intro pins s σ H R I h;refine Call_ (yo0 I hg hm boot_range (PyProof.Rows.callWith_type1 (thn (ha pos pins s σ H _ I h) λ us s1 ⟨vs,H1,I1,r1,q1⟩=>?_) hs rfl));obtain ⟨j,e,q1,q2,q⟩:=q1;subst e;cases r1 with
 | cons r rr =>
  cases rr;obtain ⟨t,rfl⟩:=r;exact call_range_1 (wl1 I1 [5] [5] q1 q2 (by simpa using q))
theorem zz1 {a b:Expr} {ta:TA} {p pos:Pos} (hg:Gl X "range") (hm:X.mg "range" = none) (ha:PA X [a,b] ta) (hs:starEach [a,b] X.env=[(false,eval a X.env),(false,eval b X.env)]:=by rfl) (hs2:starEach [b] X.env=[(false,eval b X.env)]:=by rfl) :
    PI X tg (.Call (.Name "range" p) [a,b] [] pos) (iRng2 ta):=by
 intro pins s σ H R I h;refine Call_ (yo0 I hg hm boot_range (PyProof.Rows.callWith_type1 (thn (ha pos pins s σ H _ I h) λ us s1 ⟨vs,H1,I1,r1,q1⟩=>?_) (by rw [hs,hs2]) (by rw [hs2]; rfl)));obtain ⟨i,j,e,⟨q1,q2,q3,q4⟩,q⟩:=q1;subst e;cases r1 with
 | cons r rr =>
  cases rr with
  | cons r' rr =>
   cases rr;obtain ⟨t,rfl⟩:=r;obtain ⟨t',rfl⟩:=r';exact call_range_2 (wl1 I1 q1 q2 q3 q4 q)
def tFor (wi:TI) (g:TG) (tb:TS):TS:=λ D σ H=>wi σ H λ J H1=>∃ W:Nat->Nat->St->Hp->Prop,(∃ m,W 0 m σ H1) /\ ∀ i m σ H,W i m σ H ->
 (J.stop i H /\ D.nx σ H) \/ (J.go i H /\ ∃ N:St->Hp->Prop,(∀ σ' H',N σ' H'->∃ m',m' < m /\ W (i + 1) m' σ' H') /\ ∀ x H',J.yld i H x H'->g x σ H' λ σ2 H2=>tb { D with nx:=N,ct:=N,bk:=D.nx } σ2 H2)
noncomputable def sa1 (fp:List Addr) (h:Heap):List (Addr × Obj):=fp.filterMap λ b=>(h.get? b).map λ o=>(b,o)
theorem wj0 {b:Addr} {o:Obj} (hb:b ∈ fp) (e:h.get? b=some o):(b,o) ∈ sa1 fp h:=List.mem_filterMap.mpr ⟨b,hb,by rw [e]; rfl⟩
theorem xa2 {p:Addr × Obj} (hp:p ∈ sa1 fp h):p.1 ∈ fp /\ h.get? p.1=some p.2:=by
 obtain ⟨b,hb,e⟩:=List.mem_filterMap.mp hp;cases q:h.get? b with
 | none=>simp_all
 | some o =>
  rw [q] at e;have e':(b,o)=p:=Option.some.inj e;subst e';exact ⟨hb,q⟩
theorem Inv.pinned {σ:St} (I:[8]) (hf:∀ b ∈ fp,FpOk X pins H b) (ho:∀ b ∈ fp,∃ o,s.heap.get? b=some o /\ ∀ v,o.data ≠ .cell v):Inv X (pins ++ sa1 fp s.heap) σ H s :=
 I.pins_of λ p hp=>(List.mem_append.mp hp).elim (λ z=>I.pin p (mem_append_right _ z)) λ z=>by
  obtain ⟨hb,e⟩:=xa2 z;obtain ⟨f0,f1,f2,_⟩:=hf p.1 hb;obtain ⟨o,e',d⟩:=ho p.1 hb
  simp_all
theorem Inv.unpinned {pl:[18]} {σ:St} (I:Inv X (pins ++ pl) σ H s):Inv X pins σ H s:=I.pins_of λ p hp=>I.pin p (mem_append_right _ (mem_append_left _ hp))
theorem vv4 {iter:Expr} {wi:TI} {tb:TS} {pos:Pos} (hp:PassesOwn [12] X.A X.env X.xe) (hc:X.calm=true) (hi:PI X tg iter wi) (hg:PG X tg g) (hb:PSs X body tb)
    (hs:∀ x,foldedSetIterable iter X.env x=pure x:=by intro _; rfl):PS X (.For tg iter body [] pos) (tFor wi g tb):=by
 intro pins s σ H D I h;refine wpAny_For (thn (hi pins s σ H _ I h) λ v s1 h1=>thn h1 λ itv s2 h2=>?_) hs;obtain ⟨it,fp,tn,J,H2,e,I2,T,st2,f2,W,⟨m0,w0⟩,turn⟩:=h2;subst e;have stat:∀ {H':Hp},(∀ b ∈ fp,H' b=none)->∀ b ∈ fp,FpOk X pins H' b:=λ hn b hb=>⟨hn b hb,(f2 b hb).2⟩;refine codeAny_forLoop_any (λ n s'=>∃ i σ' H',Inv X pins σ' H' s' /\ tn i s'.heap /\ (∀ b ∈ fp,H' b=none) /\ W i n σ' H') ?_ m0 ⟨0,σ,H2,I2,st2,λ b hb=>(f2 b hb).1,w0⟩;rintro n s3 ⟨i,σ3,H3,I3,st3,fr3,w3⟩;rcases turn i n σ3 H3 w3 with ⟨stop,qn⟩ | ⟨go,N,hN,step⟩
 ·refine wpAny_passesOwn hp (thn (T.done X rfl rfl rfl hc i pins s3 σ3 H3 X.xe I3 (stat fr3) st3 stop) λ r s4 ⟨hr,I4⟩=>?_);subst hr;exact wpAny_execs_nil ⟨σ3,H3,I4,qn⟩
 ·refine wpAny_passesOwn hp (thn (T.item X rfl rfl rfl hc i pins s3 σ3 H3 X.xe I3 (stat fr3) st3 go) λ r s4 ⟨u,hr,h4⟩=>?_);subst hr;refine wpAny_passesOwn hp (thn h4 λ _ s5 ⟨x,H5,I5,r5,y5,st5,fr5⟩=>?_);have I5':=I5.pinned (stat fr5) (T.obj _ _ st5);refine wpAny_passesOwn hp (thn (hg _ s5 σ3 H5 x u _ I5' r5 (step x H5 y5)) λ _ s6 ⟨σ6,H6,I6,q6⟩=>?_);refine wpAny_passesOwn hp (thn (hb _ s6 σ6 H6 _ I6 q6) λ f s7 q7=>?_)
  have again:∀ {σ7:St} {H7:Hp},Inv X (pins ++ sa1 fp s5.heap) σ7 H7 s7->N σ7 H7->∃ m,m < n /\ ∃ i σ' H',Inv X pins σ' H' s7 /\ tn i s7.heap /\ (∀ b ∈ fp,H' b=none) /\ W i m σ' H':=λ {σ7 H7} I7 n7=>by
   obtain ⟨m',hm,w7⟩:=hN σ7 H7 n7;refine ⟨m',hm,i + 1,σ7,H7,I7.unpinned,T.keep _ _ _ st5 λ b hb o e=>(I7.pin (b,o) (mem_append_right _ (mem_append_right _ (wj0 hb e)))).1,λ b hb=>?_,w7⟩;obtain ⟨o,e,d⟩:=T.obj _ _ st5 b hb;exact (I7.pin (b,o) (mem_append_right _ (mem_append_right _ (wj0 hb e)))).2.1
  cases f with
  | next=>obtain ⟨σ7,H7,I7,n7⟩:=q7; exact again I7 n7
  | cont=>obtain ⟨σ7,H7,I7,n7⟩:=q7; exact again I7 n7
  | brk=>obtain ⟨σ7,H7,I7,q7⟩:=q7; exact ⟨σ7,H7,I7.unpinned,q7⟩
  | ret v=>obtain ⟨x7,σ7,H7,I7,r7,q7⟩:=q7; exact ⟨x7,σ7,H7,I7.unpinned,r7,q7⟩
end
abbrev R2:=V->V->Hp->VK->Prop
def OpR (X:Cx) (f:Value->Value->Sem Value) (r:R2):Prop :=
 ∀ (pins:[18]) (s:Shared) (σ:St) (H:Hp) (x y:V) (v u:Value) (Q:VK),Inv X pins σ H s->RelV x v->RelV y u->r x y H Q ->
  wpAny [12] X.A (f v u) (EP X pins σ Q) X.xe s
def UnR (X:Cx) (f:Value->Sem Value) (r:V->Hp->VK->Prop):Prop :=
 ∀ (pins:[18]) (s:Shared) (σ:St) (H:Hp) (x:V) (v:Value) (Q:VK),Inv X pins σ H s->RelV x v->r x H Q ->
  wpAny [12] X.A (f v) (EP X pins σ Q) X.xe s
def xt0 (X:Cx) (f:Value) (r:List V->Hp->VK->Prop):Prop :=
 ∀ (pins:[18]) (s:Shared) (σ:St) (H:Hp) (xs:List V) (us:[24]) (Q:VK),Inv X pins σ H s->Vals xs us->r xs H Q ->
  wpAny [12] X.A (call f us) (EP X pins σ Q) X.xe s
def tOp (r:R2) (ta tb:TE):TE:=λ σ H Q=>ta σ H λ x H1=>tb σ H1 λ y H2=>r x y H2 Q
def tUn (r:V->Hp->VK->Prop) (ta:TE):TE:=λ σ H Q=>ta σ H λ x H1=>r x H1 Q
def rI (C:Int->Int->Prop) (g:Int->Int->V):R2:=λ x y H Q=>∃ i j,x=.int i /\ y=.int j /\ C i j /\ Q (g i j) H
def rI0 (g:Int->Int->V):R2:=λ x y H Q=>∃ i j,x=.int i /\ y=.int j /\ Q (g i j) H
def rU (g:Int->V):V->Hp->VK->Prop:=λ x H Q=>∃ i,x=.int i /\ Q (g i) H
section
variable {a b c:Expr} {tc:TE} {pos:Pos}
theorem binT (ha:PE X a ta) (hb:PE X b tb) {σ:St} {R:V->V->Hp->Prop} (I:[8])
    (h:ta σ H λ x H1=>tb σ H1 λ y H2=>R x y H2) {f:Value->Value->Sem Value}
    (hf:∀ v u s2 x y H2,Inv X pins σ H2 s2->RelV x v->RelV y u->R x y H2->wpAny [12] X.A (f v u) Q X.xe s2) :
    wpAny [12] X.A (eval a X.env) (λ v s₁=>wpAny [12] X.A (eval b X.env) (λ u s₂=>wpAny [12] X.A (f v u) Q X.xe s₂) X.xe s₁) X.xe s:=by
 refine thn (ha pins s σ H _ I h) λ v s1 ⟨x,H1,I1,r1,q1⟩=>?_;refine thn (hb pins s1 σ H1 _ I1 q1) λ u s2 ⟨y,H2,I2,r2,q2⟩=>?_;exact hf v u s2 x y H2 I2 r1 r2 q2
theorem pe_op {op:Operator} {r:R2} (ho:OpR X (binaryOp op) r) (ha:PE X a ta) (hb:PE X b tb):PE X (.BinOp a op b pos) (tOp r ta tb):=by
 intro pins s σ H Q I h;exact wpAny_BinOp (binT ha hb I h λ v u s2 x y H2 I2 rx ry q=>ho pins s2 σ H2 x y v u Q I2 rx ry q)
theorem pe_un {op:UnaryOp} {r:V->Hp->VK->Prop} (ho:UnR X (unaryOp op) r) (ha:PE X a ta):PE X (.UnaryOp op a pos) (tUn r ta):=by
 intro pins s σ H Q I h;exact UnaryOp_ (thn (ha pins s σ H _ I h) λ v s1 ⟨x,H1,I1,r1,q1⟩=>ho pins s1 σ H1 x v Q I1 r1 q1)
theorem opI {f:Value->Value->Sem Value} {C:Int->Int->Prop} {g:Int->Int->Int}
    (rule:∀ (i j:Int) (t u:Tok) (s:Shared) (Q:[7]) (E:[7]),C i j->Q (.int (g i j) s.toks) { s with toks:=s.toks + 1 }->wpAny [12] X.A (f (.int i t) (.int j u)) Q E s) :
    OpR X f (rI C λ i j=>.int (g i j)):=by
 intro pins s σ H x y v u Q I rx ry h;obtain ⟨i,j,rfl,rfl,hc,q⟩:=h;obtain ⟨t,rfl⟩:=rx;obtain ⟨t',rfl⟩:=ry;exact rule i j t t' s _ _ hc ⟨.int (g i j),H,I.tok _,⟨_,rfl⟩,q⟩
theorem opI0 {f:Value->Value->Sem Value} {g:Int->Int->Int}
    (rule:∀ (i j:Int) (t u:Tok) (s:Shared) (Q:[7]) (E:[7]),Q (.int (g i j) s.toks) { s with toks:=s.toks + 1 }->wpAny [12] X.A (f (.int i t) (.int j u)) Q E s) :
    OpR X f (rI0 λ i j=>.int (g i j)):=by
 intro pins s σ H x y v u Q I rx ry h;obtain ⟨i,j,rfl,rfl,q⟩:=h;obtain ⟨t,rfl⟩:=rx;obtain ⟨t',rfl⟩:=ry;exact rule i j t t' s _ _ ⟨.int (g i j),H,I.tok _,⟨_,rfl⟩,q⟩
theorem opB0 {f:Value->Value->Sem Value} {g:Int->Int->Bool}
    (rule:∀ (i j:Int) (t u:Tok) (s:Shared) (Q:[7]) (E:[7]),Q (.bool (g i j)) s->wpAny [12] X.A (f (.int i t) (.int j u)) Q E s) :
    OpR X f (rI0 λ i j=>.bl (g i j)):=by
 intro pins s σ H x y v u Q I rx ry h;obtain ⟨i,j,rfl,rfl,q⟩:=h;obtain ⟨t,rfl⟩:=rx;obtain ⟨t',rfl⟩:=ry;exact rule i j t t' s _ _ ⟨.bl (g i j),H,I,rfl,q⟩
def CPow (i j:Int):Prop:=0<=j /\ j<=1000000 /\ i.natAbs < 2 ^ 64
def CMul (i j:Int):Prop:=(-(2 ^ 64) < i /\ i < 2 ^ 64) \/ (-(2 ^ 64) < j /\ j < 2 ^ 64)
theorem CMul.ok {i j:Int} (h:CMul i j):IntMulOk i j:=by
 rcases h with ⟨h1,h2⟩ | ⟨h1,h2⟩
 ·exact .of_left (intBits_le_64 h1 h2)
 ·exact .of_right (intBits_le_64 h1 h2)
theorem op_add:OpR X (binaryOp .Add) (rI0 λ i j=>.int (i + j)):=opI0 λ _ _ _ _ _ _ _ q=>add_int q
theorem sx4:OpR X (binaryOp .Sub) (rI0 λ i j=>.int (i - j)):=opI0 λ _ _ _ _ _ _ _ q=>sub_int q
theorem wy4:OpR X (binaryOp .Mod) (rI (λ _ j=>0 < j) λ i j=>.int (i % j)):=opI λ i j _ _ _ _ _ hc q=>by
 have h1:(0:Int) < j:=hc;exact mod_int' [5] (by rw [Int.fmod_eq_emod_of_nonneg i [5]]; exact q)
theorem yy4:OpR X (binaryOp .Pow) (rI CPow λ i j=>.int (i ^ j.toNat)):=opI λ _ _ _ _ _ _ _ hc q=>pow_int_small hc.1 hc.2.1 hc.2.2 q
theorem unI {f:Value->Sem Value} {g:Int->Int}
    (rule:∀ (i:Int) (t:Tok) (s:Shared) (Q:[7]) (E:[7]),Q (.int (g i) s.toks) { s with toks:=s.toks + 1 }->wpAny [12] X.A (f (.int i t)) Q E s) :
    UnR X f (rU λ i=>.int (g i)):=by
 intro pins s σ H x v Q I rx h;obtain ⟨i,rfl,q⟩:=h;obtain ⟨t,rfl⟩:=rx;exact rule i t s _ _ ⟨.int (g i),H,I.tok _,⟨_,rfl⟩,q⟩
theorem wa4:UnR X (unaryOp .USub) (rU λ i=>.int (-i)):=unI λ _ _ _ _ _ q=>neg_int q
end
noncomputable def scal:V->V->Bool
 | .non,.non=>true | .non,.int _=>true | .int _,.non=>true | .non,.bl _=>true | .bl _,.non=>true | .non,.str _=>true | .str _,.non=>true
 | .int _,.int _=>true | .bl _,.bl _=>true | .str _,.str _=>true | .byt _,.byt _=>true
 | .int _,.str _=>true | .str _,.int _=>true | .bl _,.str _=>true | .str _,.bl _=>true
 | _,_=>false
def rEq:R2:=λ x y H Q=>scal x y=true /\ Q (.bl (decide (x=y))) H
def rNe:R2:=λ x y H Q=>scal x y=true /\ Q (.bl (!decide (x=y))) H
theorem sf2 {i j:Int}:decide (V.int i=V.int j)=(i == j):=by
 rw [Bool.eq_iff_iff];simp
theorem xf3 {i j:Bool}:decide (V.bl i=V.bl j)=(i == j):=by
 rw [Bool.eq_iff_iff];simp
theorem tf2 {i j:Str}:decide (V.str i=V.str j)=(i == j):=by
 rw [Bool.eq_iff_iff];simp
theorem xg2 {i j:Array UInt8}:decide (V.byt i=V.byt j)=(i.toList == j.toList):=by
 rw [Bool.eq_iff_iff];simp
variable {us:[24]}
section
variable {a b c:Expr} {tc:TE} {pos:Pos}
theorem vb0 {σ:St} {Q:VK} {k k':Bool} (I:[8]) (q:Q (.bl k) H) (e:k=k'):EP X pins σ Q (.bool k') s:=by
 subst e;exact ⟨.bl k,H,I,rfl,q⟩
theorem op_eq:OpR X (compareOp .Eq) rEq:=by
 intro pins s σ H x y v u Q I rx ry h;obtain ⟨hs,q⟩:=h;cases x with
 | non =>
  cases rx;cases y with
  | non=>cases ry; exact PySem.EqNone.eq_none_none (vb0 I q [17])
  | bl j=>cases ry; exact PySem.EqNone.eq_none_bool (vb0 I q [17])
  | int j=>obtain ⟨t',rfl⟩:=ry; exact PySem.EqNone.eq_none_int (vb0 I q [17])
  | str j=>obtain ⟨t',rfl⟩:=ry; exact PySem.EqNone.eq_none_str (vb0 I q [17])
  | _=>trivial
 | bl i =>
  cases rx;cases y with
  | non=>cases ry; exact PySem.EqNone.eq_bool_none (vb0 I q [17])
  | bl j=>cases ry; exact eq_bool (vb0 I q xf3)
  | str j=>obtain ⟨t',rfl⟩:=ry; exact PySem.EqMixed.eq_bool_str (vb0 I q [17])
  | _=>trivial
 | int i =>
  obtain ⟨t,rfl⟩:=rx;cases y with
  | non=>cases ry; exact PySem.EqNone.eq_int_none (vb0 I q [17])
  | int j=>obtain ⟨t',rfl⟩:=ry; exact eq_int (vb0 I q sf2)
  | str j=>obtain ⟨t',rfl⟩:=ry; exact PySem.EqMixed.eq_int_str (vb0 I q [17])
  | _=>trivial
 | str i =>
  obtain ⟨t,rfl⟩:=rx;cases y with
  | non=>cases ry; exact PySem.EqNone.eq_str_none (vb0 I q [17])
  | bl j=>cases ry; exact PySem.EqMixed.eq_str_bool (vb0 I q [17])
  | int j=>obtain ⟨t',rfl⟩:=ry; exact PySem.EqMixed.eq_str_int (vb0 I q [17])
  | str j=>obtain ⟨t',rfl⟩:=ry; exact eq_str (vb0 I q tf2)
  | _=>trivial
 | byt i =>
  obtain ⟨t,rfl⟩:=rx;cases y with
  | byt j=>obtain ⟨t',rfl⟩:=ry; exact PySem.W.eq_bytes (vb0 I q xg2)
  | _=>trivial
 | _=>trivial
theorem op_ne:OpR X (compareOp .NotEq) rNe:=by
 intro pins s σ H x y v u Q I rx ry h;obtain ⟨hs,q⟩:=h;cases x with
 | non =>
  cases rx;cases y with
  | non=>cases ry; exact PySem.EqNone.ne_none_none (vb0 I q [17])
  | bl j=>cases ry; exact PySem.EqNone.ne_none_bool (vb0 I q [17])
  | int j=>obtain ⟨t',rfl⟩:=ry; exact PySem.EqNone.ne_none_int (vb0 I q [17])
  | str j=>obtain ⟨t',rfl⟩:=ry; exact PySem.EqNone.ne_none_str (vb0 I q [17])
  | _=>trivial
 | bl i =>
  cases rx;cases y with
  | non=>cases ry; exact PySem.EqNone.ne_bool_none (vb0 I q [17])
  | bl j=>cases ry; exact ne_bool (vb0 I q (congrArg not xf3))
  | str j=>obtain ⟨t',rfl⟩:=ry; exact PySem.EqMixed.ne_bool_str (vb0 I q [17])
  | _=>trivial
 | int i =>
  obtain ⟨t,rfl⟩:=rx;cases y with
  | non=>cases ry; exact PySem.EqNone.ne_int_none (vb0 I q [17])
  | int j=>obtain ⟨t',rfl⟩:=ry; exact ne_int (vb0 I q (congrArg not sf2))
  | str j=>obtain ⟨t',rfl⟩:=ry; exact PySem.EqMixed.ne_int_str (vb0 I q [17])
  | _=>trivial
 | str i =>
  obtain ⟨t,rfl⟩:=rx;cases y with
  | non=>cases ry; exact PySem.EqNone.ne_str_none (vb0 I q [17])
  | bl j=>cases ry; exact PySem.EqMixed.ne_str_bool (vb0 I q [17])
  | int j=>obtain ⟨t',rfl⟩:=ry; exact PySem.EqMixed.ne_str_int (vb0 I q [17])
  | str j=>obtain ⟨t',rfl⟩:=ry; exact ne_str (vb0 I q (congrArg not tf2))
  | _=>trivial
 | byt i =>
  obtain ⟨t,rfl⟩:=rx;cases y with
  | byt j=>obtain ⟨t',rfl⟩:=ry; exact PySem.W.ne_bytes (vb0 I q (congrArg not xg2))
  | _=>trivial
 | _=>trivial
theorem op_lt:OpR X (compareOp .Lt) (rI0 λ i j=>.bl (decide (i < j))):=opB0 λ _ _ _ _ _ _ _ q=>lt_int q
theorem op_le:OpR X (compareOp .LtE) (rI0 λ i j=>.bl (decide (i<=j))):=opB0 λ _ _ _ _ _ _ _ q=>le_int q
theorem op_gt:OpR X (compareOp .Gt) (rI0 λ i j=>.bl (decide (j < i))):=opB0 λ _ _ _ _ _ _ _ q=>gt_int q
theorem op_ge:OpR X (compareOp .GtE) (rI0 λ i j=>.bl (decide (j<=i))):=opB0 λ _ _ _ _ _ _ _ q=>ge_int q
theorem vy4:OpR X (compareOp .Is) (λ x y H Q=>y=.non /\ Q (.bl (decide (x=.non))) H):=by
 intro pins s σ H x y v u Q I rx ry h;obtain ⟨rfl,q⟩:=h;cases ry;refine is_none_gen (vb0 I q ?_)
 cases x <;> first
  | (cases rx; rfl)
  | (obtain ⟨t,rfl⟩:=rx; rfl)
theorem OpR.or {f:Value->Value->Sem Value} {r r':R2} (h:OpR X f r) (h':OpR X f r'):OpR X f (λ x y H Q=>r x y H Q \/ r' x y H Q):=by
 intro pins s σ H x y v u Q I rx ry q;rcases q with q | q
 ·exact h pins s σ H x y v u Q I rx ry q
 ·exact h' pins s σ H x y v u Q I rx ry q
theorem uc3 (b:Expr) {op:CmpOp} (h:op ≠ .In:=by decide) (h2:op ≠ .NotIn:=by decide):behindInMarks op b=false:=by
 have e1:(op == CmpOp.In)=false:=by simp_all
 have e2:(op == CmpOp.NotIn)=false:=by simp_all
 cases b <;> simp [behindInMarks,e1,e2]
theorem up3 {op:CmpOp} {r:R2} (ho:OpR X (compareOp op) r) (ha:PE X a ta) (hb:PE X b tb) (hm:behindInMarks op b=false):PE X (.Compare a [op] [b] pos) (tOp r ta tb):=by
 intro pins s σ H Q I h;exact wpAny_Compare1 (binT ha hb I h λ v u s2 x y H2 I2 rx ry q=>ho pins s2 σ H2 x y v u Q I2 rx ry q) hm
def ye4 (t:TE):TT:=λ σ H Q=>t σ H λ x H'=>∃ k,x=.bl k /\ Q k H'
theorem tn3 {op:CmpOp} {r:R2} (ho:OpR X (compareOp op) r) (ha:PE X a ta) (hb:PE X b tb) (hm:behindInMarks op b=false):PT X (.Compare a [op] [b] pos) (ye4 (tOp r ta tb)):=by
 intro pins s σ H Q I h
 refine wpAny_isTrue_Compare1 (thn (ha pins s σ H _ I h) λ v s1 ⟨x,H1,I1,r1,q1⟩=>thn (hb pins s1 σ H1 _ I1 q1) λ u s2 ⟨y,H2,I2,r2,q2⟩ =>
  thn (ho pins s2 σ H2 x y v u _ I2 r1 r2 q2) λ c s3 ⟨z,H3,I3,r3,k,e,q3⟩=>?_) hm
 subst e;cases r3;exact wpAny_truthy_bool ⟨H3,I3,q3⟩
theorem vm1:(sizeLine:Nat) < 2 ^ 63:=by trivial
theorem vp1 {x:V} (r:Vals [x] us):∃ u,us=[u] /\ RelV x u:=by
 cases r with
 | cons r1 r2=>cases r2; simp_all
theorem xt1 {x y:V} (r:Vals [x,y] us):∃ u w',us=[u,w'] /\ RelV x u /\ RelV y w':=by
 cases r with
 | cons r1 r2 =>
  cases r2 with
  | cons r3 r4=>cases r4; exact ⟨_,_,rfl,r1,r3⟩
theorem sx2:xt0 X (.builtin "abs") (λ xs H Q=>∃ i,xs=[.int i] /\ Q (.int (if i < 0 then -i else i)) H):=by
 intro pins s σ H xs us Q I r h;obtain ⟨i,rfl,q⟩:=h;obtain ⟨u,rfl,t,rfl⟩:=vp1 r;exact call_abs_int λ u tk=>⟨.int (if i < 0 then -i else i),H,I.tok _,⟨_,rfl⟩,q⟩
end
structure ObjM (h:Heap) (x dx C:Addr) (mA:Str->Option Value):Prop where
 obj:h.get? x=some (instObj C dx)
 ns:h.Ns1 dx mA
 ne:dx ≠ x
variable {dx:Addr} {mA:[28]}
theorem sa2 (n:h.Ns1 dx mA):∃ od,h.get? dx=some od /\ ∀ name,lookIn name od=some (mA name):=by
 obtain ⟨o,es,ep,ho,hd,hk,_,hm⟩:=n;refine ⟨o,ho,λ name=>?_⟩;have e:=hm name;unfold nsFind findBy at e;rw [<- Array.find?_toList] at e;unfold lookIn;rw [hd];dsimp only;split
 ·simp_all
 ·rename_i q;rw [q] at e
  have a:es.toList.any (·.refKey)=false:=by
   rw [List.any_eq_false];intro y hy;obtain ⟨z,t,hkey⟩:=hk y (Array.mem_toList_iff.mp hy);simp [DictEntry.refKey,hkey]
  simp_all
variable {C:Addr}
theorem ObjM.look {x:Addr} (I:ObjM h x dx C mA):∃ od,PySem.W.InstAt h x (instObj C dx) C (some od) /\ ∀ name,lookIn name od=some (mA name) :=
 let ⟨od,ho,hl⟩:=sa2 I.ns
 ⟨od,⟨I.obj,rfl,rfl,ho⟩,hl⟩
variable {pl:Sem Bool} {name:Str} {kw:List (Str × Value)}
section
variable {prog:Program} {w:World} {E:[7]} {x f:Addr} {v:Value}
theorem xt3 {expr:Bool} (X:K.In s.heap) (I:ObjM s.heap x dx C mA) (hg:plainGet K C name=true) (hh:hasDictIn K C=true)
    (ha:findIn K (.ref C) name=some none) (hv:mA name=some v) (hv':handedIn v=true) (h:Q v { s with toks:=s.toks + 1 }) :
    wpAny [6] A (getAttr (.ref x) name expr) Q E s:=by
 obtain ⟨od,J,hl⟩:=I.look;exact PySem.W.get_value X J (plainGet_of hg).1 (PySem.W.findObj_own hh ha rfl (by rw [hl,hv])) hv' h
theorem uw2 {Q:Value × List Value->Shared->Prop} (X:K.In s.heap) (I:ObjM s.heap x dx C mA) (hg:plainGet K C name=true)
    (hf:findIn K (.ref C) name=some (some (.ref f))) (ht:isFn K (.ref f)=true) (hv:mA name=none) (h:Q (.ref f,[.ref x]) s) :
    wpAny [6] A (getMethod (.ref x) name pl) Q E s:=by
 obtain ⟨od,J,hl⟩:=I.look;exact PySem.W.method_fn X J (plainGet_of hg).1 (plainGet_of hg).2 hf (beq_iff_eq.mp ht) (by show (lookIn name od).map (·.isSome)=some false; rw [hl,hv]; rfl) h
theorem sj3 {ns:List Str} {Q:Unit->Shared->Prop} (X:K.In s.heap) (I:ObjM s.heap x dx C mA)
    (hs:findIn K (.ref C) "__setattr__" = some (some (.builtin "object.__setattr__"))) (hp:plainOver K C=true) (ht:takerIn K C name=some none) (hh:hasDictIn K C=true)
    (hw:PySem.Within mA ns) (hsz:ns.length<=sizeLine)
    (h:∀ h',ObjM h' x dx C (λ y=>if y=name then some v else mA y)->Heap.SameBut dx s.heap h'->Q () { s with heap:=h',toks:=s.toks + 2 }) :
    wpAny [6] A (setAttr (.ref x) name v) Q E s:=by
 obtain ⟨od,J,hl⟩:=I.look;refine PySem.W.set_plain X J hs (PySem.W.osa_open (s:={ s with toks:=s.toks + 1 }) (r:=none) X J hp ht λ b=>?_);obtain ⟨cd,hc,hd'⟩:=PySem.W.any_some hh;have hx:s.heap.get? x=some ⟨.ref C,some dx,.plain,#[]⟩:=I.obj;refine wpAny_bind (wpAny_pure (wpAny_bind (wpAny_bind (wpAny_loadPart hx (wpAny_bind (PySem.W.Looks.here (s:={ s with toks:=s.toks + 1 }) (PySem.W.looks_clsIn X hc) ?_))))));rw [hd'];refine wpAny_pure (a:=some dx) (wpAny_bind (wpAny_pure (wpAny_bind ?_)));refine wpAny_nsSet1 (s:={ s with toks:=s.toks + 1 }) I.ns λ h' hn2 hs2=>?_;obtain ⟨oD,esD,epD,hoD,hdD,hcD⟩:=hn2.count (PySem.Within.cons name v hw);refine wpAny_bind (wpAny_lookBehind hoD (by rw [hdD]; exact pastItsLine_dict (Nat.le_trans hcD [26])) ?_);exact wpAny_pure (h _ ⟨(hs2.2 _ (Ne.symm I.ne)).trans I.obj,hn2,I.ne⟩ hs2)
theorem ut2 {R:Result->Shared->Prop} {vs:[24]} (X:K.In s.heap) (hm:makesIn K C=true)
    (hi:findIn K (.ref C) "__init__" = some (some (.ref f))) (hf:PySem.W.typeIn K (.ref f)=some (.type "function"))
    (h:codeAny [6] (A.under (.builtin "type.__call__" ⟨.ref C :: vs,kw⟩)) (.call (.ref f) ⟨.ref [36] :: vs,kw⟩) (PySem.W.InitBack [36] R)
     { s with heap:=(s.heap.push emptyDict).push (instObj C s.heap.objs.size) }) :
    codeAny [6] A (.call (.ref C) ⟨vs,kw⟩) R s:=by
 obtain ⟨hh,g,d,t,os⟩:=s;exact PySem.W.make_core (PySem.W.makes_of X hm) (PySem.W.looks_findIn X hi) (λ self=>PySem.W.bind_fn X self hf) (.inl rfl) h
end
noncomputable def putF (f:Str) (v:V):List (Str × V)->List (Str × V)
 | []=>[(f,v)]
 | (g,x) :: r=>if g=f then (g,v) :: r else (g,x) :: putF f v r
theorem uq0 (f g:Str) (v:V):∀ fs:List (Str × V),(putF f v fs).lookup g=if g=f then some v else fs.lookup g
 | []=>by
  show List.lookup g [(f,v)]=_;by_cases h:g=f
  ·simp_all
  simp_all
 | (k,x) :: r=>by
  have ih:=uq0 f g v r;rw [show putF f v ((k,x) :: r)=(if k=f then (k,v) :: r else (k,x) :: putF f v r) from rfl];by_cases hk:k=f
  ·rw [if_pos hk];by_cases h:g=k
   ·simp_all
   ·have hb:(g == k)=false:=beq_eq_false_iff_ne.mpr h;simp only [List.lookup,hb,if_neg (λ e:g=f=>h (e.trans hk.symm))]
  ·rw [if_neg hk];by_cases h:g=k
   ·simp_all
   ·have hb:(g == k)=false:=beq_eq_false_iff_ne.mpr h;simp only [List.lookup,hb];exact ih
theorem yr0 (f:Str) (v:V):∀ fs:List (Str × V),f ∈ (putF f v fs).map (·.1) /\ ∀ g,g ∈ fs.map (·.1)->g ∈ (putF f v fs).map (·.1)
 | []=>⟨by simp [putF],λ g h=>by simp at h⟩
 | (k,x) :: r=>by
  obtain ⟨i1,i2⟩:=yr0 f v r;rw [show putF f v ((k,x) :: r)=(if k=f then (k,v) :: r else (k,x) :: putF f v r) from rfl];by_cases hk:k=f
  ·simp_all
  ·rw [if_neg hk];refine ⟨?_,λ g h=>?_⟩
   ·simp_all
   ·rw [map_cons] at h ⊢;rcases List.mem_cons.mp h with e | e
    ·simp_all
    simp [*]
theorem xr0 (f:Str) (v:V):∀ fs:List (Str × V),(putF f v fs).length<=fs.length + 1
 | []=>by simp [putF]
 | (k,x) :: r=>by
  have ih:=xr0 f v r;rw [show putF f v ((k,x) :: r)=(if k=f then (k,v) :: r else (k,x) :: putF f v r) from rfl];by_cases hk:k=f
  ·simp_all
  simp_all
theorem RelO.some_of {v:V} {o:Option Value} (r:RelO (some v) o):∃ u,o=some u /\ RelV v u:=by
 cases o with
 | none=>trivial
 | some u=>exact ⟨u,rfl,r⟩
theorem RelO.none_of {o:Option Value} (r:RelO none o):o=none:=by
 cases o with
 | none=>rfl
 | some u=>trivial
theorem wd2 {v:V} {u:Value} (r:RelV v u):handedIn u=true:=by
 cases v with
 | non=>cases (show u=Value.none from r); rfl
 | bl b=>cases (show u=Value.bool b from r); rfl
 | int i=>obtain ⟨t,e⟩:=(show ∃ t,u=Value.int i t from r); cases e; rfl
 | str x=>obtain ⟨t,e⟩:=(show ∃ t,u=Value.str x t from r); cases e; rfl
 | byt b=>obtain ⟨t,e⟩:=(show ∃ t,u=Value.bytes b t from r); cases e; rfl
 | flt b=>obtain ⟨t,e⟩:=(show ∃ t,u=Value.float b t from r); cases e; rfl
 | ref a=>cases (show u=Value.ref a from r); rfl
 | ty n=>cases (show u=Value.type n from r); rfl
section
variable {P:Program} {w:World} {a:Addr} {fs fs':List (Str × V)}
theorem xh1 (hok:HOk P w H h) (e:H a=some (.ins C dx fs)):∃ mA,ObjM h a dx C mA /\ (∀ f,RelO (fs.lookup f) (mA f)) /\ PySem.Within mA (fs.map (·.1)) /\ fs.length<=1000 /\ H dx=some (.own a):=by
 obtain ⟨d,z,ne,ob,mA,n,r,q⟩:=(show ObjOk P w H h a (.ins C dx fs) from hok a _ e);exact ⟨mA,⟨ob,n,ne⟩,r,q,z,d⟩
end
structure Cls (K:PySem.W.Frag) (C:Addr):Prop where
 pg:plainGet K C Str.empty=true
 hd:hasDictIn K C=true
 po:plainOver K C=true
 sa:findIn K (.ref C) "__setattr__" = some (some (.builtin "object.__setattr__"))
theorem Cls.get (c:Cls K C) (f:Str):plainGet K C f=true:=c.pg
def NoAttr (K:PySem.W.Frag) (C:Addr) (f:Str):Prop:=findIn K (.ref C) f=some none
theorem NoAttr.taker {f:Str} (n:NoAttr K C f):takerIn K C f=some none:=by
 unfold takerIn;rw [show findIn K (.ref C) f=some none from n];rfl
structure Meth (K:PySem.W.Frag) (C:Addr) (m:Str) (f:Addr):Prop where
 at_:findIn K (.ref C) m=some (some (.ref f))
 fn:isFn K (.ref f)=true
 kp:keepIn K (.ref f)=true
variable {m:Str}
section
variable {σ:St} {a:Addr} {fs:List (Str × V)} {f:Str} {v:V} {E:[7]}
theorem ur1 {b:Bool} (I:[8]) (e:H a=some (.ins C dx fs)) (c:Cls X.K C) (n:NoAttr X.K C f) (l:fs.lookup f=some v)
    (h:∀ u s',Inv X pins σ H s'->RelV v u->Q u s'):wpAny [12] A (getAttr (.ref a) f b) Q E s:=by
 obtain ⟨mA,O,r,_,_,_⟩:=xh1 I.hok e;obtain ⟨u,hu,ru⟩:=RelO.some_of (v:=v) (o:=mA f) (by rw [<- l]; exact r f);exact xt3 I.kIn O (c.get f) c.hd n hu (wd2 ru) (h u _ (I.tok _) ru)
theorem vr1 {g:Addr} {Q:Value × List Value->Shared->Prop} (I:[8]) (e:H a=some (.ins C dx fs)) (c:Cls X.K C) (k:Meth X.K C m g) (l:fs.lookup m=none)
    (h:Q (.ref g,[.ref a]) s):wpAny [12] A (getMethod (.ref a) m pl) Q E s:=by
 obtain ⟨mA,O,r,_,_,_⟩:=xh1 I.hok e;have hn:mA m=none:=RelO.none_of (by rw [<- l]; exact r m);exact uw2 I.kIn O (c.get m) k.at_ k.fn hn h
theorem yq1 {y:V} {u:Value} {Q:Unit->Shared->Prop} (I:[8]) (e:H a=some (.ins C dx fs)) (c:Cls X.K C) (n:NoAttr X.K C f) (hl:fs.length < 1000) (ry:RelV y u)
    (h:∀ s',Inv X pins σ (upd H a (.ins C dx (putF f y fs))) s'->Q () s'):wpAny [12] A (setAttr (.ref a) f u) Q E s:=by
 obtain ⟨mA,O,r,wi,_,ho⟩:=xh1 I.hok e;have hz:(fs.map (·.1)).length<=sizeLine:=by rw [length_map,sizeLine_eq]; omega
 refine sj3 I.kIn O c.sa c.po n.taker c.hd wi hz λ h' O' sb=>h _ ?_;have hd:∃ o,h'.get? dx=some o:=let ⟨o,_,_,e',_⟩:=O'.ns; ⟨o,e'⟩
 refine I.write (x:=a) (e:=dx) (by rw [e]; exact True.intro) (.inr ho) (λ b q hb z=>(sb.2 b hb).trans z) hd ?_;refine ⟨by rw [xb0 O.ne]; exact ho,?_,O.ne,O'.obj,_,O'.ns,λ g=>?_,λ g hg=>?_⟩
 ·have:=xr0 f y fs; omega
 ·show RelO ((putF f y fs).lookup g) (if g=f then some u else mA g);rw [uq0];by_cases q:g=f
  ·rw [if_pos q,if_pos q]; exact ry
  simp_all
 ·by_cases q:g=f
  ·rw [q]; exact (yr0 f y fs).1
  ·refine (yr0 f y fs).2 g (wi g λ z=>hg ?_)
   simp_all
theorem Inv.made (I:[8]):Inv X pins σ (upd (upd H s.heap.objs.size (.own [36])) [36] (.ins C s.heap.objs.size []))
    { s with heap:=(s.heap.push emptyDict).push (instObj C s.heap.objs.size) }:=by
 have e1:(s.heap.push emptyDict).get? s.heap.objs.size=some emptyDict:=Heap.get?_push_size s.heap rfl
 have e2:((s.heap.push emptyDict).push (instObj C s.heap.objs.size)).get? [36]=some (instObj C s.heap.objs.size):=by
  have:=Heap.get?_push_size (s.heap.push emptyDict) (o:=instObj C s.heap.objs.size) rfl
  simp_all
 have e3:(s.heap.push emptyDict).Ns s.heap.objs.size (λ _=>none):=⟨emptyDict,#[],_,e1,rfl,(λ e he=>absurd he [17]),λ _=>rfl⟩;have I1:=I.laid (a:=s.heap.objs.size) (o:=.own [36]) (h':=s.heap.push emptyDict) (t':=s.toks) (λ b u q=>Heap.get?_push_of_some _ q) [21] ⟨_,e1⟩;refine I1.laid (a:=s.heap.objs.size + 1) (o:=.ins C s.heap.objs.size []) (t':=s.toks) (λ b u q=>Heap.get?_push_of_some _ q) (Nat.le_of_eq (Heap.size_push _ _)) ?_;have ne:s.heap.objs.size ≠ s.heap.objs.size + 1:=Nat.ne_of_lt (Nat.lt_succ_self _);refine ⟨by rw [xb0 ne,zg0],Nat.zero_le _,ne,e2,λ _=>none,(Heap.Ns1.of_empty e3).at λ o q=>Heap.get?_push_of_some _ q,λ _=>True.intro,λ y hy=>absurd rfl hy⟩
theorem tv3 {prog:Program} {w:World} {env:Env} {e:Expr} {f:Str} {pos:Pos} (hb:attributeBase e f env (eval e env)=eval e env)
    (h:wpAny [6] A (eval e env) (λ o s₁=>wpAny [6] A (getAttr o f true) Q E s₁) E s):wpAny [6] A (eval (.Attribute e f pos) env) Q E s :=
 Attribute_any_ h (by rw [arm_eval_Attribute,hb])
end
def tFld (K:PySem.W.Frag) (ta:TE) (f:Str):TE:=λ σ H Q=>ta σ H λ x H1=>∃ a C dx fs v,x=.ref a /\ H1 a=some (.ins C dx fs) /\ Cls K C /\ NoAttr K C f /\ fs.lookup f=some v /\ Q v H1
def sFld (K:PySem.W.Frag) (ta tv:TE) (f:Str):TS:=λ D σ H=>tv σ H λ y H1=>ta σ H1 λ x H2=>∃ a C dx fs,x=.ref a /\ H2 a=some (.ins C dx fs) /\ Cls K C /\ NoAttr K C f /\ fs.length < 1000 ∧
 D.nx σ (upd H2 a (.ins C dx (putF f y fs)))
section
variable {o e value:Expr} {f:Str} {pos tpos:Pos} {tv:TE}
theorem zx4 (he:PE X e ta) (hb:attributeBase e f X.env (eval e X.env)=eval e X.env):PE X (.Attribute e f pos) (tFld X.K ta f):=by
 intro pins s σ H Q I h;refine tv3 hb (thn (he pins s σ H _ I h) λ u s1 ⟨x,H1,I1,rx,a,C,dx,fs,v,ex,ea,c,n,l,q⟩=>?_);subst ex;obtain rfl:u=Value.ref a:=rx;exact ur1 I1 ea c n l λ u' s2 I2 ru=>⟨v,H1,I2,ru,q⟩
theorem uv4 (ha:PE X o ta) (hv:PE X value tv) (hs:swapsWith value (some (.Attribute o f pos')) pos.line X.env=pure false):PS X (.Assign [.Attribute o f pos'] value pos) (sFld X.K ta tv f):=by
 intro pins s σ H D I h;refine plainObj_wpAny_Assign_Attribute (thn (hv pins s σ H _ I h) λ u s1 ⟨y,H1,I1,ry,q⟩=>thn (ha pins s1 σ H1 _ I1 q) λ ov s2 ⟨x,H2,I2,rx,a,C,dx,fs,ex,ea,c,n,l,q2⟩=>?_) hs;subst ex;obtain rfl:ov=Value.ref a:=rx;exact yq1 I2 ea c n l ry λ s3 I3=>⟨σ,_,I3,q2⟩
end
section
variable {σ:St} {E:[7]} {c:Value} {b:Bool}
inductive TyOf (K:PySem.W.Frag) (H:Hp):V->Value->Prop where
 | non:TyOf K H .non (.type "NoneType")
 | bl (x:Bool):TyOf K H (.bl x) (.type "bool")
 | int (i:Int):TyOf K H (.int i) (.type "int")
 | str (x:Str):TyOf K H (.str x) (.type "str")
 | flt (x:UInt64):TyOf K H (.flt x) (.type "float")
 | lst {a:Addr} {xs:List V} (e:H a=some (.lst xs)):TyOf K H (.ref a) (.type "list")
 | frz {a:Addr} {o:Obj} {xs:List V} (e:H a=some (.frz o (.lst xs))):TyOf K H (.ref a) (.type "list")
 | tup {a:Addr} {xs:List V} (e:H a=some (.tup xs)):TyOf K H (.ref a) (.type "tuple")
 | dK {a:Addr} {kvs:List (Key × V)} (e:H a=some (.dK kvs)):TyOf K H (.ref a) (.type "dict")
 | dT {a:Addr} {kvs:List (List Key × V)} {ne:Nat} (e:H a=some (.dT kvs ne)):TyOf K H (.ref a) (.type "dict")
 | ins {a C dx:Addr} {fs:List (Str × V)} (e:H a=some (.ins C dx fs)) (cl:Cls K C) (ha:findIn K (.ref C) "__class__" = some (some (.builtin "object.__class__")))
     (hn:PySem.W.specialIn K (.builtin "object.__class__") "__get__" = some (some (.builtin "getset_descriptor.__get__"))) (htk:PySem.W.takesIn K (.builtin "object.__class__")=some true)
     (hm:PySem.W.mroIn K C (.type "object")=some true):TyOf K H (.ref a) (.ref C)
end
structure Room (k:Nat) (A:Around):Prop where
 hd:A.handled=none
 dp:A.depth + 3 * k + 5 < recursionLimit
 un:A.units + 16 * k + 200 < cLine
theorem Room.mono {j k:Nat} (r:Room k A) (h:j<=k):Room j A:=⟨r.hd,by have:=r.dp; omega,by have:=r.un; omega⟩
theorem Room.deeper {k:Nat} {A:Around} (r:Room (k + 1) A) (env:Env):Room k (A.deeper env) :=
 ⟨r.hd,by have:=r.dp; show A.depth + 1 + 3 * k + 5 < _; omega,by have:=r.un; simp_all;omega⟩
theorem yr1:(A.under (.builtin "type.__call__" ⟨.ref C :: us,kw⟩)).depth=A.depth + 1:=by
 rfl
theorem xr1:(A.under (.builtin "type.__call__" ⟨.ref C :: us,kw⟩)).units=A.units + 1:=by
 rfl
theorem Room.make {k:Nat} (r:Room (k + 1) A) (C:Addr) (us:[24]) (kw:List (Str × Value)):Room k (A.under (.builtin "type.__call__" ⟨.ref C :: us,kw⟩)) :=
 ⟨r.hd,by have:=r.dp; rw [yr1]; omega,by have:=r.un; rw [xr1]; omega⟩
theorem Room.depth {k:Nat} {A:Around} (r:Room k A):A.depth < recursionLimit:=by have:=r.dp; omega
def tNil:TA:=λ _ H Q=>Q [] H
def uh5 (ta:TE) (tr:TA):TA:=λ σ H Q=>ta σ H λ x H1=>tr σ H1 λ xs H2=>Q (x :: xs) H2
section
variable {e:Expr} {t:TA} {pos:Pos}
theorem tx4:PA X [] tNil:=λ _ _ _ _ H Q I h=>Calls.spliced_nil ⟨[],H,I,.nil,h⟩
theorem zq3 (ha:PE X e te) (hr:PA X es t) (hs:starEach (e :: es) X.env=[34] :: starEach es X.env:=by rfl):PA X (e :: es) (uh5 te t):=by
 intro pos pins s σ H Q I h;rw [hs];show wpAny _ _ (spliced ([34] :: backTo pos (starEach es X.env))) _ _ s;refine Calls.spliced_cons (thn (ha pins s σ H _ I h) λ u s1 ⟨x,H1,I1,r1,q1⟩=>?_);exact thn (hr pos pins s1 σ H1 _ I1 q1) λ us s2 ⟨xs,H2,I2,r2,q2⟩=>⟨x :: xs,H2,I2,.cons r1 r2,q2⟩
def tTup (t:TA):TE:=λ σ H Q=>t σ H λ xs H1=>xs.length<=sizeLine /\ ∀ p,H1 p=none->Q (.ref p) (upd H1 p (.tup xs))
def tLst (t:TA):TE:=λ σ H Q=>t σ H λ xs H1=>xs.length<=sizeLine /\ ∀ p,H1 p=none->Q (.ref p) (upd H1 p (.lst xs))
theorem vw4 {x1} (h:PA X es t):PE X (.Tuple es x1 pos) (tTup t):=by
 intro pins s σ H Q I hq;refine wpAny_Tuple_spliced (thn (h pos pins s σ H _ I hq) λ us s1 ⟨xs,H1,I1,r,z,q⟩=>⟨by rw [<- r.length]; exact z,?_⟩);have hf:H1 s1.heap.objs.size=none:=I1.hok.fresh [21];refine ⟨.ref s1.heap.objs.size,upd H1 s1.heap.objs.size (.tup xs),I1.laid (t':=s1.toks) (λ b u e=>Heap.get?_push_of_some _ e) [21] ?_,rfl,q _ hf⟩;exact ⟨z,us,r,⟨_,Heap.get?_push_size _ rfl,rfl,_,rfl⟩⟩
theorem xx4 (h:PA X es t):PE X (.List es pos) (tLst t):=by
 intro pins s σ H Q I hq;refine wpAny_List_spliced (thn (h pos pins s σ H _ I hq) λ us s1 ⟨xs,H1,I1,r,z,q⟩=>⟨by rw [<- r.length]; exact z,?_⟩);have hf:H1 s1.heap.objs.size=none:=I1.hok.fresh [21];refine ⟨.ref s1.heap.objs.size,upd H1 s1.heap.objs.size (.lst xs),I1.laid (t':=s1.toks) (λ b u e=>Heap.get?_push_of_some _ e) [21] ?_,rfl,q _ hf⟩;exact ⟨z,us,0,r,Heap.get?_push_size _ rfl⟩
end
abbrev Sp:=List V->Hp->VK->XK->Prop
abbrev CXT:=List Env->Hp->Shared->XK->Value->Shared->Prop
structure Env0 (P:Program) (w:World) (K:PySem.W.Frag) (mg:Str->Option Value) (base:Heap) (A:Around) (outer:List Env) (s:Shared) (H:Hp):Prop where
 frames:A.frames=some outer
 mod:Mod K mg base
 bs:∀ b o,base.get? b=some o->s.heap.get? b=some o /\ H b=none
 bsz:base.objs.size<=s.heap.objs.size
 funs:s.heap.FunFrames base outer
 frf:∀ b ∈ frs outer,H b=none
 hok:HOk P w H s.heap
 bare:AllBare s.gens
def CE (outer:List Env) (P:Program) (w:World) (H:Hp) (s:Shared) (Q:VK) (u:Value) (s':Shared):Prop :=
 ∃ v H',s'.os=s.os /\ AllBare s'.gens /\ Un (frs outer) [] H H' s.heap s'.heap /\ HOk P w H' s'.heap /\ RelV v u /\ Q v H'
def CR (CX:CXT) (outer:List Env) (P:Program) (w:World) (H:Hp) (s:Shared) (Q:VK) (E:XK) (r:Result) (s':Shared):Prop :=
 match r with
 | .ok (.ret u)=>CE outer P w H s Q u s'
 | .ok _=>False
 | .error e=>CX outer H s E e s'
structure FnOk (P:Program) (w:World) (K:PySem.W.Frag) (mg:Str->Option Value) (base:Heap) (CX:CXT) (k:Nat) (f:Addr) (fd:FuncData) (ps:List Str) (sp:Sp):Prop where
 len:∀ vs H Q E,sp vs H Q E->vs.length=ps.length
 run:∀ (A:Around) (outer:List Env) (s:Shared) (H:Hp) (args:Args) (us:List Value) (vs:List V) (Q:VK) (E:XK),Room k A->Env0 P w K mg base A outer s H->BindsTo s fd args (ps.zip us)->Vals vs us->sp vs H Q E ->
  codeAny (model P w) A (.call (.ref f) args) (CR CX outer P w H s Q E) s
theorem FnOk.mono {P:Program} {w:World} {K:PySem.W.Frag} {mg:[28]} {base:Heap} {CX:CXT} {j k:Nat} {f:Addr} {fd:FuncData} {ps:List Str} {sp:Sp} (F:FnOk P w K mg base CX j f fd ps sp) (h:j<=k) :
    FnOk P w K mg base CX k f fd ps sp:=⟨F.len,λ A outer s H args us vs Q E hr=>F.run A outer s H args us vs Q E (hr.mono h)⟩
variable {mg:[28]} {base:Heap} {outer:List Env}
theorem Env0.make {P:Program} {w:World} (e:Env0 P w K mg base A outer s H) (C:Addr) (us:[24]) (kw:List (Str × Value)) :
    Env0 P w K mg base (A.under (.builtin "type.__call__" ⟨.ref C :: us,kw⟩)) outer s H:=⟨by first | exact e.frames | (simpa [Around.under,Code.envs,Code.isFrame,pushEnvs] using e.frames),e.mod,e.bs,e.bsz,e.funs,e.frf,e.hok,e.bare⟩
section
variable {σ:St} 
theorem Inv.env0 (I:[8]):Env0 X.prog X.w X.K X.mg X.base X.A X.stack s H :=
 ⟨I.ok.frames,I.ok.mod,I.bs,Nat.le_trans I.ok.bsz I.sz,I.stack,I.stkFree,I.hok,I.bare⟩
theorem Inv.after {Q:VK} {u:Value} (I:[8]) (h:CE X.stack X.prog X.w H s Q u s'):EP X pins σ Q u s':=by
 obtain ⟨v,H',os,bare,un,hok,r,q⟩:=h;obtain ⟨hh,g,d,t,os'⟩:=s';obtain rfl:os'=s.os:=os;exact ⟨v,H',I.call (h':=hh) (g':=g) (d':=d) (t':=t) (ch:=[]) un hok bare (λ b z=>absurd z [17]),r,q⟩
end
def th5 (sp:Sp) (dvs:List V) (E:XK) (t:TA):TE:=λ σ H Q=>t σ H λ vs H1=>sp (vs ++ dvs) H1 Q E
def yh5 (C:Addr) (m:Str) (sp:Sp) (dvs:List V) (E:XK) (ta:TE) (t:TA):TE:=λ σ H Q=>ta σ H λ x H1=>∃ a dx fs,x=.ref a /\ H1 a=some (.ins C dx fs) /\ fs.lookup m=none ∧
 t σ H1 λ vs H2=>sp (x :: (vs ++ dvs)) H2 Q E
def zh5 (C:Addr) (sp:Sp) (dvs:List V) (E:XK) (t:TA):TE:=λ σ H Q=>t σ H λ vs H1=>∀ x dx,H1 x=none->H1 dx=none->dx ≠ x ->
 sp (.ref x :: (vs ++ dvs)) (upd (upd H1 dx (.own x)) x (.ins C dx [])) (λ v H2=>v=.non /\ Q (.ref x) H2) E
def Binds (K:PySem.W.Frag) (fd:FuncData) (ps:List Str) (ds:[24]):Prop :=
 ∀ (s:Shared) (us:[24]),K.In s.heap->(us ++ ds).length=ps.length->BindsTo s fd ⟨us,[]⟩ (ps.zip (us ++ ds))
variable {fd:FuncData} {ps:List Str}
theorem Binds.all (h:∀ us:List Value,us.length=ps.length->bindArgs fd ⟨us,[]⟩=pure (ps.zip us)):Binds K fd ps []:=λ s us _ hl=>by
 rw [append_nil] at hl ⊢;exact .of_eq (h us hl)
def yv0 (CX:CXT) (X:Cx) (E:XK):Prop:=∀ (pins:[18]) (σ:St) (H:Hp) (s:Shared) (e:Value) (s':Shared),Inv X pins σ H s->CX X.stack H s E e s'->X.xe e s'
variable {vs:List V} {CX:CXT} {sp:Sp}
section
variable {k:Nat} {f:Addr} {dvs:List V} {ds:[24]} {E:XK} {x:Str} {p pos apos:Pos} {e o:Expr} {t:TA}
theorem yc3 {σ:St} {Q:VK} (F:FnOk X.prog X.w X.K X.mg X.base CX k f fd ps sp) (hr:Room k X.A) (hb:Binds X.K fd ps ds) (hd:Vals dvs ds) (hx:yv0 CX X E)
    (I:[8]) (r:Vals vs us) (h:sp (vs ++ dvs) H Q E):wpAny [12] X.A (call (.ref f) us) (EP X pins σ Q) X.xe s:=by
 have r2:Vals (vs ++ dvs) (us ++ ds):=r.append hd;have hl:(us ++ ds).length=ps.length:=by rw [<- r2.length]; exact F.len _ _ _ _ h
 refine wpAny_call (codeAny_mono (F.run X.A X.stack s H ⟨us,[]⟩ (us ++ ds) (vs ++ dvs) Q E hr I.env0 (hb s us I.kIn hl) r2 h) λ r s' hq=>?_);cases r with
 | error e=>exact hx pins σ H s e s' I hq
 | ok fl =>
  cases fl with
  | ret u=>exact I.after hq
  | next=>exact False.elim hq
  | brk=>exact False.elim hq
  | cont=>exact False.elim hq
theorem tp3 (F:FnOk X.prog X.w X.K X.mg X.base CX k f fd ps sp) (hr:Room k X.A) (hg:Gl X x) (hm:X.mg x=some (.ref f)) (hk:keepIn X.K (.ref f)=true) (hb:Binds X.K fd ps ds) (hd:Vals dvs ds) (hx:yv0 CX X E)
    (ha:PA X (e :: es) t) (hdb:[30]=false:=by decide) (he:starEach (e :: es) X.env=[34] :: starEach es X.env:=by rfl) (hpl:(backTo pos (starEach es X.env)).any (·.1)=false:=by rfl) :
    PE X (.Call (.Name x p) (e :: es) [] pos) (th5 sp dvs E t):=by
 intro pins s σ H Q I h;refine wpAny_Call_Name_kw (ug1 I hg hm ?_ hdb);refine callWith_K (h₀:=X.base) I.ok.mod.kin hk (thn (ha pos pins s σ H _ I h) λ us s1 ⟨vs,H1,I1,r,q⟩=>⟨I1.kIn,?_⟩) he hpl;exact yc3 F hr hb hd hx I1 r q
theorem zp3 (he:PE X o ta) (c:Cls X.K C) (hm:Meth X.K C m f) (F:FnOk X.prog X.w X.K X.mg X.base CX k f fd ps sp) (hr:Room k X.A) (hb:Binds X.K fd ps ds) (hd:Vals dvs ds) (hx:yv0 CX X E) (ha:PA X (e :: es) t)
    (hst:starEach (e :: es) X.env=[34] :: starEach es X.env:=by rfl) (hpl:(backTo pos (starEach es X.env)).any (·.1)=false:=by rfl)
    (ht:eval (.Call (.Attribute o m apos) (e :: es) [] pos) X.env=(do
     let ov <- eval o X.env
     standAt apos.atName
     let (f,first) <- holding [ov] (getMethod ov m pl)
     callWith pos f first (backTo pos (starEach (e :: es) X.env)) (backToKw pos (keywordEach [] X.env))):=by rfl) :
    PE X (.Call (.Attribute o m apos) (e :: es) [] pos) (yh5 C m sp dvs E ta t):=by
 intro pins s σ H Q I h;refine PySem.W.methodCall_KW (pl:=pl) (thn (he pins s σ H _ I h) λ u s1 ⟨x,H1,I1,rx,a,dx,fs,ex,ea,l,q⟩=>?_) ht;subst ex;obtain rfl:u=Value.ref a:=rx;refine vr1 I1 ea c hm l ?_;refine callWith_K (first:=[.ref a]) (h₀:=X.base) I.ok.mod.kin hm.kp (thn (ha pos pins s1 σ H1 _ I1 q) λ us s2 ⟨vs,H2,I2,r,q2⟩=>⟨I2.kIn,?_⟩) hst hpl;exact yc3 (us:=.ref a :: us) (vs:=.ref a :: vs) F hr hb hd hx I2 (.cons rfl r) q2
structure Mk (K:PySem.W.Frag) (C f:Addr):Prop where
 makes:makesIn K C=true
 init:findIn K (.ref C) "__init__" = some (some (.ref f))
 fn:isFn K (.ref f)=true
 kp:keepIn K (.ref C)=true
theorem yp2 {σ:St} {Q:VK} (M:Mk X.K C f) (F:FnOk X.prog X.w X.K X.mg X.base CX k f fd ps sp) (hr:Room (k + 1) X.A) (hb:Binds X.K fd ps ds) (hd:Vals dvs ds)
    (hx:yv0 CX X E) (I:[8]) (r:Vals vs us)
    (h:∀ x dx,H x=none->H dx=none->dx ≠ x->sp (.ref x :: (vs ++ dvs)) (upd (upd H dx (.own x)) x (.ins C dx [])) (λ v H2=>v=.non /\ Q (.ref x) H2) E) :
    wpAny [12] X.A (call (.ref C) us) (EP X pins σ Q) X.xe s:=by
 have hq:=h [36] s.heap.objs.size (I.hok.fresh (Nat.le_succ _)) (I.hok.fresh [21]) (Nat.ne_of_lt (Nat.lt_succ_self _));have I2:=Inv.made (C:=C) I;have r2:Vals (V.ref [36] :: (vs ++ dvs)) (Value.ref [36] :: (us ++ ds)):=.cons rfl (r.append hd)
 have hl:(Value.ref [36] :: us ++ ds).length=ps.length:=by
  have e:=r2.length;rw [F.len _ _ _ _ hq] at e;exact e.symm
 refine wpAny_call (ut2 (f:=f) I.kIn M.makes M.init (beq_iff_eq.mp M.fn) (codeAny_mono (F.run _ X.stack _ _ ⟨Value.ref [36] :: us,[]⟩ (Value.ref [36] :: (us ++ ds)) _ _ E (hr.make C us [])
  (I2.env0.make C us []) (hb _ (Value.ref [36] :: us) I2.kIn hl) r2 hq) λ r s' hq'=>?_))
 cases r with
 | error e=>exact hx pins σ _ _ e s' I2 hq'
 | ok fl =>
  cases fl with
  | ret u =>
   obtain ⟨v,H',I3,rv,ev,q3⟩:=I2.after hq';subst ev;exact ⟨rv,⟨V.ref [36],H',I3,rfl,q3⟩⟩
  | next=>assumption
  | brk=>assumption
  | cont=>assumption
theorem zs2 (M:Mk X.K C f) (F:FnOk X.prog X.w X.K X.mg X.base CX k f fd ps sp) (hr:Room (k + 1) X.A) (hg:Gl X x) (hm:X.mg x=some (.ref C)) (hb:Binds X.K fd ps ds) (hd:Vals dvs ds) (hx:yv0 CX X E)
    (hdb:[30]=false:=by decide):PE X (.Call (.Name x p) [] [] pos) (zh5 C sp dvs E tNil):=by
 intro pins s σ H Q I h;refine wpAny_Call_Name_kw (ug1 I hg hm ?_ hdb);exact PySem.W.callWith_K0 I.kIn M.kp (yp2 (us:=[]) M F hr hb hd hx I .nil h)
end
structure FnScope (N P:List Str) (sc:Scope):Prop where
 kind:sc.kind=.function
 co:sc.isCoroutine=false
 gen:sc.isGenerator=false
 nd:N.Nodup
 pre:N.take P.length=P
 par:∀ x ∈ P,sc.names.lookup x=some .local \/ sc.names.lookup x=some .cell
 nofree:∀ y ∈ sc.names,y.2 ≠ .free
theorem sd1 {kindOf:Str->Option NameKind} {x:Str}:∀ {binds:List (Str × Value)} {m:[28]},(∀ v,(x,v) ∉ binds)->bindL kindOf binds m x=m x
 | [],_,_=>rfl
 | (n,v) :: r,m,h=>by
  unfold bindL;rw [sd1 λ w hw=>h w (mem_cons_of_mem _ hw)];split
  ·have:x ≠ n:=by rintro rfl; exact h v mem_cons_self
   simp [this]
  ·rfl
theorem ye1 {kindOf:Str->Option NameKind} {x:Str}:∀ {binds:List (Str × Value)} {m:[28]},(∀ v,(x,v) ∉ binds)->bindC kindOf binds m x=m x
 | [],_,_=>rfl
 | (n,v) :: r,m,h=>by
  unfold bindC;rw [ye1 λ w hw=>h w (mem_cons_of_mem _ hw)];split
  ·rfl
  ·have:x ≠ n:=by rintro rfl; exact h v mem_cons_self
   simp [this]
theorem xe1 {kindOf:Str->Option NameKind} {x:Str} {v:Value}:∀ {P:List Str} {vs:[24]} {i:Nat} {m:[28]},P.Nodup->P[i]?=some x->vs[i]?=some v->kindOf x=some .local ->
    bindL kindOf (P.zip vs) m x=some v
 | [],_,_,_,_,h,_,_=>by simp at h
 | _ :: _,[],_,_,_,_,h,_=>by simp at h
 | p :: P,w :: vs,0,m,nd,h1,h2,hk=>by
  simp at h1 h2; subst h1; subst h2;show bindL kindOf ((p,w) :: P.zip vs) m p=_;unfold bindL;rw [sd1 λ v hv=>(List.nodup_cons.mp nd).1 (List.of_mem_zip hv).1,if_pos hk];simp
 | p :: P,w :: vs,i + 1,m,nd,h1,h2,hk=>by
  show bindL kindOf ((p,w) :: P.zip vs) m x=_;unfold bindL;exact xe1 (i:=i) (List.nodup_cons.mp nd).2 (by simpa using h1) (by simpa using h2) hk
theorem ze1 {kindOf:Str->Option NameKind} {x:Str} {v:Value}:∀ {P:List Str} {vs:[24]} {i:Nat} {m:[28]},P.Nodup->P[i]?=some x->vs[i]?=some v->kindOf x ≠ some .local ->
    bindC kindOf (P.zip vs) m x=some v
 | [],_,_,_,_,h,_,_=>by simp at h
 | _ :: _,[],_,_,_,_,h,_=>by simp at h
 | p :: P,w :: vs,0,m,nd,h1,h2,hk=>by
  simp at h1 h2; subst h1; subst h2;show bindC kindOf ((p,w) :: P.zip vs) m p=_;unfold bindC;rw [ye1 λ v hv=>(List.nodup_cons.mp nd).1 (List.of_mem_zip hv).1,if_neg hk];simp
 | p :: P,w :: vs,i + 1,m,nd,h1,h2,hk=>by
  show bindC kindOf ((p,w) :: P.zip vs) m x=_;unfold bindC;exact ze1 (i:=i) (List.nodup_cons.mp nd).2 (by simpa using h1) (by simpa using h2) hk
noncomputable def start (N:List Str) (vs:List V):St:=vs.map some ++ List.replicate (N.length - vs.length) none
noncomputable def cxOf (CX:CXT) (P:Program) (w:World) (K:PySem.W.Frag) (mg:[28]) (base:Heap) (N:List Str) (qual:Str) (scope:Scope) (f:Addr) (cd:Value) (A:Around) (outer:List Env) (s:Shared) (H:Hp) (E:XK):Cx where
 prog:=P
 w:=w
 K:=K
 mg:=mg
 base:=base
 A:=A.deeper (envOfC qual scope s.heap.objs.size f cd)
 N:=N
 s₀:=s
 H₀:=H
 env:=envOfC qual scope s.heap.objs.size f cd
 outer:=outer
 stack:=envOfC qual scope s.heap.objs.size f cd :: outer
 ex:=[]
 calm:=true
 fn:=λ _=>true
 pn:=[]
 xe:=λ e s'=>wpAny (model P w) (A.deeper (envOfC qual scope s.heap.objs.size f cd)) (leaving (envOfC qual scope s.heap.objs.size f cd) e) (λ _ s''=>CX outer H s E e s'') (λ e' s''=>CX outer H s E e' s'') s'
theorem yy0 {sc:Scope} {x:Str} (h:sc.names.lookup x=some .cell):∃ c,(cellsFrom n sc.names []).lookup x=some c:=by
 have q:=cellsFrom_some sc.names n [] (.inl h);exact Option.isSome_iff_exists.mp q
variable {qual:Str} {scope:Scope}
theorem vc2 {P:Program} {w:World} {f:Addr} {cd:Value} {s1:Shared} {E:XK} 
    (S:FnScope N ps scope) (hd:A.handled=none) (e0:Env0 P w K mg base A outer s H) (hl:vs.length=ps.length) (r:Vals vs us)
    (x:InCallC s s.heap.objs.size (bindL (envOfC qual scope s.heap.objs.size f cd).kindOf (ps.zip us) λ _=>none) (cellsFrom [36] scope.names []) (bindC (envOfC qual scope s.heap.objs.size f cd).kindOf (ps.zip us) λ _=>none) s1) :
    Inv (cxOf CX P w K mg base N qual scope f cd A outer s H E) [] (start N vs) H s1:=by
 have hpl:ps.length<=N.length:=by have:=congrArg List.length S.pre; simp_all;omega
 obtain ⟨h1,tk,rfl,hk⟩:=x.done;have noA:∀ b:Addr,b ∉ (cxOf CX P w K mg base N qual scope f cd A outer s H E).ex:=λ b z=>absurd (show b ∈ ([]:List Addr) from z) [17]
 refine ⟨⟨e0.mod,S.kind,rfl,rfl,Nat.le_refl _,λ y z c h1 h2=>?_,λ y hy=>?_,λ y c _ h=>?_,λ _=>hd,Around.frames_deeper e0.frames,.inr ⟨rfl,rfl⟩,λ b z=>absurd z (noA b),e0.bs,e0.bsz,λ b _ _=>noA b,λ b z=>absurd z (noA b),e0.funs,e0.frf⟩,
  rfl,e0.bare,Un.kept hk,⟨_,x.toInCall.ns,λ i y v h1 h2 h3=>?_⟩,λ y c h=>⟨_,x.cell y c h⟩,e0.hok.fresh [21],λ y c h=>?_,λ p hp=>absurd (show p ∈ ([]:List (Addr × Obj)) from hp) [17],e0.hok.kept hk,?_⟩
 ·exact name_of_addr x.apart (PySem.mem_of_lookup h1) (PySem.mem_of_lookup h2)
 ·have hy:scope.names.lookup y=some .cell \/ scope.names.lookup y=some .free:=hy;rcases hy with hy | hy
  ·exact yy0 hy
  ·exact absurd rfl (S.nofree _ (PySem.mem_of_lookup hy))
 ·exact Nat.le_of_lt (x.above y c (PySem.mem_of_lookup h))
 ·have hi:i < vs.length:=by
    unfold start at h2;by_cases hi:i < vs.length
    ·exact hi
    ·rw [getElem?_append_right (by simpa using hi)] at h2;rw [List.getElem?_replicate] at h2
     simp_all
  have ha:vs[i]?=some v:=by
   unfold start at h2;rw [getElem?_append_left (by simpa using hi),getElem?_map] at h2
   simp_all
  obtain ⟨u,hu,rv⟩:=r.get ha
  have hp:ps[i]?=some y:=by
   rw [<- S.pre,getElem?_take_of_lt [5]]; exact h1
  have ndP:ps.Nodup:=by rw [<- S.pre]; exact S.nd.sublist (take_sublist _ _)
  refine ⟨u,rv,?_⟩;rcases S.par y (mem_of_getElem? hp) with k | k
  ·exact .inl ⟨k,xe1 ndP hp hu k⟩
  ·obtain ⟨c,e⟩:=yy0 (n:=s.heap.objs.size + 1) k;refine .inr ⟨.inl k,c,e,?_⟩;have q:=x.cell y c e;rw [ze1 ndP hp hu (by show scope.names.lookup y ≠ _; rw [k]; decide)] at q;exact q
 ·exact e0.hok.fresh (Nat.le_of_lt (x.above y c (PySem.mem_of_lookup h)))
 ·unfold start;show _=N.length
  simp_all
theorem fn_of {P:Program} {w:World} {k:Nat} {f:Addr} {params:Arguments} {dV kV doc pm cdv ct oc:Value} {an od:Option Addr}
    {osl:Array (Option Value)} (lk:K.lookup f=some ⟨oc,od,.func (fnOf name qual params body scope dV kV doc pm an cdv ct),osl⟩) (hcd:codeIn K cdv qual=true) (S:FnScope N ps scope)
    (len:∀ vs H Q E,sp vs H Q E->vs.length=ps.length)
    (hbody:∀ (A:Around) (outer:List Env) (s:Shared) (H:Hp) (vs:List V) (Q:VK) (E:XK),Room k (A.deeper (envOfC qual scope s.heap.objs.size f cdv))->sp vs H Q E ->
     ∃ t,PSs (cxOf CX P w K mg base N qual scope f cdv A outer s H E) body t /\ t { nx:=λ _ H'=>Q .non H',rt:=Q } (start N vs) H) :
    FnOk P w K mg base CX (k + 1) f (fnOf name qual params body scope dV kV doc pm an cdv ct) ps sp:=by
 refine ⟨len,λ A outer s H args us vs Q E hr e0 hb r hsp=>?_⟩;have hl:=len _ _ _ _ hsp;have KX:K.In s.heap:=e0.mod.kin.keeps λ b o e=>(e0.bs b o e).1;have lim:s.heap.NoLimit:=e0.mod.nolimit.keeps λ b o e=>(e0.bs b o e).1
 have hkind:∀ y ∈ ps.zip us,scope.names.lookup y.1=some .local \/ (scope.names.lookup y.1=some .cell /\ ((cellsFrom [36] scope.names []).lookup y.1).isSome=true):=λ ⟨n,v⟩ hy=>by
  rcases S.par n (List.of_mem_zip hy).1 with q | q
  ·exact .inl q
  ·exact .inr ⟨q,cellsFrom_some _ _ _ (.inl q)⟩
 refine codeAny_call_function hr.depth (KX _ _ lk) rfl S.co S.gen rfl (PySem.W.codeRec_of KX hcd) (hb _ _ _ _ ?_);refine wpAny_newFunctionEnv_cells S.kind hkind λ env he s1 x=>?_;subst he;refine ⟨lim.keeps x.toInCall.keep,codeAny_func ?_⟩;obtain ⟨t,ht,hq⟩:=hbody A outer s H vs Q E (hr.deeper _) hsp;have I:Inv (cxOf CX P w K mg base N qual scope f cdv A outer s H E) [] (start N vs) H s1:=vc2 S hr.hd e0 hl r x;refine wpAny_mono (ht [] s1 (start N vs) H _ I hq) (λ fl s' hs=>?_) λ e s' hs=>hs
 have fin:∀ {σ':St} {H':Hp} {v:V} {u:Value},Inv (cxOf CX P w K mg base N qual scope f cdv A outer s H E) [] σ' H' s'->RelV v u->Q v H'->CE outer P w H s Q u s' :=
  λ {σ' H' v u} J rv q=>⟨v,H',J.os,J.bare,J.base,J.hok,rv,q⟩
 cases fl with
 | ret u =>
  obtain ⟨v,σ',H',J,rv,q⟩:=hs;exact fin J rv q
 | next =>
  obtain ⟨σ',H',J,q⟩:=hs;exact fin (v:=V.non) (u:=Value.none) J rfl q
 | brk =>
  obtain ⟨_,_,_,q⟩:=hs;exact False.elim q
 | cont =>
  obtain ⟨_,_,_,q⟩:=hs;exact False.elim q
section
variable {x:Str} {p pos:Pos} {e:Expr} {t:TA} {id T:String} {r:List V->Hp->VK->Prop}
def tCB (r:List V->Hp->VK->Prop) (t:TA):TE:=λ σ H Q=>t σ H λ vs H1=>r vs H1 Q
theorem ss2 (hc:xt0 X (.builtin id) r) (hg:Gl X x) (hm:X.mg x=none) (hv:bootBuiltins x=some (.builtin id)) (ha:PA X (e :: es) t) (hn:x ≠ "__name__" := by decide) (hdb:[30]=false:=by decide)
    (he:starEach (e :: es) X.env=[34] :: starEach es X.env:=by rfl) (hpl:(backTo pos (starEach es X.env)).any (·.1)=false:=by rfl):PE X (.Call (.Name x p) (e :: es) [] pos) (tCB r t):=by
 intro pins s σ H Q I h;refine wpAny_Call_Name_kw (yo0 I hg hm hv ?_ hn hdb);exact PyProof.Rows.callWith_builtin1 (thn (ha pos pins s σ H _ I h) λ us s1 ⟨vs,H1,I1,r1,q1⟩=>hc pins s1 σ H1 vs us Q I1 r1 q1) he hpl
theorem tz1 (hc:xt0 X (.type T) r) (hg:Gl X x) (hm:X.mg x=none) (hv:bootBuiltins x=some (.type T)) (ha:PA X (e :: es) t) (hn:x ≠ "__name__" := by decide) (hdb:[30]=false:=by decide)
    (he:starEach (e :: es) X.env=[34] :: starEach es X.env:=by rfl) (hpl:(backTo pos (starEach es X.env)).any (·.1)=false:=by rfl):PE X (.Call (.Name x p) (e :: es) [] pos) (tCB r t):=by
 intro pins s σ H Q I h;refine wpAny_Call_Name_kw (yo0 I hg hm hv ?_ hn hdb);exact PyProof.Rows.callWith_type1 (thn (ha pos pins s σ H _ I h) λ us s1 ⟨vs,H1,I1,r1,q1⟩=>hc pins s1 σ H1 vs us Q I1 r1 q1) he hpl
end
end L2
namespace HT
open PySem PyProof.Rows
section
variable {prog:Program} {w:World} {A:Around} {E:[7]} {s:Shared}
theorem cat_tup {t b:Addr} {vs ws:[24]} {Q:[7]} (ht:IsTup s.heap t vs.toArray) (hb:IsTup s.heap b ws.toArray) (hv:vs ≠ [])
    (h1:ws=[]->Q (.ref t) s) (h2:ws ≠ []->Q (.ref s.heap.objs.size) { s with heap:=s.heap.push { cls:=.type "tuple",data:=.seq (vs ++ ws).toArray } })
    (hsz:vs.length + ws.length<=sizeLine):wpAny [6] A (binaryOp .Add (.ref t) (.ref b)) Q E s:=by
 obtain ⟨⟨cls,dd,data,sl⟩,ho,hc,n,hd⟩:=id ht;obtain ⟨⟨cls2,dd2,data2,sl2⟩,ho2,hc2,n2,hd2⟩:=id hb;simp only at hc hd hc2 hd2;subst hc hd hc2 hd2;have e:vs.toArray ++ ws.toArray=(vs ++ ws).toArray:=by simp
 by_cases hw:ws=[]
 ·exact concat_meets ⟨_,ho,rfl⟩ ⟨_,ho2,rfl⟩ noFill_tuple_add seq_tuple_add slot_tuple_add entry_tuple_add (args_tuple_add_2 _ _)
    (tuple_addW1 t b vs.toArray ws.toArray n n2 dd dd2 sl sl2 (by simpa using hv) (by simp [hw])) ⟨ho,ho2,h1 hw⟩
 ·refine concat_meets ⟨_,ho,rfl⟩ ⟨_,ho2,rfl⟩ noFill_tuple_add seq_tuple_add slot_tuple_add entry_tuple_add (args_tuple_add_2 _ _)
    (tuple_addW2 t b vs.toArray ws.toArray n n2 dd dd2 sl sl2 (by simpa using hv) (by simpa using hw) [5]) ⟨ho,ho2,?_⟩
  simp_all
noncomputable def sIx (n d:Nat):Option Int->Nat
 | none=>d
 | some v=>if v < 0 then (v + (n:Int)).toNat else min v.toNat n
end
end HT
namespace L2
open PySem PySem.Spec PyProof.Rows
abbrev TO:=St->Hp->(Option Int->Hp->Prop)->Prop
def PO (X:Cx) (e:Option Expr) (t:TO):Prop :=
 ∀ (pins:[18]) (s:Shared) (σ:St) (H:Hp) (Q:Option Int->Hp->Prop),Inv X pins σ H s->t σ H Q ->
  wpAny [12] X.A (evalPart e X.env) (λ u s'=>∃ o H',Inv X pins σ H' s' /\ IsPart u o /\ Q o H') X.xe s
def uh3:TO:=λ _ H Q=>Q none H
def sg5 (t:TE):TO:=λ σ H Q=>t σ H λ x H1=>∃ i,x=.int i /\ Q (some i) H1
theorem wr1 {ns:List Int}:∀ {us:[24]},Vals (ns.map V.int) us->IntsAre us ns:=by
 induction ns with
 | nil=>intro us r; rw [map_nil] at r; cases r; exact .nil
 | cons n ns ih =>
  intro us r;rw [map_cons] at r;cases r with
  | cons r1 r2 =>
   obtain ⟨t,e⟩:=r1;subst e;exact .cons n t (ih r2)
variable {X:Cx} {e:Expr} {xs:List V}
section
variable {te:TE} {lo hi:Option Expr} {tl th:TO} {pos p2:Pos}
theorem vo3:PO X none uh3:=by
 intro pins s σ H Q I h;rw [evalPart_none];exact wpAny_pure ⟨none,H,I,.none,h⟩
theorem wo3 (h:PE X e te):PO X (some e) (sg5 te):=by
 intro pins s σ H Q I hw;rw [evalPart_some];refine thn (h pins s σ H _ I hw) λ u s1 ⟨x,H1,I1,r1,q1⟩=>?_;obtain ⟨i,rfl,q⟩:=q1;obtain ⟨t,rfl⟩:=r1;exact ⟨some i,H1,I1,.int i t,q⟩
def SlR (X:Cx) (r:V->Option Int->Option Int->Hp->VK->Prop):Prop :=
 ∀ (pins:[18]) (s:Shared) (σ:St) (H:Hp) (x:V) (v vl vu:Value) (lo hi:Option Int) (sl:Addr) (Q:VK),Inv X pins σ H s->RelV x v->s.heap.IsSliceOf sl vl vu .none->IsPart vl lo->IsPart vu hi->r x lo hi H Q ->
  ∃ T id,typeLookup (.type T) "__getitem__" = pure (some (.builtin id)) /\ s.TypeIs v T /\ wpAny [12] X.A (getItem v (.ref sl)) (EP X pins σ Q) X.xe s
def tSl (r:V->Option Int->Option Int->Hp->VK->Prop) (te:TE) (tl th:TO):TE:=λ σ H Q=>te σ H λ x H1=>tl σ H1 λ l H2=>th σ H2 λ u H3=>r x l u H3 Q
theorem ys2 {r:V->Option Int->Option Int->Hp->VK->Prop} (hr:SlR X r) (he:PE X e te) (hl:PO X lo tl) (hu:PO X hi th):PE X (.Subscript e (.Slice lo hi none p2) pos) (tSl r te tl th):=by
 intro pins s σ H Q I h;refine Subscript_ (thn (he pins s σ H _ I h) λ v s1 ⟨x,H1,I1,r1,q1⟩=>?_);refine wpAny_Slice (thn (hl pins s1 σ H1 _ I1 q1) λ vl s2 ⟨l,H2,I2,pl,q2⟩=>thn (hu pins s2 σ H2 _ I2 q2) λ vu s3 ⟨u,H3,I3,pu,q3⟩=>?_);rw [evalPart_none];refine wpAny_pure ?_;have I4:Inv X pins σ H3 { s3 with heap:=s3.heap.push { cls:=.type "slice",data:=.fields #[vl,vu,.none] } }:=I3.kept (t':=s3.toks) λ b ob q=>Heap.get?_push_of_some _ q;obtain ⟨T,id,hT,ht,hg⟩:=hr pins { s3 with heap:=s3.heap.push { cls:=.type "slice",data:=.fields #[vl,vu,.none] } } σ H3 x v vl vu l u s3.heap.objs.size Q I4 r1 (Heap.IsSliceOf.new ..) pl pu q3;show wpAny [12] X.A (subscriptTail e (.Slice lo hi none p2) v (.ref s3.heap.objs.size)) (EP X pins σ Q) X.xe { s3 with heap:=s3.heap.push { cls:=.type "slice",data:=.fields #[vl,vu,.none] } };exact tail_any (ops:=[.ref s3.heap.objs.size,v]) ht hT hg (by rfl)
noncomputable def cutV (xs:List V) (lo hi:Option Int):List V:=(xs.drop (HT.sIx xs.length 0 lo)).take (HT.sIx xs.length xs.length hi - HT.sIx xs.length 0 lo)
theorem yi1 (xs:List V) (lo hi:Option Int):(cutV xs lo hi).length<=xs.length:=by
 unfold cutV
 simp_all;omega
def rCatT (K:PySem.W.Frag):R2:=λ x y H Q=>∃ a b xs ys,x=.ref a /\ y=.ref b /\ SqT K H a xs /\ SqT K H b ys /\ xs ≠ [] /\ xs.length + ys.length<=sizeLine ∧
 (ys=[]->Q (.ref a) H) /\ (ys ≠ []->∀ p,H p=none->Q (.ref p) (upd H p (.tup (xs ++ ys))))
theorem Vals.nil_iff {us:[24]} (r:Vals xs us):us=[] ↔ xs=[]:=by
 cases r with
 | nil=>simp
 | cons _ _=>simp
theorem wq3:OpR X (binaryOp .Add) (rCatT X.K):=by
 intro pins s σ H x y v u Q I rx ry h;obtain ⟨a,b,xs,ys,rfl,rfl,ha,hb,hx,hz,q1,q2⟩:=h;cases rx;cases ry;obtain ⟨its,r1,p1,_⟩:=I.tuple ha;obtain ⟨its2,r2,p2,_⟩:=I.tuple hb;refine HT.cat_tup p1 p2 (λ z=>hx (r1.nil_iff.mp z)) (λ z=>⟨.ref a,H,I,rfl,q1 (r2.nil_iff.mp z)⟩) (λ z=>?_) (by rw [<- r1.length,<- r2.length]; exact hz);refine ⟨.ref s.heap.objs.size,_,I.laid (t':=s.toks) (o:=.tup (xs ++ ys)) (λ b ob q=>Heap.get?_push_of_some _ q) [21] ?_,rfl,q2 (λ w=>z (r2.nil_iff.mpr w)) _ (I.hok.fresh [21])⟩;exact ⟨by simp_all,_,r1.append r2,IsTup.new _ _⟩
end
noncomputable def ixN (n:Nat) (i:Int):Option Nat:=if 0<=i then (if i < n then some i.toNat else none) else if -(n:Int)<=i then some (i + n).toNat else none
noncomputable def atI {α:Type} (xs:List α) (i:Int):Option α:=(ixN xs.length i).bind λ j=>xs[j]?
variable {n:Nat} {i:Int}
theorem xc2 {j:Nat} (h:ixN n i=some j):seqIndex? i n=some j /\ j < n /\ -(n:Int)<=i /\ i < n:=by
 unfold ixN at h;by_cases h0:0<=i
 ·rw [if_pos h0] at h;by_cases h1:i < n
  ·rw [if_pos h1] at h;have e:i.toNat=j:=Option.some.inj h;exact ⟨by rw [seqIndex_of h0 h1,e],by omega,by omega,h1⟩
  simp_all
 ·rw [if_neg h0] at h;by_cases h1 : -(n:Int)<=i
  ·rw [if_pos h1] at h;have e:(i + n).toNat=j:=Option.some.inj h;exact ⟨by rw [seqIndex_neg [5] h1,e],by omega,h1,by omega⟩
  simp_all
theorem xi2 {α:Type} {xs:List α} {v:α} (h:atI xs i=some v):∃ j,seqIndex? i xs.length=some j /\ xs[j]?=some v /\ j < xs.length /\ -(xs.length:Int)<=i /\ i < xs.length:=by
 unfold atI at h;cases e:ixN xs.length i with
 | none=>simp_all
 | some j =>
  rw [e] at h;obtain ⟨h1,h2,h3,h4⟩:=xc2 e
  simp_all
def yi2 (b:Expr):Prop:=∀ o i,subscripted b false o i=operate [o,i] (getItem o i)
def IxR (X:Cx) (r:R2):Prop :=
 ∀ (value slice:Expr) (pins:[18]) (s:Shared) (σ:St) (H:Hp) (x y:V) (v u:Value) (Q:VK),Inv X pins σ H s->RelV x v->RelV y u->r x y H Q ->
  subscripted slice false v u=operate [v,u] (getItem v u)->wpAny [12] X.A (subscriptTail value slice v u) (EP X pins σ Q) X.xe s
def MtR (X:Cx) (id:String) (r:V->List V->Hp->VK->Prop):Prop :=
 ∀ (pins:[18]) (s:Shared) (σ:St) (H:Hp) (x:V) (xs:List V) (v:Value) (us:[24]) (Q:VK),Inv X pins σ H s->RelV x v->Vals xs us->r x xs H Q ->
  wpAny [12] X.A (call (.builtin id) (v :: us)) (EP X pins σ Q) X.xe s
variable {pins:[18]} {σ:St} {H:Hp} {s:Shared} {its:[24]} {x:V} {u v:Value} {T:String}
section
variable {a b:Expr} {ta tb:TE} {pos:Pos}
theorem IxR.or {r r':R2} (h:IxR X r) (h':IxR X r'):IxR X (λ x y H Q=>r x y H Q \/ r' x y H Q):=by
 intro value slice pins s σ H x y v u Q I rx ry q hs;rcases q with q | q
 ·exact h value slice pins s σ H x y v u Q I rx ry q hs
 ·exact h' value slice pins s σ H x y v u Q I rx ry q hs
theorem pe_ix {r:R2} (hr:IxR X r) (ha:PE X a ta) (hb:PE X b tb) (hs:yi2 b):PE X (.Subscript a b pos) (tOp r ta tb):=by
 intro pins s σ H Q I h;exact Subscript_ (binT ha hb I h λ v u s2 x y H2 I2 rx ry q=>hr a b pins s2 σ H2 x y v u Q I2 rx ry q (hs _ _))
def rIxL (K:PySem.W.Frag):R2:=λ x y H Q=>∃ p xs i v,x=.ref p /\ y=.int i /\ SqL K H p xs /\ atI xs i=some v /\ Q v H
def rIxT (K:PySem.W.Frag):R2:=λ x y H Q=>∃ p xs i v,x=.ref p /\ y=.int i /\ SqT K H p xs /\ atI xs i=some v /\ Q v H
def rIxS:R2:=λ x y H Q=>∃ z i c,x=.str z /\ y=.int i /\ z.length<=sizeLine /\ atI z.cps.toList i=some c /\ Q (.str ⟨#[c]⟩) H
theorem ix_list:IxR X (rIxL X.K):=by
 intro value slice pins s σ H x y v u Q I rx ry h hs;obtain ⟨p,xs,i,z,rfl,rfl,hq,he,q⟩:=h;cases rx;obtain ⟨t,rfl⟩:=ry;obtain ⟨its,r,pl,hz⟩:=I.list hq;obtain ⟨j,h1,h2,h3,h4,h5⟩:=xi2 he;obtain ⟨w,ew,rw'⟩:=r.get h2;have hl:=r.length;have hn:=vm1;have fin:EP X pins σ Q w s:=⟨z,H,I,rw',q⟩;by_cases h0:0<=i
 ·have hj:i.toNat=j:=by
    rw [seqIndex_of h0 h5] at h1
    simp_all
  exact item_listR pl.isList h0 [5] [26] fin hs
 ·have hj:(i + (its.toArray.size:Int)).toNat=j:=by
    rw [seqIndex_neg [5] h4] at h1
    simp_all
  exact subscriptTail_builtinR (x:=w) pl.isList.typeIs slot_list_getitem.lookup
   (wpAny_getItem_list_neg (Q:=λ r s'=>r=w /\ EP X pins σ Q r s') pl.isList [5] [26] [5] [26] ⟨rfl,fin⟩) hs
theorem vb5:IxR X (rIxT X.K):=by
 intro value slice pins s σ H x y v u Q I rx ry h hs;obtain ⟨p,xs,i,z,rfl,rfl,hq,he,q⟩:=h;cases rx;obtain ⟨t,rfl⟩:=ry;obtain ⟨its,r,pl,hz⟩:=I.tuple hq;obtain ⟨j,h1,h2,h3,h4,h5⟩:=xi2 he;obtain ⟨w,ew,rw'⟩:=r.get h2;have hl:=r.length;have hn:=vm1;have fin:EP X pins σ Q w s:=⟨z,H,I,rw',q⟩
 exact subscriptTail_builtinR (x:=w) pl.typeIs slot_tuple_getitem.lookup
  (getItem_tuple (j:=j) (Q:=λ r s'=>r=w /\ EP X pins σ Q r s') pl [5] [5] [26] (by simpa using ew) ⟨rfl,fin⟩) hs
def rIx (K:PySem.W.Frag):R2:=λ x y H Q=>rIxL K x y H Q \/ rIxT K x y H Q \/ rIxS x y H Q
theorem tq1 (its:[24]) (n j:Nat) (u:Value):Obj.mapSeq (·.setIfInBounds j u) { cls:=.type "list",data:=.seq its.toArray n }={ cls:=.type "list",data:=.seq (its.set j u).toArray n }:=by
 simp [Obj.mapSeq]
theorem Inv.lst {p:Addr} (I:[8]) (h:H p=some (.lst xs)) :
    ∃ (its:[24]) (n:Nat),Vals xs its /\ s.heap.get? p=some { cls:=.type "list",data:=.seq its.toArray n } /\ xs.length<=sizeLine:=by
 obtain ⟨z,its,n,r,e⟩:=I.hok p _ h
 simp_all
theorem Inv.lstUpd {p:Addr} {ys:List V} {its':[24]} {n':Nat} {f:Obj->Obj} (I:[8]) (h:H p=some (.lst xs))
    (ho:s.heap.get? p=some { cls:=.type "list",data:=.seq its.toArray n }) (hf:f { cls:=.type "list",data:=.seq its.toArray n }={ cls:=.type "list",data:=.seq its'.toArray n' }) (r:Vals ys its') (hz:ys.length<=sizeLine) (t:Nat) :
    Inv X pins σ (upd H p (.lst ys)) { s with heap:=s.heap.update p f,toks:=t }:=by
 have e:(s.heap.update p f).get? p=some { cls:=.type "list",data:=.seq its'.toArray n' }:=by
  rw [Heap.get?_update_self f ho (by rw [hf] <;> rfl),hf]
 refine I.write (x:=p) (e:=p) (by rw [h]; trivial) (.inl rfl) (λ b u hb q=>(Heap.get?_update_other _ _ (Ne.symm hb)).trans q) ⟨_,e⟩ ?_;exact ⟨hz,its',n',r,e⟩
def rSetL:V->V->V->Hp->(Hp->Prop)->Prop:=λ o i v H Q=>∃ p xs k j,o=.ref p /\ i=.int k /\ H p=some (.lst xs) /\ ixN xs.length k=some j /\ Q (upd H p (.lst (xs.set j v)))
theorem zw0:PSet X rSetL:=by
 intro pins s σ H o i v ov iv u Q I ro ri rv h;obtain ⟨p,xs,k,j,rfl,rfl,hp,hj,q⟩:=h;cases ro;obtain ⟨t,rfl⟩:=ri;obtain ⟨its,n,r,ho,hz⟩:=I.lst hp;obtain ⟨h1,h2,h3,h4⟩:=xc2 hj;have hl:=r.length;have hn:=vm1
 have I':Inv X pins σ (upd H p (.lst (xs.set j v))) { s with heap:=s.heap.update p (Obj.mapSeq (·.setIfInBounds j u)) } :=
  I.lstUpd hp ho (tq1 its n j u) (r.set rv j) [26] s.toks
 by_cases h0:0<=k
 ·have hk:k.toNat=j:=by
    rw [seqIndex_of h0 h4] at h1
    simp_all
  exact PySem.W.ki_setAt ho h0 [5] [26] (by rw [hk]; exact ⟨_,I',q⟩)
 ·have hk:(k + (its.toArray.size:Int)).toNat=j:=by
    rw [seqIndex_neg [5] h3] at h1
    simp_all
  exact PySem.W.ki_setBack ho [5] [26] [5] (by rw [hk]; exact ⟨_,I',q⟩)
theorem sz0 (lo hi:Option Int) (n:Nat):(sliceBounds lo hi none n).1=((HT.sIx n 0 lo:Nat):Int) /\ (sliceBounds lo hi none n).2.1=((HT.sIx n n hi:Nat):Int) /\ (sliceBounds lo hi none n).2.2=1:=by
 refine ⟨?_,?_,rfl⟩
 ·cases lo with
  | none=>rfl
  | some i =>
   simp only [sliceBounds,HT.sIx,Option.getD_none,show (1:Int) > 0 by decide,if_true];by_cases h:i < 0
   ·simp_all;omega
   ·simp only [h,if_false] <;> omega
 ·cases hi with
  | none=>rfl
  | some i =>
   simp only [sliceBounds,HT.sIx,Option.getD_none,show (1:Int) > 0 by decide,if_true];by_cases h:i < 0
   ·simp_all;omega
   ·simp only [h,if_false] <;> omega
theorem yw0 (its:[24]) (lo hi:Option Int):slicePick its.toArray lo hi none=((its.drop (HT.sIx its.length 0 lo)).take (HT.sIx its.length its.length hi - HT.sIx its.length 0 lo)).toArray:=by
 obtain ⟨h1,h2,h3⟩:=sz0 lo hi its.toArray.size;unfold slicePick;rw [h1,h2,h3];simp only [sliceRange_one,pick_run,List.size_toArray] <;> rfl
def rSlL (K:PySem.W.Frag):V->Option Int->Option Int->Hp->VK->Prop:=λ x lo hi H Q=>∃ a xs,x=.ref a /\ SqL K H a xs /\ ∀ p,H p=none->Q (.ref p) (upd H p (.lst (cutV xs lo hi)))
theorem wj3:SlR X (rSlL X.K):=by
 intro pins s σ H x v vl vu lo hi sl Q I rx hs pl pu h;obtain ⟨a,xs,rfl,hx,q⟩:=h;cases rx;obtain ⟨its,r,ht,hz⟩:=I.list hx;have hlen:=r.length;refine ⟨"list",_,slot_list_getitem.lookup,ht.isList.typeIs,?_⟩;refine wpAny_getItem_list_slice ht.isList hs pl pu .none [17] ?_ [26];rw [yw0,<- hlen];refine ⟨.ref s.heap.objs.size,_,I.laid (t':=s.toks) (o:=.lst (cutV xs lo hi)) (λ b ob q=>Heap.get?_push_of_some _ q) [21] ?_,rfl,q _ (I.hok.fresh [21])⟩;exact ⟨Nat.le_trans (yi1 xs lo hi) hz,_,0,(r.drop (HT.sIx xs.length 0 lo)).take (HT.sIx xs.length xs.length hi - HT.sIx xs.length 0 lo),Heap.get?_push_size _ rfl⟩
noncomputable def ux0:V->Bool
 | .non=>true
 | .bl _=>true
 | .int _=>true
 | .str _=>true
 | _=>false
noncomputable def eqV:V->V->Bool
 | .non,.non=>true
 | .bl a,.bl b=>a == b
 | .bl a,.int b=>(if a then 1 else 0) == b
 | .int a,.bl b=>a == (if b then 1 else 0)
 | .int a,.int b=>a == b
 | .str a,.str b=>a == b
 | _,_=>false
theorem yd5 {A:Around} {y:V} (ry:RelV y u) (rx:RelV x v) (fy:ux0 y=true) (fx:ux0 x=true):SeqAt.EqAt A s u v (eqV y x):=by
 cases y with
 | non =>
  cases ry;cases x with
  | non=>cases rx; exact SeqAt.EqAt.same _
  | bl b=>cases rx; exact SeqAt.EqAt.none_bool b
  | int b=>obtain ⟨t,rfl⟩:=rx; exact SeqAt.EqAt.none_int b t
  | str b=>obtain ⟨t,rfl⟩:=rx; exact SeqAt.EqAt.none_str b t
  | _=>trivial
 | bl a =>
  cases ry;cases x with
  | non=>cases rx; exact SeqAt.EqAt.bool_none a
  | bl b=>cases rx; exact SeqAt.EqAt.bool_bool a b
  | int b=>obtain ⟨t,rfl⟩:=rx; exact SeqAt.EqAt.bool_int a b t
  | str b=>obtain ⟨t,rfl⟩:=rx; exact SeqAt.EqAt.bool_str a b t
  | _=>trivial
 | int a =>
  obtain ⟨t',rfl⟩:=ry;cases x with
  | non=>cases rx; exact SeqAt.EqAt.int_none a t'
  | bl b=>cases rx; exact SeqAt.EqAt.int_bool a t' b
  | int b=>obtain ⟨t,rfl⟩:=rx; exact SeqAt.EqAt.int_int a t' b t
  | str b=>obtain ⟨t,rfl⟩:=rx; exact SeqAt.EqAt.int_str a t' b t
  | _=>trivial
 | str a =>
  obtain ⟨t',rfl⟩:=ry;cases x with
  | non=>cases rx; exact SeqAt.EqAt.str_none a t'
  | bl b=>cases rx; exact SeqAt.EqAt.str_bool a t' b
  | int b=>obtain ⟨t,rfl⟩:=rx; exact SeqAt.EqAt.str_int a t' b t
  | str b=>obtain ⟨t,rfl⟩:=rx; exact SeqAt.EqAt.str_str a t' b t
  | _=>trivial
 | _=>trivial
noncomputable def eqU (x:V) (u:Value):Bool:=match u with
 | .none=>eqV .non x
 | .bool b=>eqV (.bl b) x
 | .int i _=>eqV (.int i) x
 | .str z _=>eqV (.str z) x
 | _=>false
theorem se3 {y:V} (r:RelV y u) (f:ux0 y=true):eqU x u=eqV y x:=by
 cases y with
 | non=>cases r; rfl
 | bl b=>cases r; rfl
 | int i=>obtain ⟨t,rfl⟩:=r; rfl
 | str z=>obtain ⟨t,rfl⟩:=r; rfl
 | _=>trivial
theorem ts0 {x:V}:∀ {xs:List V} {us:[24]},Vals xs us->xs.all ux0=true->us.any (eqU x)=xs.any λ y=>eqV y x
 | _,_,.nil,_=>rfl
 | y :: xs,u :: us,.cons r t,f=>by
  rw [List.all_cons,Bool.and_eq_true] at f;rw [any_cons,any_cons,se3 r f.1,ts0 t f.2]
theorem tl0 {A:Around} {s:Shared} {x:V} {v:Value} (rx:RelV x v) (fx:ux0 x=true):∀ {xs:List V} {us:[24]},Vals xs us->xs.all ux0=true->∀ u ∈ us,SeqAt.EqAt A s u v (eqU x u)
 | _,_,.nil,_=>λ u hu=>by cases hu
 | y :: xs,u :: us,.cons r t,f=>λ u' hu=>by
  rw [List.all_cons,Bool.and_eq_true] at f;rcases List.mem_cons.mp hu with rfl | hu
  ·rw [se3 r f.1]; exact yd5 r rx f.1 fx
  ·exact tl0 rx fx t f.2 u' hu
def inV (x:V) (xs:List V):Bool:=xs.any λ y=>eqV y x
def rIn (K:PySem.W.Frag) (neg:Bool):R2:=λ x y H Q=>∃ p xs,y=.ref p /\ (SqL K H p xs \/ SqT K H p xs) /\ ux0 x=true /\ xs.all ux0=true /\ Q (.bl (if neg then !inV x xs else inV x xs)) H
theorem op_in_seq:OpR X (compareOp .In) (rIn X.K false):=by
 intro pins s σ H x y v u Q I rx ry h;obtain ⟨p,xs,rfl,hq,fx,fs,q⟩:=h;cases ry;rcases hq with hq | hq
 ·obtain ⟨its,r,pl,hz⟩:=I.list hq;refine SeqAt.in_listAt (eqU x) pl.isList (λ w hw=>tl0 rx fx r fs w (by simpa using hw)) ⟨.bl _,H,I,rfl,?_⟩;rw [show its.toArray.any (eqU x)=its.any (eqU x) by simp,ts0 r fs];exact q
 ·obtain ⟨its,r,pl,hz⟩:=I.tuple hq;refine SeqAt.in_tupleAt (eqU x) pl (λ w hw=>tl0 rx fx r fs w (by simpa using hw)) ⟨.bl _,H,I,rfl,?_⟩;rw [show its.toArray.any (eqU x)=its.any (eqU x) by simp,ts0 r fs];exact q
theorem op_notIn_seq:OpR X (compareOp .NotIn) (rIn X.K true):=by
 intro pins s σ H x y v u Q I rx ry h;obtain ⟨p,xs,rfl,hq,fx,fs,q⟩:=h;cases ry;rcases hq with hq | hq
 ·obtain ⟨its,r,pl,hz⟩:=I.list hq;refine SeqAt.notIn_listAt (eqU x) pl.isList (λ w hw=>tl0 rx fx r fs w (by simpa using hw)) ⟨.bl _,H,I,rfl,?_⟩;rw [show its.toArray.any (eqU x)=its.any (eqU x) by simp,ts0 r fs];exact q
 ·obtain ⟨its,r,pl,hz⟩:=I.tuple hq;refine SeqAt.notIn_tupleAt (eqU x) pl (λ w hw=>tl0 rx fx r fs w (by simpa using hw)) ⟨.bl _,H,I,rfl,?_⟩;rw [show its.toArray.any (eqU x)=its.any (eqU x) by simp,ts0 r fs];exact q
theorem td1:xt0 X (.builtin "len") (λ xs H Q=>∃ p ys,xs=[.ref p] /\ (SqL X.K H p ys \/ SqT X.K H p ys) /\ Q (.int ys.length) H):=by
 intro pins s σ H xs us Q I r h;obtain ⟨p,ys,rfl,hq,q⟩:=h;obtain ⟨u,rfl,rx⟩:=vp1 r;cases rx;have hn:=vm1;rcases hq with hq | hq
 ·obtain ⟨its,r',pl,hz⟩:=I.list hq;have hlen:=r'.length;exact Calls.call_len_list pl.isList [20] ⟨.int ys.length,H,I.tok _,⟨s.toks + 1,by simp_all⟩,q⟩
 ·obtain ⟨its,r',pl,hz⟩:=I.tuple hq;have hlen:=r'.length;exact len_tuple pl [20] ⟨.int ys.length,H,I.tok _,⟨s.toks + 1,by simp_all⟩,q⟩
theorem ud1:xt0 X (.type "list") (λ xs H Q=>∃ p ys,xs=[.ref p] /\ (SqL X.K H p ys \/ SqT X.K H p ys) /\ ∀ l,H l=none->Q (.ref l) (upd H l (.lst ys))):=by
 intro pins s σ H xs us Q I r h;obtain ⟨p,ys,rfl,hq,q⟩:=h;obtain ⟨u,rfl,rx⟩:=vp1 r;cases rx
 have fin:∀ (its:[24]),Vals ys its->ys.length<=sizeLine->∀ (h':Heap) (c':Nat),(∀ b o',s.heap.get? b=some o'->h'.get? b=some o') ->
     h'.get? s.heap.objs.size=some { cls:=.type "list",dict:=none,data:=.seq its.toArray c',slots:=#[] }->EP X pins σ Q (.ref s.heap.objs.size) { s with heap:=h' }:=λ its r' hz h' c' kp e =>
  ⟨.ref s.heap.objs.size,_,I.laid (t':=s.toks) kp [21] (show ObjOk X.prog X.w _ h' _ (.lst ys) from ⟨hz,its,c',r',e⟩),rfl,q _ (I.hok.fresh [21])⟩
 rcases hq with hq | hq
 ·obtain ⟨its,r',pl,hz⟩:=I.list hq;have hlen:=r'.length;obtain ⟨o,ho,hc,n,hd⟩:=pl.isList;exact call_list_seq p (.inl rfl) ho hc hd (λ h' c' kp e=>fin its r' hz h' c' kp e) [26]
 ·obtain ⟨its,r',pl,hz⟩:=I.tuple hq;have hlen:=r'.length;obtain ⟨o,ho,hc,n,hd⟩:=pl;exact call_list_seq p (.inr rfl) ho hc hd (λ h' c' kp e=>fin its r' hz h' c' kp e) [26]
theorem zy0:xt0 X (.type "tuple") (λ xs H Q=>∃ p ys,xs=[.ref p] /\ ((SqL X.K H p ys /\ ∀ l,H l=none->Q (.ref l) (upd H l (.tup ys))) \/ (SqT X.K H p ys /\ Q (.ref p) H))):=by
 intro pins s σ H xs us Q I r h;obtain ⟨p,ys,rfl,h⟩:=h;obtain ⟨u,rfl,rx⟩:=vp1 r;cases rx;rcases h with ⟨hq,q⟩ | ⟨hq,q⟩
 ·obtain ⟨its,r',pl,hz⟩:=I.list hq;have hlen:=r'.length;refine call_tuple_list pl.isList (λ h' kp=>?_) [26];have I1:Inv X pins σ H { s with heap:=h' }:=I.kept (t':=s.toks) kp
  have I2:Inv X pins σ (upd H h'.objs.size (.tup ys)) { s with heap:=h'.push { cls:=.type "tuple",data:=.seq its.toArray } } :=
   I1.laid (t':=s.toks) (λ b o e=>Heap.get?_push_of_some _ e) [21] (show ObjOk X.prog X.w _ _ _ (.tup ys) from ⟨hz,its,r',IsTup.new _ _⟩)
  exact ⟨.ref h'.objs.size,_,I2,rfl,q _ (I1.hok.fresh [21])⟩
 ·obtain ⟨its,r',pl,hz⟩:=I.tuple hq;exact call_tuple_same pl ⟨.ref p,H,I,rfl,q⟩
def tyV (K:PySem.W.Frag) (T:String) (x:V) (H:Hp):Prop:=match x with
 | .str _=>T = "str"
 | .int _=>T = "int"
 | .ref p=>(T = "list" /\ ∃ xs,SqL K H p xs) \/ (T = "tuple" /\ ∃ o,K.lookup p=some o /\ o.cls=.type "tuple" /\ o.dict=none) ∨
     (T = "dict" /\ ((∃ kvs,H p=some (.dK kvs)) \/ ∃ kvs ne,H p=some (.dT kvs ne))) \/ (T = "set" /\ ∃ S n,H p=some (.set S n))
 | _=>False
theorem ta3 (I:[8]) (r:RelV x v) (ty:tyV X.K T x H) :
    s.TypeIs v T /\ ∀ a,v=.ref a->∃ ob,s.heap.get? a=some ob /\ ob.dict=none:=by
 cases x with
 | str z =>
  obtain ⟨t,rfl⟩:=r;cases (show T = "str" from ty);exact ⟨typeIs_str s z t,λ _ e=>nomatch e⟩
 | int i =>
  obtain ⟨t,rfl⟩:=r;cases (show T = "int" from ty);exact ⟨typeIs_int s i t,λ _ e=>nomatch e⟩
 | ref p =>
  cases r;rcases ty with ⟨rfl,xs,hq⟩ | ⟨rfl,o,hk,hc,hd⟩ | ⟨rfl,hk⟩ | ⟨rfl,S,n,hk⟩
  ·obtain ⟨its,_,pl,_⟩:=I.list hq;refine ⟨pl.isList.typeIs,λ a e=>?_⟩;cases e;obtain ⟨o,n,e,c,hd,_⟩:=pl
   simp_all
  ·refine ⟨⟨o,I.kIn p o hk,hc⟩,λ a e=>?_⟩;cases e;exact ⟨o,I.kIn _ o hk,hd⟩
  ·have z:∃ o,s.heap.get? p=some o /\ o.ExactDict:=by
     rcases hk with ⟨kvs,hk⟩ | ⟨kvs,ne,hk⟩
     ·obtain ⟨_,_,_,_,o,_,_,e,ex,_⟩:=I.hok p _ hk
      simp_all
     ·obtain ⟨_,_,_,_,o,_,_,e,ex,_⟩:=I.hok p _ hk
      simp_all
   obtain ⟨o,e,ex⟩:=z;refine ⟨⟨o,e,ex.1⟩,λ a e2=>?_⟩;cases e2;exact ⟨o,e,ex.2.1⟩
  ·obtain ⟨o,_,_,_,e,ex,_⟩:=I.hok p _ hk;refine ⟨⟨o,e,ex.1⟩,λ a e2=>?_⟩;cases e2;exact ⟨o,e,ex.2.1⟩
 | _=>exact False.elim ty
def tBM0 (K:PySem.W.Frag) (T:String) (r:V->List V->Hp->VK->Prop) (to:TE):TE:=λ σ H Q=>to σ H λ x H1=>tyV K T x H1 /\ r x [] H1 Q
def tBM (K:PySem.W.Frag) (T:String) (r:V->List V->Hp->VK->Prop) (to:TE) (t:TA):TE:=λ σ H Q=>to σ H λ x H1=>tyV K T x H1 /\ t σ H1 λ xs H2=>r x xs H2 Q
variable {o:Expr} {es:List Expr} {to:TE} {t:TA} {name:Str} {apos cpos:Pos} {id:String} {r:V->List V->Hp->VK->Prop}
theorem wx4 (pa:PlainAttrs T) (slot:Slot T name id) (hty:typeOf (.builtin id)=pure (.type "method_descriptor")) (hm:MtR X id r) (ho:PE X o to)
    (hbase:attributeBase o name X.env (eval o X.env)=eval o X.env:=by rfl) (hline:(apos.endLine == cpos.line)=true:=by rfl):PE X (.Call (.Attribute o name apos) [] [] cpos) (tBM0 X.K T r to):=by
 intro pins s σ H Q I h;refine wpAny_Call_method0_late hbase hline (thn (ho pins s σ H _ I h) λ v s1 ⟨x,H1,I1,r1,ty,q1⟩=>?_);obtain ⟨h1,h2⟩:=ta3 I1 r1 ty;exact ⟨T,id,pa,slot,hty,h1,h2,Calls.callWith_builtin rfl (PySem.evalArgs_none (hm pins s1 σ H1 x [] v [] Q I1 r1 .nil q1))⟩
theorem sp3 (pa:PlainAttrs T) (slot:Slot T name id) (hty:typeOf (.builtin id)=pure (.type "method_descriptor")) (hm:MtR X id r) (ho:PE X o to) (ha:PA X (e :: es) t)
    (hbase:attributeBase o name X.env (eval o X.env)=eval o X.env:=by rfl)
    (hfew:((backTo cpos (starEach (e :: es) X.env)).all (λ x=>!x.1) && (backToKw cpos (keywordEach [] X.env)).all (λ x=>x.1.isSome)
     && decide [22])=true:=by rfl)
    (hline:(apos.endLine == cpos.line)=true:=by rfl) (hs:starEach (e :: es) X.env=[34] :: starEach es X.env:=by rfl) (hplain:(backTo cpos (starEach es X.env)).any (·.1)=false:=by rfl) :
    PE X (.Call (.Attribute o name apos) (e :: es) [] cpos) (tBM X.K T r to t):=by
 intro pins s σ H Q I h;refine wpAny_Call_method_late hbase hfew hline rfl (thn (ho pins s σ H _ I h) λ v s1 ⟨x,H1,I1,r1,ty,q1⟩=>?_);obtain ⟨h1,h2⟩:=ta3 I1 r1 ty;refine ⟨T,id,pa,slot,hty,h1,h2,?_⟩;have hA:=ha cpos pins s1 σ H1 _ I1 q1;rw [hs] at hA ⊢;refine Calls.callWith_builtin [14] (Calls.evalArgs_plain ?_);exact thn hA λ us s2 ⟨vs,H2,I2,r2,q2⟩=>hm pins s2 σ H2 x vs v us Q I2 r1 r2 q2
end
def MtM (X:Cx) (id:String) (r:V->List V->Hp->VK->Prop):Prop :=
 ∀ (pins:[18]) (s:Shared) (σ:St) (H:Hp) (x:V) (xs:List V) (v:Value) (us:[24]) (Q:VK),Inv X pins σ H s->RelV x v->Vals xs us->r x xs H Q ->
  wpAny [12] X.A (call (.builtin id) (v :: us)) (EP X pins σ Q) X.xe s
theorem Vals.one:∀ {x:V} {us:[24]},Vals [x] us->∃ u,us=[u] /\ RelV x u
 | _,_,.cons r .nil=>⟨_,rfl,r⟩
theorem Vals.zero:∀ {us:[24]},Vals [] us->us=[]
 | _,.nil=>rfl
theorem Vals.dropLast {xs:List V} {us:[24]} (h:Vals xs us):Vals xs.dropLast us.dropLast:=by
 induction h with
 | nil=>exact .nil
 | cons r t ih =>
  cases t with
  | nil=>exact .nil
  | cons q t'=>exact .cons r ih
theorem Vals.rep {xs:List V} {us:[24]} (h:Vals xs us):∀ k:Nat,Vals (List.replicate k xs).flatten (List.replicate k us).flatten
 | 0=>.nil
 | k + 1=>by
  rw [replicate_succ,replicate_succ,flatten_cons,flatten_cons];exact Vals.append h (Vals.rep h k)
theorem yd1 (its:[24]):∀ (k:Nat) (acc:[24]),
    List.foldl (λ x1 x2=>x1 ++ x2) acc.toArray (List.replicate k its.toArray)=(acc ++ (List.replicate k its).flatten).toArray
 | 0,acc=>by simp
 | k + 1,acc=>by
  have e:acc.toArray ++ its.toArray=(acc ++ its).toArray:=by simp
  have e2:(acc ++ its) ++ (List.replicate k its).flatten=acc ++ (List.replicate (k + 1) its).flatten:=by
   rw [replicate_succ,flatten_cons,append_assoc]
  rw [<- e2,<- yd1 its k (acc ++ its),<- e,replicate_succ,foldl_cons]
variable {t':Nat}
section
variable {l b:Addr} {ys zs:List V}
theorem Inv.lset {its':[24]} {f:Array Value->Array Value} (I:[8]) (hH:H l=some (.lst xs))
    (e:s.heap.get? l=some { cls:=.type "list",data:=.seq its.toArray n }) (hf:f its.toArray=its'.toArray) (hv:Vals ys its') (hz:ys.length<=sizeLine) :
    Inv X pins σ (upd H l (.lst ys)) { s with heap:=s.heap.update l (Obj.mapSeq f),toks:=t' }:=by
 have q:=PySem.IsL.update e f;rw [hf] at q;refine I.write (x:=l) (e:=l) (by rw [hH]; exact trivial) (.inl rfl) (λ b' u hb hu=>(Heap.get?_update_other s.heap (Obj.mapSeq f) (Ne.symm hb)).trans hu) ⟨_,q⟩ ?_;exact ⟨hz,its',_,hv,q⟩
theorem Inv.lnew (I:[8]) (hv:Vals ys its) (hz:ys.length<=sizeLine) :
    Inv X pins σ (upd H s.heap.objs.size (.lst ys)) { s with heap:=s.heap.push { cls:=.type "list",data:=.seq its.toArray },toks:=t' } :=
 I.laid (λ _ _ q=>Heap.get?_push_of_some _ q) [21] ⟨hz,its,0,hv,Heap.get?_push_size _ rfl⟩
theorem Inv.fresh (I:[8]):H s.heap.objs.size=none:=I.hok.fresh [21]
theorem Inv.lstM (I:[8]) (hH:H l=some (.lst xs)):xs.length<=sizeLine /\ ∃ (its:[24]) (n:Nat),Vals xs its /\ xs.length=its.length /\ s.heap.get? l=some { cls:=.type "list",data:=.seq its.toArray n }:=by
 obtain ⟨z,its,n,r,e⟩:=I.hok l _ hH;exact ⟨z,its,n,r,r.length,e⟩
theorem xm1 (h:n<=sizeLine):Builtin.List.listTooLong n=false:=by
 unfold Builtin.List.listTooLong
 simp_all
end
section
def um3:V->List V->Hp->VK->Prop:=λ x vs H Q=>∃ l xs y,x=.ref l /\ vs=[y] /\ H l=some (.lst xs) /\ xs.length < sizeLine /\ Q .non (upd H l (.lst (xs ++ [y])))
theorem zb1:MtM X "list.append" um3:=by
 intro pins s σ H x vs v us Q I rx rv h;obtain ⟨l,xs,y,rfl,rfl,hH,hz,q⟩:=h;cases rx;obtain ⟨u,rfl,ru⟩:=rv.one;obtain ⟨z,its,n,r,hl,e⟩:=I.lstM hH;refine call_meets F.slot_list_append ⟨_,e,rfl⟩ F.entry_list_append (F.args_list_append_2 _ _) (PySem.list_append l its.toArray n u [26]) ⟨e,?_⟩;refine ⟨.non,_,I.lset (its':=its ++ [u]) hH e [17] (r.append (.cons ru .nil)) ?_,rfl,q⟩
 simp_all;omega
def vm3:V->List V->Hp->VK->Prop:=λ x vs H Q=>∃ l b xs zs,x=.ref l /\ vs=[.ref b] /\ H l=some (.lst xs) /\ H b=some (.lst zs) /\ xs.length + zs.length<=sizeLine /\ Q .non (upd H l (.lst (xs ++ zs)))
theorem za2:MtM X "list.extend" vm3:=by
 intro pins s σ H x vs v us Q I rx rv h;obtain ⟨l,b,xs,zs,rfl,rfl,hH,hB,hz,q⟩:=h;cases rx;obtain ⟨u,rfl,ru⟩:=rv.one;cases ru;obtain ⟨z,its,n,r,hl,e⟩:=I.lstM hH;obtain ⟨z2,its2,n2,r2,hl2,e2⟩:=I.lstM hB;have hsz:its.toArray.size + its2.toArray.size<=sizeLine:=by simp_all
 have hlong:¬ (!its.toArray.isEmpty && Builtin.List.listTooLong (its.toArray.size + its2.toArray.size))=true:=by
  rw [xm1 hsz,Bool.and_false];trivial
 refine call_meets F.slot_list_extend ⟨_,e,rfl⟩ F.entry_list_extend (F.args_list_extend_2 _ _)
  (AutoSeq1.list_extend_list_list_0 l its.toArray n b its2.toArray n2 hlong [5] [5]) ⟨e,e2,?_⟩
 refine ⟨.non,_,I.lset (its':=its ++ its2) hH e [17] (r.append r2) ?_,rfl,q⟩
 simp_all
def rPop:V->List V->Hp->VK->Prop:=λ x vs H Q=>∃ l xs y,x=.ref l /\ vs=[] /\ H l=some (.lst xs) /\ xs[xs.length - 1]?=some y /\ Q y (upd H l (.lst xs.dropLast))
theorem yz4:MtM X "list.pop" rPop:=by
 intro pins s σ H x vs v us Q I rx rv h;obtain ⟨l,xs,y,rfl,rfl,hH,hy,q⟩:=h;cases rx;have hus:=rv.zero;subst hus;obtain ⟨z,its,n,r,hl,e⟩:=I.lstM hH;obtain ⟨u,hu,ru⟩:=r.get hy
 have hy':its.toArray[its.toArray.size - 1]?=some u:=by
  simp_all
 refine call_meets F.slot_list_pop ⟨_,e,rfl⟩ F.entry_list_pop (F.args_list_pop_1 _) (MeetsSeq.list_pop_last l its.toArray n u hy' [26]) ⟨e,?_⟩;refine ⟨y,_,I.lset (its':=its.dropLast) hH e ?_ r.dropLast ?_,ru,q⟩
 ·simp
 simp_all;omega
def rCat:R2:=λ x y H Q=>∃ l b xs zs,x=.ref l /\ y=.ref b /\ H l=some (.lst xs) /\ H b=some (.lst zs) /\ xs.length + zs.length<=sizeLine /\ ∀ p,H p=none->Q (.ref p) (upd H p (.lst (xs ++ zs)))
theorem op_cat:OpR X (binaryOp .Add) rCat:=by
 intro pins s σ H x y v u Q I rx ry h;obtain ⟨l,b,xs,zs,rfl,rfl,hH,hB,hz,q⟩:=h;cases rx;cases ry;obtain ⟨z,its,n,r,hl,e⟩:=I.lstM hH;obtain ⟨z2,its2,n2,r2,hl2,e2⟩:=I.lstM hB;refine PySem.P.add_list e e2 ?_ [26];have ea:its.toArray ++ its2.toArray=(its ++ its2).toArray:=by simp
 rw [ea];exact ⟨.ref _,_,I.lnew (t':=s.toks) (r.append r2) [26],rfl,q _ I.fresh⟩
def rRep:R2:=λ x y H Q=>∃ l k xs,x=.ref l /\ y=.int k /\ H l=some (.lst xs) /\ -(2 ^ 63)<=k /\ k < 2 ^ 63 /\ xs.length * k.toNat<=sizeLine ∧
 ∀ p,H p=none->Q (.ref p) (upd H p (.lst (List.replicate k.toNat xs).flatten))
theorem xs3 {α:Type} (xs:List α) (k:Nat):(List.replicate k xs).flatten.length=k * xs.length:=by
 simp
theorem xy4:OpR X (binaryOp .Mult) rRep:=by
 intro pins s σ H x y v u Q I rx ry h;obtain ⟨l,k,xs,rfl,rfl,hH,h1,h2,hz,q⟩:=h;cases rx;obtain ⟨t,rfl⟩:=ry;obtain ⟨z,its,n,r,hl,e⟩:=I.lstM hH;have hlen:its.toArray.size * k.toNat<=sizeLine:=by simp_all
 have hcap:¬ its.toArray.size * k.toNat > (2 ^ 63 - 1) / 8:=by
  have:(sizeLine:Nat)<=(2 ^ 63 - 1) / 8:=by decide
  omega
 have hfit:¬ (!Builtin.List.listFitsIndex k)=true:=by
  rw [fitsIndex_both h1 h2];trivial
 have hlong:¬ Builtin.List.listTooLong (its.toArray.size * k.toNat)=true:=by
  rw [xm1 hlen];trivial
 have hnew:List.foldl (λ x1 x2=>x1 ++ x2) #[] (List.replicate (if its.toArray.isEmpty=true then 0 else k.toNat) its.toArray)=(List.replicate k.toNat its).flatten.toArray:=by
  have f0:∀ m:Nat,List.foldl (λ x1 x2=>x1 ++ x2) #[] (List.replicate m its.toArray)=(List.replicate m its).flatten.toArray:=λ m=>by
   have:=yd1 its m [];assumption
  rw [f0];cases its with
  | nil=>simp
  | cons a r'=>rfl
 refine wpAny_binaryOp_repeat_ref (T := "list") (U := "int") [27] ⟨_,e,rfl⟩ (λ s'=>typeIs_int s' k t) noFill_list_mul F.fills_int_mul F.slot_int_rmul repeat_list F.slot_int_index.lookup
  (call_meets F.slot_int_rmul (typeIs_int s k t) F.entry_int_rmul (F.args_int_rmul_2 _ _) (int___rmul___int_list k t l its.toArray n)
   ⟨e,rfl,⟨_,e,rfl⟩,call_meets F.slot_list_mul ⟨_,e,rfl⟩ F.entry_list_mul (F.args_list_mul_2 _ _) (AutoListH.list___mul___list_int_3 l its.toArray n k t hfit hcap hlong) ⟨e,?_⟩⟩)
 rw [hnew];exact ⟨.ref _,_,I.lnew (t':=s.toks) (r.rep k.toNat) (by rw [xs3,Nat.mul_comm]; exact hz),rfl,q _ I.fresh⟩
end
end L2
namespace Att
open PySem PySem.W PySem.Calls PyProof.Rows
variable {P:Params} {h:Heap}
theorem wr0:∀ (ns:List Int) (vs:[24]),WellAll P h vs (ns.map WData.int)->IntsAre vs ns:=by
 intro ns
 induction ns with
 | nil =>
  intro vs w;rw [map_nil] at w;cases w;exact .nil
 | cons n ns ih =>
  intro vs w;rw [map_cons] at w;cases w with
  | cons a b =>
   cases a;exact .cons _ _ (ih _ b)
variable {n:Nat}
theorem vw1 {l:OpenLaw} (hn:l.most=some n) {args:List WData} {vals:[24]}
    (hpre:l.row.toRowW.claim.pre args=true) (hwl:WellAll P h vals args) :
    ∃ a vs ns,vals=[Value.ref a] /\ args=[WData.list (ns.map WData.int)] /\ h.get? a=some { cls:=.type "list",data:=.seq vs.toArray } /\ IntsAre vs ns /\ ns.length<=n:=by
 have hsh:WShape.hasAll [] args [.list .int]=true:=(pre_splitW hpre).1;have hc:l.pre.holds [] { args:=args }=true:=(pre_splitW hpre).2;obtain ⟨d,r,rfl,h1,h2⟩:=hasAllW_cons hsh;obtain rfl:=hasAllW_nil h2;obtain ⟨xs,rfl,h3⟩:=hasW_list h1;obtain ⟨ns,rfl⟩:=items_int h3
 have hlen:ns.length<=n:=by
  unfold OpenLaw.pre at hc
  have h4:(WTm.not (.lt (.lit (.int (n:Int))) (.len (.arg 0)))).holds [] { args:=[.list (ns.map .int)] }=true:=by
   have h4:=(holds_andW hc).1
   simp_all
  have h5:=condW_of h4 (w_not (w_lt w_lit (w_len_list (w_arg rfl))))
  simp_all
 cases hwl with
 | cons w1 w2 =>
  cases w2;cases w1 with
  | list ho hall=>exact ⟨_,_,ns,rfl,rfl,ho,wr0 ns _ hall,hlen⟩
theorem ty1 (l:OpenLaw) (args:List WData):l.row.toRowW.claim.post args (.bool true) args=true :=
 postW_of (r:=l.row.toRowW) (X:=(true == true))
  (show WShape.has [] (.bool true) .bool=true by rfl)
  (show (WTm.eq .res (.lit (.bool true))).value [] { args:=args,res:=some (.bool true),after:=args }=some (.bool (true == true)) from w_eq_bool (w_res rfl) w_lit) rfl
theorem attach_call {l:OpenLaw} {q:Program} {loose:List Str} {XP:(Str->Option Value)->Heap->Prop} {YP:World->Heap->Prop} {d:DefRec}
    (hn:l.most=some n) (hdf:d.params.defaults=[])
    (call:∀ (w:World) (s₀ s₁:Shared) (mg mb:[28]) (fa:Addr) (o:Obj) (pm cd doc:Value) (a:Addr) (vs:[24]) (ns:List Int),
     Ground q loose [] XP w s₀ mg mb s₁.heap->YP w s₁.heap ->
     s₁.heap.get? fa=some o->o.data=.func (docDef d.name d.params d.body d.scope pm cd doc)->s₁.heap.CodeRec cd d.name->mg d.name=some (.ref fa) ->
     s₁.heap.get? a=some { cls:=.type "list",data:=.seq vs.toArray }->IntsAre vs ns->ns.length<=n->s₁.gens = #[] ->
     codeAny (model l.prog w) callerA (.call (.ref fa) ⟨[.ref a],[]⟩) (λ r s'=>r=.ok (.ret (.bool true)) /\ OldK s₁.heap s'.heap /\ s'.os=s₁.os /\ AllBare s'.gens) s₁) :
    WalkO q loose XP YP l.row.toRowW d [] (λ f vs=>PySem.call f vs):=by
 intro w s₀ s₁ mg mb G Y fa o pm cd doc dV kV ho hd hcd hD hmg hg args vals as hpre hlay hrd hwl hlo;obtain rfl:dV=.none:=Dflts.none hD hdf;obtain rfl:kV=.none:=Dflts.noKw hD;obtain ⟨a,vs,ns,rfl,rfl,hobj,hints,hlen⟩:=vw1 hn hpre hwl;refine enter_call (codeAny_mono (call w s₀ s₁ mg mb fa o pm cd doc a vs ns G Y ho (fd_plain hd) hcd hmg hobj hints hlen hg) λ r s' hq=>?_);obtain ⟨rfl,h2,h3,h4⟩:=hq;exact ⟨.inl ⟨.bool true,.bool true,[],rfl,λ _=>rfl,.bool true,ty1 l _,λ _=>⟨List.Pairwise.nil,λ _ hm=>(nomatch hm)⟩⟩,h2,h3,h4⟩
section
variable {prog:Program} {w:World} {A:Around} {E:[7]} {s:Shared} {K:Frag}
noncomputable def ledger (h:Heap) (L d:Addr):List (Addr × Obj):=(List.range h.objs.size).filterMap λ a=>if a=L \/ a=d then none else (h.get? a).map λ o=>(a,o)
end
end Att
namespace L2
open PySem PySem.Spec PyProof.Rows
theorem sy0:∀ {vs:[24]} {ns:List Int},IntsAre vs ns->Vals (ns.map V.int) vs
 | _,_,.nil=>.nil
 | _,_,.cons n t h=>.cons ⟨t,rfl⟩ (sy0 h)
def Only (H:Hp):Prop:=∀ b,H b=none \/ ∃ o xs,H b=some (.frz o (.lst xs))
variable {P:Program} {w:World} {K:PySem.W.Frag} {mg:[28]} {fd:FuncData} {x:Str} {sp:Sp}
theorem vu2 {mb:[28]} {CX:CXT} {k:Nat} {fa a:Addr} {s₁:Shared} {vs:[24]} {ns:List Int}
    (KX:K.In s₁.heap) (hns:s₁.heap.Ns mainGlobals mg) (hb:s₁.heap.Ns builtinsNs mb) (hbb:∀ x:Str,x ≠ "__name__" -> mb x=bootBuiltins x) (hlim:s₁.heap.NoLimit) (hg:s₁.gens = #[])
    (ha:s₁.heap.get? a=some { cls:=.type "list",data:=.seq vs.toArray }) (hi:IntsAre vs ns) (hl:ns.length<=sizeLine) (hr:Room k callerA)
    (F:∀ base:Heap,K.In base->base.Ns mainGlobals mg->FnOk P w K mg base CX k fa fd [x] sp) (hbind:∀ (s:Shared) (u:Value),BindsTo s fd ⟨[u],[]⟩ [(x,u)])
    (hsp:∀ H:Hp,Only H->SqL K H a (ns.map V.int)->sp [.ref a] H (λ v _=>v=.bl true) λ _ _ _=>False)
    (hCX:∀ H e s',CX [] H s₁ (λ _ _ _=>False) e s'->False) :
    codeAny (model P w) callerA (.call (.ref fa) ⟨[.ref a],[]⟩) (λ r s'=>r=.ok (.ret (.bool true)) /\ OldK s₁.heap s'.heap /\ s'.os=s₁.os /\ AllBare s'.gens) s₁:=by
 have rv:=sy0 hi;have lenV:=hi.length
 have core:∀ H:Hp,Only H->SqL K H a (ns.map V.int)->HOk P w H s₁.heap->(∀ b,H b ≠ none->b=a)->(H a ≠ none->K.lookup a=none) ->
     codeAny (model P w) callerA (.call (.ref fa) ⟨[.ref a],[]⟩) (λ r s'=>r=.ok (.ret (.bool true)) /\ OldK s₁.heap s'.heap /\ s'.os=s₁.os /\ AllBare s'.gens) s₁:=by
  intro H hO hS hok hA hK;have base_of:∀ {b:Addr} {o:Obj},s₁.heap.get? b=some o->H b=none->(hidT s₁.heap H).get? b=some o:=λ e n=>yw2 e n
  have noA:∀ {b:Addr} {o:Obj} {es:Array DictEntry} {ep:Nat},s₁.heap.get? b=some o->o.data=.dict es ep->H b=none:=λ {b o es ep} e d=>by
   cases q:H b with
   | none=>rfl
   | some u =>
    have e':b=a:=hA b (by rw [q]; simp);subst e';rw [ha] at e; cases e;trivial
  have nsK:∀ {b:Addr} {m:[28]},s₁.heap.Ns b m->(hidT s₁.heap H).Ns b m:=λ {b m} ⟨o,es,ep,e,d,r⟩=>⟨o,es,ep,base_of e (noA e d),d,r⟩
  have hKb:K.In (hidT s₁.heap H):=λ b o e=>base_of (KX b o e) (by
   cases q:H b with
   | none=>rfl
   | some u =>
    have e':b=a:=hA b (by rw [q]; simp);subst e'
    simp_all)
  have hM:Mod K mg (hidT s₁.heap H):=⟨hKb,nsK hns,⟨mb,nsK hb,hbb⟩,let ⟨mc,h1,h2⟩:=hlim; ⟨mc,nsK h1,h2⟩⟩;have e0:Env0 P w K mg (hidT s₁.heap H) callerA [] s₁ H:=⟨rfl,hM,λ b o e=>tq3 e,Nat.le_of_eq (xd2 _ _),trivial,λ b hb=>absurd (show b ∈ ([]:List Addr) from hb) [17],hok,.of_eq hg⟩;refine codeAny_mono ((F _ hKb (nsK hns)).run callerA [] s₁ H ⟨[.ref a],[]⟩ [.ref a] [.ref a] _ _ hr e0 (hbind s₁ (.ref a)) (.cons rfl .nil) (hsp H hO hS)) λ r s' h=>?_;cases r with
  | error e=>exact (hCX H e s' h).elim
  | ok fl =>
   cases fl with
   | next=>exact False.elim h
   | brk=>exact False.elim h
   | cont=>exact False.elim h
   | ret u =>
    obtain ⟨v,H',os,bare,un,hok',r',q⟩:=h;have q':v=.bl true:=q;subst q';obtain rfl:u=Value.bool true:=r';refine ⟨rfl,OldK.of_keep λ b o e=>?_,os,bare⟩;cases q:H b with
    | none=>exact un.keep b o e q (by intro z; trivial) [17]
    | some u =>
     rcases hO b with z | ⟨ob,xs,z⟩
     ·simp_all
     ·have z2:=un.frzs b ob _ z;obtain ⟨e1,_⟩:=hok b _ z;obtain ⟨e2,_⟩:=hok' b _ z2
      simp_all
 cases hk:K.lookup a with
 | some o =>
  have e:=KX a o hk;rw [ha] at e;cases e;refine core (λ _=>none) (λ _=>.inl rfl) (.inr ⟨_,vs.toArray,_,hk,rfl,rfl,rfl,by simp_all,by simpa using rv⟩) (λ b u z=>by trivial) (λ b z=>absurd rfl z) λ z=>absurd rfl z
 | none =>
  refine core (λ b=>if b=a then some (.frz { cls:=.type "list",data:=.seq vs.toArray } (.lst (ns.map V.int))) else none) (λ b=>?_) (.inl (.inr ⟨{ cls:=.type "list",data:=.seq vs.toArray },if_pos rfl⟩)) (λ b u z=>?_) (λ b z=>?_) λ _=>hk
  ·by_cases hb:b=a
   ·simp_all
   simp_all
  ·by_cases hb:b=a
   ·have z':=(if_pos hb).symm.trans z;cases z';subst hb;exact ⟨ha,by simp_all,vs,_,rv,ha⟩
   simp_all
  simp_all
noncomputable abbrev KOf {K:PySem.W.Frag} {h:Heap} (_:K.In h):PySem.W.Frag:=K
theorem walk_of {l:PySem.W.OpenLaw} {n k:Nat} {q:Program} {loose:List Str} {XP:(Str->Option Value)->Heap->Prop} {YP:World->Heap->Prop} {d:DefRec} {K:Params->PySem.W.Frag} {CX:World->CXT} {sp:World->Sp} 
    (hn:l.most=some n) (hn2:n<=sizeLine) (hdf:d.params.defaults=[]) (hr:Room k callerA)
    (hY:∀ (w:World) (h:Heap),YP w h->(K w.params).In h)
    (F:∀ (w:World) (mg:[28]) (fa:Addr) (h:Heap),(K w.params).In h->h.Ns mainGlobals mg->mg d.name=some (.ref fa) ->
     ∃ fd:FuncData,(∀ (s:Shared) (u:Value),BindsTo s fd ⟨[u],[]⟩ [(x,u)]) ∧
      ∀ base:Heap,(K w.params).In base->base.Ns mainGlobals mg->FnOk l.prog w (K w.params) mg base (CX w) k fa fd [x] (sp w))
    (hsp:∀ (w:World) (H:Hp) (a:Addr) (ns:List Int),ns.length<=n->Only H->SqL (K w.params) H a (ns.map V.int)->sp w [.ref a] H (λ v _=>v=.bl true) λ _ _ _=>False)
    (hCX:∀ (w:World) (H:Hp) (s:Shared) (e:Value) (s':Shared),CX w [] H s (λ _ _ _=>False) e s'->False) :
    PySem.W.WalkO q loose XP YP l.row.toRowW d [] (λ f vs=>PySem.call f vs):=by
 refine Att.attach_call hn hdf λ w s₀ s₁ mg mb fa o pm cd doc a vs ns G Y ho hd hcd hmg hobj hints hlen hg=>?_;have KX:=hY w _ Y;obtain ⟨fd,hb,hF⟩:=F w mg fa _ KX G.T.g hmg;exact vu2 KX G.T.g G.T.b G.T.builtins G.T.nolimit hg hobj hints (Nat.le_trans hlen hn2) hr hF hb (λ H hO hS=>hsp w H a ns hlen hO hS) λ H e s'=>hCX w H s₁ e s'
abbrev CX0:CXT:=λ _ _ _ _ _ _=>False
abbrev E0:XK:=λ _ _ _=>False
variable {X:Cx}
theorem yq3:yv0 CX0 X E0:=λ _ _ _ _ _ _ _ h=>h.elim
structure Fun (K:PySem.W.Frag) (x qual:Str) (st:Stmt) (f:Addr) (fd:FuncData):Prop where
 ex:∃ (oc:Value) (od:Option Addr) (kV doc pm:Value) (an:Option Addr) (cdv ct:Value) (osl:Array (Option Value)),
  fd=fnOf x qual (tg0 st) (vc0 st) (wa0 st) .none kV doc pm an cdv ct /\ K.lookup f=some ⟨oc,od,.func fd,osl⟩ /\ codeIn K cdv qual=true
 kp:keepIn K (.ref f)=true
variable {qual:Str} {f:Addr} {ps:List Str}
section
variable {base:Heap}
theorem Fun.ok {st:Stmt} {N:List Str} {k:Nat} (F:Fun K x qual st f fd) (S:FnScope N ps (wa0 st)) (len:∀ vs H Q E,sp vs H Q E->vs.length=ps.length)
    (hbody:∀ (cdv:Value) (A:Around) (outer:List Env) (s:Shared) (H:Hp) (vs:List V) (Q:VK) (E:XK),Room k (A.deeper (envOfC qual (wa0 st) s.heap.objs.size f cdv))->sp vs H Q E ->
     ∃ t,PSs (cxOf CX0 P w K mg base N qual (wa0 st) f cdv A outer s H E).nox (vc0 st) t /\ t { nx:=λ _ H'=>Q .non H',rt:=Q } (start N vs) H):FnOk P w K mg base CX0 (k + 1) f fd ps sp:=by
 obtain ⟨oc,od,kV,doc,pm,an,cdv,ct,osl,rfl,lk,hcd⟩:=F.ex;refine fn_of lk hcd S len λ A outer s H vs Q E hr hsp=>?_;obtain ⟨t,h,q⟩:=hbody cdv A outer s H vs Q E hr hsp;exact ⟨t,h.nox,q⟩
theorem Fun.binds {st:Stmt} (F:Fun K x qual st f fd)
    (h:∀ (kV doc pm:Value) (an:Option Addr) (cdv ct:Value) (us:[24]),us.length=ps.length->bindArgs (fnOf x qual (tg0 st) (vc0 st) (wa0 st) .none kV doc pm an cdv ct) ⟨us,[]⟩=pure (ps.zip us)):Binds K fd ps []:=by
 obtain ⟨oc,od,kV,doc,pm,an,cdv,ct,osl,rfl,lk,hcd⟩:=F.ex;exact .all (h kV doc pm an cdv ct)
theorem ze2 {st:Stmt} {oc:Value} {od an:Option Addr} {osl:Array (Option Value)} {kV doc pm cdv ct:Value} (l:K.lookup f=some ⟨oc,od,.func (fnOf x qual (tg0 st) (vc0 st) (wa0 st) .none kV doc pm an cdv ct),osl⟩)
    (c:codeIn K cdv qual=true) (k:keepIn K (.ref f)=true):Fun K x qual st f (fnOf x qual (tg0 st) (vc0 st) (wa0 st) .none kV doc pm an cdv ct):=⟨⟨oc,od,kV,doc,pm,an,cdv,ct,osl,rfl,l,c⟩,k⟩
end
section
theorem pv (i:Nat) {pos:Pos} (hN:X.N[i]?=some x:=by rfl) (hv:Vis X.env.scope x:=by trivial) (hd:[30]=false:=by decide)
    (hcd:(x == ("__classdict__" : Str))=false:=by decide):PE X (.Name x pos) (tVar i):=vc3 hN hv hd hcd
end
def Same (H H':Hp):Prop:=∀ b o,H b=some o->H' b=some o
end L2
namespace Pv
open PySem
inductive D where
 | non | bl (b:Bool) | int (i:Int) | str (x:Str) | tup (l:List D) | fls (l:List D) | ref (a:Addr) | ty (n:String) | exc (c:Str)
 | ktp (l:List D)
inductive MO where
 | lst (xs:List D)
 | ins (c:Str) (fs:List (Str × D))
 | dck (kvs:List (Sum Int Str × D))
 | dcl (lost:Bool) (kvs:List (List Int × D))
abbrev Mu:=Addr->Option MO
noncomputable def updM (μ:Mu) (a:Addr) (o:MO):Mu:=λ b=>if b=a then some o else μ b
variable {μ:Mu} {o:MO}
theorem ya0 {a:Addr} :updM μ a o a=some o:=by unfold updM; rw [if_pos rfl]
theorem za0 {a b:Addr} (h:b ≠ a):updM μ a o b=μ b:=by unfold updM; rw [if_neg h]
theorem xl0 {a:Addr} {u:MO}:updM (updM μ a o) a u=updM μ a u:=by
 funext b; unfold updM; simp_all
def Ext (μ μ':Mu):Prop:=∀ a o,μ a=some o->μ' a=some o
theorem Ext.refl (μ:Mu):Ext μ μ:=λ _ _ h=>h
theorem Ext.trans {a b c:Mu} (h:Ext a b) (k:Ext b c):Ext a c:=λ x o q=>k x o (h x o q)
theorem Ext.new {p:Addr} (h:μ p=none):Ext μ (updM μ p o):=λ a u q=>by
 rw [za0]; exact q;intro e; simp_all
theorem Ext.free {μ':Mu} {p:Addr} (e:Ext μ μ') (h:μ' p=none):μ p=none:=by
 cases q:μ p with
 | none=>rfl
 | some o=>rw [e p o q] at h; cases h
def ExtB (p:Addr) (μ μ':Mu):Prop:=∀ a o,a ≠ p->μ a=some o->μ' a=some o
theorem ExtB.refl (p:Addr) (μ:Mu):ExtB p μ μ:=λ _ _ _ h=>h
theorem ExtB.trans {p:Addr} {a b c:Mu} (h:ExtB p a b) (k:ExtB p b c):ExtB p a c:=λ x o n q=>k x o n (h x o n q)
theorem Ext.b {μ':Mu} (p:Addr) (e:Ext μ μ'):ExtB p μ μ':=λ a o _ q=>e a o q
theorem ExtB.upd {p:Addr} :ExtB p μ (updM μ p o):=λ a u n q=>by rw [za0 n]; exact q
theorem ta0 {p q:Addr} (h:μ p=some o) (k:μ q=none):p ≠ q:=by
 intro e; simp_all
abbrev St3:=List (Option D)
noncomputable def getI:St3->Nat->Option D
 | [],_=>none
 | o :: _,0=>o
 | _ :: r,i + 1=>getI r i
theorem wh1:∀ (ρ:St3) (i:Nat),getI ρ i=(ρ[i]?).getD none
 | [],i=>by simp [getI]
 | o :: _,0=>by simp [getI]
 | _ :: r,i + 1=>by simp [getI,wh1 r i]
abbrev VK3:=D->Mu->Prop
abbrev TE3:=St3->Mu->VK3->Prop
abbrev TT3:=St3->Mu->(Bool->Mu->Prop)->Prop
abbrev TA3:=St3->Mu->(List D->Mu->Prop)->Prop
structure Ends3 where
 nx:St3->Mu->Prop
 rt:VK3
 bk:St3->Mu->Prop:=λ _ _=>False
 ct:St3->Mu->Prop:=λ _ _=>False
abbrev TS3:=Ends3->St3->Mu->Prop
abbrev R3:=D->D->Mu->VK3->Prop
abbrev Sp3:=List D->Mu->VK3->Prop
abbrev C3:=List D->Mu->VK3->Prop
abbrev TG3:=D->St3->Mu->(St3->Mu->Prop)->Prop
abbrev TGs3:=List D->St3->Mu->(St3->Mu->Prop)->Prop
abbrev TI3:=St3->Mu->(List D->(Mu->Prop)->Mu->Prop)->Prop
def v3 (i:Nat):TE3:=λ ρ μ Q=>match getI ρ i with
 | some d=>Q d μ
 | none=>False
def c3 (d:D):TE3:=λ _ μ Q=>Q d μ
def o3 (r:R3) (ta tb:TE3):TE3:=λ ρ μ Q=>ta ρ μ λ x μ1=>tb ρ μ1 λ y μ2=>r x y μ2 Q
def un3 (r:D->Mu->VK3->Prop) (ta:TE3):TE3:=λ ρ μ Q=>ta ρ μ λ x μ1=>r x μ1 Q
def b3 (t:TE3):TT3:=λ ρ μ Q=>t ρ μ λ d μ1=>match d with
 | .bl c=>Q c μ1
 | _=>False
def and3 (t u:TT3):TT3:=λ ρ μ Q=>t ρ μ λ c μ1=>if c=true then u ρ μ1 Q else Q false μ1
def or3 (t u:TT3):TT3:=λ ρ μ Q=>t ρ μ λ c μ1=>if c=true then Q true μ1 else u ρ μ1 Q
def not3 (t:TT3):TT3:=λ ρ μ Q=>t ρ μ λ c μ1=>Q (!c) μ1
def ws1 (t u:TE3):TE3:=λ ρ μ Q=>t ρ μ λ d μ1=>match d with
 | .bl c=>if c=true then u ρ μ1 Q else Q (.bl false) μ1
 | _=>False
def orV3 (t u:TE3):TE3:=λ ρ μ Q=>t ρ μ λ d μ1=>match d with
 | .bl c=>if c=true then Q (.bl true) μ1 else u ρ μ1 Q
 | _=>False
def if3 (c:TT3) (t u:TE3):TE3:=λ ρ μ Q=>c ρ μ λ b μ1=>if b=true then t ρ μ1 Q else u ρ μ1 Q
def nil3:TA3:=λ _ μ Q=>Q [] μ
def xa0 (t:TE3) (u:TA3):TA3:=λ ρ μ Q=>t ρ μ λ d μ1=>u ρ μ1 λ ds μ2=>Q (d :: ds) μ2
def tup3 (t:TA3):TE3:=λ ρ μ Q=>t ρ μ λ ds μ1=>ds.length<=sizeLine /\ Q (.tup ds) μ1
def lst3 (t:TA3):TE3:=λ ρ μ Q=>t ρ μ λ ds μ1=>ds.length<=sizeLine /\ ∀ p,μ1 p=none->Q (.ref p) (updM μ1 p (.lst ds))
def va0 (sp:Sp3) (t:TA3):TE3:=λ ρ μ Q=>t ρ μ λ ds μ1=>sp ds μ1 Q
def mt3 (r:D->List D->Mu->VK3->Prop) (to:TE3) (t:TA3):TE3:=λ ρ μ Q=>to ρ μ λ x μ1=>match x with
 | .ref p=>match μ1 p with
  | some (.lst _)=>t ρ μ1 λ ds μ2=>r (.ref p) ds μ2 Q
  | _=>False
 | _=>False
abbrev TO3:=St3->Mu->(Option Int->Mu->Prop)->Prop
def np3:TO3:=λ _ μ Q=>Q none μ
def pt3 (t:TE3):TO3:=λ ρ μ Q=>t ρ μ λ d μ1=>match d with
 | .int i=>Q (some i) μ1
 | _=>False
def sl3 (r:D->Option Int->Option Int->Mu->VK3->Prop) (te:TE3) (tl th:TO3):TE3:=λ ρ μ Q=>te ρ μ λ x μ1=>tl ρ μ1 λ l μ2=>th ρ μ2 λ u μ3=>r x l u μ3 Q
noncomputable def sIx3 (n d:Nat):Option Int->Nat
 | none=>d
 | some v=>if v < 0 then (v + (n:Int)).toNat else min v.toNat n
noncomputable def cut3 {α:Type} (xs:List α) (lo hi:Option Int):List α:=(xs.drop (sIx3 xs.length 0 lo)).take (sIx3 xs.length xs.length hi - sIx3 xs.length 0 lo)
def slR:D->Option Int->Option Int->Mu->VK3->Prop:=λ x lo hi μ Q=>match x with
 | .ref p=>match μ p with
  | some (.lst l)=>∀ r,μ r=none->Q (.ref r) (updM μ r (.lst (cut3 l lo hi)))
  | _=>False
 | _=>False
def xc0:TS3:=λ D ρ μ=>D.nx ρ μ
def ud0:TS3:=λ _ _ _=>False
def seq3 (t u:TS3):TS3:=λ D ρ μ=>t { D with nx:=u D } ρ μ
def yc0 (t:TE3):TS3:=λ D ρ μ=>t ρ μ λ _ μ1=>D.nx ρ μ1
def ret3 (t:TE3):TS3:=λ D ρ μ=>t ρ μ D.rt
def ifs3 (c:TT3) (t u:TS3):TS3:=λ D ρ μ=>c ρ μ λ b μ1=>if b=true then t D ρ μ1 else u D ρ μ1
def gn3 (i:Nat):TG3:=λ d ρ μ Q=>Q (ρ.set i (some d)) μ
def vw2:TGs3:=λ ds ρ μ Q=>match ds with
 | []=>Q ρ μ
 | _=>False
def tr0 (t:TG3) (u:TGs3):TGs3:=λ ds ρ μ Q=>match ds with
 | d :: r=>t d ρ μ λ ρ1 μ1=>u r ρ1 μ1 Q
 | []=>False
def ww2 (n:Nat) (t:TGs3):TG3:=λ d ρ μ Q=>match d with
 | .tup l=>l.length=n /\ t l ρ μ Q
 | _=>False
def set3 (i:Nat) (t:TE3):TS3:=λ D ρ μ=>t ρ μ λ d μ1=>D.nx (ρ.set i (some d)) μ1
def asg3 (t:TE3) (g:TG3):TS3:=λ D ρ μ=>t ρ μ λ d μ1=>g d ρ μ1 D.nx
noncomputable def ixN (n:Nat) (i:Int):Option Nat:=if 0<=i then (if i < n then some i.toNat else none) else if -(n:Int)<=i then some (i + n).toNat else none
noncomputable def atI {α:Type} (xs:List α) (i:Int):Option α:=(ixN xs.length i).bind λ j=>xs[j]?
def sub3 (to ti:TE3):TG3:=λ d ρ μ Q=>to ρ μ λ o μ1=>ti ρ μ1 λ i μ2=>match o,i with
 | .ref p,.int k=>match μ2 p with
  | some (.lst xs)=>match ixN xs.length k with
   | some j=>Q ρ (updM μ2 p (.lst (xs.set j d)))
   | none=>False
  | _=>False
 | _,_=>False
def tr1 (S:Mu->Prop) (g:TG3) (tb:TS3) (D':Ends3):List D->St3->Mu->Prop
 | [],ρ,μ=>S μ /\ D'.nx ρ μ
 | x :: r,ρ,μ=>S μ /\ ∃ N:St3->Mu->Prop,(∀ ρ' μ',N ρ' μ'->tr1 S g tb D' r ρ' μ') /\ g x ρ μ λ ρ1 μ1=>tb { D' with nx:=N,ct:=N,bk:=D'.nx } ρ1 μ1
def for3 (ti:TI3) (g:TG3) (tb:TS3):TS3:=λ D' ρ μ=>ti ρ μ λ l S μ1=>tr1 S g tb D' l ρ μ1
variable {S:Mu->Prop} {g:TG3} {tb:TS3} {D':Ends3} {ρ:St3}
theorem vd0 (W:List D->St3->Mu->Prop) {l:List D} (h0:W l ρ μ) (hS:∀ l ρ μ,W l ρ μ->S μ) (hn:∀ ρ μ,W [] ρ μ->D'.nx ρ μ)
    (hs:∀ x r ρ μ,W (x :: r) ρ μ->g x ρ μ λ ρ1 μ1=>tb { D' with nx:=W r,ct:=W r,bk:=D'.nx } ρ1 μ1):tr1 S g tb D' l ρ μ:=by
 induction l generalizing ρ μ with
 | nil=>exact ⟨hS _ _ _ h0,hn _ _ h0⟩
 | cons x r ih=>exact ⟨hS _ _ _ h0,W r,λ ρ' μ' q=>ih q,hs x r ρ μ h0⟩
theorem ze3 (W:List D->St3->Mu->Prop) {l:List D} (h0:W l ρ μ) (hS:∀ l ρ μ,W l ρ μ->S μ) (hn:∀ ρ μ,W [] ρ μ->D'.nx ρ μ)
    (hs:∀ G:D->List D->St3->Mu->Prop,G=(λ x r ρ μ=>g x ρ μ λ ρ1 μ1=>tb { D' with nx:=W r,ct:=W r,bk:=D'.nx } ρ1 μ1)->∀ x r ρ μ,W (x :: r) ρ μ->G x r ρ μ):tr1 S g tb D' l ρ μ:=vd0 W h0 hS hn (hs _ rfl)
def is3 (t:TE3):TI3:=λ ρ μ R=>t ρ μ λ d μ1=>match d with
 | .tup l=>R l (λ _=>True) μ1
 | .fls l=>R l (λ _=>True) μ1
 | .ref p=>match μ1 p with
  | some (.lst l)=>R l (λ μ=>μ p=some (.lst l)) μ1
  | _=>False
 | _=>False
noncomputable def rngD (lo:Int) (n:Nat):List D:=(List.range n).map λ i=>.int (lo + (i:Nat))
theorem vf0 (lo:Int) (n:Nat):rngD lo (n + 1)=.int lo :: rngD (lo + 1) n:=by
 unfold rngD;rw [List.range_succ_eq_map,map_cons,map_map]
 simp_all;omega
def ir3 (t:TA3):TI3:=λ ρ μ R=>t ρ μ λ ds μ1=>match ds with
 | [.int j]=>(-(2 ^ 62)<=j /\ j < 2 ^ 62) /\ R (rngD 0 j.toNat) (λ _=>True) μ1
 | _=>False
def ir23 (t:TA3):TI3:=λ ρ μ R=>t ρ μ λ ds μ1=>match ds with
 | [.int i,.int j]=>(-(2 ^ 62)<=i /\ i < 2 ^ 62 /\ -(2 ^ 62)<=j /\ j < 2 ^ 62) /\ R (rngD i (j - i).toNat) (λ _=>True) μ1
 | _=>False
noncomputable def vx2 (S:Mu->Prop) (p:Addr) (g:TG3) (tc:TT3) (te:TE3) (Q:VK3) (l:List D) (ρ0:St3) (μ0:Mu):Prop :=
 ∃ W:List D->List D->St3->Mu->Prop,W l [] ρ0 μ0 /\ (∀ l ys ρ μ,W l ys ρ μ->S μ /\ μ p=some (.lst ys)) /\ (∀ ys ρ μ,W [] ys ρ μ->Q (.ref p) μ) ∧
  ∀ x r ys ρ μ,W (x :: r) ys ρ μ->ys.length < sizeLine /\ g x ρ μ λ ρ1 μ1=>tc ρ1 μ1 λ b μ2 =>
   if b=true then te ρ1 μ2 λ d μ3=>μ3 p=some (.lst ys) /\ W r (ys ++ [d]) ρ1 (updM μ3 p (.lst (ys ++ [d]))) else W r ys ρ1 μ2
def te0 (js:List [43]) (ti:TI3) (g:TG3) (tc:TT3) (te:TE3):TE3:=λ ρ μ Q=>ti ρ μ λ l S μ1=>∀ p,μ1 p=none->vx2 S p g tc te Q l (js.map λ j=>j.bind (getI ρ)) (updM μ1 p (.lst []))
def tt3:TT3:=λ _ μ Q=>Q true μ
variable {Q:VK3}
theorem zf0 {p:Addr} {te:TE3} {l:List D} {o:Option D} {rest:St3} (f:D->D) (hp:μ p=none) (hl:l.length<=sizeLine) (hS:∀ μ',Ext μ μ'->S μ')
    (hx:∀ x ∈ l,∀ μ' R,Ext μ μ'->(∀ μ2,Ext μ' μ2->R (f x) μ2)->te (some x :: rest) μ' R) (hQ:∀ μ',Ext μ μ'->μ' p=some (.lst (l.map f))->Q (.ref p) μ') :
    vx2 S p (gn3 0) tt3 te Q l (o :: rest) (updM μ p (.lst [])):=by
 refine ⟨λ r ys ρ μ'=>Ext μ μ' /\ μ' p=some (.lst ys) /\ (∃ o',ρ=o' :: rest) /\ ∃ a,a ++ r=l /\ ys=a.map f,?_,?_,?_,?_⟩
 ·exact ⟨Ext.new hp,ya0,⟨o,rfl⟩,[],rfl,rfl⟩
 ·simp_all
 ·simp_all
 ·rintro x r ys ρ μ' ⟨h1,h2,⟨o',rfl⟩,a,e,rfl⟩;refine ⟨by rw [length_map]; rw [<- e,length_append,length_cons] at hl; omega,?_⟩;show te (some x :: rest) μ' _;refine hx x (by rw [<- e]; simp) μ' _ h1 λ μ2 h3=>⟨h3 _ _ h2,λ b u hb=>?_,ya0,⟨_,rfl⟩,a ++ [x],by simp [<- e],by simp⟩;rw [za0 (ta0 hb hp)];exact h3 _ _ (h1 _ _ hb)
def CPow (i j:Int):Prop:=0<=j /\ j<=1000000 /\ i.natAbs < 2 ^ 64
def Big:Nat:=2 ^ 1000
def CMul (i j:Int):Prop:=((-(2 ^ 64) < i /\ i < 2 ^ 64) \/ (-(2 ^ 64) < j /\ j < 2 ^ 64)) \/ (i.natAbs < Big /\ j.natAbs < Big)
def int2 (C:Int->Int->Prop) (g:Int->Int->D):R3:=λ x y μ Q=>match x,y with
 | .int i,.int j=>C i j /\ Q (g i j) μ
 | _,_=>False
def zk0 (g:Int->Int->D):R3:=λ x y μ Q=>match x,y with
 | .int i,.int j=>Q (g i j) μ
 | _,_=>False
def subR:R3:=zk0 λ i j=>.int (i - j)
def mulR:R3:=λ x y μ Q=>match x,y with
 | .int i,.int j=>CMul i j /\ Q (.int (i * j)) μ
 | .ref p,.int k=>match μ p with
  | some (.lst l)=>((-(2 ^ 62)<=k /\ k < 2 ^ 62) /\ l.length * k.toNat<=1000000) /\ ∀ r,μ r=none->Q (.ref r) (updM μ r (.lst (List.replicate k.toNat l).flatten))
  | _=>False
 | _,_=>False
def modR:R3:=int2 (λ _ j=>0 < j) λ i j=>.int (i % j)
def sr1:R3:=int2 (λ _ j=>0 < j /\ j < 2 ^ 120) λ i j=>.int (i / j)
def powR:R3:=int2 CPow λ i j=>.int (i ^ j.toNat)
def ltR:R3:=zk0 λ i j=>.bl (decide (i < j))
def leR:R3:=zk0 λ i j=>.bl (decide (i<=j))
def gtR:R3:=zk0 λ i j=>.bl (decide (j < i))
def geR:R3:=zk0 λ i j=>.bl (decide (j<=i))
def negR:D->Mu->VK3->Prop:=λ x μ Q=>match x with
 | .int i=>Q (.int (-i)) μ
 | _=>False
def addR:R3:=λ x y μ Q=>match x,y with
 | .int i,.int j=>Q (.int (i + j)) μ
 | .ref p,.ref q=>match μ p,μ q with
  | some (.lst xs),some (.lst ys)=>xs.length + ys.length<=sizeLine /\ ∀ r,μ r=none->Q (.ref r) (updM μ r (.lst (xs ++ ys)))
  | _,_=>False
 | .tup l,.tup m=>l.length + m.length<=sizeLine /\ Q (.tup (l ++ m)) μ
 | _,_=>False
noncomputable def eqS:D->D->Option Bool
 | .int i,.int j=>some (decide (i=j))
 | .str i,.str j=>some (decide (i=j))
 | _,_=>none
mutual
noncomputable def dat:D->Option PyData
 | .non=>some .none
 | .bl b=>some (.bool b)
 | .int i=>some (.int i)
 | .str x=>if PyData.strOk x=true then some (.str x) else none
 | .tup l=>match dats l with
  | some ps=>some (.tuple ps)
  | none=>none
 | .ktp l=>match dats l with
  | some ps=>some (.tuple ps)
  | none=>none
 | _=>none
noncomputable def dats:List D->Option (List PyData)
 | []=>some []
 | d :: r=>match dat d with
  | some p=>match dats r with
   | some ps=>some (p :: ps)
   | none=>none
  | none=>none
end
noncomputable def datM (μ:Mu):D->Option PyData
 | .ref p=>match μ p with
  | some (.lst l)=>match dats l with
   | some ps=>some (.list ps)
   | none=>none
  | _=>none
 | d=>dat d
def eqR:R3:=λ x y μ Q=>match eqS x y with
 | some c=>Q (.bl c) μ
 | none=>match datM μ x,datM μ y with
  | some p,some q=>(p.depth<=64 /\ q.depth<=64) /\ Q (.bl (PyData.eqv p q)) μ
  | _,_=>False
def neR:R3:=λ x y μ Q=>match eqS x y with
 | some c=>Q (.bl (!c)) μ
 | none=>match datM μ x,datM μ y with
  | some p,some q=>(p.depth<=64 /\ q.depth<=64) /\ Q (.bl (!PyData.eqv p q)) μ
  | _,_=>False
theorem xd5 (i j:Int) (μ:Mu) (Q:VK3):eqR (.int i) (.int j) μ Q=Q (.bl (decide (i=j))) μ:=rfl
theorem xf2 {x y:D} {p q:PyData} (e:eqS x y=none) (h1:datM μ x=some p) (h2:datM μ y=some q) (d1:p.depth<=64) (d2:q.depth<=64):eqR x y μ Q=Q (.bl (PyData.eqv p q)) μ:=by
 unfold eqR; simp_all
theorem sq3 {x y:D} {p q:PyData} (e:eqS x y=none) (h1:datM μ x=some p) (h2:datM μ y=some q) (d1:p.depth<=64) (d2:q.depth<=64):neR x y μ Q=Q (.bl (!PyData.eqv p q)) μ:=by
 unfold neR; simp_all
noncomputable def strs?:List D->Option (List Str)
 | []=>some []
 | .str x :: r=>match strs? r with
  | some l=>some (x :: l)
  | none=>none
 | _ :: _=>none
def inD (neg:Bool):R3:=λ x y μ Q=>match datM μ x,datM μ y with
 | some d,some (.list xs)=>(d.depth<=64 /\ (PyData.list xs).depth<=64) /\ Q (.bl (if neg then !(xs.any λ e=>PyData.eqv e d) else xs.any λ e=>PyData.eqv e d)) μ
 | some d,some (.tuple xs)=>(d.depth<=64 /\ (PyData.tuple xs).depth<=64) /\ Q (.bl (if neg then !(xs.any λ e=>PyData.eqv e d) else xs.any λ e=>PyData.eqv e d)) μ
 | _,_=>False
def inR (neg:Bool):R3:=λ x y μ Q=>match x,y with
 | .str z,.ktp l=>match strs? l with
  | some zs=>Q (.bl (if neg then !zs.contains z else zs.contains z)) μ
  | none=>inD neg (.str z) (.ktp l) μ Q
 | x,y=>inD neg x y μ Q
def ixR:R3:=λ x y μ Q=>match x,y with
 | .tup l,.int i=>match atI l i with
  | some d=>Q d μ
  | none=>False
 | .ktp l,.int i=>match atI l i with
  | some d=>Q d μ
  | none=>False
 | .fls l,.int i=>match atI l i with
  | some d=>Q d μ
  | none=>False
 | .ref p,.int i=>match μ p with
  | some (.lst l)=>match atI l i with
   | some d=>Q d μ
   | none=>False
  | _=>False
 | _,_=>False
def lenR:C3:=λ ds μ Q=>match ds with
 | [.tup l]=>Q (.int l.length) μ
 | [.fls l]=>Q (.int l.length) μ
 | [.ref p]=>match μ p with
  | some (.lst l)=>Q (.int l.length) μ
  | _=>False
 | _=>False
def absR:C3:=λ ds μ Q=>match ds with
 | [.int i]=>Q (.int (if i < 0 then -i else i)) μ
 | _=>False
def pop3 (to:TE3):TE3:=λ ρ μ Q=>to ρ μ λ x μ1=>match x with
 | .ref p=>match μ1 p with
  | some (.lst l)=>match l.reverse with
   | d :: r=>Q d (updM μ1 p (.lst r.reverse))
   | []=>False
  | _=>False
 | _=>False
def tupR:C3:=λ ds μ Q=>match ds with
 | [.ref p]=>match μ p with
  | some (.lst l)=>Q (.tup l) μ
  | _=>False
 | _=>False
noncomputable def ints?:List D->Option (List Int)
 | []=>some []
 | .int x :: r=>match ints? r with
  | some l=>some (x :: l)
  | none=>none
 | _ :: _=>none
def sumR:C3:=λ ds μ Q=>match ds with
 | [.ref p]=>match μ p with
  | some (.lst l)=>match ints? l with
   | some ns=>Q (.int ns.sum) μ
   | none=>False
  | _=>False
 | _=>False
noncomputable def bls?:List D->Option (List Bool)
 | []=>some []
 | .bl x :: r=>match bls? r with
  | some l=>some (x :: l)
  | none=>none
 | _ :: _=>none
noncomputable def ltP (a b c d:Int):Bool:=if a=c then decide (b < d) else decide (a < c)
def allR:C3:=λ ds μ Q=>match ds with
 | [.ref p]=>match μ p with
  | some (.lst l)=>match bls? l with
   | some bs=>Q (.bl (bs.all id)) μ
   | none=>False
  | _=>False
 | _=>False
def isiR:C3:=λ ds μ Q=>match ds with
 | [.tup _,.ty T]=>if T = "tuple" then Q (.bl true) μ else False
 | [.int _,.ty T]=>if T = "int" then Q (.bl true) μ else False
 | _=>False
def appR:D->List D->Mu->VK3->Prop:=λ x ds μ Q=>match x,ds with
 | .ref p,[d]=>match μ p with
  | some (.lst l)=>l.length < sizeLine /\ Q .non (updM μ p (.lst (l ++ [d])))
  | _=>False
 | _,_=>False
def extR:D->List D->Mu->VK3->Prop:=λ x ds μ Q=>match x,ds with
 | .ref p,[.ref q]=>match μ p,μ q with
  | some (.lst l),some (.lst m)=>l.length + m.length<=sizeLine /\ Q .non (updM μ p (.lst (l ++ m)))
  | _,_=>False
 | _,_=>False
theorem atI0 {α:Type} {a:α} {r:List α}:atI (a :: r) 0=some a:=by
 unfold atI ixN; simp
theorem atI1 {α:Type} {a b:α} {r:List α}:atI (a :: b :: r) 1=some b:=by
 unfold atI ixN; rw [if_pos [27],if_pos [20]]; rfl
theorem atI2 {α:Type} {a b c:α} {r:List α}:atI (a :: b :: c :: r) 2=some c:=by
 unfold atI ixN; rw [if_pos [27],if_pos [20]]; rfl
variable {n:Nat}
theorem ixN0:ixN (n + 1) 0=some 0:=by
 unfold ixN; simp
theorem ixN2:ixN (n + 1 + 1 + 1) 2=some 2:=by
 unfold ixN; simp_all;omega
theorem vf3 {α:Type} {l:List α} {i:Int} (h0:0<=i) (h1:i < l.length):∃ d,d ∈ l /\ atI l i=some d:=by
 have hn:i.toNat < l.length:=by omega
 refine ⟨l[i.toNat],getElem_mem hn,?_⟩;unfold atI ixN
 simp_all
noncomputable def ua0 (N:List Str) (ds:List D):St3:=ds.map some ++ List.replicate (N.length - ds.length) none
def ty0 (c:TT3) (tb:TS3):TS3:=λ D ρ μ=>∃ W:Nat->St3->Mu->Prop,(∃ m,W m ρ μ) /\ ∀ m ρ μ,W m ρ μ ->
 c ρ μ λ b μ1=>if b=true then ∃ N:St3->Mu->Prop,(∀ ρ' μ',N ρ' μ'->∃ m',m' < m /\ W m' ρ' μ') /\ tb { D with nx:=N,ct:=N,bk:=D.nx } ρ μ1 else D.nx ρ μ1
end Pv
namespace Pv
open PySem L2
abbrev Fg:=PySem.W.Frag
structure Kp (H H':Hp):Prop where
 tup:∀ b xs,H b=some (.tup xs)->H' b=some (.tup xs)
 frz:∀ b o u,H b=some (.frz o u)->H' b=some (.frz o u)
 own:∀ b x,H b=some (.own x)->H' b=some (.own x)
theorem Kp.refl (H:Hp):Kp H H:=⟨λ _ _ h=>h,λ _ _ _ h=>h,λ _ _ h=>h⟩
theorem Kp.trans {a b c:Hp} (h:Kp a b) (k:Kp b c):Kp a c:=⟨λ x xs q=>k.tup x xs (h.tup x xs q),λ x o u q=>k.frz x o u (h.frz x o u q),λ x u q=>k.own x u (h.own x u q)⟩
variable {H:Hp} {o:HO}
theorem Kp.new {p:Addr} (h:H p=none):Kp H (upd H p o) :=
 ⟨λ b xs q=>by rw [xb0 (td0 q h)]; exact q,λ b o u q=>by rw [xb0 (td0 q h)]; exact q,λ b x q=>by rw [xb0 (td0 q h)]; exact q⟩
variable {xs:List V}
theorem Kp.wr {p:Addr} (h:H p=some (.lst xs)):Kp H (upd H p o) :=
 [15]
def SqF (K:Fg) (H:Hp) (a:Addr) (xs:List V):Prop :=
 (∃ o,H a=some (.frz o (.lst xs))) \/ ∃ (o:Obj) (its:Array Value) (n:Nat),K.lookup a=some o /\ o.cls=.type "list" /\ o.dict=none /\ o.data=.seq its n /\ its.size<=sizeLine /\ Vals xs its.toList
variable {K:Fg}
theorem SqF.l {a:Addr} (h:SqF K H a xs):SqL K H a xs:=by
 rcases h with ⟨o,h⟩ | h
 ·exact .inl (.inr ⟨o,h⟩)
 ·exact .inr h
theorem SqF.mono {H':Hp} {a:Addr} (k:Kp H H') (h:SqF K H a xs):SqF K H' a xs:=by
 rcases h with ⟨o,h⟩ | h
 ·exact .inl ⟨o,k.frz _ _ _ h⟩
 ·exact .inr h
theorem SqT.mono {H':Hp} {a:Addr} (k:Kp H H') (h:SqT K H a xs):SqT K H' a xs:=by
 rcases h with h | h
 ·rcases h with h | ⟨o,h⟩
  ·exact .inl (.inl (k.tup _ _ h))
  ·exact .inl (.inr ⟨o,k.frz _ _ _ h⟩)
 ·exact .inr h
mutual
inductive RelD (K:Fg) (H:Hp):D->V->Prop where
 | non:RelD K H .non .non
 | bl (b:Bool):RelD K H (.bl b) (.bl b)
 | int (i:Int):RelD K H (.int i) (.int i)
 | str (x:Str):RelD K H (.str x) (.str x)
 | ref (a:Addr):RelD K H (.ref a) (.ref a)
 | ty (n:String):RelD K H (.ty n) (.ty n)
 | tup {a:Addr} {l:List D} {vs:List V}:H a=some (.tup vs)->RelDs K H l vs->RelD K H (.tup l) (.ref a)
 | ktp {a:Addr} {l:List D} {vs:List V}:SqT K H a vs->RelDs K H l vs->RelD K H (.ktp l) (.ref a)
 | fls {a:Addr} {l:List D} {vs:List V}:SqF K H a vs->RelDs K H l vs->RelD K H (.fls l) (.ref a)
 | exc {a C:Addr} {c:Str} {ob:Obj} {u:HO}:H a=some (.frz ob u)->ob.cls=.ref C->nsIn K mainGlobals c=some (some (.ref C))->RelD K H (.exc c) (.ref a)
inductive RelDs (K:Fg) (H:Hp):List D->List V->Prop where
 | nil:RelDs K H [] []
 | cons {d:D} {v:V} {l:List D} {vs:List V}:RelD K H d v->RelDs K H l vs->RelDs K H (d :: l) (v :: vs)
end
mutual
theorem RelD.mono {K:Fg} {H H':Hp} (k:Kp H H'):∀ {d:D} {v:V},RelD K H d v->RelD K H' d v
 | _,_,.non=>.non
 | _,_,.bl b=>.bl b
 | _,_,.int b=>.int b
 | _,_,.str b=>.str b
 | _,_,.ref b=>.ref b
 | _,_,.ty b=>.ty b
 | _,_,.tup h r=>.tup (k.tup _ _ h) (RelDs.mono k r)
 | _,_,.ktp h r=>.ktp (SqT.mono k h) (RelDs.mono k r)
 | _,_,.fls h r=>.fls (SqF.mono k h) (RelDs.mono k r)
 | _,_,.exc h r1 r2=>.exc (k.frz _ _ _ h) r1 r2
theorem RelDs.mono {K:Fg} {H H':Hp} (k:Kp H H'):∀ {d:List D} {v:List V},RelDs K H d v->RelDs K H' d v
 | _,_,.nil=>.nil
 | _,_,.cons h r=>.cons (RelD.mono k h) (RelDs.mono k r)
end
variable {vs:List V}
theorem RelDs.one {d:D} (r:RelDs K H [d] vs):∃ v,vs=[v] /\ RelD K H d v:=by
 cases r with
 | cons a b=>cases b; exact ⟨_,rfl,a⟩
theorem RelDs.length {K:Fg} {H:Hp}:∀ {l:List D} {vs:List V},RelDs K H l vs->l.length=vs.length
 | _,_,.nil=>rfl
 | _,_,.cons _ r=>congrArg (· + 1) r.length
theorem RelDs.get {K:Fg} {H:Hp}:∀ {l:List D} {vs:List V} {i:Nat} {d:D},RelDs K H l vs->l[i]?=some d->∃ v,vs[i]?=some v /\ RelD K H d v
 | _,_,_,_,.nil,e=>by simp at e
 | _,_,0,_,.cons h _,e=>by simp_all
 | _,_,i + 1,d,.cons _ r,e=>by
  obtain ⟨v,h1,h2⟩:=RelDs.get (i:=i) (d:=d) r (by simpa using e)
  simp_all
theorem RelDs.append {K:Fg} {H:Hp}:∀ {l m:List D} {vs us:List V},RelDs K H l vs->RelDs K H m us->RelDs K H (l ++ m) (vs ++ us)
 | _,_,_,_,.nil,q=>q
 | _,_,_,_,.cons h r,q=>.cons h (RelDs.append r q)
theorem RelDs.set {K:Fg} {H:Hp} {d:D} {v:V} (hd:RelD K H d v):∀ {l:List D} {vs:List V} (i:Nat),RelDs K H l vs->RelDs K H (l.set i d) (vs.set i v)
 | _,_,_,.nil=>.nil
 | _,_,0,.cons _ r=>.cons hd r
 | _,_,i + 1,.cons h r=>.cons h (RelDs.set hd i r)
theorem RelDs.take {K:Fg} {H:Hp}:∀ {l:List D} {vs:List V} (n:Nat),RelDs K H l vs->RelDs K H (l.take n) (vs.take n)
 | _,_,0,r=>by simp only [take_zero]; exact .nil
 | _,_,n + 1,.nil=>by simp only [List.take_nil]; exact .nil
 | _,_,n + 1,.cons h r=>by simp only [List.take_succ_cons]; exact .cons h (RelDs.take n r)
theorem RelDs.drop {K:Fg} {H:Hp}:∀ {l:List D} {vs:List V} (n:Nat),RelDs K H l vs->RelDs K H (l.drop n) (vs.drop n)
 | _,_,0,r=>by assumption
 | _,_,n + 1,.nil=>by simp only [List.drop_nil]; exact .nil
 | _,_,n + 1,.cons h r=>by simp only [List.drop_succ_cons]; exact RelDs.drop n r
theorem RelDs.rep {K:Fg} {H:Hp} {l:List D} {vs:List V} (r:RelDs K H l vs):∀ k:Nat,RelDs K H (List.replicate k l).flatten (List.replicate k vs).flatten
 | 0=>.nil
 | k + 1=>by rw [replicate_succ,replicate_succ,flatten_cons,flatten_cons]; exact r.append (RelDs.rep r k)
inductive RelFs (K:Fg) (H:Hp):List (Str × D)->List (Str × V)->Prop where
 | nil:RelFs K H [] []
 | cons {f:Str} {d:D} {v:V} {l:List (Str × D)} {vs:List (Str × V)}:RelD K H d v->RelFs K H l vs->RelFs K H ((f,d) :: l) ((f,v) :: vs)
theorem RelFs.mono {K:Fg} {H H':Hp} (k:Kp H H') {l:List (Str × D)} {vs:List (Str × V)} (r:RelFs K H l vs):RelFs K H' l vs:=by
 induction r with
 | nil=>exact .nil
 | cons h _ ih=>exact .cons (h.mono k) ih
noncomputable def kT (t:Int × Int × Int):List Key:=[.inl t.1,.inl t.2.1,.inl t.2.2]
inductive RelKk (K:Fg) (H:Hp):List (Key × D)->List (Key × V)->Prop where
 | nil:RelKk K H [] []
 | cons {t:Key} {d:D} {v:V} {l:List (Key × D)} {vs:List (Key × V)}:RelD K H d v->RelKk K H l vs->RelKk K H ((t,d) :: l) ((t,v) :: vs)
theorem RelKk.mono {K:Fg} {H H':Hp} (k:Kp H H') {l:List (Key × D)} {vs:List (Key × V)} (r:RelKk K H l vs):RelKk K H' l vs:=by
 induction r with
 | nil=>exact .nil
 | cons h _ ih=>exact .cons (h.mono k) ih
noncomputable def kL (k:List Int):List Key:=k.map Sum.inl
inductive RelKl (K:Fg) (H:Hp):List (List Int × D)->List (List Key × V)->Prop where
 | nil:RelKl K H [] []
 | cons {t:List Int} {d:D} {v:V} {l:List (List Int × D)} {vs:List (List Key × V)}:RelD K H d v->RelKl K H l vs->RelKl K H ((t,d) :: l) ((kL t,v) :: vs)
theorem RelKl.mono {K:Fg} {H H':Hp} (k:Kp H H') {l:List (List Int × D)} {vs:List (List Key × V)} (r:RelKl K H l vs):RelKl K H' l vs:=by
 induction r with
 | nil=>exact .nil
 | cons h _ ih=>exact .cons (h.mono k) ih
inductive RelX (K:Fg) (H:Hp) (p:Addr):MO->HO->Prop where
 | ins {c:Str} {C dx:Addr} {fs:List (Str × D)} {vs:List (Str × V)}:nsIn K mainGlobals c=some (some (.ref C))->H dx=some (.own p)->RelFs K H fs vs->RelX K H p (.ins c fs) (.ins C dx vs)
 | lst {xs:List D} {vs:List V}:RelDs K H xs vs->RelX K H p (.lst xs) (.lst vs)
 | dck {xs:List (Key × D)} {vs:List (Key × V)}:RelKk K H xs vs->RelX K H p (.dck xs) (.dK vs)
 | dcl {b:Bool} {xs:List (List Int × D)} {vs:List (List Key × V)} {n:Nat}:RelKl K H xs vs->(b=false->n=vs.length)->RelX K H p (.dcl b xs) (.dT vs n)
theorem RelX.mono {K:Fg} {H H':Hp} (k:Kp H H') {p:Addr} {o:MO} {u:HO} (r:RelX K H p o u):RelX K H' p o u:=by
 cases r with
 | ins n h r=>exact .ins n (k.own _ _ h) (r.mono k)
 | lst r=>exact .lst (r.mono k)
 | dck r=>exact .dck (r.mono k)
 | dcl r c=>exact .dcl (r.mono k) c
structure RelM (K:Fg) (μ:Mu) (H:Hp):Prop where
 at':∀ p o,μ p=some o->∃ u,H p=some u /\ RelX K H p o u
section
variable {μ:Mu} {p:Addr}
theorem RelM.lst (m:RelM K μ H) (p:Addr) (xs:List D) (e:μ p=some (.lst xs)):∃ vs,H p=some (.lst vs) /\ RelDs K H xs vs:=by
 obtain ⟨_,h,r⟩:=m.at' p _ e;cases r with
 | lst r=>exact ⟨_,h,r⟩
theorem RelM.ins (m:RelM K μ H) (p:Addr) (c:Str) (fs:List (Str × D)) (e:μ p=some (.ins c fs)):∃ C dx vs,nsIn K mainGlobals c=some (some (.ref C)) /\ H p=some (.ins C dx vs) /\ H dx=some (.own p) /\ RelFs K H fs vs:=by
 obtain ⟨_,h,r⟩:=m.at' p _ e;cases r with
 | ins n x r=>exact ⟨_,_,_,n,h,x,r⟩
theorem RelM.dck (m:RelM K μ H) (p:Addr) (xs:List (Key × D)) (e:μ p=some (.dck xs)):∃ vs,H p=some (.dK vs) /\ RelKk K H xs vs:=by
 obtain ⟨_,h,r⟩:=m.at' p _ e;cases r with
 | dck r=>exact ⟨_,h,r⟩
theorem RelM.dcl (m:RelM K μ H) (p:Addr) (b:Bool) (xs:List (List Int × D)) (e:μ p=some (.dcl b xs)):∃ vs n,H p=some (.dT vs n) /\ RelKl K H xs vs /\ (b=false->n=vs.length):=by
 obtain ⟨_,h,r⟩:=m.at' p _ e;cases r with
 | dcl r c=>exact ⟨_,_,h,r,c⟩
noncomputable instance:CoeFun (RelM K μ H) (λ _=>∀ p xs,μ p=some (.lst xs)->∃ vs,H p=some (.lst vs) /\ RelDs K H xs vs):=⟨RelM.lst⟩
theorem RelM.free (m:RelM K μ H) (h:H p=none):μ p=none:=by
 cases e:μ p with
 | none=>rfl
 | some o=>obtain ⟨_,q,_⟩:=m.at' p o e; rw [h] at q; cases q
theorem RelM.newT (h:H p=none) (m:RelM K μ H):RelM K μ (upd H p o):=⟨λ q u e=>by
 obtain ⟨O,q1,r⟩:=m.at' q u e;exact ⟨O,by rw [xb0 (λ z=>by rw [z,h] at q1; cases q1)]; exact q1,r.mono (Kp.new h)⟩⟩
theorem RelM.put {o:MO} {u:HO} (k:Kp H (upd H p u)) (r:RelX K H p o u) (m:RelM K μ H):RelM K (updM μ p o) (upd H p u):=⟨λ q x e=>by
 by_cases z:q=p
 ·subst z; rw [ya0] at e; cases e; exact ⟨u,zg0,r.mono k⟩
 ·rw [za0 z] at e;obtain ⟨O,q1,r⟩:=m.at' q x e;exact ⟨O,by rw [xb0 z]; exact q1,r.mono k⟩⟩
theorem RelM.newL {xs:List D} (h:H p=none) (r:RelDs K H xs vs) (m:RelM K μ H):RelM K (updM μ p (.lst xs)) (upd H p (.lst vs)):=m.put (Kp.new h) (.lst r)
theorem RelM.wr {xs:List D} {vs ws:List V} (h:H p=some (.lst ws)) (r:RelDs K H xs vs) (m:RelM K μ H):RelM K (updM μ p (.lst xs)) (upd H p (.lst vs)):=m.put (Kp.wr h) (.lst r)
end
structure RSt (K:Fg) (H:Hp) (ρ:St3) (σ:St):Prop where
 len:ρ.length=σ.length
 at':∀ i d,getI ρ i=some d->∃ v,σ[i]?=some (some v) /\ RelD K H d v
theorem RSt.mono {K:Fg} {H H':Hp} {ρ:St3} {σ:St} (k:Kp H H') (s:RSt K H ρ σ):RSt K H' ρ σ:=⟨s.len,λ i d e=>let ⟨v,h,r⟩:=s.at' i d e; ⟨v,h,r.mono k⟩⟩
theorem xo1:∀ (ρ:St3) (i j:Nat) (d:Option D),getI (ρ.set i d) j=if i=j /\ i < ρ.length then d else getI ρ j
 | [],i,j,d=>by simp [getI]
 | o :: r,0,0,d=>by simp [getI]
 | o :: r,0,j + 1,d=>by simp [getI]
 | o :: r,i + 1,0,d=>by simp [getI]
 | o :: r,i + 1,j + 1,d=>by simp only [set_cons_succ,getI,xo1 r i j d,length_cons]; simp
theorem RSt.set {K:Fg} {H:Hp} {ρ:St3} {σ:St} {d:D} {v:V} (i:Nat) (r:RelD K H d v) (s:RSt K H ρ σ):RSt K H (ρ.set i (some d)) (σ.set i (some v)):=by
 refine ⟨by simp [s.len],λ j e h=>?_⟩;rw [xo1] at h;split at h
 ·next c =>
  obtain ⟨rfl,c2⟩:=c;cases h;exact ⟨v,by rw [List.getElem?_set_self (by rw [<- s.len]; exact c2)],r⟩
 ·next c =>
  obtain ⟨u,q,r'⟩:=s.at' j e h;have hj:j < σ.length:=(List.getElem?_eq_some_iff.mp q).1;by_cases z:i=j
  ·subst z; exact absurd ⟨rfl,by rw [s.len]; exact hj⟩ c
  simp_all
theorem RSt.start {K:Fg} {H:Hp} {ds:List D} {vs:List V} (N:List Str) (r:RelDs K H ds vs):RSt K H (ua0 N ds) (L2.start N vs):=by
 have hl:=r.length;refine ⟨by simp [ua0,L2.start,hl],λ i d e=>?_⟩;rw [wh1] at e;unfold ua0 at e;unfold L2.start;by_cases c:i < ds.length
 ·rw [getElem?_append_left (by simpa using c),getElem?_map] at e;cases q:ds[i]? with
  | none=>simp_all
  | some d' =>
   rw [q] at e;have e':d'=d:=by simpa using e
   subst e';obtain ⟨v,h1,h2⟩:=r.get q;exact ⟨v,by rw [getElem?_append_left [26],getElem?_map,h1]; rfl,h2⟩
 ·rw [getElem?_append_right (by simpa using c),List.getElem?_replicate] at e;split at e <;> simp at e
abbrev Ks (K:Fg) (H:Hp) (Q3:VK3) (Q:VK):Prop:=∀ d μ' v H',Q3 d μ'->Kp H H'->RelD K H' d v->RelM K μ' H'->Q v H'
theorem Ks.after {H1:Hp} {Q3:VK3} {Q:VK} (k:Ks K H Q3 Q) (e:Kp H H1):Ks K H1 Q3 Q:=λ d μ v H' q e'=>k d μ v H' q (e.trans e')
def RdE (K:Fg) (tv:TE) (t:TE3):Prop:=∀ σ H Q ρ μ Q3,RSt K H ρ σ->RelM K μ H->t ρ μ Q3->Ks K H Q3 Q->tv σ H Q
def RE (X:Cx) (e:Expr) (t:TE3):Prop:=∃ tv,PE X e tv /\ RdE X.K tv t
def RdT (K:Fg) (tv:TT) (t:TT3):Prop:=∀ σ H Q ρ μ Q3,RSt K H ρ σ->RelM K μ H->t ρ μ Q3->(∀ b μ' H',Q3 b μ'->Kp H H'->RelM K μ' H'->Q b H')->tv σ H Q
def RT (X:Cx) (e:Expr) (t:TT3):Prop:=∃ tv,PT X e tv /\ RdT X.K tv t
def RW (X:Cx) (e:Expr) (t:TT3):Prop:=∃ tv,PW X e tv /\ RdT X.K tv t
def RdA (K:Fg) (tv:TA) (t:TA3):Prop:=∀ σ H Q ρ μ Q3,RSt K H ρ σ->RelM K μ H->t ρ μ Q3->(∀ ds μ' vs H',Q3 ds μ'->Kp H H'->RelDs K H' ds vs->RelM K μ' H'->Q vs H')->tv σ H Q
def RA (X:Cx) (es:List Expr) (t:TA3):Prop:=∃ tv,PA X es tv /\ RdA X.K tv t
structure KsD (K:Fg) (H:Hp) (D3:Ends3) (D:Ends):Prop where
 nx:∀ ρ μ σ H',D3.nx ρ μ->Kp H H'->RSt K H' ρ σ->RelM K μ H'->D.nx σ H'
 bk:∀ ρ μ σ H',D3.bk ρ μ->Kp H H'->RSt K H' ρ σ->RelM K μ H'->D.bk σ H'
 ct:∀ ρ μ σ H',D3.ct ρ μ->Kp H H'->RSt K H' ρ σ->RelM K μ H'->D.ct σ H'
 rt:Ks K H D3.rt D.rt
theorem KsD.after {K:Fg} {H H1:Hp} {D3:Ends3} {D:Ends} (k:KsD K H D3 D) (e:Kp H H1):KsD K H1 D3 D :=
 ⟨λ ρ μ σ H' q e'=>k.nx ρ μ σ H' q (e.trans e'),λ ρ μ σ H' q e'=>k.bk ρ μ σ H' q (e.trans e'),λ ρ μ σ H' q e'=>k.ct ρ μ σ H' q (e.trans e'),k.rt.after e⟩
def RdS (K:Fg) (tv:TS) (t:TS3):Prop:=∀ σ H D ρ μ D3,RSt K H ρ σ->RelM K μ H->t D3 ρ μ->KsD K H D3 D->tv D σ H
def RS (X:Cx) (st:Stmt) (t:TS3):Prop:=∃ tv,PS X st tv /\ RdS X.K tv t
def RSs (X:Cx) (st:List Stmt) (t:TS3):Prop:=∃ tv,PSs X st tv /\ RdS X.K tv t
def RdG (K:Fg) (tv:TG) (t:TG3):Prop:=∀ v d σ H Q ρ μ Q3,RSt K H ρ σ->RelM K μ H->RelD K H d v->t d ρ μ Q3->(∀ ρ' μ' σ' H',Q3 ρ' μ'->Kp H H'->RSt K H' ρ' σ'->RelM K μ' H'->Q σ' H')->tv v σ H Q
def RG (X:Cx) (e:Expr) (t:TG3):Prop:=∃ tv,PG X e tv /\ RdG X.K tv t
def RdGs (K:Fg) (tv:TGs) (t:TGs3):Prop:=∀ vs ds σ H Q ρ μ Q3,RSt K H ρ σ->RelM K μ H->RelDs K H ds vs->t ds ρ μ Q3->(∀ ρ' μ' σ' H',Q3 ρ' μ'->Kp H H'->RSt K H' ρ' σ'->RelM K μ' H'->Q σ' H')->tv vs σ H Q
def RGs (X:Cx) (es:List Expr) (t:TGs3):Prop:=∃ tv,PGs X es tv /\ RdGs X.K tv t
def RdO (K:Fg) (r:R2) (r3:R3):Prop:=∀ x y v u H Q μ Q3,RelM K μ H->RelD K H x v->RelD K H y u->r3 x y μ Q3->Ks K H Q3 Q->r v u H Q
def RO (X:Cx) (f:Value->Value->Sem Value) (r3:R3):Prop:=∃ r,OpR X f r /\ RdO X.K r r3
def RdU (K:Fg) (r:V->Hp->VK->Prop) (r3:D->Mu->VK3->Prop):Prop:=∀ x v H Q μ Q3,RelM K μ H->RelD K H x v->r3 x μ Q3->Ks K H Q3 Q->r v H Q
def RU (X:Cx) (f:Value->Sem Value) (r3:D->Mu->VK3->Prop):Prop:=∃ r,UnR X f r /\ RdU X.K r r3
def RdC (K:Fg) (r:List V->Hp->VK->Prop) (r3:C3):Prop:=∀ xs vs H Q μ Q3,RelM K μ H->RelDs K H xs vs->r3 xs μ Q3->Ks K H Q3 Q->r vs H Q
def RC (X:Cx) (f:Value) (r3:C3):Prop:=∃ r,xt0 X f r /\ RdC X.K r r3
def RX (X:Cx) (r3:R3):Prop:=∃ r,IxR X r /\ RdO X.K r r3
variable {x:Str} {i:Nat} {r3:R3} {va:TE} {g:TG3}
section
variable {X:Cx} {a b c e:Expr} {ta tb tc te:TE3} {pos:Pos}
theorem zn4 (i:Nat) (hN:X.N[i]?=some x:=by rfl) (hv:Vis X.env.scope x:=by trivial) (hd:[30]=false:=by decide)
    (hcd:(x == ("__classdict__" : Str))=false:=by decide):RE X (.Name x pos) (v3 i):=by
 refine ⟨_,vc3 hN hv hd hcd,λ σ H Q ρ μ Q3 s m h k=>?_⟩;unfold v3 at h;cases q:getI ρ i with
 | none=>simp_all
 | some d =>
  rw [q] at h;obtain ⟨v,e,r⟩:=s.at' i d q;exact ⟨v,e,k d μ v H h (Kp.refl H) r m⟩
theorem RdE.cst {d:D} {v:V} (r:∀ H,RelD K H d v):RdE K (tC v) (c3 d):=λ σ H Q ρ μ Q3 s m h k=>k d μ v H h (Kp.refl H) (r H) m
theorem zo4 {i:Int} {j}:RE X (.Constant (.int i) j pos) (c3 (.int i)):=⟨_,yx4,RdE.cst λ _=>.int i⟩
theorem re_bl {i:Bool} {j}:RE X (.Constant (.bool i) j pos) (c3 (.bl i)):=⟨_,pe_bl,RdE.cst λ _=>.bl i⟩
theorem xo4 {j}:RE X (.Constant .none j pos) (c3 .non):=⟨_,sw4,RdE.cst λ _=>.non⟩
theorem un4 {j}:RE X (.Constant (.str x) j pos) (c3 (.str x)):=⟨_,uw4,RdE.cst λ _=>.str x⟩
def Gd (K:Fg) (mg:[28]) (x:Str) (d:D):Prop:=∃ u v,mg x=some u /\ RelV v u /\ ∀ H,RelD K H d v
theorem re_g {d:D} (g:Gd X.K X.mg x d) (hg:Gl X x:=by rfl) (hd:[30]=false:=by decide):RE X (.Name x pos) (c3 d):=by
 obtain ⟨u,v,hm,r,rd⟩:=g;exact ⟨_,uz1 hg hm r hd,RdE.cst rd⟩
theorem wn4 {T:String} (hm:X.mg x=none) (hv:bootBuiltins x=some (.type T)) (hg:Gl X x:=by rfl) (hn:x ≠ "__name__" := by decide) (hd:[30]=false:=by decide):RE X (.Name x pos) (c3 (.ty T)) :=
 ⟨_,xq3 hg hm hv (show RelV (.ty T) (.type T) from rfl) hn hd,RdE.cst λ _=>.ty T⟩
theorem zq1 {op:Operator} (ho:RO X (binaryOp op) r3) (ha:RE X a ta) (hb:RE X b tb):RE X (.BinOp a op b pos) (o3 r3 ta tb):=by
 obtain ⟨r,po,ro⟩:=ho;obtain ⟨va,pa,ra⟩:=ha;obtain ⟨vb,pb,rb⟩:=hb
 exact ⟨_,pe_op po pa pb,λ σ H Q ρ μ Q3 s m h k=>ra σ H _ ρ μ _ s m h λ x μ1 v H1 h1 k1 r1 m1=>rb σ H1 _ ρ μ1 _ (s.mono k1) m1 h1 λ y μ2 u H2 h2 k2 r2 m2 =>
  ro x y v u H2 Q μ2 Q3 m2 (r1.mono k2) r2 h2 (k.after (k1.trans k2))⟩
theorem re_un {op:UnaryOp} {r3:D->Mu->VK3->Prop} (ho:RU X (unaryOp op) r3) (ha:RE X a ta):RE X (.UnaryOp op a pos) (un3 r3 ta):=by
 obtain ⟨r,po,ro⟩:=ho;obtain ⟨va,pa,ra⟩:=ha;exact ⟨_,pe_un po pa,λ σ H Q ρ μ Q3 s m h k=>ra σ H _ ρ μ _ s m h λ x μ1 v H1 h1 k1 r1 m1=>ro x v H1 Q μ1 Q3 m1 r1 h1 (k.after k1)⟩
theorem RdE.op {r:R2} {vb:TE} (ra:RdE K va ta) (rb:RdE K vb tb) (ro:RdO K r r3):RdE K (tOp r va vb) (o3 r3 ta tb):=λ σ H Q ρ μ Q3 s m h k =>
 ra σ H _ ρ μ _ s m h λ x μ1 v H1 h1 k1 r1 m1=>rb σ H1 _ ρ μ1 _ (s.mono k1) m1 h1 λ y μ2 u H2 h2 k2 r2 m2=>ro x y v u H2 Q μ2 Q3 m2 (r1.mono k2) r2 h2 (k.after (k1.trans k2))
theorem RdT.test (ra:RdE K va ta):RdT K (ye4 va) (b3 ta):=λ σ H Q ρ μ Q3 s m h k=>by
 refine ra σ H _ ρ μ _ s m h λ d μ1 v H1 h1 k1 r1 m1=>?_;cases r1 with
 | bl c=>exact ⟨c,rfl,k c μ1 H1 h1 k1 m1⟩
 | _=>exact False.elim h1
theorem ux1 {op:CmpOp} (ho:RO X (compareOp op) r3) (ha:RE X a ta) (hb:RE X b tb) (hm:behindInMarks op b=false:=by first | exact uc3 _ | with_unfolding_all rfl):RE X (.Compare a [op] [b] pos) (o3 r3 ta tb):=by
 obtain ⟨r,po,ro⟩:=ho;obtain ⟨va,pa,ra⟩:=ha;obtain ⟨vb,pb,rb⟩:=hb;exact ⟨_,up3 po pa pb hm,ra.op rb ro⟩
theorem wi0 {op:CmpOp} (ho:RO X (compareOp op) r3) (ha:RE X a ta) (hb:RE X b tb) (hm:behindInMarks op b=false:=by first | exact uc3 _ | with_unfolding_all rfl):RT X (.Compare a [op] [b] pos) (b3 (o3 r3 ta tb)):=by
 obtain ⟨r,po,ro⟩:=ho;obtain ⟨va,pa,ra⟩:=ha;obtain ⟨vb,pb,rb⟩:=hb;exact ⟨_,tn3 po pa pb hm,RdT.test (ra.op rb ro)⟩
theorem sl4 (ha:RE X a ta) (he:∀ whole,isTrue a X.env whole=(do let v <- whole; standAt a.pos; holding [v] (truthy v)):=by intro _; rfl):RT X a (b3 ta):=by
 obtain ⟨va,pa,ra⟩:=ha;exact ⟨_,yv4 pa he,RdT.test ra⟩
variable {tA tB':TT3} {rest:List Expr}
theorem RW.pt (h:RW X a tA):RT X a tA:=let ⟨t,p,r⟩:=h; ⟨t,p.pt,r⟩
theorem rw_pt (h:RW X a tA):RT X a tA:=h.pt
theorem wk3 (h:RT X a tA):RW X (.BoolOp .And [a] pos) tA:=let ⟨t,p,r⟩:=h; ⟨t,zn3 p,r⟩
theorem wl4 (h:RT X a tA):RW X (.BoolOp .Or [a] pos) tA:=let ⟨t,p,r⟩:=h; ⟨t,wu4 p,r⟩
theorem vl4 (ha:RT X a tA) (hb:RW X (.BoolOp .And (b :: rest) pos) tB'):RW X (.BoolOp .And (a :: b :: rest) pos) (and3 tA tB'):=by
 obtain ⟨va,pa,ra⟩:=ha;obtain ⟨vb,pb,rb⟩:=hb;refine ⟨_,vu4 pa pb,λ σ H Q ρ μ Q3 s m h k=>ra σ H _ ρ μ _ s m h λ c μ1 H1 h1 k1 m1=>?_⟩;cases c with
 | true=>exact rb σ H1 Q ρ μ1 Q3 (s.mono k1) m1 h1 λ b μ' H' q e=>k b μ' H' q (k1.trans e)
 | false=>exact k _ _ _ h1 k1 m1
theorem rw_or (ha:RT X a tA) (hb:RW X (.BoolOp .Or (b :: rest) pos) tB'):RW X (.BoolOp .Or (a :: b :: rest) pos) (or3 tA tB'):=by
 obtain ⟨va,pa,ra⟩:=ha;obtain ⟨vb,pb,rb⟩:=hb;refine ⟨_,pw_or pa pb,λ σ H Q ρ μ Q3 s m h k=>ra σ H _ ρ μ _ s m h λ c μ1 H1 h1 k1 m1=>?_⟩;cases c with
 | true=>exact k _ _ _ h1 k1 m1
 | false=>exact rb σ H1 Q ρ μ1 Q3 (s.mono k1) m1 h1 λ b μ' H' q e=>k b μ' H' q (k1.trans e)
theorem xm4 (ha:RT X a tA):RT X (.UnaryOp .Not a pos) (not3 tA):=by
 obtain ⟨va,pa,ra⟩:=ha;exact ⟨_,zv4 pa,λ σ H Q ρ μ Q3 s m h k=>ra σ H _ ρ μ _ s m h λ c μ1 H1 h1 k1 m1=>k _ _ _ h1 k1 m1⟩
theorem sn4 {op} (h:RE X a ta):RE X (.BoolOp op [a] pos) ta:=let ⟨t,p,r⟩:=h; ⟨t,tw4 p,r⟩
theorem so4 (ha:RE X a ta) (hb:RE X (.BoolOp .And (b :: rest) pos) tb):RE X (.BoolOp .And (a :: b :: rest) pos) (ws1 ta tb):=by
 obtain ⟨va,pa,ra⟩:=ha;obtain ⟨vb,pb,rb⟩:=hb;refine ⟨_,vx4 pa pb,λ σ H Q ρ μ Q3 s m h k=>ra σ H _ ρ μ _ s m h λ d μ1 v H1 h1 k1 r1 m1=>?_⟩;cases r1 with
 | bl c =>
  refine ⟨c,rfl,?_⟩;cases c with
  | true=>exact rb σ H1 Q ρ μ1 Q3 (s.mono k1) m1 h1 (k.after k1)
  | false=>exact k _ _ _ _ h1 k1 (.bl _) m1
 | _=>exact False.elim h1
theorem re_or (ha:RE X a ta) (hb:RE X (.BoolOp .Or (b :: rest) pos) tb):RE X (.BoolOp .Or (a :: b :: rest) pos) (orV3 ta tb):=by
 obtain ⟨va,pa,ra⟩:=ha;obtain ⟨vb,pb,rb⟩:=hb;refine ⟨_,pe_or pa pb,λ σ H Q ρ μ Q3 s m h k=>ra σ H _ ρ μ _ s m h λ d μ1 v H1 h1 k1 r1 m1=>?_⟩;cases r1 with
 | bl c =>
  refine ⟨c,rfl,?_⟩;cases c with
  | true=>exact k _ _ _ _ h1 k1 (.bl _) m1
  | false=>exact rb σ H1 Q ρ μ1 Q3 (s.mono k1) m1 h1 (k.after k1)
 | _=>exact False.elim h1
theorem re_if (hc:RT X c tA) (ha:RE X a ta) (hb:RE X b tb):RE X (.IfExp c a b pos) (if3 tA ta tb):=by
 obtain ⟨vc,pc,rc⟩:=hc;obtain ⟨va,pa,ra⟩:=ha;obtain ⟨vb,pb,rb⟩:=hb;refine ⟨_,vs2 pc pa pb,λ σ H Q ρ μ Q3 s m h k=>rc σ H _ ρ μ _ s m h λ c μ1 H1 h1 k1 m1=>?_⟩;cases c with
 | true=>exact ra σ H1 Q ρ μ1 Q3 (s.mono k1) m1 h1 (k.after k1)
 | false=>exact rb σ H1 Q ρ μ1 Q3 (s.mono k1) m1 h1 (k.after k1)
variable {es:List Expr} {t:TA3}
theorem ua1:RA X [] nil3:=⟨_,tx4,λ σ H Q ρ μ Q3 s m h k=>k [] μ [] H h (Kp.refl H) .nil m⟩
theorem vi0 (ha:RE X e te) (hr:RA X es t) (hs:starEach (e :: es) X.env=[34] :: starEach es X.env:=by rfl):RA X (e :: es) (xa0 te t):=by
 obtain ⟨va,pa,ra⟩:=ha;obtain ⟨vb,pb,rb⟩:=hr
 exact ⟨_,zq3 pa pb hs,λ σ H Q ρ μ Q3 s m h k=>ra σ H _ ρ μ _ s m h λ d μ1 v H1 h1 k1 r1 m1=>rb σ H1 _ ρ μ1 _ (s.mono k1) m1 h1 λ ds μ2 vs H2 h2 k2 r2 m2 =>
  k _ _ _ _ h2 (k1.trans k2) (.cons (r1.mono k2) r2) m2⟩
theorem vn4 {x1} (h:RA X es t):RE X (.Tuple es x1 pos) (tup3 t):=by
 obtain ⟨va,pa,ra⟩:=h;refine ⟨_,vw4 pa,λ σ H Q ρ μ Q3 s m h k=>ra σ H _ ρ μ _ s m h λ ds μ1 vs H1 h1 k1 r1 m1=>⟨by rw [<- r1.length]; exact h1.1,λ p hp=>?_⟩⟩;exact k _ _ _ _ h1.2 (k1.trans (Kp.new hp)) (.tup zg0 (r1.mono (Kp.new hp))) (m1.newT hp)
theorem yo4 (h:RA X es t):RE X (.List es pos) (lst3 t):=by
 obtain ⟨va,pa,ra⟩:=h;refine ⟨_,xx4 pa,λ σ H Q ρ μ Q3 s m h k=>ra σ H _ ρ μ _ s m h λ ds μ1 vs H1 h1 k1 r1 m1=>⟨by rw [<- r1.length]; exact h1.1,λ p hp=>?_⟩⟩;exact k _ _ _ _ (h1.2 p (m1.free hp)) (k1.trans (Kp.new hp)) (.ref p) (m1.newL hp r1)
variable {st:Stmt} {sts:List Stmt} {t3 u3:TS3}
theorem yl3:RSs X [] xc0:=⟨_,xo3,λ σ H D ρ μ D3 s m h k=>k.nx ρ μ σ H h (Kp.refl H) s m⟩
theorem xl3 (h:RS X st t3):RSs X [st] t3:=let ⟨t,p,r⟩:=h; ⟨t,sn3 p,r⟩
theorem zp2 (h1:RS X st t3) (h2:RSs X sts u3):RSs X (st :: sts) (seq3 t3 u3):=by
 obtain ⟨va,pa,ra⟩:=h1;obtain ⟨vb,pb,rb⟩:=h2;refine ⟨_,zr2 pa pb,λ σ H D ρ μ D3 s m h k=>ra σ H _ ρ μ _ s m h ⟨λ ρ1 μ1 σ1 H1 h1 k1 s1 m1=>rb σ1 H1 D ρ1 μ1 D3 s1 m1 h1 (k.after k1),k.bk,k.ct,k.rt⟩⟩
theorem up2:RS X st ud0:=⟨_,vr2,λ σ H D ρ μ D3 s m h k=>h⟩
theorem zl3 (he:RE X e te) (hs:swapsWith e none pos.line X.env=pure false:=by rfl):RS X (.Expr e pos) (yc0 te):=by
 obtain ⟨va,pa,ra⟩:=he;exact ⟨_,zo3 pa hs,λ σ H D ρ μ D3 s m h k=>ra σ H _ ρ μ _ s m h λ d μ1 v H1 h1 k1 r1 m1=>k.nx ρ μ1 σ H1 h1 k1 (s.mono k1) m1⟩
theorem zm4 (he:RE X e te):RS X (.Return (some e) pos) (ret3 te):=by
 obtain ⟨va,pa,ra⟩:=he;exact ⟨_,wv4 pa,λ σ H D ρ μ D3 s m h k=>ra σ H _ ρ μ _ s m h k.rt⟩
theorem rs_if {as bs:List Stmt} (hc:RT X c tA) (ha:RSs X as t3) (hb:RSs X bs u3):RS X (.If c as bs pos) (ifs3 tA t3 u3):=by
 obtain ⟨vc,pc,rc⟩:=hc;obtain ⟨va,pa,ra⟩:=ha;obtain ⟨vb,pb,rb⟩:=hb;refine ⟨_,ps_if pc pa pb,λ σ H D ρ μ D3 s m h k=>rc σ H _ ρ μ _ s m h λ c μ1 H1 h1 k1 m1=>?_⟩;cases c with
 | true=>exact ra σ H1 D ρ μ1 D3 (s.mono k1) m1 h1 (k.after k1)
 | false=>exact rb σ H1 D ρ μ1 D3 (s.mono k1) m1 h1 (k.after k1)
theorem xm3 (hN:X.N.Nodup) (hi:X.N[i]?=some x:=by rfl) (hx:Loc X.env.scope x:=by trivial) (hf:X.fn x=true \/ X.env.scope.names.lookup x=some .local:=by trivial) :
    RG X (.Name x pos) (gn3 i):=⟨_,xp3 hN hi hx hf,λ v d σ H Q ρ μ Q3 s m r h k=>k _ _ _ _ h (Kp.refl H) (s.set i r) m⟩
theorem tl3:RGs X [] vw2:=⟨_,to3,λ vs ds σ H Q ρ μ Q3 s m r h k=>by
 cases r with
 | nil=>exact ⟨rfl,k _ _ _ _ h (Kp.refl H) s m⟩
 | cons _ _=>exact False.elim h⟩
theorem wq2 {gs:TGs3} (h1:RG X e g) (h2:RGs X es gs) (hs:(assignEach (e :: es) X.env).map (·.2)=assign e X.env :: (assignEach es X.env).map (·.2):=by rfl):RGs X (e :: es) (tr0 g gs):=by
 obtain ⟨va,pa,ra⟩:=h1;obtain ⟨vb,pb,rb⟩:=h2;refine ⟨_,tr2 pa pb hs,λ vs ds σ H Q ρ μ Q3 s m r h k=>?_⟩;cases r with
 | nil=>exact False.elim h
 | cons r1 r2=>exact ⟨_,_,rfl,ra _ _ σ H _ ρ μ _ s m r1 h λ ρ1 μ1 σ1 H1 h1 k1 s1 m1=>rb _ _ σ1 H1 Q ρ1 μ1 Q3 s1 m1 (r2.mono k1) h1 λ ρ' μ' σ' H' q e=>k ρ' μ' σ' H' q (k1.trans e)⟩
theorem xn4 {kk:Nat} {gs:TGs3} {n:Nat} (hc:X.calm=true) (h:RGs X es gs) (hn:(assignEach es X.env).length=n:=by rfl) (hst:(assignEach es X.env).findIdx? (·.1)=none:=by rfl):RG X (.Tuple es kk pos) (ww2 n gs):=by
 obtain ⟨va,pa,ra⟩:=h;refine ⟨_,zw4 hc pa hn hst,λ v d σ H Q ρ μ Q3 s m r h k=>?_⟩;cases r with
 | tup hq rs =>
  obtain ⟨hl,h⟩:=h;exact ⟨_,_,rfl,(SqT.of hq),by rw [<- rs.length]; exact hl,ra _ _ σ H Q ρ μ Q3 s m rs h k⟩
 | _=>exact False.elim h
theorem ym4 {pos':Pos} (hN:X.N.Nodup) (he:RE X e te) (hi:X.N[i]?=some x:=by rfl) (hx:Loc X.env.scope x:=by trivial) (hs:swapsWith e (some (.Name x pos')) pos.line X.env=pure false:=by rfl)
    (hf:X.fn x=true \/ X.env.scope.names.lookup x=some .local:=by trivial):RS X (.Assign [.Name x pos'] e pos) (set3 i te):=by
 obtain ⟨va,pa,ra⟩:=he;exact ⟨_,vy1 hN hi hx pa hs hf,λ σ H D ρ μ D3 s m h k=>ra σ H _ ρ μ _ s m h λ d μ1 v H1 h1 k1 r1 m1=>k.nx _ _ _ _ h1 k1 ((s.mono k1).set i r1) m1⟩
theorem um4 {tg:Expr} (he:RE X e te) (hg:RG X tg g) (hs:swapsWithSole [tg] e pos.line X.env=pure false:=by rfl) (hw:swappedStores [tg] e X.env=pure none:=by rfl)
    (h1:(assignEach [tg] X.env).map (·.2)=[assign tg X.env]:=by rfl):RS X (.Assign [tg] e pos) (asg3 te g):=by
 obtain ⟨va,pa,ra⟩:=he;obtain ⟨vg,pg,rg⟩:=hg;exact ⟨_,tv4 pa pg hs hw h1,λ σ H D ρ μ D3 s m h k=>ra σ H _ ρ μ _ s m h λ d μ1 v H1 h1 k1 r1 m1=>rg v d σ H1 _ ρ μ1 _ (s.mono k1) m1 r1 h1 λ ρ' μ' σ' H' q e=>k.nx ρ' μ' σ' H' q (k1.trans e)⟩
theorem ub5 (n:Nat) (i:Int):L2.ixN n i=ixN n i:=rfl
theorem yn4 {o i:Expr} {to ti:TE3} (ho:RE X o to) (hi:RE X i ti)
    (ha:∀ v,assign (.Subscript o i pos) X.env v=(do
     let ov <- holding [v] (eval o X.env)
     let iv <- holding [v,ov] (eval i X.env)
     standAt pos
     holding [v,ov,iv] (setItem ov iv v)
     release [v,ov,iv] []):=by intro _; rfl):RG X (.Subscript o i pos) (sub3 to ti):=by
 obtain ⟨va,pa,ra⟩:=ho;obtain ⟨vb,pb,rb⟩:=hi;refine ⟨_,ww4 pa pb zw0 ha,λ v d σ H Q ρ μ Q3 s m r h k=>ra σ H _ ρ μ _ s m h λ o' μ1 ov H1 h1 k1 r1 m1=>rb σ H1 _ ρ μ1 _ (s.mono k1) m1 h1 λ i' μ2 iv H2 h2 k2 r2 m2=>?_⟩;cases r1 with
 | ref p =>
  cases r2 with
  | int kk =>
   dsimp only at h2;split at h2
   ·next xs e =>
      cases e2:ixN xs.length kk with
      | none=>simp_all
      | some j =>
       rw [e2] at h2;obtain ⟨vs,hv,rv⟩:=m2 p xs e;have kk':=k1.trans k2;refine ⟨p,vs,kk,j,rfl,rfl,hv,by rw [<- rv.length]; exact e2,k _ _ _ _ h2 (kk'.trans (Kp.wr hv)) (s.mono (kk'.trans (Kp.wr hv))) (m2.wr hv (rv.set (r.mono kk') j))⟩
   ·exact h2.elim
  | _=>exact False.elim h2
 | _=>trivial
end
end Pv
namespace Pv
open PySem PySem.Spec PyProof.Rows L2
def ItOk (K:Fg) (J:It) (l:List D) (S:Mu->Prop) (H0:Hp):Prop:=∀ i H μ,Kp H0 H->RelM K μ H->S μ ->
 (∀ d,l[i]?=some d->J.go i H /\ ∀ x H2,J.yld i H x H2->Kp H H2 /\ RelM K μ H2 /\ RelD K H2 d x) /\ (l.length<=i->J.stop i H)
def RdI (K:Fg) (wi:TI) (ti:TI3):Prop:=∀ σ H R ρ μ R3,RSt K H ρ σ->RelM K μ H->ti ρ μ R3->(∀ l S μ' J H',R3 l S μ'->Kp H H'->RelM K μ' H'->ItOk K J l S H'->R J H')->wi σ H R
def RI (X:Cx) (tg iter:Expr) (ti:TI3):Prop:=∃ wi,PI X tg iter wi /\ RdI X.K wi ti
variable {X:Cx} {iter c e:Expr} {te:TE3} {K:Fg} {H0:Hp} {vs:List V} {body:List Stmt} {ti:TI3} {es:List Expr} {x:Str} {ps:List Str} {sp:Sp3} {r:C3}
section
variable {tg a b:Expr} {ta tb:TE3} {pos:Pos}
def iSeq (K:Fg) (tl:TE):TI:=λ σ H R=>tl σ H λ x H1=>∃ a,x=.ref a /\ (((∃ xs,SqL K H1 a xs) /\ R (Itl K a) H1) \/ ((∃ xs,SqT K H1 a xs) /\ R (Itt K a) H1))
theorem yw4 {l:Expr} {tl:TE} (hl:PE X l tl):PI X tg l (iSeq X.K tl):=by
 intro pins s σ H R I h;refine thn (hl pins s σ H _ I h) λ v s1 ⟨x,H1,I1,r1,q1⟩=>?_
 have fp:∀ b ∈ [s1.heap.objs.size],FpOk X pins H1 b:=λ b hb=>by
  have e:b=s1.heap.objs.size:=by simpa using hb
  subst e;exact I1.fpOk [21] (I1.hok.fresh [21])
 obtain ⟨a,e,q⟩:=q1;subst e;cases r1;rcases q with ⟨⟨xs,hq⟩,q⟩ | ⟨⟨xs,hq⟩,q⟩
 ·obtain ⟨its,rv,p,hz⟩:=I1.list hq;refine wpAny_pyIter_list p.isList ?_;exact ⟨s1.heap.objs.size,[s1.heap.objs.size],_,_,H1,rfl,I1.kept (t':=s1.toks) λ b o e=>Heap.get?_push_of_some _ e,wt1 a _,⟨_,Heap.get?_push_size _ rfl,rfl,rfl⟩,fp,q⟩
 ·obtain ⟨its,rv,p,hz⟩:=I1.tuple hq;refine wpAny_pyIter_tuple (show s1.heap.IsTuple a its.toArray from p) ?_;exact ⟨s1.heap.objs.size,[s1.heap.objs.size],_,_,H1,rfl,I1.kept (t':=s1.toks) λ b o e=>Heap.get?_push_of_some _ e,up1 a _,⟨_,Heap.get?_push_size _ rfl,rfl,rfl⟩,fp,q⟩
theorem uu2 {a:Addr} {l:List D} (h:SqT K H0 a vs) (r:RelDs K H0 l vs):ItOk K (Itt K a) l (λ _=>True) H0:=λ i H μ k m _=>by
 refine ⟨λ d e=>?_,λ hl=>⟨vs,SqT.mono k h,by rw [<- r.length]; exact hl⟩⟩;obtain ⟨v,e1,r1⟩:=r.get e;refine ⟨⟨vs,v,SqT.mono k h,e1⟩,λ x H2 y=>?_⟩;obtain ⟨rfl,y⟩:=y;have e2:=y vs (SqT.mono k h);rw [e1] at e2; cases e2;exact ⟨Kp.refl _,m,r1.mono k⟩
theorem su2 {a:Addr} {l:List D} (h:SqF K H0 a vs) (r:RelDs K H0 l vs):ItOk K (Itl K a) l (λ _=>True) H0:=λ i H μ k m _=>by
 refine ⟨λ d e=>?_,λ hl=>⟨vs,(SqF.mono k h).l,by rw [<- r.length]; exact hl⟩⟩;obtain ⟨v,e1,r1⟩:=r.get e;refine ⟨⟨vs,v,(SqF.mono k h).l,e1⟩,λ x H2 y=>?_⟩;obtain ⟨rfl,y⟩:=y;have e2:=y vs (SqF.mono k h).l;rw [e1] at e2; cases e2;exact ⟨Kp.refl _,m,r1.mono k⟩
theorem tu2 {a:Addr} {l:List D}:ItOk K (Itl K a) l (λ μ=>μ a=some (.lst l)) H0:=λ i H μ k m s=>by
 obtain ⟨vs,h,r⟩:=m a l s;refine ⟨λ d e=>?_,λ hl=>⟨vs,SqL.of h,by rw [<- r.length]; exact hl⟩⟩;obtain ⟨v,e1,r1⟩:=r.get e;refine ⟨⟨vs,v,SqL.of h,e1⟩,λ x H2 y=>?_⟩;obtain ⟨rfl,y⟩:=y;have e2:=y vs (SqL.of h);rw [e1] at e2; cases e2;exact ⟨Kp.refl _,m,r1⟩
theorem tm4 (ha:RE X a ta):RI X tg a (is3 ta):=by
 obtain ⟨va,pa,ra⟩:=ha;refine ⟨_,yw4 pa,λ σ H R ρ μ R3 s m h k=>ra σ H _ ρ μ _ s m h λ d μ1 v H1 h1 k1 r1 m1=>?_⟩;cases r1 with
 | tup hq rs=>exact ⟨_,rfl,.inr ⟨⟨_,(SqT.of hq)⟩,k _ _ _ _ _ h1 k1 m1 (uu2 (SqT.of hq) rs)⟩⟩
 | fls hq rs=>exact ⟨_,rfl,.inl ⟨⟨_,hq.l⟩,k _ _ _ _ _ h1 k1 m1 (su2 hq rs)⟩⟩
 | ref p =>
  dsimp only at h1;split at h1
  ·next xs e =>
     obtain ⟨vs,hv,rv⟩:=m1 p xs e;exact ⟨_,rfl,.inl ⟨⟨_,SqL.of hv⟩,k _ _ _ _ _ h1 k1 m1 tu2⟩⟩
  ·exact h1.elim
 | _=>exact False.elim h1
theorem sp2 (lo:Int) (n i:Nat):(rngD lo n)[i]?=if i < n then some (.int (lo + i)) else none:=by
 unfold rngD;rw [getElem?_map];by_cases h:i < n
 ·simp_all
 simp_all
theorem wp0 (lo:Int) (n:Nat):(rngD lo n).length=n:=by simp [rngD]
theorem sm1 (lo:Int) (n:Nat):ItOk K (Itr lo n) (rngD lo n) (λ _=>True) H0:=λ i H μ k m _=>by
 refine ⟨λ d e=>?_,λ hl=>by rw [wp0] at hl; exact hl⟩;rw [sp2] at e;split at e
 ·next h =>
  cases e;refine ⟨h,λ x H2 y=>?_⟩;obtain ⟨rfl,rfl⟩:=y;exact ⟨Kp.refl _,m,.int _⟩
 ·cases e
theorem xx1 {p:Pos} (hm:X.mg "range" = none) (ha:RE X a ta) (hg:Gl X "range" := by rfl) (hs:starEach [a] X.env=[(false,eval a X.env)]:=by rfl):RI X tg (.Call (.Name "range" p) [a] [] pos) (ir3 (xa0 ta nil3)):=by
 obtain ⟨va,pa,ra⟩:=vi0 ha ua1 hs;refine ⟨_,wz1 hg hm pa hs,λ σ H R ρ μ R3 s m h k=>ra σ H _ ρ μ _ s m h λ ds μ1 vs H1 h1 k1 r1 m1=>?_⟩;cases r1 with
 | nil=>exact False.elim h1
 | cons r1 r2 =>
  cases r2 with
  | cons _ _=>simp_all
  | nil =>
   cases r1 with
   | int j=>exact ⟨j,rfl,h1.1.1,h1.1.2,k _ _ _ _ _ h1.2 k1 m1 (sm1 _ _)⟩
   | _=>exact False.elim h1
theorem sw1 {p:Pos} (hm:X.mg "range" = none) (ha:RE X a ta) (hb:RE X b tb) (hg:Gl X "range" := by rfl) (hs:starEach [a,b] X.env=[(false,eval a X.env),(false,eval b X.env)]:=by rfl) (hs2:starEach [b] X.env=[(false,eval b X.env)]:=by rfl) :
    RI X tg (.Call (.Name "range" p) [a,b] [] pos) (ir23 (xa0 ta (xa0 tb nil3))):=by
 obtain ⟨va,pa,ra⟩:=vi0 ha (vi0 hb ua1 hs2) (by rw [hs,hs2]);refine ⟨_,zz1 hg hm pa hs hs2,λ σ H R ρ μ R3 s m h k=>ra σ H _ ρ μ _ s m h λ ds μ1 vs H1 h1 k1 r1 m1=>?_⟩;split at h1
 ·next i j =>
  cases r1 with
  | cons r1 r2 =>
   cases r2 with
   | cons r2 r3 =>
    cases r3;cases r1;cases r2;exact ⟨i,j,rfl,h1.1,k _ _ _ _ _ h1.2 k1 m1 (sm1 _ _)⟩
 ·exact h1.elim
theorem wm4 {g:TG3} {tb:TS3} (hp:PassesOwn [12] X.A X.env X.xe) (hc:X.calm=true) (hi:RI X tg iter ti) (hg:RG X tg g) (hb:RSs X body tb)
    (hs:∀ x,foldedSetIterable iter X.env x=pure x:=by intro _; rfl):RS X (.For tg iter body [] pos) (for3 ti g tb):=by
 obtain ⟨wi,pi,ri⟩:=hi;obtain ⟨vg,pg,rg⟩:=hg;obtain ⟨vb,pb,rb⟩:=hb;refine ⟨_,vv4 hp hc pi pg pb hs,λ σ H D ρ μ D3 s m h k=>ri σ H _ ρ μ _ s m h λ l S μ1 J H1 h1 k1 m1 ok=>?_⟩;refine ⟨λ i n σ2 H2=>n=l.length - i /\ i<=l.length /\ ∃ ρ2 μ2,RSt X.K H2 ρ2 σ2 /\ RelM X.K μ2 H2 /\ Kp H1 H2 /\ tr1 S g tb D3 (l.drop i) ρ2 μ2,⟨l.length,rfl,Nat.zero_le _,ρ,μ1,s.mono k1,m1,Kp.refl _,h1⟩,?_⟩;rintro i n σ2 H2 ⟨rfl,hi,ρ2,μ2,s2,m2,k2,h2⟩;by_cases hlt:i < l.length
 ·rw [List.drop_eq_getElem_cons hlt] at h2;obtain ⟨hS,N,hN,h2⟩:=h2;obtain ⟨ok1,_⟩:=ok i H2 μ2 k2 m2 hS;obtain ⟨go,yl⟩:=ok1 l[i] (getElem?_eq_getElem hlt);refine .inr ⟨go,λ σ3 H3=>∃ ρ3 μ3,N ρ3 μ3 /\ RSt X.K H3 ρ3 σ3 /\ RelM X.K μ3 H3 /\ Kp H1 H3,λ σ3 H3 ⟨ρ3,μ3,hn,s3,m3,k3⟩=>⟨l.length - (i + 1),by omega,rfl,hlt,ρ3,μ3,s3,m3,k3,hN _ _ hn⟩,λ x H3 y=>?_⟩;obtain ⟨k3,m3,r3⟩:=yl x H3 y;refine rg x l[i] σ2 H3 _ ρ2 μ2 _ (s2.mono k3) m3 r3 h2 λ ρ4 μ4 σ4 H4 h4 k4 s4 m4=>?_;have k14:Kp H1 H4:=k2.trans (k3.trans k4)
  exact rb σ4 H4 _ ρ4 μ4 _ s4 m4 h4 ⟨λ ρ5 μ5 σ5 H5 h5 k5 s5 m5=>⟨ρ5,μ5,h5,s5,m5,k14.trans k5⟩,λ ρ5 μ5 σ5 H5 h5 k5 s5 m5=>k.nx _ _ _ _ h5 (k1.trans (k14.trans k5)) s5 m5,
   λ ρ5 μ5 σ5 H5 h5 k5 s5 m5=>⟨ρ5,μ5,h5,s5,m5,k14.trans k5⟩,λ d μ5 v H5 h5 k5 r5 m5=>k.rt _ _ _ _ h5 (k1.trans (k14.trans k5)) r5 m5⟩
 ·have e:i=l.length:=by omega
  subst e;rw [List.drop_length] at h2;obtain ⟨hS,h2⟩:=h2;exact .inl ⟨(ok _ H2 μ2 k2 m2 hS).2 [21],k.nx _ _ _ _ h2 (k1.trans k2) s2 m2⟩
theorem wp2 {tc:TT3} {tb:TS3} (hp:PassesOwn [12] X.A X.env X.xe) (hc:RT X c tc) (hb:RSs X body tb):RS X (.While c body [] pos) (ty0 tc tb):=by
 obtain ⟨vc,pc,rc⟩:=hc;obtain ⟨vb,pb,rb⟩:=hb;refine ⟨_,wr2 hp pc pb,λ σ H D ρ μ D3 s m h k=>?_⟩;obtain ⟨W,⟨n0,w0⟩,turn⟩:=h;refine ⟨λ n σ2 H2=>∃ ρ2 μ2,W n ρ2 μ2 /\ RSt X.K H2 ρ2 σ2 /\ RelM X.K μ2 H2 /\ Kp H H2,⟨n0,ρ,μ,w0,s,m,Kp.refl _⟩,?_⟩;rintro n σ2 H2 ⟨ρ2,μ2,w2,s2,m2,k2⟩;refine rc σ2 H2 _ ρ2 μ2 _ s2 m2 (turn n ρ2 μ2 w2) λ b μ3 H3 h3 k3 m3=>?_;cases b with
 | true =>
  obtain ⟨N,hN,h3⟩:=h3;have k23:=k2.trans k3;refine ⟨λ σ4 H4=>∃ ρ4 μ4,N ρ4 μ4 /\ RSt X.K H4 ρ4 σ4 /\ RelM X.K μ4 H4 /\ Kp H H4,λ σ4 H4 ⟨ρ4,μ4,hn,s4,m4,k4⟩=>?_,?_⟩
  ·obtain ⟨n',hl,w4⟩:=hN _ _ hn;exact ⟨n',hl,ρ4,μ4,w4,s4,m4,k4⟩
  ·exact rb σ2 H3 _ ρ2 μ3 _ (s2.mono k3) m3 h3 ⟨λ ρ5 μ5 σ5 H5 h5 k5 s5 m5=>⟨ρ5,μ5,h5,s5,m5,k23.trans k5⟩,λ ρ5 μ5 σ5 H5 h5 k5 s5 m5=>k.nx _ _ _ _ h5 (k23.trans k5) s5 m5,
     λ ρ5 μ5 σ5 H5 h5 k5 s5 m5=>⟨ρ5,μ5,h5,s5,m5,k23.trans k5⟩,λ d μ5 v H5 h5 k5 r5 m5=>k.rt _ _ _ _ h5 (k23.trans k5) r5 m5⟩
 | false=>exact k.nx _ _ _ _ h3 (k2.trans k3) (s2.mono k3) m3
def lift (K:Fg) (sp:Sp3):Sp:=λ vs H Q _=>∃ ds μ Q3,RelDs K H ds vs /\ RelM K μ H /\ sp ds μ Q3 /\ Ks K H Q3 Q
def Cal (P:Program) (w:World) (K:Fg) (mg:[28]) (base:Heap) (k:Nat) (x:Str) (ps:List Str) (sp:Sp3):Prop :=
 ∃ f fd,FnOk P w K mg base CX0 k f fd ps (lift K sp) /\ mg x=some (.ref f) /\ keepIn K (.ref f)=true /\ Binds K fd ps []
theorem Cal.mono {P:Program} {w:World} {K:Fg} {mg:[28]} {base:Heap} {j k:Nat} {x:Str} {ps:List Str} {sp:Sp3} (c:Cal P w K mg base j x ps sp) (h:j<=k):Cal P w K mg base k x ps sp:=by
 obtain ⟨f,fd,F,r⟩:=c;exact ⟨f,fd,F.mono h,r⟩
variable {t:TA3} {p:Pos}
theorem wm3 {k:Nat} (c:Cal X.prog X.w X.K X.mg X.base k x ps sp) (hr:Room k X.A) (ha:RA X (e :: es) t) (hg:Gl X x:=by rfl) (hdb:[30]=false:=by decide)
    (he:starEach (e :: es) X.env=[34] :: starEach es X.env:=by rfl) (hpl:(backTo pos (starEach es X.env)).any (·.1)=false:=by rfl):RE X (.Call (.Name x p) (e :: es) [] pos) (va0 sp t):=by
 obtain ⟨f,fd,F,hm,hk,hb⟩:=c;obtain ⟨va,pa,ra⟩:=ha;refine ⟨_,tp3 F hr hg hm hk hb .nil yq3 pa hdb he hpl,λ σ H Q ρ μ Q3 s m h k=>ra σ H _ ρ μ _ s m h λ ds μ1 vs H1 h1 k1 r1 m1=>?_⟩;rw [append_nil];exact ⟨ds,μ1,Q3,r1,m1,h1,k.after k1⟩
theorem vg0 {id:String} (hc:RC X (.builtin id) r) (hm:X.mg x=none) (hv:bootBuiltins x=some (.builtin id)) (ha:RA X (e :: es) t) (hg:Gl X x:=by rfl) (hn:x ≠ "__name__" := by decide) (hdb:[30]=false:=by decide)
    (he:starEach (e :: es) X.env=[34] :: starEach es X.env:=by rfl) (hpl:(backTo pos (starEach es X.env)).any (·.1)=false:=by rfl):RE X (.Call (.Name x p) (e :: es) [] pos) (va0 r t):=by
 obtain ⟨r',pc,rc⟩:=hc;obtain ⟨va,pa,ra⟩:=ha;exact ⟨_,ss2 pc hg hm hv pa hn hdb he hpl,λ σ H Q ρ μ Q3 s m h k=>ra σ H _ ρ μ _ s m h λ ds μ1 vs H1 h1 k1 r1 m1=>rc ds vs H1 Q μ1 Q3 m1 r1 h1 (k.after k1)⟩
theorem va1 {T:String} (hc:RC X (.type T) r) (hm:X.mg x=none) (hv:bootBuiltins x=some (.type T)) (ha:RA X (e :: es) t) (hg:Gl X x:=by rfl) (hn:x ≠ "__name__" := by decide) (hdb:[30]=false:=by decide)
    (he:starEach (e :: es) X.env=[34] :: starEach es X.env:=by rfl) (hpl:(backTo pos (starEach es X.env)).any (·.1)=false:=by rfl):RE X (.Call (.Name x p) (e :: es) [] pos) (va0 r t):=by
 obtain ⟨r',pc,rc⟩:=hc;obtain ⟨va,pa,ra⟩:=ha;exact ⟨_,tz1 pc hg hm hv pa hn hdb he hpl,λ σ H Q ρ μ Q3 s m h k=>ra σ H _ ρ μ _ s m h λ ds μ1 vs H1 h1 k1 r1 m1=>rc ds vs H1 Q μ1 Q3 m1 r1 h1 (k.after k1)⟩
theorem re_ix {r3:R3} (hx:RX X r3) (ha:RE X a ta) (hb:RE X b tb) (hs:yi2 b:=by intro _ _; rfl):RE X (.Subscript a b pos) (o3 r3 ta tb):=by
 obtain ⟨r,po,ro⟩:=hx;obtain ⟨va,pa,ra⟩:=ha;obtain ⟨vb,pb,rb⟩:=hb;exact ⟨_,pe_ix po pa pb hs,ra.op rb ro⟩
end
variable {w:World} {mg:[28]} {f:Addr} {fd:FuncData}
section
variable {P:Program} {base:Heap}
theorem ve2 {st:Stmt} {N:List Str} {k:Nat} {t:TS3} (F:Fun K x x st f fd) (S:FnScope N ps (wa0 st))
    (len:∀ ds μ Q,sp ds μ Q->ds.length=ps.length)
    (body:∀ (cdv:Value) (A:Around) (outer:List Env) (s:Shared) (H:Hp) (E:XK),Room k (A.deeper (envOfC x (wa0 st) s.heap.objs.size f cdv))->RSs (cxOf CX0 P w K mg base N x (wa0 st) f cdv A outer s H E).nox (vc0 st) t)
    (rd:∀ ds μ Q,sp ds μ Q->t { nx:=λ _ μ'=>Q .non μ',rt:=Q } (ua0 N ds) μ):FnOk P w K mg base CX0 (k + 1) f fd ps (lift K sp):=by
 refine F.ok S (λ vs H Q E h=>?_) (λ cdv A outer s H vs Q E hr h=>?_)
 ·obtain ⟨ds,μ,Q3,r,m,q,ks⟩:=h;rw [<- r.length]; exact len _ _ _ q
 ·obtain ⟨ds,μ,Q3,r,m,q,ks⟩:=h;obtain ⟨tv,p,rt⟩:=body cdv A outer s H E hr;exact ⟨tv,p,rt _ H _ _ μ _ (RSt.start N r) m (rd ds μ Q3 q) ⟨λ ρ μ' σ H' h' k' s' m'=>ks _ _ _ _ h' k' .non m',λ ρ μ' σ H' h'=>False.elim h',λ ρ μ' σ H' h'=>False.elim h',ks⟩⟩
theorem ze5 {st:Stmt} {N:List Str} {k:Nat} {t:TS3} (F:Fun K x x st f fd) (hm:mg x=some (.ref f)) (hb:Binds K fd ps []) (S:FnScope N ps (wa0 st))
    (len:∀ ds μ Q,sp ds μ Q->ds.length=ps.length)
    (body:∀ (cdv:Value) (A:Around) (outer:List Env) (s:Shared) (H:Hp) (E:XK),Room k (A.deeper (envOfC x (wa0 st) s.heap.objs.size f cdv))->RSs (cxOf CX0 P w K mg base N x (wa0 st) f cdv A outer s H E).nox (vc0 st) t)
    (rd:∀ ds μ Q,sp ds μ Q->t { nx:=λ _ μ'=>Q .non μ',rt:=Q } (ua0 N ds) μ):Cal P w K mg base (k + 1) x ps sp :=
 ⟨f,fd,ve2 F S len body rd,hm,F.kp,hb⟩
theorem xy2 {st:Stmt} (F:Fun K x x st f fd) (hm:mg x=some (.ref f)) (hb:Binds K fd ps []) (no:∀ ds μ Q,¬ sp ds μ Q):Cal P w K mg base 0 x ps sp:=by
 have no':∀ vs H Q E,¬ lift K sp vs H Q E:=λ vs H Q E ⟨ds,μ,Q3,_,_,q,_⟩=>no _ _ _ q;exact ⟨f,fd,⟨λ vs H Q E h=>absurd h (no' vs H Q E),λ A outer s H args us vs Q E _ _ _ _ h=>absurd h (no' vs H Q E)⟩,hm,F.kp,hb⟩
end
variable {g3:Int->Int->D} {i:Int}
section
theorem RdO.i0 {g:Int->Int->V} (hg:∀ i j H,RelD K H (g3 i j) (g i j)):RdO K (rI0 g) (zk0 g3):=λ x y v u H Q μ Q3 m rx ry h k=>by
 unfold zk0 at h;split at h
 ·cases rx;cases ry;exact ⟨_,_,rfl,rfl,k _ _ _ _ h (Kp.refl _) (hg _ _ H) m⟩
 ·exact h.elim
theorem RdO.i2 {C:Int->Int->Prop} {g:Int->Int->V} (hg:∀ i j H,RelD K H (g3 i j) (g i j)):RdO K (rI C g) (int2 C g3):=λ x y v u H Q μ Q3 m rx ry h k=>by
 unfold int2 at h;split at h
 ·cases rx;cases ry;exact ⟨_,_,rfl,rfl,h.1,k _ _ _ _ h.2 (Kp.refl _) (hg _ _ H) m⟩
 ·exact h.elim
theorem q_sub:RO X (binaryOp .Sub) subR:=⟨_,sx4,RdO.i0 λ _ _ _=>.int _⟩
theorem q_mod:RO X (binaryOp .Mod) modR:=⟨_,wy4,RdO.i2 λ _ _ _=>.int _⟩
theorem q_pow:RO X (binaryOp .Pow) powR:=⟨_,yy4,RdO.i2 λ _ _ _=>.int _⟩
theorem log2_lt {n k:Nat} (hk:0 < k) (h:n < 2 ^ k):n.log2 < k:=by
 rcases Nat.eq_zero_or_pos n with h0 | hp
 ·simp_all
 ·exact (Nat.log2_lt (Nat.ne_of_gt hp)).mpr h
theorem yt2:OpR X (binaryOp .FloorDiv) (rI (λ _ j=>0 < j /\ j < 2 ^ 120) λ i j=>.int (i / j)):=opI λ i j _ _ _ _ _ hc q=>by
 have h1:(0:Int) < j:=hc.1;have h2:j < 2 ^ 120:=hc.2;refine floordiv_int [5] (by rw [Int.fdiv_eq_ediv_of_nonneg i [5]]; exact q) (.inl (PyProof.noPylong_of_log2 ?_));have h3:j.natAbs < 2 ^ 120:=by omega
 exact Nat.lt_trans (log2_lt [27] h3) [27]
theorem xu4:RO X (binaryOp .FloorDiv) sr1:=⟨_,yt2,RdO.i2 λ _ _ _=>.int _⟩
theorem CMul.mulok {j:Int} (h:CMul i j):IntMulOk i j:=by
 rcases h with h | ⟨h1,h2⟩
 ·exact L2.CMul.ok h
 ·unfold IntMulOk;intro e;rw [Bool.and_eq_true] at e;have e2:=e.2;unfold Builtin.Int.intTooBig at e2
  have hb:∀ x:Int,x.natAbs < Big->Builtin.Int.intBits x<=1000:=λ x hx=>by
   unfold Builtin.Int.intBits;split
   ·exact Nat.zero_le _
   ·exact log2_lt [27] hx
  have b1:=hb i h1;have b2:=hb j h2;have e3:=of_decide_eq_true e2;have e4:(2000:Nat) < bitsLine:=by decide
  omega
theorem op_mulB:OpR X (binaryOp .Mult) (rI CMul λ i j=>.int (i * j)):=opI λ _ _ _ _ _ _ _ hc q=>mul_int q hc.mulok
theorem q_neg:RU X (unaryOp .USub) negR:=⟨_,wa4,λ x v H Q μ Q3 m r h k=>by
 cases r with
 | int i=>exact ⟨i,rfl,k _ _ _ _ h (Kp.refl _) (.int _) m⟩
 | _=>exact False.elim h⟩
theorem q_lt:RO X (compareOp .Lt) ltR:=⟨_,op_lt,RdO.i0 λ _ _ _=>.bl _⟩
theorem q_le:RO X (compareOp .LtE) leR:=⟨_,op_le,RdO.i0 λ _ _ _=>.bl _⟩
theorem q_gt:RO X (compareOp .Gt) gtR:=⟨_,op_gt,RdO.i0 λ _ _ _=>.bl _⟩
theorem q_ge:RO X (compareOp .GtE) geR:=⟨_,op_ge,RdO.i0 λ _ _ _=>.bl _⟩
def rCatA (K:Fg):R2:=λ x y H Q=>∃ a b xs ys,x=.ref a /\ y=.ref b /\ SqT K H a xs /\ SqT K H b ys /\ xs.length + ys.length<=sizeLine ∧
 (xs=[]->Q (.ref b) H) /\ (ys=[]->Q (.ref a) H) /\ (∀ p,H p=none->Q (.ref p) (upd H p (.tup (xs ++ ys))))
theorem vq3:OpR X (binaryOp .Add) (rCatA X.K):=by
 intro pins s σ H x y v u Q I rx ry h;obtain ⟨a,b,xs,ys,rfl,rfl,ha,hb,hz,q1,q2,q3⟩:=h;by_cases hx:xs=[]
 ·cases rx;cases ry;obtain ⟨its,r,ht,_⟩:=I.tuple ha;obtain ⟨its2,r2,ht2,_⟩:=I.tuple hb;have hi:its=[]:=by subst hx; cases r; rfl
  obtain ⟨⟨cls,dd,data,sl⟩,ho,hc,n,hd⟩:=id ht;obtain ⟨⟨cls2,dd2,data2,sl2⟩,ho2,hc2,n2,hd2⟩:=id ht2;simp only at hc hd hc2 hd2;subst hc hd hc2 hd2
  exact concat_meets ⟨_,ho,rfl⟩ ⟨_,ho2,rfl⟩ noFill_tuple_add seq_tuple_add slot_tuple_add entry_tuple_add (args_tuple_add_2 _ _)
   (tuple_addW0 a b its.toArray its2.toArray n n2 dd dd2 sl sl2 (by simp [hi])) ⟨ho,ho2,⟨.ref b,H,I,rfl,q1 hx⟩⟩
 ·exact wq3 pins s σ H _ _ v u Q I rx ry ⟨a,b,xs,ys,rfl,rfl,ha,hb,hx,hz,q2,λ _=>q3⟩
theorem q_add:RO X (binaryOp .Add) addR:=by
 refine ⟨_,op_add.or (op_cat.or vq3),λ x y v u H Q μ Q3 m rx ry h k=>?_⟩;unfold addR at h;split at h
 ·cases rx;cases ry;exact .inl ⟨_,_,rfl,rfl,k _ _ _ _ h (Kp.refl _) (.int _) m⟩
 ·next p q =>
  cases rx;cases ry;split at h
  ·next xs ys e e2 =>
   obtain ⟨vs,hv,rv⟩:=m p xs e;obtain ⟨us,hu,ru⟩:=m q ys e2;refine .inr (.inl ⟨p,q,vs,us,rfl,rfl,hv,hu,by rw [<- rv.length,<- ru.length]; exact h.1,λ t ht=>?_⟩);exact k _ _ _ _ (h.2 t (m.free ht)) (Kp.new ht) (.ref t) (m.newL ht (rv.append ru))
  ·exact h.elim
 ·cases rx with
  | tup hq rs =>
  cases ry with
  | tup hq2 rs2 =>
   rename_i a vs b us;refine .inr (.inr ⟨a,b,vs,us,rfl,rfl,(SqT.of hq),(SqT.of hq2),by rw [<- rs.length,<- rs2.length]; exact h.1,λ e=>?_,λ e=>?_,λ t ht=>?_⟩)
   ·subst e; cases rs;exact k _ _ _ _ h.2 (Kp.refl _) (.tup hq2 rs2) m
   ·subst e; cases rs2;have h2:=h.2;rw [append_nil] at h2;exact k _ _ _ _ h2 (Kp.refl _) (.tup hq rs) m
   ·exact k _ _ _ _ h.2 (Kp.new ht) (.tup zg0 ((rs.append rs2).mono (Kp.new ht))) (m.newT ht)
 ·exact h.elim
theorem RelDs.atI {K:Fg} {H:Hp} {l:List D} {vs:List V} {i:Int} {d:D} (r:RelDs K H l vs) (e:Pv.atI l i=some d):∃ v,L2.atI vs i=some v /\ RelD K H d v:=by
 unfold Pv.atI at e;unfold L2.atI;rw [ub5,<- r.length];cases q:ixN l.length i with
 | none=>simp_all
 | some j =>
  rw [q] at e;exact r.get e
theorem q_ix:RX X ixR:=by
 refine ⟨_,ix_list.or vb5,λ x y v u H Q μ Q3 m rx ry h k=>?_⟩;unfold ixR at h;split at h
 ·cases ry;cases rx with
  | tup hq rs =>
  split at h
  ·next e =>
   obtain ⟨w,e1,r1⟩:=rs.atI e;exact .inr ⟨_,_,_,w,rfl,rfl,(SqT.of hq),e1,k _ _ _ _ h (Kp.refl _) r1 m⟩
  ·exact h.elim
 ·cases ry;cases rx with
  | ktp hq rs =>
  split at h
  ·next e =>
   obtain ⟨w,e1,r1⟩:=rs.atI e;exact .inr ⟨_,_,_,w,rfl,rfl,hq,e1,k _ _ _ _ h (Kp.refl _) r1 m⟩
  ·exact h.elim
 ·cases ry;cases rx with
  | fls hq rs =>
  split at h
  ·next e =>
   obtain ⟨w,e1,r1⟩:=rs.atI e;exact .inl ⟨_,_,_,w,rfl,rfl,hq.l,e1,k _ _ _ _ h (Kp.refl _) r1 m⟩
  ·exact h.elim
 ·next p i =>
  cases ry;cases rx;split at h
  ·next l e0 =>
   obtain ⟨vs,hv,rs⟩:=m p l e0;split at h
   ·next e =>
    obtain ⟨w,e1,r1⟩:=rs.atI e;exact .inl ⟨p,vs,i,w,rfl,rfl,SqL.of hv,e1,k _ _ _ _ h (Kp.refl _) r1 m⟩
   ·exact h.elim
  ·exact h.elim
 ·exact h.elim
theorem vj1 {K:Fg} {H:Hp}:∀ {l:List D} {vs:List V} {zs:List Str},RelDs K H l vs->strs? l=some zs->vs=zs.map V.str
 | _,_,zs,.nil,e=>by simp [strs?] at e; subst e; rfl
 | _,_,zs,.cons h r,e=>by
  cases h with
  | str x =>
   simp only [strs?] at e;split at e
   ·next ys e1 =>
    simp only [Option.some.injEq] at e;subst e;rw [vj1 r e1]; rfl
   ·cases e
  | _=>simp [strs?] at e
theorem tv2 (z:Str) (zs:List Str):inV (.str z) (zs.map V.str)=zs.contains z:=by
 unfold inV;rw [List.any_map]
 induction zs with
 | nil=>rfl
 | cons y r ih =>
  rw [any_cons,ih,List.contains_cons];congr 1;show (y == z)=(z == y);rw [Bool.eq_iff_iff,beq_iff_eq,beq_iff_eq];exact eq_comm
theorem te2 (zs:List Str):(zs.map V.str).all ux0=true:=by
 rw [List.all_map,List.all_eq_true]; intro _ _; rfl
theorem q_len:RC X (.builtin "len") lenR:=by
 refine ⟨_,td1,λ xs vs H Q μ Q3 m r h k=>?_⟩;unfold lenR at h;split at h
 ·obtain ⟨v,rfl,r1⟩:=r.one;cases r1 with
  | tup hq rs =>
   refine ⟨_,_,rfl,.inr (SqT.of hq),?_⟩;rw [<- rs.length];exact k _ _ _ _ h (Kp.refl _) (.int _) m
 ·obtain ⟨v,rfl,r1⟩:=r.one;cases r1 with
  | fls hq rs =>
   refine ⟨_,_,rfl,.inl hq.l,?_⟩;rw [<- rs.length];exact k _ _ _ _ h (Kp.refl _) (.int _) m
 ·obtain ⟨v,rfl,r1⟩:=r.one;cases r1;split at h
  ·next l e =>
   obtain ⟨vs,hv,rs⟩:=m _ l e;refine ⟨_,vs,rfl,.inl (SqL.of hv),?_⟩;rw [<- rs.length];exact k _ _ _ _ h (Kp.refl _) (.int _) m
  ·exact h.elim
 ·exact h.elim
theorem q_abs:RC X (.builtin "abs") absR:=by
 refine ⟨_,sx2,λ xs vs H Q μ Q3 m r h k=>?_⟩;cases r with
 | nil=>exact False.elim h
 | cons r1 r2 =>
  cases r2 with
  | cons _ _=>cases r1 <;> exact False.elim h
  | nil =>
   cases r1 with
   | int i=>exact ⟨i,rfl,k _ _ _ _ h (Kp.refl _) (.int _) m⟩
   | _=>exact False.elim h
theorem tm3:RC X (.type "tuple") tupR:=by
 refine ⟨_,zy0,λ xs vs H Q μ Q3 m r h k=>?_⟩;unfold tupR at h;split at h
 ·obtain ⟨v,rfl,r1⟩:=r.one;cases r1;split at h
  ·next l e =>
   obtain ⟨vs,hv,rs⟩:=m _ l e;exact ⟨_,vs,rfl,.inl ⟨SqL.of hv,λ t ht=>k _ _ _ _ h (Kp.new ht) (.tup zg0 (rs.mono (Kp.new ht))) (m.newT ht)⟩⟩
  ·exact h.elim
 ·exact h.elim
theorem xn1 {K:Fg} {H:Hp}:∀ {l:List D} {vs:List V} {zs:List Int},RelDs K H l vs->ints? l=some zs->vs=zs.map V.int
 | _,_,zs,.nil,e=>by simp [ints?] at e; subst e; rfl
 | _,_,zs,.cons h r,e=>by
  cases h with
  | int x =>
   simp only [ints?] at e;split at e
   ·next ys e1 =>
    simp only [Option.some.injEq] at e;subst e;rw [xn1 r e1]; rfl
   ·cases e
  | _=>simp [ints?] at e
theorem ux2:X.calm=true->xt0 X (.builtin "sum") (λ xs H Q=>∃ (p:Addr) (ns:List Int),xs=[.ref p] /\ SqL X.K H p (ns.map V.int) /\ Q (.int ns.sum) H):=by
 intro hc pins s σ H xs us Q I r h;obtain ⟨p,ns,rfl,hq,q⟩:=h;obtain ⟨u,rfl,rx⟩:=vp1 r;cases rx;obtain ⟨its,r',pl,hz⟩:=I.list hq;have hi:=wr1 r';obtain ⟨ys,e⟩:=hi.allInts.items;have hl:=pl.isList;rw [e] at hl;refine sum_intListG (I.ok.hd hc) hl λ h' tk t' hk=>?_;refine ⟨.int ns.sum,H,I.kept (t':=tk) hk,⟨t',?_⟩,q⟩;rw [preSum_eq,take_of_length_le [17],<- nums_intItems,<- e];show Value.int (numsOf its).sum t'=_;rw [hi.numsOf]
theorem q_sum (hc:X.calm=true:=by rfl):RC X (.builtin "sum") sumR:=by
 refine ⟨_,ux2 hc,λ xs vs H Q μ Q3 m r h k=>?_⟩;unfold sumR at h;split at h
 ·obtain ⟨v,rfl,r1⟩:=r.one;cases r1;split at h
  ·next l e =>
   obtain ⟨vs,hv,rs⟩:=m _ l e;split at h
   ·next ns e1 =>
    have ev:=xn1 rs e1;subst ev;exact ⟨_,ns,rfl,SqL.of hv,k _ _ _ _ h (Kp.refl _) (.int _) m⟩
   ·exact h.elim
  ·exact h.elim
 ·exact h.elim
end
variable {pins:[18]} {σ:L2.St} {H:Hp} {s:Shared} {μ:Mu} {v:V} {A:Around} {neg:Bool} {Q:VK}
section
mutual
theorem wg0 (I:[8]):∀ {d:D} {v:V} {p:PyData} {u:Value},RelD X.K H d v->dat d=some p->RelV v u->∃ as,Reads s.heap u p as
 | _,_,p,u,.non,e,r=>by simp only [dat,Option.some.injEq] at e; subst e; cases r; exact ⟨_,Reads.none⟩
 | _,_,p,u,.bl b,e,r=>by simp only [dat,Option.some.injEq] at e; subst e; cases r; exact ⟨_,Reads.bool b⟩
 | _,_,p,u,.int i,e,r=>by simp only [dat,Option.some.injEq] at e; subst e; obtain ⟨t,rfl⟩:=r; exact ⟨_,Reads.int i t⟩
 | _,_,p,u,.str x,e,r=>by
  simp only [dat] at e;split at e
  ·simp only [Option.some.injEq] at e; subst e; obtain ⟨t,rfl⟩:=r; exact ⟨_,Reads.str x t⟩
  ·cases e
 | _,_,p,u,.ref a,e,r=>by simp [dat] at e
 | _,_,p,u,.ty n,e,r=>by simp [dat] at e
 | _,_,p,u,.fls _ _,e,r=>by simp [dat] at e
 | _,_,p,u,.exc _ _ _,e,r=>by simp [dat] at e
 | _,_,p,u,.tup hq rs,e,r=>by
  simp only [dat] at e;split at e
  ·next ps e1 =>
   simp only [Option.some.injEq] at e; subst e;cases r;obtain ⟨its,rv,⟨o,ho,hc,n,hd⟩,hz⟩:=I.tuple (SqT.of hq);obtain ⟨as,q⟩:=uf0 I rs e1 rv;exact ⟨_,Reads.tuple ho hc hd (by simpa using q)⟩
  ·cases e
 | _,_,p,u,.ktp hq rs,e,r=>by
  simp only [dat] at e;split at e
  ·next ps e1 =>
   simp only [Option.some.injEq] at e; subst e;cases r;obtain ⟨its,rv,⟨o,ho,hc,n,hd⟩,hz⟩:=I.tuple hq;obtain ⟨as,q⟩:=uf0 I rs e1 rv;exact ⟨_,Reads.tuple ho hc hd (by simpa using q)⟩
  ·cases e
theorem uf0 (I:[8]):∀ {l:List D} {vs:List V} {ps:List PyData} {us:[24]},RelDs X.K H l vs->dats l=some ps->Vals vs us->∃ as,ReadsAll s.heap us ps as
 | _,_,ps,us,.nil,e,r=>by simp only [dats,Option.some.injEq] at e; subst e; cases r; exact ⟨_,ReadsAll.nil⟩
 | _,_,ps,us,.cons h rs,e,r=>by
  simp only [dats] at e;split at e
  ·next p e1 =>
   split at e
   ·next qs e2 =>
    simp only [Option.some.injEq] at e; subst e;cases r with
    | cons r1 r2 =>
     obtain ⟨as,q1⟩:=wg0 I h e1 r1;obtain ⟨bs,q2⟩:=uf0 I rs e2 r2;exact ⟨_,ReadsAll.cons q1 q2⟩
   ·cases e
  ·cases e
end
theorem ve0 (I:[8]) (m:RelM X.K μ H) {d:D} {p:PyData} {u:Value} (h:RelD X.K H d v) (e:datM μ d=some p) (r:RelV v u):∃ as,Reads s.heap u p as:=by
 cases h with
 | ref a =>
  simp only [datM] at e;split at e
  ·next l e0 =>
   split at e
   ·next ps e1 =>
    simp only [Option.some.injEq] at e; subst e;cases r;obtain ⟨vs,hv,rs⟩:=m a l e0;obtain ⟨its,rv,pl,hz⟩:=I.list (SqL.of hv);obtain ⟨o,ho,hc,n,hd⟩:=pl.isList;obtain ⟨as,q⟩:=uf0 I rs e1 rv;exact ⟨_,Reads.list ho hc hd (by simpa using q)⟩
   ·cases e
  ·cases e
 | non=>exact wg0 I .non e r
 | bl b=>exact wg0 I (.bl b) e r
 | int i=>exact wg0 I (.int i) e r
 | str x=>exact wg0 I (.str x) e r
 | ty n=>trivial
 | tup hq rs=>exact wg0 I (.tup hq rs) e r
 | ktp hq rs=>exact wg0 I (.ktp hq rs) e r
 | fls hq rs=>trivial
 | exc a1 a2 a3=>trivial
mutual
theorem sd0:∀ (d:D) (p:PyData),dat d=some p->p.canLay0=true
 | .non,p,e=>by simp only [dat,Option.some.injEq] at e; subst e; rfl
 | .bl b,p,e=>by simp only [dat,Option.some.injEq] at e; subst e; rfl
 | .int b,p,e=>by simp only [dat,Option.some.injEq] at e; subst e; rfl
 | .str x,p,e=>by
  simp only [dat] at e;split at e
  ·next h=>simp only [Option.some.injEq] at e; subst e; exact h
  ·cases e
 | .tup l,p,e=>by
  simp only [dat] at e;split at e
  ·next ps e1=>simp only [Option.some.injEq] at e; subst e; simp only [PyData.canLay0]; exact xg0 l ps e1
  ·cases e
 | .ktp l,p,e=>by
  simp only [dat] at e;split at e
  ·next ps e1=>simp only [Option.some.injEq] at e; subst e; simp only [PyData.canLay0]; exact xg0 l ps e1
  ·cases e
 | .fls _,p,e=>by simp [dat] at e
 | .ref _,p,e=>by simp [dat] at e
 | .ty _,p,e=>by simp [dat] at e
theorem xg0:∀ (l:List D) (ps:List PyData),dats l=some ps->PyData.canLayAll0 ps=true
 | [],ps,e=>by simp only [dats,Option.some.injEq] at e; subst e; rfl
 | d :: r,ps,e=>by
  simp only [dats] at e;split at e
  ·next p e1 =>
   split at e
   ·next qs e2 =>
    simp only [Option.some.injEq] at e; subst e;simp only [PyData.canLayAll0,Bool.and_eq_true];exact ⟨sd0 d p e1,xg0 r qs e2⟩
   ·cases e
  ·cases e
end
theorem zi1 {d:D} {p:PyData} (e:datM μ d=some p):p.canLay0=true:=by
 cases d with
 | ref a =>
  simp only [datM] at e;split at e
  ·next l e0 =>
   split at e
   ·next ps e1=>simp only [Option.some.injEq] at e; subst e; simp only [PyData.canLay0]; exact xg0 l ps e1
   ·cases e
  ·cases e
 | non=>exact sd0 _ p e
 | bl b=>exact sd0 _ p e
 | int i=>exact sd0 _ p e
 | str x=>exact sd0 _ p e
 | ty n=>trivial
 | tup l=>exact sd0 _ p e
 | ktp l=>exact sd0 _ p e
 | fls l=>trivial
 | exc c=>trivial
theorem wb0 {d:D} {p:PyData} (e:datM μ d=some p) (h:p.depth<=64):PySem.SeqAt.shaped p=true:=by
 unfold PySem.SeqAt.shaped;rw [zi1 e,decide_eq_true h]; rfl
def rEqD (K:Fg) (neg:Bool):R2:=λ x y H Q=>∃ d e μ p q,RelM K μ H /\ RelD K H d x /\ RelD K H e y /\ datM μ d=some p /\ datM μ e=some q /\ p.depth<=64 /\ q.depth<=64 /\ Q (.bl (if neg then !PyData.eqv p q else PyData.eqv p q)) H
theorem sy4 (hu:[42]):OpR X (compareOp .Eq) (rEqD X.K false):=by
 intro pins s σ H x y v u Q I rx ry h;obtain ⟨d,e,μ,p,q,m,rd,re,e1,e2,h1,h2,k⟩:=h;obtain ⟨as,q1⟩:=ve0 I m rd e1 rx;obtain ⟨bs,q2⟩:=ve0 I m re e2 ry;exact eq_dataH q1 q2 (wb0 e1 h1) (wb0 e2 h2) hu ⟨.bl _,H,I,rfl,k⟩
theorem zy4 (hu:[42]):OpR X (compareOp .NotEq) (rEqD X.K true):=by
 intro pins s σ H x y v u Q I rx ry h;obtain ⟨d,e,μ,p,q,m,rd,re,e1,e2,h1,h2,k⟩:=h;obtain ⟨as,q1⟩:=ve0 I m rd e1 rx;obtain ⟨bs,q2⟩:=ve0 I m re e2 ry;exact ne_dataH q1 q2 (wb0 e1 h1) (wb0 e2 h2) hu ⟨.bl _,H,I,rfl,k⟩
theorem sc5 {x y:D} {u:V} {c:Bool} (rx:RelD K H x v) (ry:RelD K H y u) (e:eqS x y=some c):scal v u=true /\ decide (v=u)=c:=by
 unfold eqS at e;split at e <;> first | (cases e; done) | (cases rx; cases ry; cases e; exact ⟨rfl,rfl⟩) | (cases rx; cases ry; cases e; refine ⟨rfl,?_⟩; simp)
theorem hu64 {k:Nat} (hr:Room k A):A.units + 64 < cLine:=by have:=hr.un; omega
def rInD (K:Fg) (neg:Bool):R2:=λ x y H Q=>∃ d e μ p xs,∃ b:Bool,RelM K μ H /\ RelD K H d x /\ RelD K H e y /\ datM μ d=some p /\ datM μ e=some (if b then .list xs else .tuple xs) /\ p.depth<=64 /\ (if b then PyData.list xs else PyData.tuple xs).depth<=64 ∧
 Q (.bl (if neg then !(xs.any λ e=>PyData.eqv e p) else xs.any λ e=>PyData.eqv e p)) H
theorem uy4 (hu:X.A.units + 65 < cLine):OpR X (compareOp .In) (rInD X.K false):=by
 intro pins s σ H x y v u Q I rx ry h;obtain ⟨d,e,μ,p,xs,b,m,rd,re,e1,e2,h1,h2,k⟩:=h;obtain ⟨as,q1⟩:=ve0 I m rd e1 rx;obtain ⟨bs,q2⟩:=ve0 I m re e2 ry;cases b
 ·exact PySem.SeqAt.in_tuple_reads q2 q1 (PySem.SeqAt.canLay_of_shaped (wb0 e2 h2)) (PySem.SeqAt.canLay_of_shaped (wb0 e1 h1)) (room_in_shaped (wb0 e1 h1) hu) ⟨.bl _,H,I,rfl,k⟩
 ·exact PySem.SeqAt.in_list_reads q2 q1 (PySem.SeqAt.canLay_of_shaped (wb0 e2 h2)) (PySem.SeqAt.canLay_of_shaped (wb0 e1 h1)) (room_in_shaped (wb0 e1 h1) hu) ⟨.bl _,H,I,rfl,k⟩
theorem sz1 (hu:X.A.units + 65 < cLine):OpR X (compareOp .NotIn) (rInD X.K true):=by
 intro pins s σ H x y v u Q I rx ry h;obtain ⟨d,e,μ,p,xs,b,m,rd,re,e1,e2,h1,h2,k⟩:=h;obtain ⟨as,q1⟩:=ve0 I m rd e1 rx;obtain ⟨bs,q2⟩:=ve0 I m re e2 ry;cases b
 ·exact PySem.SeqAt.notIn_tuple_reads q2 q1 (PySem.SeqAt.canLay_of_shaped (wb0 e2 h2)) (PySem.SeqAt.canLay_of_shaped (wb0 e1 h1)) (room_in_shaped (wb0 e1 h1) hu) ⟨.bl _,H,I,rfl,k⟩
 ·exact PySem.SeqAt.notIn_list_reads q2 q1 (PySem.SeqAt.canLay_of_shaped (wb0 e2 h2)) (PySem.SeqAt.canLay_of_shaped (wb0 e1 h1)) (room_in_shaped (wb0 e1 h1) hu) ⟨.bl _,H,I,rfl,k⟩
theorem hu65 {k:Nat} (hr:Room k A):A.units + 65 < cLine:=by have:=hr.un; omega
theorem tb5 {x y:D} {u:V} {Q3:VK3} (m:RelM K μ H) (rx:RelD K H x v) (ry:RelD K H y u) (h:inD neg x y μ Q3) (k:Ks K H Q3 Q):rInD K neg v u H Q:=by
 unfold inD at h;split at h
 ·next d xs e1 e2=>exact ⟨x,y,μ,d,xs,true,m,rx,ry,e1,e2,h.1.1,h.1.2,k _ _ _ _ h.2 (Kp.refl _) (.bl _) m⟩
 ·next d xs e1 e2=>exact ⟨x,y,μ,d,xs,false,m,rx,ry,e1,e2,h.1.1,h.1.2,k _ _ _ _ h.2 (Kp.refl _) (.bl _) m⟩
 ·exact h.elim
theorem RdO.inn:RdO K (λ x y H Q=>rIn K neg x y H Q \/ rInD K neg x y H Q) (inR neg):=λ x y v u H Q μ Q3 m rx ry h k=>by
 unfold inR at h;split at h
 ·split at h
  ·next zs e =>
   cases rx;cases ry with
   | ktp hq rs =>
    have ev:=vj1 rs e;refine .inl ⟨_,_,rfl,.inr hq,rfl,by rw [ev]; exact te2 zs,?_⟩;rw [ev,tv2];exact k _ _ _ _ h (Kp.refl _) (.bl _) m
  ·exact .inr (tb5 m rx ry h k)
 ·exact .inr (tb5 m rx ry h k)
theorem q_in (hu:X.A.units + 65 < cLine):RO X (compareOp .In) (inR false):=⟨_,op_in_seq.or (uy4 hu),RdO.inn⟩
theorem sm3 (hu:X.A.units + 65 < cLine):RO X (compareOp .NotIn) (inR true):=⟨_,op_notIn_seq.or (sz1 hu),RdO.inn⟩
theorem q_eq (hu:[42]):RO X (compareOp .Eq) eqR:=by
 refine ⟨_,op_eq.or (sy4 hu),λ x y v u H Q μ Q3 m rx ry h k=>?_⟩;unfold eqR at h;cases e:eqS x y with
 | some c =>
  rw [e] at h;obtain ⟨h1,h2⟩:=sc5 rx ry e;refine .inl ⟨h1,?_⟩;rw [h2];exact k _ _ _ _ h (Kp.refl _) (.bl _) m
 | none =>
  rw [e] at h;dsimp only at h;cases e1:datM μ x with
  | none=>simp_all
  | some p =>
   cases e2:datM μ y with
   | none=>simp_all
   | some q =>
    rw [e1,e2] at h;exact .inr ⟨x,y,μ,p,q,m,rx,ry,e1,e2,h.1.1,h.1.2,k _ _ _ _ h.2 (Kp.refl _) (.bl _) m⟩
theorem q_ne (hu:[42]):RO X (compareOp .NotEq) neR:=by
 refine ⟨_,op_ne.or (zy4 hu),λ x y v u H Q μ Q3 m rx ry h k=>?_⟩;unfold neR at h;cases e:eqS x y with
 | some c =>
  rw [e] at h;obtain ⟨h1,h2⟩:=sc5 rx ry e;refine .inl ⟨h1,?_⟩;rw [h2];exact k _ _ _ _ h (Kp.refl _) (.bl _) m
 | none =>
  rw [e] at h;dsimp only at h;cases e1:datM μ x with
  | none=>simp_all
  | some p =>
   cases e2:datM μ y with
   | none=>simp_all
   | some q =>
    rw [e1,e2] at h;exact .inr ⟨x,y,μ,p,q,m,rx,ry,e1,e2,h.1.1,h.1.2,k _ _ _ _ h.2 (Kp.refl _) (.bl _) m⟩
theorem um1 (K:Fg) (t:String):kitOne K (.type t) (.type t)=some true:=by
 unfold kitOne;simp
def rIsi (K:Fg):List V->Hp->VK->Prop:=λ xs H Q=>(∃ a vs,xs=[.ref a,.ty "tuple"] /\ SqT K H a vs /\ Q (.bl true) H) \/ ∃ i,xs=[.int i,.ty "int"] /\ Q (.bl true) H
theorem tx2:xt0 X (.builtin "isinstance") (rIsi X.K):=by
 intro pins s σ H xs us Q I r h;rcases h with ⟨a,vs,rfl,hq,q⟩ | ⟨i,rfl,q⟩
 ·obtain ⟨u,w',rfl,rx,ry⟩:=xt1 r;cases ry;cases rx;obtain ⟨its,rv,⟨o,ho,hc,_⟩,hz⟩:=I.tuple hq;exact kia_one PySem.W.kitx_tuple I.kIn ⟨o,ho,hc⟩ (um1 _ _) (λ z=>nomatch z) λ tk=>⟨.bl true,H,I.tok tk,rfl,q⟩
 ·obtain ⟨u,w',rfl,⟨tk,rfl⟩,ry⟩:=xt1 r;cases ry;exact kia_one PySem.W.kitx_int I.kIn True.intro (um1 _ _) (λ z=>nomatch z) λ tk=>⟨.bl true,H,I.tok tk,rfl,q⟩
theorem q_isi:RC X (.builtin "isinstance") isiR:=by
 refine ⟨_,tx2,λ xs vs H Q μ Q3 m r h k=>?_⟩;unfold isiR at h;split at h
 ·cases r with
  | cons r1 r2 =>
   obtain ⟨v,rfl,r3⟩:=r2.one;cases r3;cases r1 with
   | tup hq rs =>
    split at h
    ·next e=>subst e; exact .inl ⟨_,_,rfl,SqT.of hq,k _ _ _ _ h (Kp.refl _) (.bl _) m⟩
    ·exact h.elim
 ·cases r with
  | cons r1 r2 =>
   obtain ⟨v,rfl,r3⟩:=r2.one;cases r3;cases r1;split at h
   ·next e=>subst e; exact .inr ⟨_,rfl,k _ _ _ _ h (Kp.refl _) (.bl _) m⟩
   ·exact h.elim
 ·exact h.elim
variable {o:Expr} {to:TE3} {t:TA3} {apos cpos:Pos}
theorem to4 {name:Str} {id:String} {r:V->List V->Hp->VK->Prop} {r3:D->List D->Mu->VK3->Prop} (slot:Slot "list" name id) (hty:typeOf (.builtin id)=pure (.type "method_descriptor")) (hm:MtR X id r)
    (hrd:∀ p xs v vs H Q μ Q3,RelM X.K μ H->RelD X.K H (.ref p) v->RelDs X.K H xs vs->r3 (.ref p) xs μ Q3->Ks X.K H Q3 Q->r v vs H Q) (ho:RE X o to) (ha:RA X (e :: es) t)
    (hbase:attributeBase o name X.env (eval o X.env)=eval o X.env)
    (hfew:((backTo cpos (starEach (e :: es) X.env)).all (λ x=>!x.1) && (backToKw cpos (keywordEach [] X.env)).all (λ x=>x.1.isSome)
     && decide [22])=true)
    (hline:(apos.endLine == cpos.line)=true) (hs:starEach (e :: es) X.env=[34] :: starEach es X.env) (hplain:(backTo cpos (starEach es X.env)).any (·.1)=false) :
    RE X (.Call (.Attribute o name apos) (e :: es) [] cpos) (mt3 r3 to t):=by
 obtain ⟨va,pa,ra⟩:=ho;obtain ⟨vb,pb,rb⟩:=ha;refine ⟨_,sp3 PySem.F.plainAttrs_list slot hty hm pa pb hbase hfew hline hs hplain,λ σ H Q ρ μ Q3 s m h k=>ra σ H _ ρ μ _ s m h λ d μ1 v H1 h1 k1 r1 m1=>?_⟩;cases r1 with
 | ref p =>
  dsimp only at h1;split at h1
  ·next l e0 =>
     obtain ⟨vs,hv,rs⟩:=m1 p l e0;refine ⟨.inl ⟨rfl,vs,SqL.of hv⟩,rb σ H1 _ ρ μ1 _ (s.mono k1) m1 h1 λ xs μ2 ys H2 h2 k2 r2 m2=>?_⟩;exact hrd p xs _ ys H2 Q μ2 Q3 m2 (.ref p) r2 h2 (k.after (k1.trans k2))
  ·exact h1.elim
 | _=>exact False.elim h1
theorem tx1 (ho:RE X o to) (ha:RA X (e :: es) t) (hbase:attributeBase o "append" X.env (eval o X.env)=eval o X.env:=by rfl)
    (hfew:((backTo cpos (starEach (e :: es) X.env)).all (λ x=>!x.1) && (backToKw cpos (keywordEach [] X.env)).all (λ x=>x.1.isSome)
     && decide [22])=true:=by rfl)
    (hline:(apos.endLine == cpos.line)=true:=by rfl) (hs:starEach (e :: es) X.env=[34] :: starEach es X.env:=by rfl) (hplain:(backTo cpos (starEach es X.env)).any (·.1)=false:=by rfl) :
    RE X (.Call (.Attribute o "append" apos) (e :: es) [] cpos) (mt3 appR to t):=by
 refine to4 PySem.F.slot_list_append PySem.F.type_list_append zb1 (λ p xs v vs H Q μ Q3 m rp rx h k=>?_) ho ha hbase hfew hline hs hplain;cases rp;cases rx with
 | nil=>exact False.elim h
 | cons r1 r2 =>
  cases r2 with
  | cons _ _=>exact False.elim h
  | nil =>
   dsimp only [appR] at h;split at h
   ·next l e0 =>
      obtain ⟨vs,hv,rs⟩:=m p l e0;exact ⟨p,vs,_,rfl,rfl,hv,by rw [<- rs.length]; exact h.1,k _ _ _ _ h.2 (Kp.wr hv) .non (m.wr hv (rs.append (.cons r1 .nil)))⟩
   ·exact h.elim
theorem vx1 (ho:RE X o to) (ha:RA X (e :: es) t) (hbase:attributeBase o "extend" X.env (eval o X.env)=eval o X.env:=by rfl)
    (hfew:((backTo cpos (starEach (e :: es) X.env)).all (λ x=>!x.1) && (backToKw cpos (keywordEach [] X.env)).all (λ x=>x.1.isSome)
     && decide [22])=true:=by rfl)
    (hline:(apos.endLine == cpos.line)=true:=by rfl) (hs:starEach (e :: es) X.env=[34] :: starEach es X.env:=by rfl) (hplain:(backTo cpos (starEach es X.env)).any (·.1)=false:=by rfl) :
    RE X (.Call (.Attribute o "extend" apos) (e :: es) [] cpos) (mt3 extR to t):=by
 refine to4 PySem.F.slot_list_extend PySem.F.type_list_extend za2 (λ p xs v vs H Q μ Q3 m rp rx h k=>?_) ho ha hbase hfew hline hs hplain;cases rp;unfold extR at h;split at h
 ·next p' q e1 =>
  cases e1;obtain ⟨v,rfl,r1⟩:=rx.one;cases r1;split at h
  ·next l l2 e0 e2 =>
   obtain ⟨vs,hv,rs⟩:=m _ l e0;obtain ⟨us,hu,ru⟩:=m q l2 e2;exact ⟨_,q,vs,us,rfl,rfl,hv,hu,by rw [<- rs.length,<- ru.length]; exact h.1,k _ _ _ _ h.2 (Kp.wr hv) .non (m.wr hv (rs.append ru))⟩
  ·exact h.elim
 ·exact h.elim
end
noncomputable abbrev sb0 (X:Cx) (NN:List Str) (scope:Scope) (cl:List (Str × Addr)) (C:Addr) (fp:List Addr) (s₀:Shared) (H₀:Hp) (pn:[18]):Cx :=
 { X with N:=NN,s₀:=s₀,H₀:=H₀,env:=compEnvC scope cl C X.env,outer:=X.stack,ex:=fp,fn:=λ _=>false,pn:=pn,xe:=λ _ _=>False }
structure CompSc (X:Cx) (NN:List Str) (scope:Scope) (cl:List (Str × Addr)) (js:List (Option Nat)):Prop where
 clos:closureFor scope X.env=pure cl
 cell:∀ y ∈ scope.names,y.2 ≠ .cell
 kind:scope.kind=.function
 names:∀ y ∈ scope.names,y.2=.local->scope.names.lookup y.1=some .local
 sub:∀ x c,cl.lookup x=some c->X.env.cells.lookup x=some c
 has:∀ x,((relabel scope X.env).names.lookup x=some .cell \/ (relabel scope X.env).names.lookup x=some .free)->∃ c,cl.lookup x=some c
 len:js.length=NN.length
 out:∀ (i j:Nat),js[i]?=some (some j)->∃ x,NN[i]?=some x /\ X.N[j]?=some x /\ Vis X.env.scope x /\ X.env.scope.names.lookup x ≠ some .local /\ ((relabel scope X.env).names.lookup x=some .cell \/ (relabel scope X.env).names.lookup x=some .free)
theorem yh0 {α:Type} {x:Str} {k:α}:∀ {l:List (Str × α)},l.lookup x=some k->(x,k) ∈ l
 | [],h=>by simp at h
 | (n,k') :: r,h=>by
  rw [lookup_cons] at h;split at h
  ·simp_all
  ·exact mem_cons_of_mem _ (yh0 h)
variable {NN:List Str} {scope:Scope}
theorem CompSc.closed (hf:∀ y ∈ scope.names,y.2 ≠ .free) (hc:∀ y ∈ scope.names,y.2 ≠ .cell) (hk:scope.kind=.function) (hn:∀ y ∈ scope.names,y.2=.local->scope.names.lookup y.1=some .local) :
    CompSc X NN scope [] (NN.map λ _=>none) where
 clos:=closureFor_none hf
 cell:=hc
 kind:=hk
 names:=hn
 sub:=λ x c h=>by simp at h
 has:=λ x h=>by
  exfalso
  have e:(relabel scope X.env).names=scope.names:=map_eq_self (l:=scope.names) (λ y hy=>by
   simp [*])
  rw [e] at h;rcases h with h | h
  ·exact hc _ (yh0 h) rfl
  ·exact hf _ (yh0 h) rfl
 len:=by simp
 out:=λ i j h=>by
  simp_all
noncomputable def ur0 (js:List [43]) (σ:L2.St):L2.St:=js.map λ j=>j.bind λ j=>(σ[j]?).bind id
def PTs (X:Cx) (ifs:List Expr) (t:TT):Prop:=∀ (pins:[18]) (s:Shared) (σ:L2.St) (H:Hp) (Q:Bool->Hp->Prop),Inv X pins σ H s->t σ H Q ->
 wpAny [12] X.A (forIn ifs true λ c r=>if r=true then do let ok <- isTrue c X.env (eval c X.env); pure (ForInStep.yield ok) else pure (ForInStep.yield r)) (TP X pins σ Q) X.xe s
theorem vn3:PTs X [] (λ _ H Q=>Q true H):=λ _ _ _ H _ I h=>wpAny_tests_nil ⟨H,I,h⟩
theorem wn3 {t:TT} (h:PT X c t):PTs X [c] t:=λ pins s σ H Q I q=>wpAny_tests_one (h pins s σ H Q I q)
def wu1 (js:List [43]) (wi:TI) (g:TG) (tc:TT) (te:TE):TE:=λ σ H Q=>wi σ H λ J H1=>∀ p,H1 p=none ->
 ∃ W:Nat->Nat->L2.St->Hp->Prop,(∃ m,W 0 m (ur0 js σ) (upd H1 p (.lst []))) /\ ∀ i m σ' H',W i m σ' H' ->
  ((J.stop i H' /\ Q (.ref p) H') \/ (J.go i H' /\ ∀ x H2,J.yld i H' x H2->g x σ' H2 λ σ3 H3=>tc σ3 H3 λ b H4 =>
   if b=true then te σ3 H4 λ y H5=>∃ ys,H5 p=some (.lst ys) /\ ys.length < sizeLine /\ ∃ m',m' < m /\ W (i + 1) m' σ3 (upd H5 p (.lst (ys ++ [y]))) else ∃ m',m' < m /\ W (i + 1) m' σ3 H4))
variable {js:List [43]} {fp:List Addr} {elt target:Expr} {ifs:List Expr} {wi:TI}
section
variable {cl:List (Str × Addr)} 
theorem yv3 {pn:[18]} (hc:X.calm=true) (S:CompSc X NN scope cl js) (I:[8]) (f:∀ b ∈ fp,FpOk X pins H b /\ b < s.heap.objs.size) :
    (sb0 X NN scope cl s.heap.objs.size fp s H pn).Ok where
 mod:=I.ok.mod
 kind:=S.kind
 glob:=I.ok.glob
 blt:=I.ok.blt
 above:=Nat.le_refl _
 inj:=λ x y c h1 h2=>I.ok.inj x y c (S.sub x c h1) (S.sub y c h2)
 has:=λ x h=>S.has x h
 cab:=λ x c h=>by cases h
 hd:=λ _=>I.ok.hd hc
 frames:=I.ok.frames
 stk:=.inl rfl
 exf:=λ b hb=>⟨Nat.ne_of_lt (f b hb).2,λ x c e=>(f b hb).1.2.2.2.2.1 x c (S.sub x c e)⟩
 bs:=I.bs
 bsz:=Nat.le_trans I.ok.bsz I.sz
 noex:=λ b o e hb=>by
  rcases (f b hb).1.2.2.2.1 with z | z
  ·exact I.ok.noex b o e z
  ·exact absurd (Nat.lt_of_lt_of_le (Heap.lt_size e) (Nat.le_trans I.ok.bsz z)) (Nat.lt_irrefl _)
 exfs:=λ b hb hfs=>by
  rcases List.mem_cons.mp (I.stkSub b hfs) with z | z
  ·exact (f b hb).1.2.1 z
  ·exact (f b hb).1.2.2.1 z
 funs:=I.stack
 frf:=I.stkFree
theorem uc2 {i:Nat} (h:(ur0 js σ)[i]?=some (some v)):∃ j,js[i]?=some (some j) /\ σ[j]?=some (some v):=by
 unfold ur0 at h;rw [getElem?_map] at h;cases q:js[i]? with
 | none=>simp_all
 | some o =>
  rw [q] at h;cases o with
  | none=>simp at h
  | some j =>
   refine ⟨j,rfl,?_⟩;simp only [Option.map_some,Option.bind_some,Option.some.injEq] at h;cases e:σ[j]? with
   | none=>simp_all
   | some w=>simp_all
theorem ug2 {h₁:Heap} {m:[28]} {tk:Nat} (hc:X.calm=true) (S:CompSc X NN scope cl js) (I:[8]) (f:∀ b ∈ fp,FpOk X pins H b /\ b < s.heap.objs.size)
    (hn:h₁.Ns s.heap.objs.size m) (k:∀ b u,s.heap.get? b=some u->h₁.get? b=some u):Inv (sb0 X NN scope cl s.heap.objs.size fp s H (X.pn ++ pins)) [] (ur0 js σ) H { s with heap:=h₁,toks:=tk } where
 ok:=yv3 hc S I f
 os:=rfl
 bare:=I.bare
 base:=Un.kept k
 loc:=by
  refine ⟨m,hn,λ i x v h1 h2 h3=>?_⟩;obtain ⟨j,e1,e2⟩:=uc2 h2;obtain ⟨y,q1,q2,q3,q4,q5⟩:=S.out i j e1;have q1':NN[i]?=some x:=h1;rw [q1] at q1'; cases q1';obtain ⟨mX,_,hl⟩:=I.loc;obtain ⟨u,r,l⟩:=hl j x v q2 e2 q3;refine ⟨u,r,.inr ⟨q5,?_⟩⟩;rcases l with ⟨z,_⟩ | ⟨_,c,hc',hcell⟩
  ·exact absurd z q4
  ·obtain ⟨c',hc2⟩:=S.has x q5;have e:=S.sub x c' hc2;rw [hc'] at e; cases e;obtain ⟨o,ho,hd⟩:=hcell;exact ⟨c,hc2,o,k _ _ ho,hd⟩
 cell:=λ x c e=>by
  obtain ⟨v,o,ho,hd⟩:=I.cell x c (S.sub x c e);exact ⟨v,o,k _ _ ho,hd⟩
 free:=I.hok.fresh [21]
 freeC:=λ x c e=>I.freeC x c (S.sub x c e)
 pin:=λ p hp=>by
  have hp':p ∈ X.pn ++ pins:=by simpa using hp
  obtain ⟨h1,h2,h3,h4,h5⟩:=I.pin p hp';refine ⟨k _ _ h1,h2,Nat.ne_of_lt (Heap.lt_size h1),λ z=>?_,h5⟩;rcases List.mem_cons.mp (I.stkSub _ z) with z | z
  ·exact h3 z
  ·exact h4 z
 hok:=I.hok.kept k
 len:=by show (ur0 js σ).length=NN.length; unfold ur0; rw [length_map]; exact S.len
theorem tg2 {pos:Pos} {g:TG} {tc:TT} {te:TE} (hc:X.calm=true) (S:CompSc X NN scope cl js) (hi:PI X target iter wi)
    (hg:∀ C fp s₀ H₀ pn,PG [13] target g) (ht:∀ C fp s₀ H₀ pn,PTs [13] ifs tc) (he:∀ C fp s₀ H₀ pn,PE [13] elt te)
    (hs:∀ x,foldedSetIterable iter X.env x=pure x) {use:Option (Value->Sem Unit)} {Q':[7]} (I:[8]) (h:wu1 js wi g tc te σ H Q)
    (hu:∀ (p0 C:Addr) (H':Hp) (s':Shared) (m':[28]),Inv X pins σ H' s'->s'.heap.Ns C m'->H' C=none->C ≠ X.env.locals->X.s₀.heap.objs.size<=C->(∀ x c,X.env.cells.lookup x=some c->c ≠ C)->(∀ p ∈ X.pn ++ pins,p.1 ≠ C)->Q (.ref p0) H' ->
     compPost [12] X.A X.xe use Q' (.ref p0) C (.ok .next) s') :
    wpAny [12] X.A (comprehension [16] scope X.env (firstIterPos [⟨target,iter,ifs,0⟩] pos) (newList []) (firstAsync [⟨target,iter,ifs,0⟩]) (firstIter [⟨target,iter,ifs,0⟩] X.env) use) Q' X.xe s:=by
 refine wpAny_comprehension_free (use:=use) rfl hs S.clos S.kind S.names (thn (hi pins s σ H _ I h) λ xv s1 h1=>thn h1 λ itv s2 h2=>?_);obtain ⟨it,fp,tn,J,H2,rfl,I2,T,st2,f2,hW⟩:=h2;refine wpAny_newObj_type (wpAny_newFunctionEnv S.cell [17] (λ h₁ hns₁ hsb₁=>?_) S.kind);dsimp only at hns₁ hsb₁ ⊢;have hD:H2 s2.heap.objs.size=none:=I2.hok.fresh [21]
 have I3:Inv X pins σ (upd H2 s2.heap.objs.size (.lst [])) { s2 with heap:=s2.heap.push { cls:=.type "list",dict:=none,data:=.seq ([]:List Value).toArray } } :=
  I2.lnew (t':=s2.toks) (its:=[]) .nil (by trivial)
 generalize hsD:({ s2 with heap:=s2.heap.push { cls:=.type "list",dict:=none,data:=.seq ([]:List Value).toArray } }:Shared)=sD at I3;have eh:sD.heap=s2.heap.push { cls:=.type "list",dict:=none,data:=.seq ([]:List Value).toArray }:=by rw [<- hsD]
 have es:∀ (h:Heap) (tk:Nat),({ s2 with heap:=h,toks:=tk }:Shared)={ sD with heap:=h,toks:=tk }:=λ h tk=>by rw [<- hsD]
 have hsz:s2.heap.objs.size < sD.heap.objs.size:=by simp_all
 rw [<- eh] at hns₁ hsb₁ ⊢;generalize hp0:s2.heap.objs.size=p0 at *;have up:∀ b u,s2.heap.get? b=some u->sD.heap.get? b=some u:=λ b u e=>by rw [eh]; exact Heap.get?_push_of_some _ e
 have k:∀ b u,sD.heap.get? b=some u->h₁.get? b=some u:=λ b u e=>hsb₁.extBut b u (Nat.ne_of_lt (Heap.lt_size e)) (Heap.get?_push_of_some _ e)
 have f3:∀ b ∈ fp,FpOk X pins (upd H2 p0 (.lst [])) b /\ b < sD.heap.objs.size:=λ b hb=>by
  obtain ⟨o,ho,_⟩:=T.obj 0 _ st2 b hb;have hlt:b < p0:=by rw [<- hp0]; exact Heap.lt_size ho
  refine ⟨⟨?_,(f2 b hb).2⟩,Nat.lt_trans hlt hsz⟩;rw [xb0 (Nat.ne_of_lt hlt)]; exact (f2 b hb).1
 obtain ⟨W,⟨m0,w0⟩,turn⟩:=hW p0 hD;have I4:=ug2 (tk:=s2.toks + ([]:List (Str × Value)).length) hc S I3 f3 hns₁ k;have st4:tn 0 h₁:=T.keep 0 _ _ st2 λ b _ o e=>k b o (up b o e);rw [es];generalize hX':sb0 X NN scope cl sD.heap.objs.size fp sD (upd H2 p0 (.lst [])) (X.pn ++ pins)=X' at I4;have a1:X'.env=compEnvC scope cl sD.heap.objs.size X.env:=by rw [<- hX']
 have a2:X'.prog=X.prog:=by rw [<- hX']
 have a3:X'.w=X.w:=by rw [<- hX']
 have a4:X'.A=X.A:=by rw [<- hX']
 have a5:X'.K=X.K:=by rw [<- hX']
 have a6:X'.calm=true:=by rw [<- hX']; exact hc
 have a7:X'.xe=λ _ _=>False:=by rw [<- hX']
 have a8:X'.ex=fp:=by rw [<- hX']
 have T':Turn X'.prog X'.w X'.K target J fp it tn:=by simp_all
 have hg':PG X' target g:=by rw [<- hX']; exact hg _ _ _ _ _
 have ht':PTs X' ifs tc:=by rw [<- hX']; exact ht _ _ _ _ _
 have he':PE X' elt te:=by rw [<- hX']; exact he _ _ _ _ _
 have fin:∀ {σ':L2.St} {H':Hp} {s':Shared},Inv X' [] σ' H' s'->Q (.ref p0) H'->compPost [12] X.A X.xe use Q' (.ref p0) sD.heap.objs.size (.ok .next) s':=λ {σ' H' s'} I' q=>by
  obtain ⟨m',hn',_⟩:=I'.loc;rw [a1] at hn'
  have u:Un (frs X.stack) fp (upd H2 p0 (.lst [])) H' sD.heap s'.heap:=by
   have:=I'.base;rw [<- hX'] at this;exact this
  have hch:∀ b ∈ fp,(b ∈ X.ex \/ X.s₀.heap.objs.size<=b) /\ b ≠ X.env.locals /\ (∀ x c,X.env.cells.lookup x=some c->c ≠ b) /\ ∀ p ∈ X.pn ++ pins,p.1 ≠ b:=λ b hb=>by
   obtain ⟨_,z1,_,z3,z4,z5⟩:=(f3 b hb).1;trivial
  have os':s'.os=sD.os:=by
   have:=I'.os;rw [<- hX'] at this;exact this
  have hok':HOk X.prog X.w H' s'.heap:=by
   have:=I'.hok
   simp_all
  have I5:Inv X pins σ H' s':=I3.call' os' u hok' I'.bare hch
  have hC:H' sD.heap.objs.size=none:=by
   have:=I'.free;rw [a1] at this;exact this
  refine hu p0 _ H' s' m' I5 hn' hC (Nat.ne_of_gt I3.lt) I3.sz (λ x c e=>?_) (λ p hp=>?_) q
  ·obtain ⟨v,o,ho,_⟩:=I3.cell x c e;exact Nat.ne_of_lt (Heap.lt_size ho)
  ·exact Nat.ne_of_lt (Heap.lt_size (I3.pin p hp).1)
 have fp4:∀ {H':Hp},(∀ b ∈ fp,H' b=none)->∀ b ∈ fp,FpOk X' [] H' b:=λ hn b hb=>by
  obtain ⟨_,z1,z2,z3,z4,z5⟩:=(f3 b hb).1;rw [<- hX'];refine ⟨hn b hb,Nat.ne_of_lt (f3 b hb).2,λ z=>?_,.inl hb,λ x c e=>z4 x c (S.sub x c e),λ p hp=>z5 p (by simpa using hp)⟩;rcases List.mem_cons.mp (I3.stkSub _ z) with z | z
  ·exact z1 z
  ·exact z2 z
 have loop:∀ s₃:Shared,Inv X' [] (ur0 js σ) (upd H2 p0 (.lst [])) s₃->tn 0 s₃.heap ->
     codeAny [12] X.A (.compLoop [16] 0 (.ref it) (.ref p0) (compEnvC scope cl sD.heap.objs.size X.env)) (compPost [12] X.A X.xe use Q' (.ref p0) sD.heap.objs.size) s₃:=by
  intro s₃ I₃ st₃;refine codeAny_loop rfl (λ n s'=>∃ i σ' H',Inv X' [] σ' H' s' /\ tn i s'.heap /\ (∀ b ∈ fp,H' b=none) /\ W i n σ' H') (λ n s' hI=>?_) m0 ⟨0,ur0 js σ,_,I₃,st₃,λ b hb=>(f3 b hb).1.1,w0⟩;obtain ⟨i,σ3,H3,J3,st3,fr3,w3⟩:=hI;have tr:=turn i n σ3 H3 w3;show wpAny _ X.A ((compTurn [16] 0 (.ref it) (.ref p0) (compEnvC scope cl sD.heap.objs.size X.env)).onRaise (λ x=>do noteFrame x (compEnvC scope cl sD.heap.objs.size X.env); theTreesLotGoes x)) _ _ s';refine wpAny_noted ?_;rw [compTurn_list,<- a1,<- a2,<- a3,<- a4];have nof:∀ {α:Type} {t:Sem α} {Q':α->Shared->Prop} {s'':Shared} {E:[7]},wpAny (model X'.prog X'.w) X'.A t Q' X'.xe s''->wpAny (model X'.prog X'.w) X'.A t Q' E s'':=λ h=>wpAny_mono h (λ _ _ q=>q) λ _ _ z=>by simp_all
  rcases tr with ⟨stop,qn⟩ | ⟨go,step⟩
  ·refine wpAny_bind (wpAny_standAt (wpAny_bind (nof (thn (T'.done X' rfl rfl rfl a6 i [] s' σ3 H3 X'.xe J3 (fp4 fr3) st3 stop) λ r s4 ⟨hr,J4⟩=>?_))));subst hr;refine wpAny_pure ?_;show compPost (model X'.prog X'.w) X'.A X.xe use Q' (.ref p0) sD.heap.objs.size (.ok .next) s4;rw [a2,a3,a4];exact fin J4 qn
  ·refine wpAny_bind (wpAny_standAt (wpAny_bind (nof (thn (T'.item X' rfl rfl rfl a6 i [] s' σ3 H3 X'.xe J3 (fp4 fr3) st3 go) λ r s4 ⟨u,hr,h4⟩=>?_))));subst hr;refine wpAny_bind (nof (thn h4 λ _ s5 ⟨x,H5,I5,r5,y5,st5,fr5⟩=>?_));have I5':=I5.pinned (fp4 fr5) (T.obj _ _ st5);refine wpAny_bind (nof (thn (hg' _ s5 σ3 H5 x u _ I5' r5 (step x H5 y5)) λ _ s6 ⟨σ6,H6,I6,q6⟩=>?_));refine wpAny_bind (nof (thn (ht' _ s6 σ6 H6 _ I6 q6) λ ok s7 ⟨H7,I7,q7⟩=>?_))
   have again:∀ {s8:Shared} {σ8:L2.St} {H8:Hp},Inv X' ([] ++ sa1 fp s5.heap) σ8 H8 s8->(∃ m',m' < n /\ W (i + 1) m' σ8 H8)->∃ m,m < n /\ ∃ i σ' H',Inv X' [] σ' H' s8 /\ tn i s8.heap /\ (∀ b ∈ fp,H' b=none) /\ W i m σ' H':=λ {s8 σ8 H8} I8 ⟨m',hm,w8⟩=>by
    refine ⟨m',hm,i + 1,σ8,H8,I8.unpinned,T.keep _ _ _ st5 λ b hb o e=>(I8.pin (b,o) (mem_append_right _ (mem_append_right _ (wj0 hb e)))).1,λ b hb=>?_,w8⟩;obtain ⟨o,e,d⟩:=T.obj _ _ st5 b hb;exact (I8.pin (b,o) (mem_append_right _ (mem_append_right _ (wj0 hb e)))).2.1
   cases ok with
   | false=>exact wpAny_pure ⟨rfl,again I7 q7⟩
   | true =>
    refine wpAny_bind (wpAny_bind (nof (thn (he' _ s7 σ6 H7 _ I7 q7) λ xv s8 ⟨y,H8,I8,r8,ys,q8,hlen,q9⟩=>wpAny_bind (nof ?_))));refine thn (zb1 (X:=X') _ s8 σ6 H8 (.ref p0) [y] (.ref p0) [xv] (λ v H9=>v=.non /\ H9=upd H8 p0 (.lst (ys ++ [y]))) I8 rfl (.cons r8 .nil) ⟨p0,ys,y,rfl,rfl,q8,hlen,rfl,rfl⟩) λ rv s9 ⟨v9,H9,I9,_,_,e9⟩=>?_;subst e9;exact wpAny_pure (wpAny_pure ⟨rfl,again I9 q9⟩)
 exact codeAny_compStart_list (loop _ I4 st4) (T.self X.A 0 _ _ _ st4 (loop _ I4 st4))
theorem vp3 {pos:Pos} {g:TG} {tc:TT} {te:TE} (hc:X.calm=true) (S:CompSc X NN scope cl js) (hi:PI X target iter wi)
    (hg:∀ C fp s₀ H₀ pn,PG [13] target g) (ht:∀ C fp s₀ H₀ pn,PTs [13] ifs tc) (he:∀ C fp s₀ H₀ pn,PE [13] elt te)
    (hs:∀ x,foldedSetIterable iter X.env x=pure x):PE X [16] (wu1 js wi g tc te):=by
 intro pins s σ H Q I h;rw [eval_ListComp];refine tg2 (use:=none) (Q':=EP X pins σ Q) hc S hi hg ht he hs I h λ p0 C H' s' m' I5 hn hC n1 n2 n3 n4 q=>⟨m',hn,λ h' sb=>?_⟩;exact ⟨.ref p0,H',I5.turned (t':=s'.toks) (it:=C) (λ b o hb e=>sb.extBut b o hb e) hC n1 (.inr n2) n3 n4,rfl,q⟩
end
theorem se5:bootBuiltins "len" = some (.builtin "len"):=by decide +kernel
theorem zf5:bootBuiltins "abs" = some (.builtin "abs"):=by decide +kernel
theorem wy0:bootBuiltins "isinstance" = some (.builtin "isinstance"):=by decide +kernel
theorem ve5:bootBuiltins "sum" = some (.builtin "sum"):=by decide +kernel
theorem to1:bootBuiltins "tuple" = some (.type "tuple"):=by decide +kernel
theorem xf5:bootBuiltins "int" = some (.type "int"):=by decide +kernel
theorem uv3:bootBuiltins "list" = some (.type "list"):=by decide +kernel
theorem ue5:bootBuiltins "set" = some (.type "set"):=by decide +kernel
theorem yf5:bootBuiltins "all" = some (.builtin "all"):=by decide +kernel
theorem te5:bootBuiltins "min" = some (.builtin "min"):=by decide +kernel
theorem us0:bootBuiltins "sorted" = some (.builtin "sorted"):=by decide +kernel
def RTs (X:Cx) (ifs:List Expr) (t:TT3):Prop:=∃ tv,PTs X ifs tv /\ RdT X.K tv t
theorem uk3:RTs X [] tt3:=⟨_,vn3,λ σ H Q ρ μ Q3 s m h k=>k _ _ _ h (Kp.refl _) m⟩
theorem vk3 {t:TT3} (h:RT X c t):RTs X [c] t:=let ⟨tv,p,r⟩:=h; ⟨tv,wn3 p,r⟩
theorem zv2 {ρ:St3} (s:RSt K H ρ σ) (js:List [43]):RSt K H (js.map λ j=>j.bind (getI ρ)) (ur0 js σ):=by
 refine ⟨by simp [ur0],λ i d e=>?_⟩;rw [wh1,getElem?_map] at e;unfold ur0;rw [getElem?_map];cases q:js[i]? with
 | none=>simp_all
 | some o =>
  rw [q] at e;cases o with
  | none=>simp at e
  | some j =>
   have e':getI ρ j=some d:=by simpa using e
   obtain ⟨v,h1,h2⟩:=s.at' j d e'
   simp_all
theorem RdE.comp {g:TG} {tc:TT} {te:TE} {g3:TG3} {tc3:TT3} {te3:TE3} (ri:RdI K wi ti) (rg:RdG K g g3) (rt:RdT K tc tc3) (re:RdE K te te3):RdE K (wu1 js wi g tc te) (te0 js ti g3 tc3 te3):=by
 intro σ H Q ρ μ Q3 s m h k;refine ri σ H _ ρ μ _ s m h λ l S μ1 J H1 h1 k1 m1 ok p hp=>?_;obtain ⟨W,w0,hS,hn,hs⟩:=h1 p (m1.free hp);have kn:Kp H1 (upd H1 p (.lst [])):=Kp.new hp;refine ⟨λ i n σ2 H2=>n=l.length - i /\ i<=l.length /\ ∃ ρ2 μ2 ys,RSt K H2 ρ2 σ2 /\ RelM K μ2 H2 /\ Kp H1 H2 /\ W (l.drop i) ys ρ2 μ2,⟨l.length,rfl,Nat.zero_le _,_,_,[],(zv2 (s.mono k1) js).mono kn,m1.newL hp .nil,kn,w0⟩,?_⟩;rintro i n σ2 H2 ⟨rfl,hi,ρ2,μ2,ys,s2,m2,k2,w2⟩;obtain ⟨hS2,hp2⟩:=hS _ _ _ _ w2;by_cases hlt:i < l.length
 ·rw [List.drop_eq_getElem_cons hlt] at w2;obtain ⟨hz,h2⟩:=hs _ _ _ _ _ w2;obtain ⟨ok1,_⟩:=ok i H2 μ2 k2 m2 hS2;obtain ⟨go,yl⟩:=ok1 l[i] (getElem?_eq_getElem hlt);refine .inr ⟨go,λ x H3 y=>?_⟩;obtain ⟨k3,m3,r3⟩:=yl x H3 y;refine rg x l[i] σ2 H3 _ ρ2 μ2 _ (s2.mono k3) m3 r3 h2 λ ρ4 μ4 σ4 H4 h4 k4 s4 m4=>?_;refine rt σ4 H4 _ ρ4 μ4 _ s4 m4 h4 λ b μ5 H5 h5 k5 m5=>?_;have k15:Kp H1 H5:=k2.trans (k3.trans (k4.trans k5));cases b with
  | false=>exact ⟨l.length - (i + 1),by omega,rfl,hlt,ρ4,μ5,ys,s4.mono k5,m5,k15,h5⟩
  | true =>
   refine re σ4 H5 _ ρ4 μ5 _ (s4.mono k5) m5 h5 λ d μ6 v H6 h6 k6 r6 m6=>?_;obtain ⟨vs,hv,rv⟩:=m6 p ys h6.1;refine ⟨vs,hv,by rw [<- rv.length]; exact hz,l.length - (i + 1),by omega,rfl,hlt,ρ4,_,_,((s4.mono k5).mono k6).mono (Kp.wr hv),m6.wr hv (rv.append (.cons r6 .nil)),(k15.trans k6).trans (Kp.wr hv),h6.2⟩
 ·have e:i=l.length:=by omega
  subst e;rw [List.drop_length] at w2;exact .inl ⟨(ok _ H2 μ2 k2 m2 hS2).2 [21],k _ _ _ _ (hn _ _ _ w2) (k1.trans k2) (.ref p) m2⟩
section
variable {pos:Pos} {g:TG3} {tc:TT3} {cl:List (Str × Addr)} 
theorem up0 (hc:X.calm=true) (S:CompSc X NN scope cl js) (hi:RI X target iter ti) (hg:∀ C fp s₀ H₀ pn,RG [13] target g)
    (ht:∀ C fp s₀ H₀ pn,RTs [13] ifs tc) (he:∀ C fp s₀ H₀ pn,RE [13] elt te)
    (hs:∀ x,foldedSetIterable iter X.env x=pure x):RE X [16] (te0 js ti g tc te):=by
 obtain ⟨wi,pi,ri⟩:=hi
 let gU:TG:=λ v σ H Q=>∀ (r:TG3),r=g->∃ d ρ μ Q3,RSt X.K H ρ σ /\ RelM X.K μ H /\ RelD X.K H d v /\ g d ρ μ Q3 /\ (∀ ρ' μ' σ' H',Q3 ρ' μ'->Kp H H'->RSt X.K H' ρ' σ'->RelM X.K μ' H'->Q σ' H')
 let tU:TT:=λ σ H Q=>∃ ρ μ Q3,RSt X.K H ρ σ /\ RelM X.K μ H /\ tc ρ μ Q3 /\ (∀ b μ' H',Q3 b μ'->Kp H H'->RelM X.K μ' H'->Q b H')
 let eU:TE:=λ σ H Q=>∃ ρ μ Q3,RSt X.K H ρ σ /\ RelM X.K μ H /\ te ρ μ Q3 /\ Ks X.K H Q3 Q
 have hg':∀ C fp s₀ H₀ pn,PG [13] target gU:=λ C fp s₀ H₀ pn=>by
  obtain ⟨tv,p,r⟩:=hg C fp s₀ H₀ pn;intro pins s σ H v u Q I rv h;obtain ⟨d,ρ,μ,Q3,a1,a2,a3,a4,a5⟩:=h g rfl;exact p pins s σ H v u Q I rv (r v d σ H Q ρ μ Q3 a1 a2 a3 a4 a5)
 have ht':∀ C fp s₀ H₀ pn,PTs [13] ifs tU:=λ C fp s₀ H₀ pn=>by
  obtain ⟨tv,p,r⟩:=ht C fp s₀ H₀ pn;intro pins s σ H Q I h;obtain ⟨ρ,μ,Q3,a1,a2,a3,a4⟩:=h;exact p pins s σ H Q I (r σ H Q ρ μ Q3 a1 a2 a3 a4)
 have he':∀ C fp s₀ H₀ pn,PE [13] elt eU:=λ C fp s₀ H₀ pn=>by
  obtain ⟨tv,p,r⟩:=he C fp s₀ H₀ pn;intro pins s σ H Q I h;obtain ⟨ρ,μ,Q3,a1,a2,a3,a4⟩:=h;exact p pins s σ H Q I (r σ H Q ρ μ Q3 a1 a2 a3 a4)
 exact ⟨_,vp3 hc S pi hg' ht' he' hs,RdE.comp ri (λ v d σ H Q ρ μ Q3 a1 a2 a3 a4 a5 _ _=>⟨d,ρ,μ,Q3,a1,a2,a3,a4,a5⟩) (λ σ H Q ρ μ Q3 a1 a2 a3 a4=>⟨ρ,μ,Q3,a1,a2,a3,a4⟩) (λ σ H Q ρ μ Q3 a1 a2 a3 a4=>⟨ρ,μ,Q3,a1,a2,a3,a4⟩)⟩
theorem wf1 (hf:∀ y ∈ scope.names,y.2 ≠ .free) (hcl:∀ y ∈ scope.names,y.2 ≠ .cell) (hn:∀ y ∈ scope.names,y.2=.local->scope.names.lookup y.1=some .local) (hi:RI X target iter ti) (hg:∀ C fp s₀ H₀ pn,RG (sb0 X NN scope [] C fp s₀ H₀ pn) target g)
    (ht:∀ C fp s₀ H₀ pn,RTs (sb0 X NN scope [] C fp s₀ H₀ pn) ifs tc) (he:∀ C fp s₀ H₀ pn,RE (sb0 X NN scope [] C fp s₀ H₀ pn) elt te) (hc:X.calm=true:=by rfl) (hk:scope.kind=.function:=by rfl)
    (hs:∀ x,foldedSetIterable iter X.env x=pure x:=by intro _; rfl):RE X [16] (te0 (NN.map λ _=>none) ti g tc te) :=
 up0 hc (CompSc.closed hf hcl hk hn) hi hg ht he hs
end
mutual
inductive TupK (K:Fg):List D->Addr->Prop where
 | mk {a:Addr} {l:List D} {its:Array Value} {n:Nat} {od:Option Addr} {sl:Array (Option Value)}:K.lookup a=some ⟨.type "tuple",od,.seq its n,sl⟩->its.size<=sizeLine->ItK K l its.toList->TupK K l a
inductive ItK (K:Fg):List D->List Value->Prop where
 | nil:ItK K [] []
 | int {i:Int} {t:Tok} {l:List D} {us:List Value}:ItK K l us->ItK K (.int i :: l) (.int i t :: us)
 | str {x:Str} {t:Tok} {l:List D} {us:List Value}:ItK K l us->ItK K (.str x :: l) (.str x t :: us)
 | bl {b:Bool} {l:List D} {us:List Value}:ItK K l us->ItK K (.bl b :: l) (.bool b :: us)
 | tup {a:Addr} {l' l:List D} {us:List Value}:TupK K l' a->ItK K l us->ItK K (.ktp l' :: l) (.ref a :: us)
end
mutual
theorem TupK.rel {K:Fg}:∀ {l:List D} {a:Addr},TupK K l a->∀ H,RelD K H (.ktp l) (.ref a)
 | _,_,.mk h1 h2 h3,H=>by
  obtain ⟨vs,r,rd⟩:=h3.rel;exact .ktp (.inr ⟨_,_,_,h1,rfl,rfl,h2,r⟩) (rd H)
theorem ItK.rel {K:Fg}:∀ {l:List D} {us:[24]},ItK K l us->∃ vs,Vals vs us /\ ∀ H,RelDs K H l vs
 | _,_,.nil=>⟨[],.nil,λ _=>.nil⟩
 | _,_,.int h=>let ⟨vs,r,rd⟩:=h.rel; ⟨_,.cons (show RelV (.int _) _ from ⟨_,rfl⟩) r,λ H=>.cons (.int _) (rd H)⟩
 | _,_,.str h=>let ⟨vs,r,rd⟩:=h.rel; ⟨_,.cons (show RelV (.str _) _ from ⟨_,rfl⟩) r,λ H=>.cons (.str _) (rd H)⟩
 | _,_,.bl h=>let ⟨vs,r,rd⟩:=h.rel; ⟨_,.cons (show RelV (.bl _) _ from rfl) r,λ H=>.cons (.bl _) (rd H)⟩
 | _,_,.tup h0 h=>let ⟨vs,r,rd⟩:=h.rel; ⟨_,.cons (show RelV (.ref _) _ from rfl) r,λ H=>.cons (h0.rel H) (rd H)⟩
end
section
variable {h:Heap} 
theorem tc1 {t:Tok} (X:K.In h) (G:h.Ns mainGlobals mg) (e:nsIn K mainGlobals x=some (some (.int i t))):Gd K mg x (.int i):=⟨_,.int i,mg_of X G e,⟨_,rfl⟩,λ _=>.int i⟩
theorem uc1 {a:Addr} {l:List D} (X:K.In h) (G:h.Ns mainGlobals mg) (e:nsIn K mainGlobals x=some (some (.ref a))) (r:TupK K l a):Gd K mg x (.ktp l):=⟨_,.ref a,mg_of X G e,rfl,λ H=>r.rel H⟩
end
theorem xc1 {K:Fg} {H:Hp}:∀ ns:List Int,RelDs K H (ns.map D.int) (ns.map V.int)
 | []=>.nil
 | n :: r=>.cons (.int n) (xc1 r)
theorem wu2 {a:Addr} {ns:List Int} (hO:Only H) (hS:SqL K H a (ns.map V.int)) (h:sp [.fls (ns.map D.int)] (λ _=>none) (λ d _=>d=.bl true)) :
    lift K sp [.ref a] H (λ v _=>v=.bl true) λ _ _ _=>False:=by
 have hF:SqF K H a (ns.map V.int):=by
  rcases hS with (h1 | ⟨o,h1⟩) | h1
  ·rcases hO a with z | ⟨o,xs,z⟩
   ·simp_all
   simp_all
  ·exact .inl ⟨o,h1⟩
  ·exact .inr h1
 refine ⟨_,_,_,.cons (.fls hF (xc1 ns)) .nil,⟨λ p o e=>(by cases e)⟩,h,λ d μ' v H' q _ r _=>?_⟩;subst q;cases r;rfl
open PySem.AutoSeq1 (wpAny_loadPart')
section
theorem q_mul:RO X (binaryOp .Mult) mulR:=by
 refine ⟨_,op_mulB.or xy4,λ x y v u H Q μ Q3 m rx ry h k=>?_⟩;unfold mulR at h;split at h
 ·cases rx;cases ry;exact .inl ⟨_,_,rfl,rfl,h.1,k _ _ _ _ h.2 (Kp.refl _) (.int _) m⟩
 ·next p j =>
  cases rx;cases ry;split at h
  ·next l e =>
   obtain ⟨vs,hv,rv⟩:=m p l e;have hb:(1000000:Nat)<=sizeLine:=by rw [sizeLine_eq]; decide
   refine .inr (⟨p,j,vs,rfl,rfl,hv,by have:=h.1.1.1; omega,by have:=h.1.1.2; omega,by rw [<- rv.length]; exact Nat.le_trans h.1.2 hb,λ t ht=>?_⟩);exact k _ _ _ _ (h.2 t (m.free ht)) (Kp.new ht) (.ref t) (m.newL ht (rv.rep _))
  ·exact h.elim
 ·exact h.elim
theorem zk3:∀ (n d:Nat) (o:Option Int),HT.sIx n d o=sIx3 n d o
 | _,_,none=>rfl
 | _,_,some _=>rfl
theorem RelDs.cut {l:List D} (r:RelDs K H l vs) (lo hi:Option Int):RelDs K H (cut3 l lo hi) (cutV vs lo hi):=by
 unfold cut3 cutV;rw [<- r.length];simp only [zk3];exact (r.drop _).take _
def RdP (K:Fg) (tv:TO) (t:TO3):Prop:=∀ σ H Q ρ μ Q3,RSt K H ρ σ->RelM K μ H->t ρ μ Q3->(∀ o μ' H',Q3 o μ'->Kp H H'->RelM K μ' H'->Q o H')->tv σ H Q
def RP (X:Cx) (e:Option Expr) (t:TO3):Prop:=∃ tv,PO X e tv /\ RdP X.K tv t
theorem ul3:RP X none np3:=⟨_,vo3,λ σ H Q ρ μ Q3 s m h k=>k _ _ _ h (Kp.refl _) m⟩
theorem vl3 (h:RE X e te):RP X (some e) (pt3 te):=by
 obtain ⟨tv,p,r⟩:=h;refine ⟨_,wo3 p,λ σ H Q ρ μ Q3 s m h k=>r σ H _ ρ μ _ s m h λ d μ1 v H1 h1 k1 r1 m1=>?_⟩;cases r1 with
 | int i=>exact ⟨i,rfl,k _ _ _ h1 k1 m1⟩
 | _=>exact False.elim h1
def RL (X:Cx) (r3:D->Option Int->Option Int->Mu->VK3->Prop):Prop:=∃ r,SlR X r /\ ∀ x v lo hi H Q μ Q3,RelM X.K μ H->RelD X.K H x v->r3 x lo hi μ Q3->Ks X.K H Q3 Q->r v lo hi H Q
theorem q_sl:RL X slR:=by
 refine ⟨_,wj3,λ x v lo hi H Q μ Q3 m rx h k=>?_⟩;unfold slR at h;split at h
 ·cases rx;split at h
  ·next l e =>
   obtain ⟨vs,hv,rs⟩:=m _ l e;exact ⟨_,vs,rfl,SqL.of hv,λ t ht=>k _ _ _ _ (h t (m.free ht)) (Kp.new ht) (.ref t) (m.newL ht (rs.cut lo hi))⟩
  ·exact h.elim
 ·exact h.elim
theorem uq2 {lo hi:Option Expr} {tl th:TO3} {pos p2:Pos} {r3:D->Option Int->Option Int->Mu->VK3->Prop} (hr:RL X r3) (he:RE X e te) (hl:RP X lo tl) (hu:RP X hi th):RE X (.Subscript e (.Slice lo hi none p2) pos) (sl3 r3 te tl th):=by
 obtain ⟨r,pr,rr⟩:=hr;obtain ⟨va,pa,ra⟩:=he;obtain ⟨vb,pb,rb⟩:=hl;obtain ⟨vc,pc,rc⟩:=hu
 exact ⟨_,ys2 pr pa pb pc,λ σ H Q ρ μ Q3 s m h k=>ra σ H _ ρ μ _ s m h λ x μ1 v H1 h1 k1 r1 m1=>rb σ H1 _ ρ μ1 _ (s.mono k1) m1 h1 λ l μ2 H2 h2 k2 m2=>rc σ H2 _ ρ μ2 _ ((s.mono k1).mono k2) m2 h2 λ u μ3 H3 h3 k3 m3 =>
  rr x v l u H3 Q μ3 Q3 m3 (r1.mono (k2.trans k3)) h3 (k.after (k1.trans (k2.trans k3)))⟩
theorem vh2 {K:Fg} {H:Hp}:∀ {l:List D} {vs:List V} {bs:List Bool},RelDs K H l vs->bls? l=some bs->vs=bs.map V.bl
 | _,_,bs,.nil,e=>by simp [bls?] at e; subst e; rfl
 | _,_,bs,.cons h r,e=>by
  cases h with
  | bl x =>
   simp only [bls?] at e;split at e
   ·next ys e1 =>
    simp only [Option.some.injEq] at e;subst e;rw [vh2 r e1]; rfl
   ·cases e
  | _=>simp [bls?] at e
theorem yj1:∀ {bs:List Bool} {us:[24]},Vals (bs.map V.bl) us->us=bs.map Value.bool
 | [],_,r=>by cases r; rfl
 | b :: bs,_,r=>by
  cases r with
  | cons r1 r2=>cases r1; rw [yj1 r2]; rfl
theorem ut1 (prog:Program) (w:World) (A:Around) (bs:List Bool):TruthOf prog w A (λ i v=>(bs.map Value.bool).toArray[i]?=some v) (λ i=>bs.getD i false):=by
 intro i v s Q E hP hQ;have hP':(bs.map Value.bool)[i]?=some v:=by simpa using hP
 rw [getElem?_map] at hP';cases e:bs[i]? with
 | none=>simp_all
 | some b =>
  rw [e] at hP';simp only [Option.map_some,Option.some.injEq] at hP';subst hP';refine wpAny_truthy_bool ?_
  simp_all
theorem xy1 (bs:List Bool):(List.range bs.length).all (λ i=>bs.getD i false)=bs.all id:=by
 rw [Bool.eq_iff_iff,List.all_eq_true,List.all_eq_true];constructor
 ·intro h x hx;obtain ⟨i,hi,rfl⟩:=List.mem_iff_getElem.mp hx
  simp_all
 ·intro h i hi;have hi':=List.mem_range.mp hi;rw [getD_eq_getElem?_getD,getElem?_eq_getElem hi'];exact h _ (getElem_mem hi')
theorem yh2 (hc:X.calm=true):xt0 X (.builtin "all") (λ xs H Q=>∃ (p:Addr) (bs:List Bool),xs=[.ref p] /\ SqL X.K H p (bs.map V.bl) /\ Q (.bl (bs.all id)) H):=by
 intro pins s σ H xs us Q I r h;obtain ⟨p,bs,rfl,hq,q⟩:=h;obtain ⟨u,rfl,rx⟩:=vp1 r;cases rx;obtain ⟨its,r',pl,hz⟩:=I.list hq;have eu:=yj1 r';subst eu;refine call_all_walk (wpAny_pyIter_list pl.isList ?_);have hlt:p < s.heap.objs.size:=by obtain ⟨o,ho,_⟩:=pl.isList; exact Heap.lt_size ho
 refine ⟨_,_,_,_,_,_,_,rfl,Walks.list (A:=X.A.in1) (I.ok.hd hc) _ p (Nat.ne_of_lt hlt) _,⟨⟨_,Heap.get?_push_size _ rfl,rfl,rfl⟩,pl.isList.at λ o e=>Heap.get?_push_of_some _ e⟩,ut1 _ _ _ bs,λ h' tk hk=>?_⟩;have e:(bs.map Value.bool).toArray.size=bs.length:=by simp
 rw [e,xy1];refine ⟨.bl _,H,I.kept (t':=tk) λ b o eb=>hk b o ?_ (Heap.get?_push_of_some _ eb),rfl,q⟩;intro z;rw [mem_singleton] at z;rw [z] at eb;exact absurd (Heap.lt_size eb) (Nat.lt_irrefl _)
theorem RdC.bools {f:List Bool->Bool} {r3:C3} (hr:∀ ds μ Q3,r3 ds μ Q3->∃ p l bs,ds=[.ref p] /\ μ p=some (.lst l) /\ bls? l=some bs /\ Q3 (.bl (f bs)) μ) :
    RdC K (λ xs H Q=>∃ (p:Addr) (bs:List Bool),xs=[.ref p] /\ SqL K H p (bs.map V.bl) /\ Q (.bl (f bs)) H) r3:=λ xs vs H Q μ Q3 m r h k=>by
 obtain ⟨p,l,bs,rfl,e,e1,q⟩:=hr _ _ _ h;cases r with
 | cons r1 r2 =>
  cases r2;cases r1;obtain ⟨us,hv,rs⟩:=m p l e;have ev:=vh2 rs e1;subst ev;exact ⟨p,bs,rfl,SqL.of hv,k _ _ _ _ q (Kp.refl _) (.bl _) m⟩
theorem q_all (hc:X.calm=true:=by rfl):RC X (.builtin "all") allR:=by
 refine ⟨_,yh2 hc,RdC.bools λ ds μ Q3 h=>?_⟩;unfold allR at h;split at h
 ·split at h
  ·next p _ l e =>
   split at h
   ·simp_all
   ·exact h.elim
  ·exact h.elim
 ·exact h.elim
end
open PySem.AutoSeq1 (wpAny_loadPart')
theorem ur3 (p q:Addr) (a b c d:Int) (t1 t2 t3 t4:Tok) (n m:Nat) (dd dd2:Option Addr) (sl sl2:Array (Option Value)) :
    Meets (Builtin.«tuple.__lt__» ⟨[.ref p,.ref q],[]⟩) (λ A R s=>s.heap.get? p=some { cls:=.type "tuple",dict:=dd,data:=.seq #[.int a t1,.int b t2] n,slots:=sl } /\ s.heap.get? q=some { cls:=.type "tuple",dict:=dd2,data:=.seq #[.int c t3,.int d t4] m,slots:=sl2 } ∧
     R (.ok (.ret (.bool (ltP a b c d)))) s) :=
 .of_wp λ prog w A R s h=>by
  obtain ⟨hp,g,dr,tk,os⟩:=s; obtain ⟨hl,hb,h⟩:=h;have f2:=AutoSeq1.sub_tuple_tuple;have lt:∀ (x y:Int) (tx ty:Tok) {Q:[7]} {E:[7]} {A:Around} {s:Shared},Q (.bool (decide (x < y))) s->wpAny [6] A (richCompare .Lt (.int x tx) (.int y ty)) Q E s:=λ x y tx ty Q E A s hq=>wpAny_lt_int hq;have eqb:∀ (x y:Int) (tx ty:Tok) {Q:Bool->Shared->Prop} {E:[7]} {A:Around} {s:Shared},Q (x == y) s->wpAny [6] A (eqBool (.int x tx) (.int y ty)) Q E s:=λ x y tx ty Q E A s hq=>wpAny_eqBool_int hq
  wp_walk using wpAny_loadPart' hl,wpAny_loadPart' hb,eqb a c t1 t3
  by_cases h1:a=c
  ·rw [show (a == c)=true by simpa using h1]
   wp_walk using eqb b d t2 t4
   by_cases h2:b=d
   ·rw [show (b == d)=true by simpa using h2]
    wp_walk
    have h':R (.ok (.ret (.bool false))) ⟨hp,g,dr,tk,os⟩:=by simpa [ltP,h1,h2] using h
    exact ⟨_,rfl,h'⟩
   ·rw [show (b == d)=false by simpa using h2]
    wp_walk using lt b d t2 t4
    exact ⟨_,rfl,by simpa [ltP,h1] using h⟩
  ·rw [show (a == c)=false by simpa using h1]
   wp_walk using lt a c t1 t3
   exact ⟨_,rfl,by simpa [ltP,h1] using h⟩
variable {prog:Program}
section
variable {R:Result->Shared->Prop} {I:Addr} {wr:List Addr} {n:Nat} {P:Nat->Value->Prop} {St:Nat->Heap->Prop}
theorem sv2:(toString "min" ++ toString ".loop" : String) = "min.loop" := by decide
theorem sc3 (W:Walks prog w A.in1 I fp wr n P St) (S:Addr) (hSf:S ∉ fp) (s:Shared) (vb:Value) (c:Nat) (hst:St n s.heap)
    (hS:s.heap.get? S=some { cls:=.type "list",dict:=none,data:=.seq #[vb,vb] c,slots:=#[] })
    (hR:∀ h' tk,(∀ b o,b ∉ wr->b ≠ S->s.heap.get? b=some o->h'.get? b=some o)->R (.ok (.ret vb)) [19]) :
    codeAny [6] A (.builtin "min.loop" ⟨[.ref I,.none,.ref S],[]⟩) R s:=by
 have hSw:S ∉ wr:=λ h=>hSf (W.sub _ h);refine codeAny_builtin F.entry_min_loop ?_;rw [Around.under_plainId F.plain_min_loop _];show wpAny _ A.in1 (seqItems? (.ref S) >>= _) _ _ s;refine wpAny_bind (wpAny_seqItems hS rfl ?_);show wpAny _ A.in1 (tryCatch (pyNext (.ref I)) _ >>= _) _ _ s;refine wpAny_bind (wpAny_tryCatch (W.done s _ _ hst λ h' tk hk'=>?_));have hS':=hk' S _ hSw hS;show wpAny _ A.in1 (updateSeq S (λ _=>#[]) >>= _) _ _ _;refine wpAny_bind ?_;refine wpAny_updateSeq hS' rfl (wpAny_bind (wpAny_letGo [35]));exact hR _ tk λ b o hbw hbS e=>(Heap.get?_update_other _ _ (Ne.symm hbS)).trans (hk' b o hbw e)
theorem yr3 (W:Walks prog w A.in1 I fp wr n P St) (S:Addr) (hSf:S ∉ fp) (s:Shared) (vb v0:Value) (r:Bool) (c j:Nat) (hlt:j < n) (hj:j + 1=n) (hst:St j s.heap) (hv:∀ v,P j v->v=v0)
    (hcmp:∀ (h':Heap) (tk:Nat) (Q:[7]) (E:[7]),(∀ b o,b ∉ wr->s.heap.get? b=some o->h'.get? b=some o)->Q (.bool r) ([19])->wpAny [6] A.in1 (richCompare .Lt v0 vb) Q E [19])
    (hS:s.heap.get? S=some { cls:=.type "list",dict:=none,data:=.seq #[vb,vb] c,slots:=#[] })
    (hR:∀ h' tk,(∀ b o,b ∉ wr->b ≠ S->s.heap.get? b=some o->h'.get? b=some o)->R (.ok (.ret (if r then v0 else vb))) [19]) :
    codeAny [6] A (.builtin "min.loop" ⟨[.ref I,.none,.ref S],[]⟩) R s:=by
 have hSw:S ∉ wr:=λ h=>hSf (W.sub _ h);refine codeAny_builtin F.entry_min_loop ?_;rw [Around.under_plainId F.plain_min_loop _];show wpAny _ A.in1 (seqItems? (.ref S) >>= _) _ _ s;refine wpAny_bind (wpAny_seqItems hS rfl ?_);show wpAny _ A.in1 (tryCatch (pyNext (.ref I)) _ >>= _) _ _ s;refine wpAny_bind (wpAny_tryCatch (W.item j s _ _ hlt hst λ v h' tk hP hst' hk'=>?_));obtain rfl:=hv v hP;have hS':=hk' S _ hSw hS;show wpAny _ A.in1 (tryCatch (holding [v,v] (richCompare .Lt v vb >>= _)) _ >>= _) _ _ _;refine wpAny_bind (wpAny_tryCatch (wpAny_holding (wpAny_bind (hcmp h' tk _ _ hk' ?_))));refine wpAny_bind (wpAny_holding (wpAny_truthy_bool ?_));refine wpAny_bind (wpAny_letGo [35]);cases r with
 | true =>
  simp only [if_true];refine wpAny_bind ?_;refine wpAny_updateSeq hS' rfl (wpAny_bind (wpAny_letGo ?_));rw [sv2];refine wpAny_pure ⟨plainId_quiet F.plain_min_loop _,sc3 W S hSf _ v _ (hj ▸ W.frame _ _ _ hst' λ b hbf o e=>?_) (Heap.get?_update_self _ hS' rfl) λ h'' tk'' hk''=>?_⟩
  ·exact (Heap.get?_update_other _ _ (λ h:S=b=>hSf (by rw [h]; exact hbf))).trans e
  ·exact hR h'' tk'' λ b o hbw hbS e=>hk'' b o hbw hbS ((Heap.get?_update_other _ _ (Ne.symm hbS)).trans (hk' b o hbw e))
 | false =>
  simp only [Bool.false_eq_true,if_false];refine wpAny_bind (wpAny_letGo ?_);rw [sv2];refine wpAny_pure ⟨plainId_quiet F.plain_min_loop _,sc3 W S hSf _ vb c (hj ▸ hst') hS' λ h'' tk'' hk''=>?_⟩;exact hR h'' tk'' λ b o hbw hbS e=>hk'' b o hbw hbS (hk' b o hbw e)
theorem uz4 (W:Walks prog w A.in1 I fp wr 2 P St) (S:Addr) (hSf:S ∉ fp) (s:Shared) (va vb:Value) (r:Bool) (c:Nat) (hst:St 0 s.heap) (hva:∀ v,P 0 v->v=va) (hvb:∀ v,P 1 v->v=vb)
    (hcmp:∀ (h':Heap) (tk:Nat) (Q:[7]) (E:[7]),(∀ b o,b ∉ wr->b ≠ S->s.heap.get? b=some o->h'.get? b=some o)->Q (.bool r) ([19])->wpAny [6] A.in1 (richCompare .Lt vb va) Q E [19])
    (hS:s.heap.get? S=some { cls:=.type "list",dict:=none,data:=.seq #[] c,slots:=#[] })
    (hR:∀ h' tk,(∀ b o,b ∉ wr->b ≠ S->s.heap.get? b=some o->h'.get? b=some o)->R (.ok (.ret (if r then vb else va))) [19]) :
    codeAny [6] A (.builtin "min.loop" ⟨[.ref I,.none,.ref S],[]⟩) R s:=by
 have hSw:S ∉ wr:=λ h=>hSf (W.sub _ h);refine codeAny_builtin F.entry_min_loop ?_;rw [Around.under_plainId F.plain_min_loop _];show wpAny _ A.in1 (seqItems? (.ref S) >>= _) _ _ s;refine wpAny_bind (wpAny_seqItems hS rfl ?_);show wpAny _ A.in1 (tryCatch (pyNext (.ref I)) _ >>= _) _ _ s;refine wpAny_bind (wpAny_tryCatch (W.item 0 s _ _ [27] hst λ v h' tk hP hst' hk'=>?_));obtain rfl:=hva v hP;have hS':=hk' S _ hSw hS;show wpAny _ A.in1 (updateSeq S (λ _=>#[v,v]) >>= _) _ _ _;refine wpAny_bind ?_;refine wpAny_updateSeq hS' rfl ?_;rw [sv2];have up:∀ (f:Obj->Obj) b o,b ∉ wr->b ≠ S->s.heap.get? b=some o->Heap.get? (h'.update S f) b=some o:=λ f b o hbw hbS e=>(Heap.get?_update_other _ _ (Ne.symm hbS)).trans (hk' b o hbw e);refine wpAny_pure ⟨plainId_quiet F.plain_min_loop _,yr3 W S hSf _ v vb r _ 1 [27] rfl (W.frame _ _ _ hst' λ b hbf o e=>?_) hvb (λ h2 tk2 Q E hk2 hq=>?_) (Heap.get?_update_self _ hS' rfl) λ h'' tk'' hk''=>?_⟩
 ·exact (Heap.get?_update_other _ _ (λ h:S=b=>hSf (by rw [h]; exact hbf))).trans e
 ·exact hcmp h2 tk2 Q E (λ b o hbw hbS e=>hk2 b o hbw (up _ b o hbw hbS e)) hq
 ·exact hR h'' tk'' λ b o hbw hbS e=>hk'' b o hbw hbS (up _ b o hbw hbS e)
end
section
variable {E:[7]} 
theorem uq1 {va vb:Value} {r:Bool} {Q:[7]} (hh:A.handled=none)
    (hcmp:∀ (h':Heap) (tk:Nat) (Q:[7]) (E:[7]),(∀ b o,s.heap.get? b=some o->h'.get? b=some o)->Q (.bool r) ([19])->wpAny [6] A.in1 (richCompare .Lt vb va) Q E [19])
    (h:∀ h' tk,(∀ c o,s.heap.get? c=some o->h'.get? c=some o)->Q (if r then vb else va) [19]) :
    wpAny [6] A (call (.builtin "min") [va,vb]) Q E s:=by
 refine call_function_tree F.kind_min F.plain_min F.entry_min (F.args_min2 _ _) ?_;show wpAny _ A.in1 (Builtin.Builtins.bindParams "min" ["key", "default"] 0 ⟨[],[]⟩ >>= _) _ _ s;refine wpAny_bind (wpAny_of_eq (show Builtin.Builtins.bindParams "min" ["key", "default"] 0 ⟨[],[]⟩=pure [none,none] from rfl) ?_);show wpAny _ A.in1 (newTuple [va,vb] >>= _) _ _ s;refine wpAny_bind (wpAny_newObj_type ?_);have hT:(s.heap.push { cls:=.type "tuple",data:=.seq #[va,vb] }).IsTuple s.heap.objs.size #[va,vb]:=⟨_,Heap.get?_push_size _ rfl,rfl,0,rfl⟩;refine wpAny_bind (wpAny_pyIter_tuple (s:={ s with heap:=s.heap.push { cls:=.type "tuple",data:=.seq #[va,vb] } }) hT ?_);have hsz:(s.heap.push { cls:=.type "tuple",data:=.seq #[va,vb] }).objs.size=s.heap.objs.size + 1:=Heap.size_push ..;refine wpAny_bind (wpAny_newObj_type ?_);rw [sv2];have hsz2:((s.heap.push { cls:=.type "tuple",data:=.seq #[va,vb] }).push { cls:=.type "tuple_iterator",data:=.fields #[.ref s.heap.objs.size,.int 0 0] }).objs.size=s.heap.objs.size + 2:=by simp
 have keep:∀ c o,s.heap.get? c=some o->Heap.get? (((s.heap.push { cls:=.type "tuple",data:=.seq #[va,vb] }).push { cls:=.type "tuple_iterator",data:=.fields #[.ref s.heap.objs.size,.int 0 0] }).push { cls:=.type "list",data:=.seq #[] }) c=some o:=λ c o e=>Heap.get?_push_of_some _ (Heap.get?_push_of_some _ (Heap.get?_push_of_some _ e))
 have off:∀ (c:Addr) (o:Obj),s.heap.get? c=some o->c ∉ [(s.heap.push { cls:=.type "tuple",data:=.seq #[va,vb] }).objs.size] /\ c ≠ ((s.heap.push { cls:=.type "tuple",data:=.seq #[va,vb] }).push { cls:=.type "tuple_iterator",data:=.fields #[.ref s.heap.objs.size,.int 0 0] }).objs.size:=λ c o e=>by
  have h1:=Heap.lt_size e;rw [hsz2,hsz];refine ⟨λ hm=>?_,Nat.ne_of_lt (Nat.lt_succ_of_lt (Nat.lt_succ_of_lt h1))⟩;rw [List.mem_singleton.mp hm] at h1;exact absurd h1 (Nat.not_lt.mpr (Nat.le_succ _))
 refine wpAny_pure ⟨plainId_quiet F.plain_min_loop _,uz4 (Walks.tuple (A:=A.in1) hh _ s.heap.objs.size [17] #[va,vb]) _ ?_ _ va vb r _ ?_ (λ v hP=>by simpa using hP.symm) (λ v hP=>by simpa using hP.symm) ?_ (Heap.get?_push_size _ rfl) ?_⟩
 ·simp [*]
 ·exact ⟨⟨_,Heap.get?_push_of_some _ (Heap.get?_push_size _ rfl),rfl,rfl⟩,(hT.push _).push _⟩
 ·intro h' tk Q E hk hq;exact hcmp h' tk Q E (λ c o e=>hk c o (off c o e).1 (off c o e).2 (keep c o e)) hq
 ·intro h' tk hk;exact h h' tk λ c o e=>hk c o (off c o e).1 (off c o e).2 (keep c o e)
theorem wt2 {p q:Addr} {a b c d:Int} {t1 t2 t3 t4:Tok} {Q:[7]} (hh:A.handled=none) (hu:A.units + 64 < cLine) (hp:IsTup s.heap p #[.int a t1,.int b t2]) (hq:IsTup s.heap q #[.int c t3,.int d t4])
    (h:∀ h' tk,(∀ c o,s.heap.get? c=some o->h'.get? c=some o)->Q (if ltP c d a b then .ref q else .ref p) [19]) :
    wpAny [6] A (call (.builtin "min") [.ref p,.ref q]) Q E s:=by
 refine uq1 hh (λ h' tk Q E hk hq'=>?_) h;obtain ⟨⟨cp,dp,datp,slp⟩,ep,hcp,np,hdp⟩:=hp;obtain ⟨⟨cq,dq,datq,slq⟩,eq,hcq,nq,hdq⟩:=hq;dsimp only at hcp hdp hcq hdq;subst hcp hdp hcq hdq;refine richCompare_meets_room (T := "tuple") (s:=[19]) ⟨_,hk _ _ eq,rfl⟩ ⟨_,hk _ _ ep,rfl⟩ F.slot_tuple_lt F.entry_tuple_lt (F.args_tuple_lt_2 _ _) (ur3 q p c d a b t3 t4 t1 t2 nq np dq dp slq slp) ⟨hk _ _ eq,hk _ _ ep,by simp,hq'⟩ ?_
 simp_all;omega
end
section
theorem xh2 (hc:X.calm=true) (hu:[42]):xt0 X (.builtin "min") (λ xs H Q=>∃ p q a b c d,xs=[.ref p,.ref q] /\ SqT X.K H p [.int a,.int b] /\ SqT X.K H q [.int c,.int d] /\ Q (.ref (if ltP c d a b then q else p)) H):=by
 intro pins s σ H xs us Q I r h;obtain ⟨p,q,a,b,c,d,rfl,hp,hq,k⟩:=h;obtain ⟨u,w',rfl,e1,e2⟩:=xt1 r;cases e1;cases e2;obtain ⟨its,rv,pp,hz⟩:=I.tuple hp;obtain ⟨its2,rv2,pp2,hz2⟩:=I.tuple hq;obtain ⟨v1,v2,rfl,⟨t1,rfl⟩,⟨t2,rfl⟩⟩:=xt1 rv;obtain ⟨v3,v4,rfl,⟨t3,rfl⟩,⟨t4,rfl⟩⟩:=xt1 rv2;refine wt2 (I.ok.hd hc) hu pp pp2 λ h' tk kk=>⟨_,H,I.kept kk,?_,k⟩;cases ltP c d a b
 ·exact rfl
 ·exact rfl
end
end Pv
namespace Ms
open PySem.W PyProof.Rows
noncomputable def run (lt:Nat->Nat->Bool) {α:Type}:KasT α->α
 | .ret a=>a
 | .ask i j k=>run lt (k (lt i j))
theorem sk1 (lt:Nat->Nat->Bool) {α β:Type} (f:α->KasT β):∀ t:KasT α,run lt (t.bind f)=run lt (f (run lt t))
 | .ret _=>rfl
 | .ask i j k=>sk1 lt f (k (lt i j))
structure Ord (lt:Nat->Nat->Bool):Prop where
 ir:∀ a,lt a a=false
 tr:∀ a b c,lt a b=true->lt b c=true->lt a c=true
 ng:∀ a b c,lt a c=true->lt a b=true \/ lt b c=true
section
variable {lt:Nat->Nat->Bool} (O:Ord lt)
noncomputable abbrev at' (p:Array Nat) (i:Nat):Nat:=p.getD i 0
def le (lt:Nat->Nat->Bool) (a b:Nat):Prop:=lt b a=false
include O
theorem le_rf (a:Nat):le lt a a:=O.ir a
theorem le_tr {a b c:Nat} (h:le lt a b) (k:le lt b c):le lt a c:=by
 unfold le at *;cases e:lt c a with
 | false=>rfl
 | true =>
  rcases O.ng c b a e with h1 | h1
  ·simp_all
  simp_all
theorem le_lt {a b:Nat} (h:lt a b=true):le lt a b:=by
 unfold le;cases e:lt b a with
 | false=>rfl
 | true=>have:=O.tr a b a h e; rw [O.ir] at this; cases this
omit O
def Up (lt:Nat->Nat->Bool) (p:Array Nat) (n:Nat):Prop:=∀ a b,a<=b->b < n->le lt (at' p a) (at' p b)
theorem wf3 {p:Array Nat} {k l:Nat} (hk:k < p.size) (hl:l<=k) (i:Nat):at' (bubble p k (k - l)) i=if i=l then at' p k else if l < i /\ i<=k then at' p (i - 1) else at' p i:=by
 have h:=getElem?_bubble (xs:=p) hk (k - l) [5] i;rw [show k - (k - l)=l by omega] at h;by_cases c:i=l
 ·simp_all
 ·rw [if_neg c] at h ⊢;by_cases c2:l < i /\ i<=k
  ·simp_all
  simp [*]
include O
theorem xg3 {p:Array Nat} {n:Nat} (h:Up lt p n) (h1:1<=n) (k:le lt (at' p (n - 1)) (at' p n)):Up lt p (n + 1):=λ a b hab hb=>by
 by_cases e:b=n
 ·subst e;by_cases e2:a=b
  ·subst e2; exact le_rf O _
  ·exact le_tr O (h a (b - 1) [5] [5]) k
 ·exact h a b hab [5]
theorem yp1 (p:Array Nat):∀ (f n:Nat),1<=n->Up lt p n->n<=run lt (kas_asc p f n) /\ run lt (kas_asc p f n)<=n + f /\ Up lt p (run lt (kas_asc p f n)) /\ (run lt (kas_asc p f n) < n + f->lt (at' p (run lt (kas_asc p f n))) (at' p (run lt (kas_asc p f n) - 1))=true)
 | 0,n,h1,h=>⟨Nat.le_refl _,Nat.le_refl _,h,λ z=>absurd z (Nat.lt_irrefl _)⟩
 | f + 1,n,h1,h=>by
  cases e:lt (at' p n) (at' p (n - 1)) with
  | true =>
   have r:run lt (kas_asc p (f + 1) n)=n:=by
    show run lt (if lt (at' p n) (at' p (n - 1))=true then .ret n else kas_asc p f (n + 1))=n;rw [e]; rfl
   simp_all
  | false =>
   have r:run lt (kas_asc p (f + 1) n)=run lt (kas_asc p f (n + 1)):=by
    show run lt (if lt (at' p n) (at' p (n - 1))=true then .ret n else kas_asc p f (n + 1))=_;rw [e]; rfl
   rw [r];obtain ⟨a1,a2,a3,a4⟩:=yp1 p f (n + 1) [5] (xg3 O h h1 e);exact ⟨by omega,by omega,a3,λ z=>a4 [5]⟩
omit O
include O
omit O
include O
omit O
include O
theorem uw0 {p:Array Nat} {k:Nat} (h:Up lt p k):∀ (f l r:Nat),l<=r->r<=k->r - l<=f->(∀ a,a < l->le lt (at' p a) (at' p k))->(∀ b,r<=b->b < k->lt (at' p k) (at' p b)=true) ->
    run lt (kas_place p k f l r)<=k /\ (∀ a,a < run lt (kas_place p k f l r)->le lt (at' p a) (at' p k)) /\ ∀ b,run lt (kas_place p k f l r)<=b->b < k->lt (at' p k) (at' p b)=true
 | 0,l,r,hlr,hrk,hf,h1,h2=>⟨by show l<=k; omega,h1,λ b hb1 hb2=>h2 b (by have:l<=b:=hb1; omega) hb2⟩
 | f + 1,l,r,hlr,hrk,hf,h1,h2=>by
  by_cases c:l ≥ r
  ·have e:run lt (kas_place p k (f + 1) l r)=l:=by
     show run lt (if l ≥ r then .ret l else _)=l;rw [if_pos c]; rfl
   rw [e];exact ⟨by omega,h1,λ b hb1 hb2=>h2 b [5] hb2⟩
  ·cases e:lt (at' p k) (at' p ((l + r) / 2)) with
   | true =>
    have e2:run lt (kas_place p k (f + 1) l r)=run lt (kas_place p k f l ((l + r) / 2)):=by
     show run lt (if l ≥ r then .ret l else .ask (at' p k) (at' p ((l + r) / 2)) λ c=>if c=true then kas_place p k f l ((l + r) / 2) else kas_place p k f ((l + r) / 2 + 1) r)=_;rw [if_neg c];show run lt (if lt (at' p k) (at' p ((l + r) / 2))=true then _ else _)=_;rw [e,if_pos rfl]
    rw [e2];refine uw0 h f l ((l + r) / 2) [5] [5] [5] h1 λ b hb1 hb2=>?_;have z:=h ((l + r) / 2) b hb1 hb2;rcases O.ng (at' p k) (at' p b) (at' p ((l + r) / 2)) e with y | y
    ·exact y
    ·unfold le at z; simp_all
   | false =>
    have e2:run lt (kas_place p k (f + 1) l r)=run lt (kas_place p k f ((l + r) / 2 + 1) r):=by
     show run lt (if l ≥ r then .ret l else .ask (at' p k) (at' p ((l + r) / 2)) λ c=>if c=true then kas_place p k f l ((l + r) / 2) else kas_place p k f ((l + r) / 2 + 1) r)=_;rw [if_neg c];show run lt (if lt (at' p k) (at' p ((l + r) / 2))=true then _ else _)=_
     simp_all
    rw [e2];exact uw0 h f ((l + r) / 2 + 1) r [5] hrk [5] (λ a ha=>le_tr O (h a ((l + r) / 2) [5] [5]) e) h2
theorem sh2 {p0:Array Nat}:∀ (f:Nat) (p:Array Nat) (k:Nat),p.Perm p0->1<=k->k + f<=p0.size->Up lt p k->(run lt (kas_bin f p k)).Perm p0 /\ Up lt (run lt (kas_bin f p k)) (k + f)
 | 0,p,k,hp,h1,hs,h=>⟨hp,h⟩
 | f + 1,p,k,hp,h1,hs,h=>by
  have hsz:p.size=p0.size:=hp.size_eq
  have e:run lt (kas_bin (f + 1) p k)=run lt (kas_bin f (bubble p k (k - run lt (kas_place p k k 0 k))) (k + 1)):=by
   show run lt ((kas_place p k k 0 k).bind λ l=>kas_bin f (bubble p k (k - l)) (k + 1))=_;rw [sk1]
  rw [e];obtain ⟨b1,b2,b3⟩:=uw0 O h k 0 k [5] [21] [5] (λ a ha=>absurd ha (Nat.not_lt_zero _)) (λ b hb1 hb2=>by omega);generalize run lt (kas_place p k k 0 k)=l at b1 b2 b3
  have u:Up lt (bubble p k (k - l)) (k + 1):=λ a b hab hb=>by
   rw [wf3 [5] b1,wf3 [5] b1];by_cases ca:a=l
   ·rw [if_pos ca];by_cases cb:b=l
    ·rw [if_pos cb]; exact le_rf O _
    ·rw [if_neg cb,if_pos ⟨by omega,by omega⟩]; exact le_lt O (b3 _ [5] [5])
   ·rw [if_neg ca];by_cases cb:b=l
    ·rw [if_pos cb,if_neg [5]]; exact b2 _ [5]
    ·rw [if_neg cb];by_cases ca2:l < a /\ a<=k
     ·rw [if_pos ca2,if_pos ⟨by omega,by omega⟩]; exact h _ _ [5] [5]
     ·rw [if_neg ca2];by_cases cb2:l < b /\ b<=k
      ·rw [if_pos cb2]; exact h _ _ [5] [5]
      ·rw [if_neg cb2]; exact h _ _ [5] [5]
  have z:=sh2 f (bubble p k (k - l)) (k + 1) ((bubble_perm _ _ _).trans hp) [5] [5] u;rw [show k + 1 + f=k + (f + 1) by omega] at z;exact z
end
def Bd (N:Nat) {α:Type} (P:α->Prop):KasT α->Prop
 | .ret a=>P a
 | .ask i j k=>i < N /\ j < N /\ ∀ b,Bd N P (k b)
end Ms
namespace Ts
open PySem PyProof.Rows
noncomputable def gal:Bool->Keyed->Array Keyed->Nat->Nat->Nat->StateT SortSt Sem [43]:=sortPriv% PySem.Builtin.gallop
variable {prog:Program} {w:World} {A:Around} {E:[7]} {s:Shared} {κ:SortKind} {M:Keyed->Prop} {x y:Keyed} {Q:Option Nat->SortSt->Prop} {arr:Array Keyed} {i base n:Nat} {B:Nat->Bool}
section
structure Cm (prog:Program) (w:World) (A:Around) (s:Shared) (κ:SortKind) (lt:Keyed->Keyed->Bool) (M:Keyed->Prop):Prop where
 ask:∀ x y,M x->M y->∀ C:Bool->Shared->Prop,C (lt x y) s->wpAny (model prog w) A (keyLt' κ x.1 y.1) C (λ _ _=>False) s
 ir:∀ x,lt x x=false
 tr:∀ x y z,lt x y=true->lt y z=true->lt x z=true
 ng:∀ x y z,lt x z=true->lt x y=true \/ lt y z=true
variable {lt:Keyed->Keyed->Bool} 
def le (lt:Keyed->Keyed->Bool) (x y:Keyed):Prop:=lt y x=false
theorem Cm.rf (c:[29]) (x:Keyed):le lt x x:=c.ir x
theorem Cm.lt_le (c:[29]) (h:lt x y=true):le lt x y:=by
 unfold le;cases e:lt y x with
 | false=>rfl
 | true=>have:=c.tr x y x h e; rw [c.ir] at this; cases this
theorem Cm.le_tr (c:[29]) {z:Keyed} (h:le lt x y) (k:le lt y z):le lt x z:=by
 unfold le at h k ⊢;cases e:lt z x with
 | false=>rfl
 | true =>
  rcases c.ng z y x e with q | q
  ·simp_all
  simp_all
structure Ok (κ:SortKind) (st:SortSt):Prop where
 kd:kindOf st=κ
 fl:failedOf st=none
theorem va2 (c:[29]) {st:SortSt} {Q:Option Bool->SortSt->Prop} (o:Ok κ st) (hx:M x) (hy:M y) (h:Q (some (lt x y)) st):wpS [6] A E s (lt' x y) Q st:=by
 rw [lt'_eq];refine wpS_bind (wpS_get ?_);rw [o.kd];refine wpS_bind (wpS_lift (wpAny_attempt (wpAny_mono (c.ask x y hx hy (λ b s'=>s'=s /\ b=lt x y) ⟨rfl,rfl⟩) (λ b s' hb=>?_) λ _ _ hF=>hF.elim)));obtain ⟨rfl,rfl⟩:=hb;exact ⟨rfl,wpS_pure h⟩
theorem ub0 {st:SortSt} {Q:Keyed->SortSt->Prop} (hi:arr[i]?=some x) (h:Q x st):wpS [6] A E s (elem' arr i) Q st:=by
 rw [elem'_eq,hi];exact wpS_pure h
structure By (lt:Keyed->Keyed->Bool) (M:Keyed->Prop) (l:Bool) (key:Keyed) (arr:Array Keyed) (base n:Nat) (B:Nat->Bool):Prop where
 ky:M key
 it:∀ i,i < n->∃ x,arr[base + i]?=some x /\ M x /\ B i=(if l=true then lt x key else !lt key x)
 mono:∀ i j,i<=j->j < n->B j=true->B i=true
theorem By.no {l:Bool} {key:Keyed} (b:By lt M l key arr base n B) {j:Nat} (h:i<=j) (hj:j < n) (k:B i=false):B j=false:=by
 cases e:B j with
 | false=>rfl
 | true=>have:=b.mono i j h hj e; simp_all
theorem xp1 (c:[29]) {l:Bool} {key:Keyed} (b:By lt M l key arr base n B) (hi:i < n) {st:SortSt} {Q:Option Bool->SortSt->Prop} (o:Ok κ st) (h:Q (some (B i)) st) :
    wpS [6] A E s (elem' arr (base + i) >>= λ x=>if l=true then lt' x key else lt' key x >>= λ r=>pure (r.map λ y=>!y)) Q st:=by
 obtain ⟨x,ex,mx,e⟩:=b.it i hi;refine wpS_bind (ub0 ex ?_);cases l with
 | true =>
  rw [if_pos rfl];rw [if_pos rfl] at e;exact va2 c o mx b.ky (e ▸ h)
 | false =>
  rw [if_neg [17]];rw [if_neg [17]] at e;exact wpS_bind (va2 c o b.ky mx (wpS_pure [26]))
theorem su0 (c:[29]) {l:Bool} {key:Keyed} {hint:Nat} {st:SortSt} (o:Ok κ st) (b:By lt M l key arr base n B) (hh:hint < n)
    (h:∀ k,k<=n->(∀ i,i < k->B i=true)->(∀ i,k<=i->i < n->B i=false)->Q (some k) st):wpS [6] A E s (gal l key arr base n hint) Q st:=by
 refine wpS_bind (xp1 c b hh o ?_)
 have tail:∀ lo hi:Nat,lo<=hi->hi<=n->(∀ i,i < lo->B i=true)->(∀ i,hi<=i->i < n->B i=false)->∀ (f:Nat->Option [43] × Nat × Nat->StateT SortSt Sem (ForInStep (Option [43] × Nat × Nat))),
     (∀ x lo hi,lo < hi->hi<=n->f x (none,lo,hi)=((elem' arr (base + (lo + (hi - lo) / 2)) >>= λ x=>if l=true then lt' x key else lt' key x >>= λ r=>pure (r.map λ y=>!y)) >>= λ r=>match r with
      | some true=>pure (.yield (none,lo + (hi - lo) / 2 + 1,hi))
      | some false=>pure (.yield (none,lo,lo + (hi - lo) / 2))
      | none=>pure (.done (some none,lo,hi))))->(∀ x lo hi,¬ lo < hi->f x (none,lo,hi)=pure (.done (none,lo,hi))) ->
     wpS [6] A E s (forIn [0:n] (none,lo,hi) f) (λ r st'=>st'=st /\ r.1=none /\ r.2.2<=n /\ (∀ i,i < r.2.2->B i=true) /\ ∀ i,r.2.2<=i->i < n->B i=false) st:=by
  intro lo hi h1 h2 h3 h4 f f1 f2;refine wpS_forRange (λ x r st'=>st'=st /\ r.1=none /\ r.2.1<=r.2.2 /\ r.2.2<=n /\ r.2.2 - r.2.1<=n - x /\ (∀ i,i < r.2.1->B i=true) /\ ∀ i,r.2.2<=i->i < n->B i=false) ?_ ?_ ⟨rfl,rfl,h1,h2,by simp_all;omega,h3,h4⟩
  ·rintro x ⟨r,lo,hi⟩ st' _ hx ⟨rfl,rfl,a1,a2,a3,a4,a5⟩;dsimp only at a1 a2 a3 a4 a5;by_cases z:lo < hi
   ·rw [f1 x lo hi z a2];have hm:lo + (hi - lo) / 2 < n:=by omega
    refine wpS_bind (xp1 c b hm o ?_);cases e:B (lo + (hi - lo) / 2) with
    | true=>exact wpS_pure ⟨rfl,rfl,by show _ + 1<=hi; omega,a2,by simp_all;omega,λ i hi'=>b.mono i _ [20] hm e,a5⟩
    | false=>exact wpS_pure ⟨rfl,rfl,by simp,by simp_all;omega,by simp_all;omega,a4,λ i h5 h6=>b.no h5 h6 e⟩
   ·rw [f2 x lo hi z];have:lo=hi:=by omega
    subst this;exact wpS_pure ⟨rfl,rfl,a2,a4,a5⟩
  ·rintro ⟨r,lo,hi⟩ st' ⟨rfl,rfl,a1,a2,a3,a4,a5⟩;have a1':lo<=hi:=a1;have a3':hi - lo<=n - max 0 n:=a3;have:lo=hi:=by omega
   simp_all
 have fin:∀ lo hi:Nat,lo<=hi->hi<=n->(∀ i,i < lo->B i=true)->(∀ i,hi<=i->i < n->B i=false)->∀ (f:Nat->Option [43] × Nat × Nat->StateT SortSt Sem (ForInStep (Option [43] × Nat × Nat))) (g:Option [43] × Nat × Nat->StateT SortSt Sem [43]),
     (∀ x lo hi,lo < hi->hi<=n->f x (none,lo,hi)=((elem' arr (base + (lo + (hi - lo) / 2)) >>= λ x=>if l=true then lt' x key else lt' key x >>= λ r=>pure (r.map λ y=>!y)) >>= λ r=>match r with
      | some true=>pure (.yield (none,lo + (hi - lo) / 2 + 1,hi))
      | some false=>pure (.yield (none,lo,lo + (hi - lo) / 2))
      | none=>pure (.done (some none,lo,hi))))->(∀ x lo hi,¬ lo < hi->f x (none,lo,hi)=pure (.done (none,lo,hi))) ->
     (∀ lo hi,g (none,lo,hi)=pure (some hi))->wpS [6] A E s (forIn [0:n] (none,lo,hi) f >>= g) Q st:=by
  intro lo hi h1 h2 h3 h4 f g f1 f2 g1;refine wpS_bind (wpS_mono (tail lo hi h1 h2 h3 h4 f f1 f2) ?_);rintro ⟨r,lo,hi⟩ st' ⟨rfl,rfl,a2,a4,a5⟩;rw [g1];exact wpS_pure (h hi a2 a4 a5)
 cases e:B hint with
 | true =>
  refine wpS_bind (wpS_mono (wpS_forRange (λ x (r:Option [43] × Nat × Nat) st'=>st'=st /\ r.1=none /\ r.2.1 < r.2.2 /\ x + 1<=r.2.2 /\ hint + r.2.1 < n /\ B (hint + r.2.1)=true) (Q:=λ (r:Option [43] × Nat × Nat) st'=>st'=st /\ r.1=none /\ r.2.1 < r.2.2 /\ hint + r.2.1 < n /\ B (hint + r.2.1)=true /\ (n - hint<=r.2.2 \/ (hint + r.2.2 < n /\ B (hint + r.2.2)=false))) ?_ ?_ ⟨rfl,rfl,by decide,by decide,hh,e⟩) ?_)
  ·rintro x ⟨r,la,of⟩ st' _ hx ⟨rfl,rfl,a1,a2,a3,a4⟩;dsimp only at a1 a2 a3 a4 ⊢;by_cases z:of ≥ n - hint
   ·rw [if_pos z];exact wpS_pure ⟨rfl,rfl,a1,a3,a4,.inl z⟩
   ·rw [if_neg z];have hm:hint + of < n:=by omega
    refine wpS_bind (xp1 c b hm o ?_);cases e2:B (hint + of) with
    | true=>exact wpS_pure ⟨rfl,rfl,by simp_all;omega,by simp_all;omega,hm,e2⟩
    | false=>exact wpS_pure ⟨rfl,rfl,a1,a3,a4,.inr ⟨hm,e2⟩⟩
  ·simp_all;omega
  ·rintro ⟨r,la,of⟩ st' ⟨rfl,rfl,a1,a3,a4,a5⟩;dsimp only at a1 a3 a4 a5 ⊢;refine fin (hint + la + 1) (hint + min of (n - hint)) [5] [5] (λ i hi=>b.mono i _ [5] a3 a4) (λ i h5 h6=>?_) _ _ ?_ ?_ ?_
   ·rcases a5 with z | ⟨z1,z2⟩
    ·omega
    ·exact b.no [5] h6 z2
   ·intro x lo hi z _;dsimp only;rw [if_neg [5]];refine congrArg _ (funext λ r=>?_);rcases r with _ | _ | _ <;> rfl
   ·simp_all
   ·intro lo hi; rfl
 | false =>
  refine wpS_bind (wpS_mono (wpS_forRange (λ x (r:Option [43] × Nat × Nat) st'=>st'=st /\ r.1=none /\ r.2.1 < r.2.2 /\ x + 1<=r.2.2 /\ r.2.1<=hint /\ B (hint - r.2.1)=false) (Q:=λ (r:Option [43] × Nat × Nat) st'=>st'=st /\ r.1=none /\ r.2.1 < r.2.2 /\ r.2.1<=hint /\ B (hint - r.2.1)=false /\ (hint + 1<=r.2.2 \/ (r.2.2<=hint /\ B (hint - r.2.2)=true))) ?_ ?_ ⟨rfl,rfl,by decide,by decide,Nat.zero_le _,e⟩) ?_)
  ·rintro x ⟨r,la,of⟩ st' _ hx ⟨rfl,rfl,a1,a2,a3,a4⟩;dsimp only at a1 a2 a3 a4 ⊢;by_cases z:of ≥ hint + 1
   ·rw [if_pos z];exact wpS_pure ⟨rfl,rfl,a1,a3,a4,.inl z⟩
   ·rw [if_neg z];have hm:hint - of < n:=by omega
    refine wpS_bind (xp1 c b hm o ?_);cases e2:B (hint - of) with
    | false=>exact wpS_pure ⟨rfl,rfl,by simp_all;omega,by simp_all;omega,by show of<=hint; omega,e2⟩
    | true=>exact wpS_pure ⟨rfl,rfl,a1,a3,a4,.inr ⟨by show of<=hint; omega,e2⟩⟩
  ·simp_all;omega
  ·rintro ⟨r,la,of⟩ st' ⟨rfl,rfl,a1,a3,a4,a5⟩;dsimp only at a1 a3 a4 a5 ⊢;refine fin (hint + 1 - min of (hint + 1)) (hint - la) [5] [5] (λ i hi=>?_) (λ i h5 h6=>b.no h5 h6 a4) _ _ ?_ ?_ ?_
   ·rcases a5 with z | ⟨z1,z2⟩
    ·omega
    ·exact b.mono i _ [5] [5] z2
   ·intro x lo hi z _;dsimp only;rw [if_neg [5]];refine congrArg _ (funext λ r=>?_);rcases r with _ | _ | _ <;> rfl
   ·simp_all
   ·intro lo hi; rfl
end
noncomputable def mlo:Array Keyed->Array Keyed->StateT SortSt Sem (Array Keyed):=sortPriv% PySem.Builtin.mergeLo
abbrev GR:=Option (Array Keyed) × Array Keyed × Nat × Nat × Nat × Nat × Nat
noncomputable def galC (a b:Array Keyed) (k1 k:Nat) (u:Array Keyed) (i j g:Nat):StateT SortSt Sem (ForInStep GR) :=
 let nx:Array Keyed->Nat->StateT SortSt Sem (ForInStep GR):=λ u j=>elem' a i >>= λ v =>
  if (i + 1 + 1 == a.size)=true then pure (.done (some (u.push v ++ b.extract j b.size ++ a.extract (i + 1) a.size),u.push v,i + 1,j,g,k1,k))
  else if (decide (k1 < 7) && decide (k < 7))=true then pure (.done (none,u.push v,i + 1,j,g,k1,k)) else pure (.yield (none,u.push v,i + 1,j,g,k1,k))
 if k > 0 then (if (j + k == b.size)=true then pure (.done (some (u ++ b.extract j (j + k) ++ a.extract i a.size ++ b.extract (j + k) b.size),u ++ b.extract j (j + k),i,j + k,g,k1,k)) else nx (u ++ b.extract j (j + k)) (j + k)) else nx u j
theorem sf0 {α:Type} {l:List α} {x:α} (h:l[i]?=some x):l.drop i=x :: l.drop (i + 1):=by
 obtain ⟨h1,h2⟩:=List.getElem?_eq_some_iff.mp h;rw [List.drop_eq_getElem_cons h1,h2]
variable {la lb out:List Keyed} {ia ib:Nat}
section
variable {lt:Keyed->Keyed->Bool}
structure MI (lt:Keyed->Keyed->Bool) (la lb out:List Keyed) (ia ib:Nat):Prop where
 so:out.Pairwise (le lt)
 xa:∀ x ∈ out,∀ y ∈ la.drop ia,le lt x y
 xb:∀ x ∈ out,∀ y ∈ lb.drop ib,le lt x y
 pm:(out ++ (la.drop ia ++ lb.drop ib)).Perm (la ++ lb)
def Fin (lt:Keyed->Keyed->Bool) (la lb r:List Keyed):Prop:=r.Perm (la ++ lb) /\ r.Pairwise (le lt)
theorem vf1 {l:List Keyed} (h:l.Pairwise (le lt)) (e:l[i]?=some x):∀ y ∈ l.drop (i + 1),le lt x y:=by
 have h2:(l.drop i).Pairwise (le lt):=h.sublist (drop_sublist i l);rw [sf0 e] at h2;exact (List.pairwise_cons.mp h2).1
theorem MI.a (m:MI lt la lb out ia ib) (sa:la.Pairwise (le lt)) (e:la[ia]?=some x) (k:∀ y ∈ lb.drop ib,le lt x y):MI lt la lb (out ++ [x]) (ia + 1) ib:=by
 have d:=sf0 e;refine ⟨List.pairwise_append.mpr ⟨m.so,pairwise_singleton _ _,λ z hz y hy=>?_⟩,λ z hz y hy=>?_,λ z hz y hy=>?_,?_⟩
 ·rw [mem_singleton] at hy; subst hy;exact m.xa z hz y (by rw [d]; exact .head _)
 ·rcases List.mem_append.mp hz with hz | hz
  ·exact m.xa z hz y (by rw [d]; exact .tail _ hy)
  ·rw [mem_singleton] at hz; subst hz;exact vf1 sa e y hy
 ·rcases List.mem_append.mp hz with hz | hz
  ·exact m.xb z hz y hy
  ·rw [mem_singleton] at hz; subst hz;exact k y hy
 ·have p:=m.pm;rw [d] at p;rw [append_assoc];exact p
theorem MI.b (m:MI lt la lb out ia ib) (sb:lb.Pairwise (le lt)) (e:lb[ib]?=some x) (k:∀ y ∈ la.drop ia,le lt x y):MI lt la lb (out ++ [x]) ia (ib + 1):=by
 have d:=sf0 e;refine ⟨List.pairwise_append.mpr ⟨m.so,pairwise_singleton _ _,λ z hz y hy=>?_⟩,λ z hz y hy=>?_,λ z hz y hy=>?_,?_⟩
 ·rw [mem_singleton] at hy; subst hy;exact m.xb z hz y (by rw [d]; exact .head _)
 ·rcases List.mem_append.mp hz with hz | hz
  ·exact m.xa z hz y hy
  ·rw [mem_singleton] at hz; subst hz;exact k y hy
 ·rcases List.mem_append.mp hz with hz | hz
  ·exact m.xb z hz y (by rw [d]; exact .tail _ hy)
  ·rw [mem_singleton] at hz; subst hz;exact vf1 sb e y hy
 ·have p:=m.pm;rw [d] at p;rw [append_assoc];refine .trans (List.Perm.append_left _ ?_) p;show (x :: (la.drop ia ++ lb.drop (ib + 1))).Perm _;exact List.perm_middle.symm
theorem yz0 {α:Type} {l:List α} {k:Nat} {x:α} (e:l[i + k]?=some x):(l.drop i).take (k + 1)=(l.drop i).take k ++ [x]:=by
 rw [List.take_succ,getElem?_drop,e]; rfl
theorem MI.as {la lb out:List Keyed} {ia ib:Nat} (m:MI lt la lb out ia ib) (sa:la.Pairwise (le lt)):∀ k,ia + k<=la.length->(∀ i x,i < k->la[ia + i]?=some x->∀ y ∈ lb.drop ib,le lt x y)->MI lt la lb (out ++ (la.drop ia).take k) (ia + k) ib
 | 0,_,_=>by rw [take_zero,append_nil]; exact m
 | k + 1,h,q=>by
  have e:la[ia + k]?=some la[ia + k]:=getElem?_eq_getElem [5];rw [yz0 e,<- append_assoc];exact (m.as sa k [5] λ i x hi=>q i x [5]).a sa e (q k _ [5] e)
theorem MI.bs {la lb out:List Keyed} {ia ib:Nat} (m:MI lt la lb out ia ib) (sb:lb.Pairwise (le lt)):∀ k,ib + k<=lb.length->(∀ i x,i < k->lb[ib + i]?=some x->∀ y ∈ la.drop ia,le lt x y)->MI lt la lb (out ++ (lb.drop ib).take k) ia (ib + k)
 | 0,_,_=>by rw [take_zero,append_nil]; exact m
 | k + 1,h,q=>by
  have e:lb[ib + k]?=some lb[ib + k]:=getElem?_eq_getElem [5];rw [yz0 e,<- append_assoc];exact (m.bs sb k [5] λ i x hi=>q i x [5]).b sb e (q k _ [5] e)
theorem MI.endB (m:MI lt la lb out ia ib) (sa:la.Pairwise (le lt)) (h:lb.length<=ib):Fin lt la lb (out ++ la.drop ia ++ lb.drop ib):=by
 have e:lb.drop ib=[]:=drop_eq_nil_of_le h;have p:=m.pm;rw [e] at p ⊢;rw [append_nil] at p ⊢;exact ⟨p,List.pairwise_append.mpr ⟨m.so,sa.sublist (drop_sublist _ _),m.xa⟩⟩
theorem MI.endA (m:MI lt la lb out ia ib) (sb:lb.Pairwise (le lt)) (h:la.length<=ia):Fin lt la lb (out ++ la.drop ia ++ lb.drop ib):=by
 have e:la.drop ia=[]:=drop_eq_nil_of_le h;have p:=m.pm;rw [e] at p ⊢;rw [append_nil];exact ⟨p,List.pairwise_append.mpr ⟨m.so,sb.sublist (drop_sublist _ _),m.xb⟩⟩
theorem MI.last (m:MI lt la lb out ia ib) (sb:lb.Pairwise (le lt)) (h:ia + 1=la.length) (k:∀ x,la[la.length - 1]?=some x->∀ y ∈ lb,le lt y x):Fin lt la lb (out ++ lb.drop ib ++ la.drop ia):=by
 have e:la[ia]?=some la[ia]:=getElem?_eq_getElem [5];have d:=sf0 e;have e2:la.drop (ia + 1)=[]:=drop_eq_nil_of_le [5];rw [e2] at d;refine ⟨?_,?_⟩
 ·refine .trans ?_ m.pm;rw [append_assoc];exact List.Perm.append_left _ perm_append_comm
 ·rw [append_assoc];refine List.pairwise_append.mpr ⟨m.so,List.pairwise_append.mpr ⟨sb.sublist (drop_sublist _ _),?_,λ x hx y hy=>?_⟩,λ x hx y hy=>?_⟩
  ·rw [d]; exact pairwise_singleton _ _
  ·rw [d,mem_singleton] at hy;subst hy;exact k _ (by rw [show la.length - 1=ia by omega]; exact e) x (mem_of_mem_drop hx)
  ·rcases List.mem_append.mp hy with hy | hy
   ·exact m.xb x hx y hy
   ·exact m.xa x hx y hy
def Mid (lt:Keyed->Keyed->Bool) (la lb:List Keyed) (n:Nat) (r:Option (Array Keyed)) (out:Array Keyed) (ia ib:Nat):Prop:=match r with
 | some z=>Fin lt la lb z.toList
 | none=>MI lt la lb out.toList ia ib /\ ia + 1 < la.length /\ ib < lb.length /\ n<=ia + ib
end
structure Same (κ:SortKind) (st0 st:SortSt):Prop where
 ok:Ok κ st
 ar:arrOf st=arrOf st0
 pe:pendingOf st=pendingOf st0
theorem wf0 (a:Array Keyed) (i:Nat):(a.extract i a.size).toList=a.toList.drop i:=by
 rw [Array.toList_extract];simp only [List.extract];exact take_of_length_le (by rw [length_drop,length_toList]; omega)
theorem xu3 (a:Array Keyed) (i k:Nat):(a.extract i (i + k)).toList=(a.toList.drop i).take k:=by
 rw [Array.toList_extract];simp [List.extract]
variable {Md:Model}
section
variable {lt:Keyed->Keyed->Bool} 
theorem vk0 {a:Array Keyed} (h:i < a.toList.length):∃ x,a[i]?=some x /\ a.toList[i]?=some x /\ x ∈ a.toList:=by
 refine ⟨a.toList[i],?_,getElem?_eq_getElem h,getElem_mem h⟩;rw [<- getElem?_toList,getElem?_eq_getElem h]
theorem getD_some {l:List Keyed} {d:Keyed} (h:l[i]?=some x):l.getD i d=x:=by rw [getD_eq_getElem?_getD,h]; rfl
theorem vn0 {l:List Keyed} (h:l.Pairwise (le lt)) {j:Nat} (hij:i < j) (ex:l[i]?=some x) (ey:l[j]?=some y):le lt x y:=by
 obtain ⟨h1,rfl⟩:=List.getElem?_eq_some_iff.mp ex;obtain ⟨h2,rfl⟩:=List.getElem?_eq_some_iff.mp ey;exact List.pairwise_iff_getElem.mp h i j h1 h2 hij
theorem byF (c:[29]) {a:Array Keyed} (ma:∀ x ∈ a.toList,M x) {key:Keyed} (hn:ia + n<=a.size) (mk:M key) (sa:a.toList.Pairwise (le lt)):By lt M false key a ia n (λ i=>!lt key (a.toList.getD (ia + i) key)) where
 ky:=mk
 it:=λ i hi=>by
  obtain ⟨x,e1,e2,e3⟩:=vk0 (a:=a) (i:=ia + i) (by rw [length_toList]; omega);exact ⟨x,e1,ma x e3,by rw [getD_some e2,if_neg [17]]⟩
 mono:=λ i j hij hj h=>by
  by_cases z:i=j
  ·subst z; exact h
  obtain ⟨x,_,e2,_⟩:=vk0 (a:=a) (i:=ia + i) (by rw [length_toList]; omega);obtain ⟨y,_,e5,_⟩:=vk0 (a:=a) (i:=ia + j) (by rw [length_toList]; omega);have l:=vn0 sa (show ia + i < ia + j by omega) e2 e5;rw [getD_some e5] at h;rw [getD_some e2];have h':le lt y key:=(by simpa using h:lt key y=false);have q:lt key x=false:=c.le_tr l h';simpa using q
theorem byT (c:[29]) {a:Array Keyed} (ma:∀ x ∈ a.toList,M x) {key:Keyed} (hn:ia + n<=a.size) (mk:M key) (sa:a.toList.Pairwise (le lt)):By lt M true key a ia n (λ i=>lt (a.toList.getD (ia + i) key) key) where
 ky:=mk
 it:=λ i hi=>by
  obtain ⟨x,e1,e2,e3⟩:=vk0 (a:=a) (i:=ia + i) (by rw [length_toList]; omega);exact ⟨x,e1,ma x e3,by rw [getD_some e2,if_pos rfl]⟩
 mono:=λ i j hij hj h=>by
  by_cases z:i=j
  ·subst z; exact h
  obtain ⟨x,_,e2,_⟩:=vk0 (a:=a) (i:=ia + i) (by rw [length_toList]; omega);obtain ⟨y,_,e5,_⟩:=vk0 (a:=a) (i:=ia + j) (by rw [length_toList]; omega);have l:=vn0 sa (show ia + i < ia + j by omega) e2 e5;rw [getD_some e5] at h;rw [getD_some e2];rcases c.ng y x key h with q | q
  ·rw [show lt y x=false from l] at q; cases q
  ·exact q
def Pst (κ:SortKind) (lt:Keyed->Keyed->Bool) (a b:Array Keyed) (st:SortSt) (x:Nat):ForInStep GR->SortSt->Prop:=λ r st'=>match r with
 | .done c'=>Same κ st st' /\ Mid lt a.toList b.toList (x + 2) c'.1 c'.2.1 c'.2.2.1 c'.2.2.2.1
 | .yield c'=>Same κ st st' /\ c'.1=none /\ Mid lt a.toList b.toList (x + 2) none c'.2.1 c'.2.2.1 c'.2.2.2.1
theorem sz2 {α:Type} {C:Nat->Prop} [I:∀ g,Decidable (C g)] {t e:Nat->StateT SortSt Sem α} {Q:α->SortSt->Prop} {st:SortSt} (ht:∀ g,t g=e (g - 1)) (h:∀ g,wpS Md A E s (e g) Q st) (g:Nat):wpS Md A E s (@ite _ (C g) (I g) (t g) (e g)) Q st:=by
 by_cases q:C g
 ·rw [if_pos q,ht]; exact h _
 ·rw [if_neg q]; exact h _
theorem at_k {a:Array Keyed} (h:i < a.toList.length) {G:Prop} (k:∀ x,a[i]?=some x->a.toList[i]?=some x->x ∈ a.toList->G):G:=by
 obtain ⟨x,h1,h2,h3⟩:=vk0 h;exact k x h1 h2 h3
theorem yb0 {α:Type} {M:Model} {c:Prop} [Decidable c] {t u:StateT SortSt Sem α} {Q:α->SortSt->Prop} {st:SortSt} (h1:c->wpS M A E s t Q st) (h2:¬ c->wpS M A E s u Q st):wpS M A E s (if c then t else u) Q st:=by
 by_cases h:c
 ·rw [if_pos h]; exact h1 h
 ·rw [if_neg h]; exact h2 h
theorem n5 {α β γ δ ε:Type} {H G:Option α × β × γ × δ × ε->SortSt->Prop} (hn:∀ r s,H r s->r.1=none) (h:∀ b c d e s,H (none,b,c,d,e) s->G (none,b,c,d,e) s) (r:Option α × β × γ × δ × ε) (s:SortSt) (k:H r s):G r s:=by
 obtain ⟨r,b,c,d,e⟩:=r;cases (hn _ _ k:r=none);exact h _ _ _ _ _ k
theorem d5 {α β γ δ ε:Type} {P:α × β × γ × δ × ε->SortSt->Prop} (h:∀ a b c d e s,P (a,b,c,d,e) s) (r:α × β × γ × δ × ε) (s:SortSt):P r s:=h _ _ _ _ _ s
theorem vz4 (c:[29]) {a b:Array Keyed} {st:SortSt} {Q:Array Keyed->SortSt->Prop} (o:Ok κ st) (ma:∀ x ∈ a.toList,M x) (mb:∀ x ∈ b.toList,M x) (sa:a.toList.Pairwise (le lt)) (sb:b.toList.Pairwise (le lt))
    (na:0 < a.toList.length) (nb:0 < b.toList.length) (h0:∀ x y,b.toList[0]?=some x->a.toList[0]?=some y->le lt x y) (hl:∀ x,a.toList[a.toList.length - 1]?=some x->∀ y ∈ b.toList,le lt y x)
    (h:∀ r st',Same κ st st'->Fin lt a.toList b.toList r.toList->Q r st'):wpS [6] A E s (mlo a b) Q st:=by
 refine wpS_bind (wpS_lift (wpAny_rule ⟨rfl,?_⟩));refine at_k (a:=b) nb λ b0 eb eb' hb0=>?_;refine wpS_bind (ub0 eb ?_);dsimp only;refine at_k (a:=a) na λ a0 ea ea' ha0=>?_
 have dn:∀ {l:List Keyed} {x:Keyed} {i:Nat},l.Pairwise (le lt)->l[i]?=some x->∀ z,le lt z x->∀ y ∈ l.drop i,le lt z y:=by
  intro l x i sl e z hz y hy;rw [sf0 e] at hy;rcases List.mem_cons.mp hy with rfl | hy
  ·exact hz
  ·exact c.le_tr hz (vf1 sl e y hy)
 have m0:MI lt a.toList b.toList #[b0].toList 0 1:=by
  have m:MI lt a.toList b.toList [] 0 0:=⟨List.Pairwise.nil,λ _ h=>(nomatch h),λ _ h=>(nomatch h),.refl _⟩;exact m.b sb eb' (dn sa ea' b0 (h0 _ _ eb' ea'))
 have doneB:∀ {out:Array Keyed} {ia ib:Nat},MI lt a.toList b.toList out.toList ia ib->b.size<=ib->Fin lt a.toList b.toList (out ++ a.extract ia a.size ++ b.extract ib b.size).toList:=by
  intro out ia ib m hi;rw [toList_append,toList_append,wf0,wf0];exact m.endB sa hi
 have doneA:∀ {out:Array Keyed} {ia ib:Nat},MI lt a.toList b.toList out.toList ia ib->a.size<=ia->Fin lt a.toList b.toList (out ++ a.extract ia a.size ++ b.extract ib b.size).toList:=by
  intro out ia ib m hi;rw [toList_append,toList_append,wf0,wf0];exact m.endA sb hi
 have lastA:∀ {out:Array Keyed} {ia ib:Nat},MI lt a.toList b.toList out.toList ia ib->ia + 1=a.size->Fin lt a.toList b.toList (out ++ b.extract ib b.size ++ a.extract ia a.size).toList:=by
  intro out ia ib m hi;rw [toList_append,toList_append,wf0,wf0];exact m.last sb hi hl
 have sza:a.toList.length=a.size:=length_toList;have szb:b.toList.length=b.size:=length_toList
 have nxA:∀ (x k1 k2 g:Nat) (out:Array Keyed) (i j:Nat) (st3:SortSt),Same κ st st3->MI lt a.toList b.toList out.toList i j->i + 1 < a.size->j < b.size->x + 2<=i + j + 1->(∀ v,a.toList[i]?=some v->∀ y ∈ b.toList.drop j,le lt v y) ->
     wpS [6] A E s (elem' a i >>= λ v=>if (i + 1 + 1 == a.size)=true then pure (.done (some (out.push v ++ b.extract j b.size ++ a.extract (i + 1) a.size),out.push v,i + 1,j,g,k1,k2))
      else if (decide (k1 < 7) && decide (k2 < 7))=true then pure (.done (none,out.push v,i + 1,j,g,k1,k2)) else pure (.yield (none,out.push v,i + 1,j,g,k1,k2))) (Pst κ lt a b st x) st3:=by
  intro x k1 k2 g out i j st3 s3 m h1 h2 h3 hle;refine at_k (a:=a) (i:=i) [5] λ va e4 e5 e6=>?_;refine wpS_bind (ub0 e4 ?_);have m':=m.a sa e5 (hle va e5);rw [<- toList_push] at m';refine yb0 (λ z=>?_) λ z=>?_
  ·exact wpS_pure ⟨s3,lastA m' (eq_of_beq z)⟩
  ·have z':i + 1 + 1 ≠ a.size:=λ e=>z (beq_iff_eq.mpr e);refine yb0 (λ y1=>?_) λ y1=>?_
   ·exact wpS_pure ⟨s3,m',by show i + 1 + 1 < _; omega,by show j < _; omega,by show _<=i + 1 + j; omega⟩
   ·exact wpS_pure ⟨s3,rfl,m',by show i + 1 + 1 < _; omega,by show j < _; omega,by show _<=i + 1 + j; omega⟩
 have nxB:∀ (x k bc g:Nat) (out:Array Keyed) {i j:Nat} {st3:SortSt} {vb:Keyed},Same κ st st3->MI lt a.toList b.toList out.toList i j->i + 1 < a.size->j < b.toList.length->x + 2<=i + j->b[j]?=some vb->b.toList[j]?=some vb->(∀ y ∈ a.toList.drop i,le lt vb y) ->
     ∀ (G:Keyed->Keyed->Option Nat->StateT SortSt Sem (ForInStep GR)),(∀ v y k2,G v y (some k2)=galC a b k k2 (out.push v) i (j + 1) g) ->
     wpS [6] A E s (elem' b j >>= λ v=>if (j + 1 == b.size)=true then pure (.done (some (out.push v ++ a.extract i a.size ++ b.extract (j + 1) b.size),out.push v,i,j + 1,g,k,bc))
      else elem' a i >>= λ y=>gal true y b (j + 1) (b.size - (j + 1)) 0 >>= G v y) (Pst κ lt a b st x) st3:=by
  intro x k bc g out i j st3 vb s3 m h1 h2 h3 e1 e2 lo G hG;refine wpS_bind (ub0 e1 ?_);have m':=m.b sb e2 lo;rw [<- toList_push] at m';refine yb0 (λ z=>?_) λ z=>?_
  ·exact wpS_pure ⟨s3,doneB m' (Nat.le_of_eq (eq_of_beq z).symm)⟩
  ·have z':j + 1 ≠ b.size:=λ e=>z (beq_iff_eq.mpr e);refine at_k (a:=a) (i:=i) [5] λ va e4 e5 e6=>?_;refine wpS_bind (ub0 e4 ?_);refine wpS_bind (su0 c s3.ok (byT c mb [5] (ma _ e6) sb) [5] λ k2 q1 q2 q3=>?_);rw [hG];unfold galC;dsimp only
   have mk:=m'.bs sb k2 [5] λ i y hi ey=>dn sa e5 y (by
    have q:=q2 i hi;rw [getD_some ey] at q;exact c.lt_le q)
   have lo2:∀ v,a.toList[i]?=some v->∀ y ∈ b.toList.drop (j + 1 + k2),le lt v y:=by
    intro v ev y hy;rw [e5] at ev;cases ev;obtain ⟨n,hn,ey⟩:=List.mem_drop_iff_getElem.mp hy;have q:=q3 (k2 + n) [5] [5];rw [getD_some (x:=y) (by rw [show j + 1 + (k2 + n)=j + 1 + k2 + n by omega,getElem?_eq_getElem [5]]; exact congrArg some ey)] at q;exact q
   refine yb0 (λ kp=>?_) λ kp=>?_
   ·rw [<- xu3,<- toList_append] at mk;refine yb0 (λ zz=>?_) λ zz=>?_
    ·exact wpS_pure ⟨s3,doneB mk (Nat.le_of_eq (eq_of_beq zz).symm)⟩
    ·have zz':j + 1 + k2 ≠ b.size:=λ e=>zz (beq_iff_eq.mpr e);exact nxA x _ _ _ _ _ _ _ s3 mk h1 [5] [5] lo2
   ·have k0:k2=0:=by omega
    subst k0;exact nxA x _ _ _ _ _ _ _ s3 m' h1 [5] [5] lo2
 refine yb0 (λ z1=>?_) λ z1=>?_
 ·exact wpS_pure (h _ _ ⟨o,rfl,rfl⟩ (doneB m0 (by have:=eq_of_beq z1; omega)))
 refine yb0 (λ z2=>?_) λ z2=>?_
 ·exact wpS_pure (h _ _ ⟨o,rfl,rfl⟩ (lastA m0 (eq_of_beq z2)))
 have n1:b.size ≠ 1:=λ e=>z1 (beq_iff_eq.mpr e.symm);have n2:a.size ≠ 1:=λ e=>z2 (beq_iff_eq.mpr e.symm);refine wpS_bind (wpS_get ?_)
 refine wpS_bind (wpS_mono (wpS_forRange (λ x (r:Option (Array Keyed) × Array Keyed × Nat × Nat × Nat) st'=>Same κ st st' /\ r.1=none /\ Mid lt a.toList b.toList (x + 1) none r.2.1 r.2.2.1 r.2.2.2.1)
  (Q:=λ (r:Option (Array Keyed) × Array Keyed × Nat × Nat × Nat) st'=>Same κ st st' /\ ∃ z,r.1=some z /\ Fin lt a.toList b.toList z.toList) ?_ ?_ ⟨⟨o,rfl,rfl⟩,rfl,m0,by show 0 + 1 < _; omega,by show 1 < _; omega,Nat.le_refl 1⟩) ?_)
 ·intro x r st1 _ hx h;revert r st1;refine n5 (λ _ _ h=>h.2.1) λ out ia ib mg st1 h=>?_;dsimp only
  refine wpS_bind (wpS_mono (wpS_forRange (λ y (r:Option (Array Keyed) × Array Keyed × Nat × Nat × Nat × Nat) st'=>Same κ st st' /\ r.1=none /\ Mid lt a.toList b.toList (x + 1 + y) none r.2.1 r.2.2.1 r.2.2.2.1)
   (Q:=λ (r:Option (Array Keyed) × Array Keyed × Nat × Nat × Nat × Nat) st'=>Same κ st st' /\ Mid lt a.toList b.toList (x + 2) r.1 r.2.1 r.2.2.1 r.2.2.2.1) ?_ ?_ ⟨h.1,rfl,h.2.2⟩) ?_)
  ·intro y r st2 _ hy h;revert r st2;refine n5 (λ _ _ h=>h.2.1) λ out ia ib z st2 h=>?_;obtain ⟨ac,bc⟩:=z;have s2:=h.1;have ⟨m,i1,i2,i3⟩:=h.2.2;dsimp only at m i1 i2 i3 ⊢;refine at_k (a:=b) i2 λ vb e1 e2 e3=>?_;refine at_k (a:=a) (i:=ia) [5] λ va e4 e5 e6=>?_;refine wpS_bind (ub0 e1 (wpS_bind (ub0 e4 (wpS_bind (va2 c s2.ok (mb _ e3) (ma _ e6) ?_)))));cases q:lt vb va with
   | true =>
    dsimp only;rw [if_pos rfl];refine wpS_bind (ub0 e1 ?_);have m':=m.b sb e2 (dn sa e5 vb (c.lt_le q));rw [<- toList_push] at m';refine yb0 (λ z=>?_) λ z=>?_
    ·exact wpS_pure ⟨s2,doneB m' (Nat.le_of_eq (eq_of_beq z).symm)⟩
    ·have z':ib + 1 ≠ b.size:=λ e=>z (beq_iff_eq.mpr e);refine yb0 (λ y1=>?_) λ y1=>?_
     ·exact wpS_pure ⟨s2,m',i1,by show ib + 1 < _; omega,by show _<=ia + (ib + 1); omega⟩
     ·exact wpS_pure ⟨s2,rfl,m',i1,by show ib + 1 < _; omega,by show _<=ia + (ib + 1); omega⟩
   | false =>
    dsimp only;rw [if_neg [17]];refine wpS_bind (ub0 e4 ?_);have m':=m.a sa e5 (dn sb e2 va q);rw [<- toList_push] at m';refine yb0 (λ z=>?_) λ z=>?_
    ·exact wpS_pure ⟨s2,lastA m' (eq_of_beq z)⟩
    ·have z':ia + 1 + 1 ≠ a.size:=λ e=>z (beq_iff_eq.mpr e);refine yb0 (λ y1=>?_) λ y1=>?_
     ·exact wpS_pure ⟨s2,m',by show ia + 1 + 1 < _; omega,i2,by show _<=ia + 1 + ib; omega⟩
     ·exact wpS_pure ⟨s2,rfl,m',by show ia + 1 + 1 < _; omega,i2,by show _<=ia + 1 + ib; omega⟩
  ·rintro ⟨r,out,ia,ib,ac,bc⟩ st2 ⟨s2,rfl,m,i1,i2,i3⟩;exact ⟨s2,m,i1,i2,by omega⟩
  ·refine d5 λ r out ia ib z st2 h=>?_;dsimp only;cases r with
   | some z=>exact wpS_pure ⟨h.1,z,rfl,h.2⟩
   | none =>
    dsimp only;refine wpS_bind (wpS_lift (wpAny_rule ⟨rfl,?_⟩))
    refine wpS_bind (wpS_mono (wpS_forRange (λ y (r:Option (Array Keyed) × Array Keyed × Nat × Nat × Nat × Nat × Nat) st'=>Same κ st st' /\ r.1=none /\ Mid lt a.toList b.toList (x + 2) none r.2.1 r.2.2.1 r.2.2.2.1)
     (Q:=λ (r:Option (Array Keyed) × Array Keyed × Nat × Nat × Nat × Nat × Nat) st'=>Same κ st st' /\ Mid lt a.toList b.toList (x + 2) r.1 r.2.1 r.2.2.1 r.2.2.2.1) ?_ ?_ ⟨h.1,rfl,h.2⟩) ?_)
    ·intro y r st3 _ hy h;revert r st3;refine n5 (λ _ _ h=>h.2.1) λ out ia ib z st3 h=>?_;obtain ⟨mg,ac,bc⟩:=z;have s3:=h.1;have ⟨m,i1,i2,i3⟩:=h.2.2;dsimp only at m i1 i2 i3 ⊢;have s3':∀ g:Nat,Same κ st (SortSt.mk' (kindOf st3) (arrOf st3) (pendingOf st3) g (failedOf st3)):=λ g=>⟨⟨s3.ok.kd,s3.ok.fl⟩,s3.ar,s3.pe⟩;refine at_k (a:=b) i2 λ vb e1 e2 e3=>?_;clear h;revert mg;refine sz2 (λ _=>rfl) λ mg=>?_;refine wpS_bind (wpS_modify ?_);refine wpS_bind (ub0 e1 ?_);refine wpS_bind (su0 c (s3' _).ok (byF c ma [5] (mb _ e3) sa) [5] λ k k1 k2 k3=>?_);dsimp only
     have mk:=m.as sa k [5] λ i y hi ey=>dn sb e2 y (by
      have q:=k2 i hi;rw [getD_some ey] at q;exact (by simpa using q:lt vb y=false))
     have lo:∀ y ∈ a.toList.drop (ia + k),le lt vb y:=by
      intro y hy;obtain ⟨i,hi,ey⟩:=List.mem_drop_iff_getElem.mp hy;have q:=k3 (k + i) [5] [5];rw [getD_some (x:=y) (by rw [show ia + (k + i)=ia + k + i by omega,getElem?_eq_getElem [5]]; exact congrArg some ey)] at q;exact c.lt_le (by simpa using q)
     refine yb0 (λ kp=>?_) λ kp=>?_
     ·have mk':=mk;rw [<- xu3,<- toList_append] at mk';refine yb0 (λ z=>?_) λ z=>?_
      ·exact wpS_pure ⟨s3' _,lastA mk' (eq_of_beq z)⟩
      ·have z':ia + k + 1 ≠ a.size:=λ e=>z (beq_iff_eq.mpr e);refine yb0 (λ zz=>?_) λ zz=>?_
       ·exact wpS_pure ⟨s3' _,doneA mk' (Nat.le_of_eq (eq_of_beq zz).symm)⟩
       ·have zz':ia + k ≠ a.size:=λ e=>zz (beq_iff_eq.mpr e);refine wpS_mono (nxB x k bc _ _ (s3' _) mk' [5] i2 [5] e1 e2 lo _ ?_) ?_
        ·intro _ _ _; rfl
        ·intro r st' q; cases r <;> exact q
     ·have k0:k=0:=by omega
      subst k0;rw [take_zero,append_nil] at mk;refine wpS_mono (nxB x 0 bc _ _ (s3' _) m [5] i2 [5] e1 e2 lo _ ?_) ?_
      ·intro _ _ _; rfl
      ·intro r st' q; cases r <;> exact q
    ·rintro ⟨r,out,ia,ib,mg,ac,bc⟩ st3 ⟨s3,rfl,m,i1,i2,i3⟩;exact ⟨s3,m,i1,i2,i3⟩
    ·refine d5 λ r out ia ib z st3 h=>?_;dsimp only;cases r with
     | some z=>exact wpS_pure ⟨h.1,z,rfl,h.2⟩
     | none =>
      dsimp only;exact wpS_bind (wpS_modify (wpS_pure ⟨⟨⟨h.1.ok.kd,h.1.ok.fl⟩,h.1.ar,h.1.pe⟩,rfl,h.2⟩))
 ·rintro ⟨r,out,ia,ib,mg⟩ st1 ⟨s1,rfl,m,i1,i2,i3⟩;exfalso;dsimp only at i1 i2 i3;omega
 ·rintro ⟨r,out,ia,ib,mg⟩ st1 ⟨s1,z,e,f⟩;dsimp only at e ⊢;subst e;exact wpS_pure (h z st1 s1 f)
end
noncomputable def mhi:Array Keyed->Array Keyed->StateT SortSt Sem (Array Keyed):=sortPriv% PySem.Builtin.mergeHi
variable {ro:List Keyed} {nb na:Nat}
section
variable {lt:Keyed->Keyed->Bool}
theorem xd0 {α:Type} {l:List α} {x:α} (h:l[i]?=some x):l.take (i + 1)=l.take i ++ [x]:=by rw [List.take_succ,h]; rfl
theorem zm1 {α:Type} {l:List α} {x:α} (h:l[i]?=some x) (hi:i < n):x ∈ l.take n:=List.mem_iff_getElem?.mpr ⟨i,by simp_all⟩
structure MH (lt:Keyed->Keyed->Bool) (la lb ro:List Keyed) (na nb:Nat):Prop where
 so:ro.Pairwise (le lt)
 xa:∀ x ∈ la.take na,∀ y ∈ ro,le lt x y
 xb:∀ x ∈ lb.take nb,∀ y ∈ ro,le lt x y
 pm:(la.take na ++ (lb.take nb ++ ro)).Perm (la ++ lb)
theorem wg3 {l:List Keyed} (h:l.Pairwise (le lt)) (e:l[n]?=some x):∀ z ∈ l.take n,le lt z x:=by
 intro z hz;obtain ⟨i,hi,ez⟩:=List.mem_take_iff_getElem.mp hz;exact vn0 h [5] (List.getElem?_eq_some_iff.mpr ⟨by omega,ez⟩) e
theorem MH.a (m:MH lt la lb ro (n + 1) nb) (sa:la.Pairwise (le lt)) (e:la[n]?=some x) (k:∀ y ∈ lb.take nb,le lt y x):MH lt la lb (x :: ro) n nb:=by
 have d:=xd0 e;refine ⟨List.pairwise_cons.mpr ⟨λ y hy=>m.xa x (zm1 e [5]) y hy,m.so⟩,λ z hz y hy=>?_,λ z hz y hy=>?_,?_⟩
 ·rcases List.mem_cons.mp hy with rfl | hy
  ·exact wg3 sa e z hz
  ·exact m.xa z [26] y hy
 ·rcases List.mem_cons.mp hy with rfl | hy
  ·exact k z hz
  ·exact m.xb z hz y hy
 ·refine .trans ?_ m.pm;rw [d,append_assoc];refine List.Perm.append_left _ ?_;simp
theorem MH.b (m:MH lt la lb ro na (n + 1)) (sb:lb.Pairwise (le lt)) (e:lb[n]?=some x) (k:∀ y ∈ la.take na,le lt y x):MH lt la lb (x :: ro) na n:=by
 have d:=xd0 e;refine ⟨List.pairwise_cons.mpr ⟨λ y hy=>m.xb x (zm1 e [5]) y hy,m.so⟩,λ z hz y hy=>?_,λ z hz y hy=>?_,?_⟩
 ·rcases List.mem_cons.mp hy with rfl | hy
  ·exact k z hz
  ·exact m.xa z hz y hy
 ·rcases List.mem_cons.mp hy with rfl | hy
  ·exact wg3 sb e z hz
  ·exact m.xb z [26] y hy
 ·have p:=m.pm
  simp_all
theorem MH.as {la lb:List Keyed} {nb:Nat} (sa:la.Pairwise (le lt)) {at_:Nat}:∀ (k:Nat) {ro:List Keyed},MH lt la lb ro (at_ + k) nb->at_ + k<=la.length->(∀ i x,at_<=i->i < at_ + k->la[i]?=some x->∀ y ∈ lb.take nb,le lt y x)->MH lt la lb ((la.take (at_ + k)).drop at_ ++ ro) at_ nb
 | 0,ro,m,_,_=>by
  simp_all
 | k + 1,ro,m,h,q=>by
  have e:la[at_ + k]?=some la[at_ + k]:=getElem?_eq_getElem [5];have m2:=MH.a (n:=at_ + k) m sa e (q _ _ [5] [5] e);have r:=MH.as sa k m2 [5] λ i x h1 h2=>q i x h1 [5]
  have e2:(la.take (at_ + (k + 1))).drop at_=(la.take (at_ + k)).drop at_ ++ [la[at_ + k]]:=by
   rw [show at_ + (k + 1)=at_ + k + 1 from rfl,xd0 e,List.drop_append_of_le_length [20]]
  simp_all
theorem MH.bs {la lb:List Keyed} {na:Nat} (sb:lb.Pairwise (le lt)) {at_:Nat}:∀ (k:Nat) {ro:List Keyed},MH lt la lb ro na (at_ + k)->at_ + k<=lb.length->(∀ i x,at_<=i->i < at_ + k->lb[i]?=some x->∀ y ∈ la.take na,le lt y x)->MH lt la lb ((lb.take (at_ + k)).drop at_ ++ ro) na at_
 | 0,ro,m,_,_=>by
  simp_all
 | k + 1,ro,m,h,q=>by
  have e:lb[at_ + k]?=some lb[at_ + k]:=getElem?_eq_getElem [5];have m2:=MH.b (n:=at_ + k) m sb e (q _ _ [5] [5] e);have r:=MH.bs sb k m2 [5] λ i x h1 h2=>q i x h1 [5]
  have e2:(lb.take (at_ + (k + 1))).drop at_=(lb.take (at_ + k)).drop at_ ++ [lb[at_ + k]]:=by
   rw [show at_ + (k + 1)=at_ + k + 1 from rfl,xd0 e,List.drop_append_of_le_length [20]]
  simp_all
theorem MH.endA (m:MH lt la lb ro 0 nb) (sb:lb.Pairwise (le lt)):Fin lt la lb (la.take 0 ++ lb.take nb ++ ro):=by
 have p:=m.pm;rw [take_zero,nil_append] at p ⊢;exact ⟨p,List.pairwise_append.mpr ⟨sb.sublist (take_sublist _ _),m.so,m.xb⟩⟩
theorem MH.endB (m:MH lt la lb ro na 0) (sa:la.Pairwise (le lt)):Fin lt la lb (la.take na ++ lb.take 0 ++ ro):=by
 have p:=m.pm;rw [take_zero,nil_append] at p;rw [take_zero,append_nil];exact ⟨p,List.pairwise_append.mpr ⟨sa.sublist (take_sublist _ _),m.so,m.xa⟩⟩
theorem MH.first (m:MH lt la lb ro na 1) (sa:la.Pairwise (le lt)) (hb:0 < lb.length) (k:∀ x,lb[0]?=some x->∀ y ∈ la,le lt x y):Fin lt la lb (lb.take 1 ++ la.take na ++ ro):=by
 have e:lb[0]?=some lb[0]:=getElem?_eq_getElem hb;have d:=xd0 e;rw [take_zero,nil_append] at d;refine ⟨?_,?_⟩
 ·refine .trans ?_ m.pm;rw [<- append_assoc];exact List.Perm.append_right _ perm_append_comm
 ·refine List.pairwise_append.mpr ⟨List.pairwise_append.mpr ⟨?_,sa.sublist (take_sublist _ _),λ x hx y hy=>?_⟩,m.so,λ x hx y hy=>?_⟩
  ·simp_all
  ·rw [d,mem_singleton] at hx;subst hx;exact k _ e y (mem_of_mem_take hy)
  ·rcases List.mem_append.mp hx with hx | hx
   ·exact m.xb x hx y hy
   ·exact m.xa x hx y hy
def MidH (lt:Keyed->Keyed->Bool) (la lb:List Keyed) (n:Nat) (r:Option (Array Keyed)) (na nb:Nat) (out:Array Keyed):Prop:=match r with
 | some z=>Fin lt la lb z.toList
 | none=>MH lt la lb out.toList.reverse na nb /\ 0 < na /\ na<=la.length /\ 1 < nb /\ nb<=lb.length /\ na + nb + n<=la.length + lb.length
end
theorem ext0 (a:Array Keyed) (n:Nat):(a.extract 0 n).toList=a.toList.take n:=by
 simp
theorem ut3 (a:Array Keyed) (i n:Nat):(a.extract i n).toList=(a.toList.take n).drop i:=by
 rw [Array.toList_extract,List.extract_eq_drop_take,List.drop_take]
theorem vp0 (u:Array Keyed) (v:Keyed):(u.push v).toList.reverse=v :: u.toList.reverse:=by simp
theorem yx1 (u t:Array Keyed):(u ++ t.reverse).toList.reverse=t.toList ++ u.toList.reverse:=by simp
abbrev GH:=Option (Array Keyed) × Nat × Nat × Array Keyed × Nat × Nat × Nat
def PstH (κ:SortKind) (lt:Keyed->Keyed->Bool) (a b:Array Keyed) (st:SortSt) (x:Nat):ForInStep GH->SortSt->Prop:=λ r st'=>match r with
 | .done c'=>Same κ st st' /\ MidH lt a.toList b.toList (x + 2) c'.1 c'.2.1 c'.2.2.1 c'.2.2.2.1
 | .yield c'=>Same κ st st' /\ c'.1=none /\ MidH lt a.toList b.toList (x + 2) none c'.2.1 c'.2.2.1 c'.2.2.2.1
noncomputable def galH (a b:Array Keyed) (k1 t:Nat) (u:Array Keyed) (i j g:Nat):StateT SortSt Sem (ForInStep GH) :=
 let nx:Nat->Array Keyed->StateT SortSt Sem (ForInStep GH):=λ m u=>elem' a (i - 1) >>= λ v =>
  if (i - 1 == 0)=true then pure (.done (some (a.extract 0 (i - 1) ++ b.extract 0 m ++ (u.push v).reverse),i - 1,m,u.push v,g,k1,j - t))
  else if (decide (k1 < 7) && decide (j - t < 7))=true then pure (.done (none,i - 1,m,u.push v,g,k1,j - t)) else pure (.yield (none,i - 1,m,u.push v,g,k1,j - t))
 if j - t > 0 then (if (t == 1)=true then pure (.done (some (b.extract 0 t ++ a.extract 0 i ++ (u ++ (b.extract t j).reverse).reverse),i,t,u ++ (b.extract t j).reverse,g,k1,j - t))
  else if (t == 0)=true then pure (.done (some (a.extract 0 i ++ b.extract 0 t ++ (u ++ (b.extract t j).reverse).reverse),i,t,u ++ (b.extract t j).reverse,g,k1,j - t)) else nx t (u ++ (b.extract t j).reverse)) else nx j u
section
variable {lt:Keyed->Keyed->Bool} 
theorem sz4 (c:[29]) {a b:Array Keyed} {st:SortSt} {Q:Array Keyed->SortSt->Prop} (o:Ok κ st) (ma:∀ x ∈ a.toList,M x) (mb:∀ x ∈ b.toList,M x) (sa:a.toList.Pairwise (le lt)) (sb:b.toList.Pairwise (le lt))
    (na:0 < a.toList.length) (nb:0 < b.toList.length) (h0:∀ x y,b.toList[0]?=some x->a.toList[0]?=some y->le lt x y) (hl:∀ x,a.toList[a.toList.length - 1]?=some x->∀ y ∈ b.toList,le lt y x)
    (h:∀ r st',Same κ st st'->Fin lt a.toList b.toList r.toList->Q r st'):wpS [6] A E s (mhi a b) Q st:=by
 refine wpS_bind (wpS_lift (wpAny_rule ⟨rfl,?_⟩));have sza:a.toList.length=a.size:=length_toList;have szb:b.toList.length=b.size:=length_toList;refine at_k (a:=a) (i:=a.size - 1) [5] λ vl el el' hvl=>?_;refine wpS_bind (ub0 el ?_);dsimp only;refine at_k (a:=a) na λ a0 ea ea' ha0=>?_
 have up:∀ {l:List Keyed} {x:Keyed} {n:Nat},l.Pairwise (le lt)->l[n]?=some x->∀ z,le lt x z->∀ y ∈ l.take (n + 1),le lt y z:=by
  intro l x n sl e z hz y hy;rw [xd0 e] at hy;rcases List.mem_append.mp hy with hy | hy
  ·exact c.le_tr (wg3 sl e y hy) hz
  simp_all
 have fb:∀ x,b.toList[0]?=some x->∀ y ∈ a.toList,le lt x y:=by
  intro x ex y hy;obtain ⟨i,hi,rfl⟩:=List.mem_iff_getElem.mp hy;have e:=getElem?_eq_getElem hi;have q:=h0 x a0 ex ea';by_cases z:i=0
  ·simp_all
  ·exact c.le_tr q (vn0 sa [5] ea' e)
 have m0:MH lt a.toList b.toList #[vl].toList.reverse (a.size - 1) b.size:=by
  have m:MH lt a.toList b.toList [] (a.size - 1 + 1) b.size:=⟨List.Pairwise.nil,λ _ _ _ h=>(nomatch h),λ _ _ _ h=>(nomatch h),by
   rw [take_of_length_le [5],take_of_length_le [5],append_nil]⟩
  exact m.a sa el' λ y hy=>hl vl (by rw [sza]; exact el') y (mem_of_mem_take hy)
 have doneA:∀ {out:Array Keyed} {j:Nat} {i:Nat},MH lt a.toList b.toList out.toList.reverse i j->i=0->Fin lt a.toList b.toList (a.extract 0 i ++ b.extract 0 j ++ out.reverse).toList:=by
  intro out j i m hi;subst hi;rw [toList_append,toList_append,ext0,ext0,Array.toList_reverse];exact m.endA sb
 have doneB:∀ {out:Array Keyed} {j:Nat} {i:Nat},MH lt a.toList b.toList out.toList.reverse i j->j=0->Fin lt a.toList b.toList (a.extract 0 i ++ b.extract 0 j ++ out.reverse).toList:=by
  intro out j i m hi;subst hi;rw [toList_append,toList_append,ext0,ext0,Array.toList_reverse];exact m.endB sa
 have firstB:∀ {out:Array Keyed} {j:Nat} {i:Nat},MH lt a.toList b.toList out.toList.reverse i j->j=1->Fin lt a.toList b.toList (b.extract 0 j ++ a.extract 0 i ++ out.reverse).toList:=by
  intro out j i m hi;subst hi;rw [toList_append,toList_append,ext0,ext0,Array.toList_reverse];exact m.first sa nb fb
 have nxA:∀ (x k1 k2 g:Nat) (out:Array Keyed) (i j:Nat) (st3:SortSt),Same κ st st3->MH lt a.toList b.toList out.toList.reverse i j->0 < i->i<=a.size->1 < j->j<=b.size->i + j + (x + 1)<=a.size + b.size->(∀ v,a.toList[i - 1]?=some v->∀ y ∈ b.toList.take j,le lt y v) ->
     wpS [6] A E s (elem' a (i - 1) >>= λ v=>if (i - 1 == 0)=true then pure (.done (some (a.extract 0 (i - 1) ++ b.extract 0 j ++ (out.push v).reverse),i - 1,j,out.push v,g,k1,k2))
      else if (decide (k1 < 7) && decide (k2 < 7))=true then pure (.done (none,i - 1,j,out.push v,g,k1,k2)) else pure (.yield (none,i - 1,j,out.push v,g,k1,k2))) (PstH κ lt a b st x) st3:=by
  intro x k1 k2 g out i j st3 s3 m p1 p2 p3 p4 p5 hle;obtain ⟨n,rfl⟩:∃ n,i=n + 1:=⟨i - 1,by omega⟩;rw [Nat.add_sub_cancel] at hle ⊢;refine at_k (a:=a) (i:=n) [5] λ va e4 e5 e6=>?_;refine wpS_bind (ub0 e4 ?_);have m':=m.a sa e5 (hle va e5);rw [<- vp0] at m';refine yb0 (λ z=>?_) λ z=>?_
  ·exact wpS_pure ⟨s3,doneA m' (eq_of_beq z)⟩
  ·have z':n ≠ 0:=λ e=>z (beq_iff_eq.mpr e);refine yb0 (λ y1=>?_) λ y1=>?_
   ·exact wpS_pure ⟨s3,m',by show 0 < n; omega,by show n<=_; omega,p3,by show j<=_; omega,by simp_all;omega⟩
   ·exact wpS_pure ⟨s3,rfl,m',by show 0 < n; omega,by show n<=_; omega,p3,by show j<=_; omega,by simp_all;omega⟩
 have nxB:∀ (x k bc g:Nat) (out:Array Keyed) {i j:Nat} {st3:SortSt} {vb:Keyed},Same κ st st3->MH lt a.toList b.toList out.toList.reverse i j->0 < i->i<=a.size->1 < j->j<=b.size->i + j + (x + 2)<=a.size + b.size->b[j - 1]?=some vb->b.toList[j - 1]?=some vb->(∀ y ∈ a.toList.take i,le lt y vb) ->
     ∀ (G:Keyed->Keyed->Option Nat->StateT SortSt Sem (ForInStep GH)),(∀ v y t,G v y (some t)=galH a b k t (out.push v) i (j - 1) g) ->
     wpS [6] A E s (elem' b (j - 1) >>= λ v=>if (j - 1 == 1)=true then pure (.done (some (b.extract 0 (j - 1) ++ a.extract 0 i ++ (out.push v).reverse),i,j - 1,out.push v,g,k,bc))
      else elem' a (i - 1) >>= λ y=>gal true y b 0 (j - 1) (j - 1 - 1) >>= G v y) (PstH κ lt a b st x) st3:=by
  intro x k bc g out i j st3 vb s3 m p1 p2 p3 p4 p5 e1 e2 lo G hG;obtain ⟨n,rfl⟩:∃ n,j=n + 1:=⟨j - 1,by omega⟩;rw [Nat.add_sub_cancel] at e1 e2 ⊢;refine wpS_bind (ub0 e1 ?_);have m':=m.b sb e2 lo;rw [<- vp0] at m';refine yb0 (λ z=>?_) λ z=>?_
  ·exact wpS_pure ⟨s3,firstB m' (eq_of_beq z)⟩
  ·have z':n ≠ 1:=λ e=>z (beq_iff_eq.mpr e);refine at_k (a:=a) (i:=i - 1) [5] λ va e4 e5 e6=>?_;refine wpS_bind (ub0 e4 ?_);refine wpS_bind (su0 c s3.ok (byT c mb [5] (ma _ e6) sb) [5] λ t q1 q2 q3=>?_);rw [hG,Nat.add_sub_cancel];unfold galH;dsimp only;obtain ⟨k2,rfl⟩:∃ k2,n=t + k2:=⟨n - t,by omega⟩
   have mk:=MH.bs sb k2 m' [5] λ ii y h1 h2 ey=>by
    have q:=q3 ii h1 h2;rw [getD_some (x:=y) [26]] at q;have u:=up sa e5 y q;rw [show i - 1 + 1=i by omega] at u;exact u
   have lo2:∀ v,a.toList[i - 1]?=some v->∀ y ∈ b.toList.take t,le lt y v:=by
    intro v ev y hy;rw [e5] at ev;cases ev;obtain ⟨ii,hi,ey⟩:=List.mem_take_iff_getElem.mp hy;have q:=q2 ii [5];rw [getD_some (x:=y) (by rw [Nat.zero_add]; exact List.getElem?_eq_some_iff.mpr ⟨by omega,ey⟩)] at q;exact c.lt_le q
   refine yb0 (λ kp=>?_) λ kp=>?_
   ·rw [<- ut3,<- yx1] at mk;refine yb0 (λ zz=>?_) λ zz=>?_
    ·exact wpS_pure ⟨s3,firstB mk (eq_of_beq zz)⟩
    ·have zz':t ≠ 1:=λ e=>zz (beq_iff_eq.mpr e);refine yb0 (λ zy=>?_) λ zy=>?_
     ·exact wpS_pure ⟨s3,doneB mk (eq_of_beq zy)⟩
     ·have zy':t ≠ 0:=λ e=>zy (beq_iff_eq.mpr e);exact nxA x _ _ _ _ _ _ _ s3 mk p1 p2 [5] [5] [5] lo2
   ·have k0:k2=0:=by omega
    subst k0;exact nxA x _ _ _ _ _ _ _ s3 m' p1 p2 [5] [5] [5] lo2
 refine yb0 (λ z1=>?_) λ z1=>?_
 ·exact wpS_pure (h _ _ ⟨o,rfl,rfl⟩ (doneA m0 (eq_of_beq z1)))
 refine yb0 (λ z2=>?_) λ z2=>?_
 ·exact wpS_pure (h _ _ ⟨o,rfl,rfl⟩ (firstB m0 (eq_of_beq z2)))
 have n1:b.size ≠ 1:=λ e=>z2 (beq_iff_eq.mpr e);have n2:a.size - 1 ≠ 0:=λ e=>z1 (beq_iff_eq.mpr e);refine wpS_bind (wpS_get ?_)
 refine wpS_bind (wpS_mono (wpS_forRange (λ x (r:Option (Array Keyed) × Nat × Nat × Array Keyed × Nat) st'=>Same κ st st' /\ r.1=none /\ MidH lt a.toList b.toList (x + 1) none r.2.1 r.2.2.1 r.2.2.2.1)
  (Q:=λ (r:Option (Array Keyed) × Nat × Nat × Array Keyed × Nat) st'=>Same κ st st' /\ ∃ z,r.1=some z /\ Fin lt a.toList b.toList z.toList) ?_ ?_ ⟨⟨o,rfl,rfl⟩,rfl,m0,by show 0 < a.size - 1; omega,by simp,by show 1 < b.size; omega,by simp,by show a.size - 1 + b.size + (0 + 1)<=_; omega⟩) ?_)
 ·intro x r st1 _ hx h;revert r st1;refine n5 (λ _ _ h=>h.2.1) λ i j out mg st1 h=>?_;dsimp only
  refine wpS_bind (wpS_mono (wpS_forRange (λ y (r:Option (Array Keyed) × Nat × Nat × Array Keyed × Nat × Nat) st'=>Same κ st st' /\ r.1=none /\ MidH lt a.toList b.toList (x + 1 + y) none r.2.1 r.2.2.1 r.2.2.2.1)
   (Q:=λ (r:Option (Array Keyed) × Nat × Nat × Array Keyed × Nat × Nat) st'=>Same κ st st' /\ MidH lt a.toList b.toList (x + 2) r.1 r.2.1 r.2.2.1 r.2.2.2.1) ?_ ?_ ⟨h.1,rfl,h.2.2⟩) ?_)
  ·intro y r st2 _ hy h;revert r st2;refine n5 (λ _ _ h=>h.2.1) λ i j out z0 st2 h=>?_;obtain ⟨ac,bc⟩:=z0;have s2:=h.1;have ⟨m,p1,p2,p3,p4,p5⟩:=h.2.2;clear h;dsimp only at m p1 p2 p3 p4 p5 ⊢;obtain ⟨n,rfl⟩:∃ n,i=n + 1:=⟨i - 1,by omega⟩;obtain ⟨l,rfl⟩:∃ l,j=l + 1:=⟨j - 1,by omega⟩;simp only [Nat.add_sub_cancel];refine at_k (a:=b) (i:=l) [5] λ vb e1 e2 e3=>?_;refine at_k (a:=a) (i:=n) [5] λ va e4 e5 e6=>?_;refine wpS_bind (ub0 e1 (wpS_bind (ub0 e4 (wpS_bind (va2 c s2.ok (mb _ e3) (ma _ e6) ?_)))));cases q:lt vb va with
   | true =>
    dsimp only;rw [if_pos rfl];refine wpS_bind (ub0 e4 ?_);have m':=m.a sa e5 (up sb e2 va (c.lt_le q));rw [<- vp0] at m';refine yb0 (λ z=>?_) λ z=>?_
    ·exact wpS_pure ⟨s2,doneA m' (eq_of_beq z)⟩
    ·have z':n ≠ 0:=λ e=>z (beq_iff_eq.mpr e);refine yb0 (λ y1=>?_) λ y1=>?_
     ·exact wpS_pure ⟨s2,m',by show 0 < n; omega,by show n<=_; omega,p3,p4,by show n + (l + 1) + (x + 2)<=_; omega⟩
     ·exact wpS_pure ⟨s2,rfl,m',by show 0 < n; omega,by show n<=_; omega,p3,p4,by show n + (l + 1) + (x + 1 + (y + 1))<=_; omega⟩
   | false =>
    dsimp only;rw [if_neg [17]];refine wpS_bind (ub0 e1 ?_);have m':=m.b sb e2 (up sa e5 vb q);rw [<- vp0] at m';refine yb0 (λ z=>?_) λ z=>?_
    ·exact wpS_pure ⟨s2,firstB m' (eq_of_beq z)⟩
    ·have z':l ≠ 1:=λ e=>z (beq_iff_eq.mpr e);refine yb0 (λ y1=>?_) λ y1=>?_
     ·exact wpS_pure ⟨s2,m',p1,p2,by show 1 < l; omega,by show l<=_; omega,by show n + 1 + l + (x + 2)<=_; omega⟩
     ·exact wpS_pure ⟨s2,rfl,m',p1,p2,by show 1 < l; omega,by show l<=_; omega,by show n + 1 + l + (x + 1 + (y + 1))<=_; omega⟩
  ·rintro ⟨r,i,j,out,ac,bc⟩ st2 ⟨s2,rfl,m,p1,p2,p3,p4,p5⟩;omega
  ·refine d5 λ r i j out z0 st2 h=>?_;dsimp only;cases r with
   | some z=>exact wpS_pure ⟨h.1,z,rfl,h.2⟩
   | none =>
    dsimp only;refine wpS_bind (wpS_lift (wpAny_rule ⟨rfl,?_⟩))
    refine wpS_bind (wpS_mono (wpS_forRange (λ y (r:Option (Array Keyed) × Nat × Nat × Array Keyed × Nat × Nat × Nat) st'=>Same κ st st' /\ r.1=none /\ MidH lt a.toList b.toList (x + 2) none r.2.1 r.2.2.1 r.2.2.2.1)
     (Q:=λ (r:Option (Array Keyed) × Nat × Nat × Array Keyed × Nat × Nat × Nat) st'=>Same κ st st' /\ MidH lt a.toList b.toList (x + 2) r.1 r.2.1 r.2.2.1 r.2.2.2.1) ?_ ?_ ⟨h.1,rfl,h.2⟩) ?_)
    ·intro y r st3 _ hy h;revert r st3;refine n5 (λ _ _ h=>h.2.1) λ i j out z0 st3 h=>?_;obtain ⟨mg,ac,bc⟩:=z0;have s3:=h.1;have ⟨m,p1,p2,p3,p4,p5⟩:=h.2.2;clear h;dsimp only at m p1 p2 p3 p4 p5 ⊢;have s3':∀ g:Nat,Same κ st (SortSt.mk' (kindOf st3) (arrOf st3) (pendingOf st3) g (failedOf st3)):=λ g=>⟨⟨s3.ok.kd,s3.ok.fl⟩,s3.ar,s3.pe⟩;refine at_k (a:=b) (i:=j - 1) [5] λ vb e1 e2 e3=>?_;revert mg;refine sz2 (λ _=>rfl) λ mg=>?_;refine wpS_bind (wpS_modify ?_);refine wpS_bind (ub0 e1 ?_);refine wpS_bind (su0 c (s3' _).ok (byF c ma [5] (mb _ e3) sa) [5] λ t k1 k2 k3=>?_);dsimp only;obtain ⟨k,rfl⟩:∃ k,i=t + k:=⟨i - t,by omega⟩
     have mk:=MH.as sa k m [5] λ ii y h1 h2 ey=>by
      have q:=k3 ii h1 h2;rw [getD_some (x:=y) (by simp [*])] at q;have u:=up sb e2 y (c.lt_le (by simpa using q));rw [show j - 1 + 1=j by omega] at u;exact u
     have lo:∀ y ∈ a.toList.take t,le lt y vb:=by
      intro y hy;obtain ⟨ii,hi,ey⟩:=List.mem_take_iff_getElem.mp hy;have q:=k2 ii [5];rw [getD_some (x:=y) (by rw [Nat.zero_add]; exact List.getElem?_eq_some_iff.mpr ⟨by omega,ey⟩)] at q;exact (by simpa using q:lt vb y=false)
     refine yb0 (λ kp=>?_) λ kp=>?_
     ·rw [<- ut3,<- yx1] at mk;refine yb0 (λ z=>?_) λ z=>?_
      ·exact wpS_pure ⟨s3' _,doneA mk (eq_of_beq z)⟩
      ·have z':t ≠ 0:=λ e=>z (beq_iff_eq.mpr e);refine wpS_mono (nxB x _ bc _ _ (s3' _) mk [5] [5] p3 [5] [5] e1 e2 lo _ ?_) ?_
       ·intro _ _ _; rfl
       ·intro r st' q; cases r <;> exact q
     ·have k0:k=0:=by omega
      subst k0;refine wpS_mono (nxB x _ bc _ _ (s3' _) m [5] [5] p3 [5] [5] e1 e2 lo _ ?_) ?_
      ·intro _ _ _; rfl
      ·intro r st' q; cases r <;> exact q
    ·rintro ⟨r,i,j,out,mg,ac,bc⟩ st3 ⟨s3,rfl,m,p1,p2,p3,p4,p5⟩;trivial
    ·refine d5 λ r i j out z0 st3 h=>?_;dsimp only;cases r with
     | some z=>exact wpS_pure ⟨h.1,z,rfl,h.2⟩
     | none =>
      dsimp only;exact wpS_bind (wpS_modify (wpS_pure ⟨⟨⟨h.1.ok.kd,h.1.ok.fl⟩,h.1.ar,h.1.pe⟩,rfl,h.2⟩))
 ·rintro ⟨r,i,j,out,mg⟩ st1 ⟨s1,rfl,m,p1,p2,p3,p4,p5⟩;omega
 ·rintro ⟨r,i,j,out,mg⟩ st1 ⟨s1,z,e,f⟩;dsimp only at e ⊢;subst e;exact wpS_pure (h z st1 s1 f)
end
variable {xs:Array Keyed} {U W:List Keyed}
theorem zt2 {V:List Keyed} {j:Nat} (h:xs.toList=U ++ (V ++ W)) (hi:i=U.length) (hj:j=U.length + V.length):(mirror xs i j ((j - i) / 2)).toList=U ++ (V.reverse ++ W):=by
 have hs:xs.size=U.length + (V.length + W.length):=by rw [<- length_toList,h]; simp
 apply ext_getElem?;intro k;rw [getElem?_toList,getElem?_mirror_all [5]];simp only [<- getElem?_toList,h];by_cases c:i<=k /\ k < j
 ·rw [if_pos c,getElem?_append_right [5],getElem?_append_left [5],getElem?_append_right [5],getElem?_append_left [20],List.getElem?_reverse [5]];congr 1;omega
 ·rw [if_neg c];by_cases d:k < i
  ·clear c;rw [getElem?_append_left [5],getElem?_append_left [5]]
  ·have g:j<=k:=by omega
   clear c d;rw [getElem?_append_right [5],getElem?_append_right [5],getElem?_append_right [5],getElem?_append_right (by rw [List.length_reverse]; omega),List.length_reverse]
theorem zy2 {V:List Keyed} {j:Nat} (h:xs.toList=U ++ (V ++ x :: W)) (hi:i=U.length + V.length) (hj:j=U.length):(bubble xs i (i - j)).toList=U ++ x :: (V ++ W):=by
 have hs:xs.size=U.length + (V.length + (W.length + 1)):=by rw [<- length_toList,h]; simp
 apply ext_getElem?;intro k;rw [getElem?_toList,getElem?_bubble [5] (i - j) [5],show i - (i - j)=j by omega];simp only [<- getElem?_toList,h];by_cases c:k=j
 ·simp_all
 ·rw [if_neg c];by_cases d:j < k /\ k<=i
  ·rw [if_pos d,getElem?_append_right [5],getElem?_append_left [5],getElem?_append_right [5],show k - U.length=(k - 1 - U.length) + 1 by omega,getElem?_cons_succ,getElem?_append_left [5]]
  ·rw [if_neg d];by_cases f:k < j
   ·clear d;rw [getElem?_append_left [5],getElem?_append_left [5]]
   ·have g:i < k:=by omega
    clear c d f;rw [getElem?_append_right [5],getElem?_append_right [5],getElem?_append_right [5],show k - U.length=(k - 1 - U.length) + 1 by omega,getElem?_cons_succ,getElem?_append_right [5],show k - 1 - U.length + 1 - V.length=(k - 1 - U.length - V.length) + 1 by omega,getElem?_cons_succ]
structure At (κ:SortKind) (p:Array (Nat × Nat × Nat)) (st:SortSt) (L:List Keyed):Prop where
 ok:Ok κ st
 pe:pendingOf st=p
 ls:(arrOf st).toList=L
variable {P R:List Keyed} {f:FA}
section
variable {p:Array (Nat × Nat × Nat)}
variable {lt:Keyed->Keyed->Bool} 
theorem we1 (c:[29]) {st:SortSt} {L:List Keyed} {j:Nat} {Q:Option Bool->SortSt->Prop} (a:At κ p st L) (hM:∀ x ∈ L,M x) (ex:L[i]?=some x) (ey:L[j]?=some y) (h:Q (some (lt x y)) st):wpS [6] A E s (ltAt' i j) Q st:=by
 rw [ltAt'_eq];refine wpS_bind (wpS_get ?_);refine wpS_bind (ub0 (x:=x) (by rw [<- getElem?_toList,a.ls]; exact ex) (wpS_bind (ub0 (x:=y) (by rw [<- getElem?_toList,a.ls]; exact ey) ?_)));exact va2 c a.ok (hM x (mem_of_getElem? ex)) (hM y (mem_of_getElem? ey)) h
theorem yl1 {st:SortSt} {V:List Keyed} {j:Nat} {Q:Unit->SortSt->Prop} (a:At κ p st (U ++ (V ++ W))) (hi:i=U.length) (hj:j=U.length + V.length) (h:∀ st',At κ p st' (U ++ (V.reverse ++ W))->Q () st'):wpS [6] A E s (reverseSlice' i j) Q st:=by
 rw [reverseSlice'_eq];exact wpS_modify (h _ ⟨⟨a.ok.kd,a.ok.fl⟩,a.pe,zt2 a.ls hi hj⟩)
theorem zz4 {st:SortSt} {V:List Keyed} {j:Nat} {Q:Unit->SortSt->Prop} (a:At κ p st (U ++ (V ++ x :: W))) (hi:i=U.length + V.length) (hj:j=U.length) (h:∀ st',At κ p st' (U ++ x :: (V ++ W))->Q () st'):wpS [6] A E s (moveDown' i j) Q st:=by
 rw [moveDown'_eq];exact wpS_modify (h _ ⟨⟨a.ok.kd,a.ok.fl⟩,a.pe,zy2 a.ls hi hj⟩)
abbrev FA:=Nat->Option [43] × Nat->StateT SortSt Sem (ForInStep (Option [43] × Nat))
def isA (lo:Nat) (f:FA):Prop:=∀ x n,f x (none,n)=(ltAt' (lo + n) (lo + n - 1) >>= λ r=>match r with
 | some true=>pure (.done (none,n))
 | some false=>pure (.yield (none,n + 1))
 | none=>pure (.done (some none,n)))
theorem yn3 (c:[29]) {l:List Keyed} (h:(l.take (n + 1)).Pairwise (le lt)) (ex:l[n]?=some x) (ey:l[n + 1]?=some y) (k:le lt x y):(l.take (n + 2)).Pairwise (le lt):=by
 rw [xd0 ey];refine List.pairwise_append.mpr ⟨h,pairwise_singleton _ _,λ z hz v hv=>?_⟩;rw [mem_singleton] at hv;subst hv;rw [xd0 ex] at h hz;rcases List.mem_append.mp hz with hz | hz
 ·exact c.le_tr ((List.pairwise_append.mp h).2.2 z hz x (List.mem_singleton.mpr rfl)) k
 simp_all
theorem yp1 (c:[29]) {st:SortSt} {n0 lo:Nat} (hf:isA lo f) (a:At κ p st (P ++ R)) (hM:∀ x ∈ P ++ R,M x) (hlo:lo=P.length) (h1:1<=n0) (h2:n0<=R.length) (so:(R.take n0).Pairwise (le lt)) :
    wpS [6] A E s (forIn [n0:R.length] (none,n0) f) (λ r st'=>st'=st /\ r.1=none /\ n0<=r.2 /\ r.2<=R.length /\ (R.take r.2).Pairwise (le lt) /\ (r.2=R.length \/ ∃ x y,R[r.2]?=some y /\ R[r.2 - 1]?=some x /\ lt y x=true)) st:=by
 refine wpS_forRange (λ x (r:Option [43] × Nat) st'=>st'=st /\ r=(none,x) /\ n0<=x /\ x<=R.length /\ (R.take x).Pairwise (le lt)) ?_ ?_ ⟨rfl,rfl,Nat.le_refl _,h2,so⟩
 ·rintro x r st' _ hx ⟨rfl,rfl,a1,a2,a3⟩;rw [hf];obtain ⟨n,rfl⟩:∃ n,x=n + 1:=⟨x - 1,by omega⟩;have ey:R[n + 1]?=some R[n + 1]:=getElem?_eq_getElem hx;have ex:R[n]?=some R[n]:=getElem?_eq_getElem [5];refine wpS_bind (we1 c a hM (x:=R[n + 1]) (y:=R[n]) [26] (by rw [getElem?_append_right [5],show lo + (n + 1) - 1 - P.length=n by omega]; exact ex) ?_);cases q:lt R[n + 1] R[n] with
  | true=>exact wpS_pure ⟨rfl,rfl,a1,a2,a3,.inr ⟨R[n],R[n + 1],ey,ex,q⟩⟩
  | false=>exact wpS_pure ⟨rfl,rfl,by omega,by omega,yn3 c a3 ex ey q⟩
 simp_all
theorem fin3 (c:[29]) {st:SortSt} {V:List Keyed} {N lo:Nat} {g:Option [43] × Nat->StateT SortSt Sem [43]} (hf:isA lo f) (hg:∀ n,g (none,n)=pure (some n)) (a:At κ p st (P ++ (V ++ W))) (hM:∀ x ∈ P ++ (V ++ W),M x) (hlo:lo=P.length)
    (hn:n=V.length) (hN:N=V.length + W.length) (h1:1<=n) (so:V.Pairwise λ x y=>le lt y x) (h:∀ m st' R,At κ p st' (P ++ R)->R.Perm (V ++ W)->1<=m->m<=N->(R.take m).Pairwise (le lt)->Q (some m) st') :
    wpS [6] A E s (reverseSlice' lo (lo + n) >>= λ _=>forIn [n:N] (none,n) f >>= g) Q st:=by
 refine wpS_bind (yl1 a hlo [5] λ st1 a1=>?_);have e:N=(V.reverse ++ W).length:=by simp_all
 have pm:(V.reverse ++ W).Perm (V ++ W):=List.Perm.append_right _ (reverse_perm V);subst e
 refine wpS_bind (wpS_mono (yp1 c hf a1 (λ x hx=>hM x (by
  simp_all)) hlo h1 [5] ?_) ?_)
 ·rw [hn,List.take_append_of_le_length [17],take_of_length_le [17]];exact List.pairwise_reverse.mpr so
 ·rintro ⟨r,m⟩ st2 ⟨rfl,rfl,b1,b2,b3,_⟩;dsimp only at b1 b2 b3 ⊢;rw [hg];exact wpS_pure (h m _ _ a1 pm [5] b2 b3)
abbrev FD:=Nat->Option [43] × Nat × Nat->StateT SortSt Sem (ForInStep (Option [43] × Nat × Nat))
noncomputable def isD (lo:Nat) (f:FD):Prop:=∀ x n q,f x (none,n,q)=(ltAt' (lo + n) (lo + n - 1) >>= λ r=>match r with
 | some true=>if q > 0 then reverseSlice' (lo + n - (q + 1)) (lo + n) >>= λ _=>pure (.yield (none,n + 1,0)) else pure (.yield (none,n + 1,0))
 | some false=>ltAt' (lo + n - 1) (lo + n) >>= λ r=>match r with
  | some true=>pure (.done (none,n,q))
  | some false=>pure (.yield (none,n + 1,q + 1))
  | none=>pure (.done (some none,n,q))
 | none=>pure (.done (some none,n,q)))
structure Fall (κ:SortKind) (p:Array (Nat × Nat × Nat)) (lt:Keyed->Keyed->Bool) (P R:List Keyed) (st:SortSt) (n q:Nat) (X B W:List Keyed) (b:Keyed):Prop where
 at_:At κ p st (P ++ (X ++ (B ++ b :: W)))
 hn:n=X.length + B.length + 1
 hq:q=B.length
 pm:(X ++ (B ++ b :: W)).Perm R
 dn:(X ++ (B ++ [b])).Pairwise λ x y=>le lt y x
 eq:∀ x ∈ B,le lt x b /\ le lt b x
theorem Fall.low {X B:List Keyed} {st:SortSt} {q:Nat} {b:Keyed} (F:Fall κ p lt P R st n q X B W b):∀ z ∈ X ++ B,le lt b z:=by
 have d:=F.dn;rw [<- append_assoc] at d;exact λ z hz=>(List.pairwise_append.mp d).2.2 z hz b (List.mem_singleton.mpr rfl)
theorem Fall.rest {X B:List Keyed} {st:SortSt} {q:Nat} {b:Keyed} (F:Fall κ p lt P R st n q X B W b) (hx:n < R.length):∃ y W',W=y :: W':=by
 cases W with
 | cons y W'=>simp
 | nil =>
  have:=F.pm.length_eq;rw [length_append,length_append,length_cons,length_nil] at this;have:=F.hn;omega
theorem wd5 (c:[29]) {X B:List Keyed} {st:SortSt} {q:Nat} {b:Keyed} (F:Fall κ p lt P R st n q X B W b):(X ++ (B ++ [b]).reverse).Pairwise λ x y=>le lt y x:=by
 obtain ⟨d1,d2,d3⟩:=List.pairwise_append.mp F.dn;refine List.pairwise_append.mpr ⟨d1,?_,λ x hx y hy=>d3 x hx y (List.mem_reverse.mp hy)⟩
 have all:∀ x ∈ B ++ [b],le lt x b /\ le lt b x:=λ x hx=>by
  rcases List.mem_append.mp hx with h | h
  ·exact F.eq x h
  ·rw [mem_singleton] at h; subst h; exact ⟨c.rf x,c.rf x⟩
 rw [List.pairwise_reverse];exact List.Pairwise.imp_of_mem (λ {x y} hx hy _=>c.le_tr (all x hx).1 (all y hy).2) d2
theorem tz4 (c:[29]) {st:SortSt} {X:List Keyed} {n1 lo N:Nat} {f:FD} {g:Option [43] × Nat × Nat->StateT SortSt Sem [43]} (hf:isD lo f)
    (hg:∀ n q,∃ J,g (none,n,q)=(if q > 0 then reverseSlice' (lo + n - (q + 1)) (lo + n) >>= λ _=>J else J) /\ ∀ st' V W,At κ p st' (P ++ (V ++ W))->(V ++ W).Perm R->n=V.length->1<=n->V.Pairwise (λ x y=>le lt y x)->wpS [6] A E s J Q st') (hlo:lo=P.length) (hN:N=R.length) (hR:∀ x ∈ P,M x) (hM:∀ x ∈ R,M x) (hn:n1=X.length) (a:At κ p st (P ++ (X ++ y :: W))) (pm:(X ++ y :: W).Perm R) (dn:(X ++ [y]).Pairwise λ x y=>le lt y x) :
    wpS [6] A E s (forIn [n1 + 1:N] (none,n1 + 1,0) f >>= g) Q st:=by
 have mem:∀ {L:List Keyed},L.Perm R->∀ x ∈ P ++ L,M x:=λ e x hx=>by
  rcases List.mem_append.mp hx with h | h
  ·exact hR x h
  ·exact hM x (e.mem_iff.mp h)
 refine wpS_bind (wpS_mono (wpS_forRange (λ x (r:Option [43] × Nat × Nat) st'=>∃ q X B W b,r=(none,x,q) /\ Fall κ p lt P R st' x q X B W b) (Q:=λ (r:Option [43] × Nat × Nat) st'=>∃ n q X B W b,r=(none,n,q) /\ Fall κ p lt P R st' n q X B W b) ?_ ?_ ⟨0,X,[],W,y,rfl,⟨a,by simp [hn],rfl,pm,dn,λ _ h=>nomatch h⟩⟩) ?_)
 ·rintro x r st1 _ hx ⟨q,X,B,W,b,rfl,F⟩;obtain ⟨v,W',rfl⟩:=F.rest [5];rw [hf];have L:=F.at_;have hn':=F.hn;have hq':=F.hq
  have e1:(P ++ (X ++ (B ++ b :: v :: W')))[lo + x]?=some v:=by
   rw [getElem?_append_right [5],getElem?_append_right [5],getElem?_append_right [5],show lo + x - P.length - X.length - B.length=1 by omega]; rfl
  have e2:(P ++ (X ++ (B ++ b :: v :: W')))[lo + x - 1]?=some b:=by
   simp_all
  refine wpS_bind (we1 c L (mem F.pm) e1 e2 ?_);cases s1:lt v b with
  | true =>
   dsimp only
   have low:∀ z ∈ X ++ (B ++ [b]),le lt v z:=λ z hz=>by
    rw [<- append_assoc] at hz;rcases List.mem_append.mp hz with h | h
    ·exact c.le_tr (c.lt_le s1) (F.low z h)
    ·rw [mem_singleton] at h; subst h; exact c.lt_le s1
   by_cases z:q > 0
   ·rw [if_pos z];refine wpS_bind (yl1 (U:=P ++ X) (V:=B ++ [b]) (W:=v :: W') [20] [20] [20] λ st2 a2=>wpS_pure ⟨0,X ++ (B ++ [b]).reverse,[],W',v,rfl,?_⟩);refine ⟨by simp_all,by simp_all;omega,rfl,?_,?_,λ _ h=>nomatch h⟩
    ·refine .trans ?_ F.pm;rw [nil_append,append_assoc];refine List.Perm.append_left _ (.trans (List.Perm.append_right _ (reverse_perm _)) ?_);simp
    ·rw [nil_append];refine List.pairwise_append.mpr ⟨wd5 c F,pairwise_singleton _ _,λ z1 hz1 y1 hy1=>?_⟩;rw [mem_singleton] at hy1; subst hy1;refine low z1 ?_;rcases List.mem_append.mp hz1 with h | h
     ·simp_all
     ·exact mem_append_right _ (List.mem_reverse.mp h)
   ·rw [if_neg z];have b0:B=[]:=List.eq_nil_of_length_eq_zero [5];subst b0;refine wpS_pure ⟨0,X ++ [b],[],W',v,rfl,⟨by simp_all,by simp_all,rfl,by simpa [append_assoc] using F.pm,?_,λ _ h=>nomatch h⟩⟩;refine List.pairwise_append.mpr ⟨F.dn,pairwise_singleton _ _,λ z1 hz1 y1 hy1=>?_⟩
    simp_all
  | false =>
   dsimp only;refine wpS_bind (we1 c L (mem F.pm) e2 e1 ?_);cases s2:lt b v with
   | true=>exact wpS_pure ⟨x,q,X,B,v :: W',b,rfl,F⟩
   | false =>
    refine wpS_pure ⟨q + 1,X,B ++ [b],W',v,rfl,⟨by simp_all,by simp_all;omega,by simp_all,by simpa [append_assoc] using F.pm,?_,?_⟩⟩
    ·rw [<- append_assoc];refine List.pairwise_append.mpr ⟨F.dn,pairwise_singleton _ _,λ z1 hz1 y1 hy1=>?_⟩;rw [mem_singleton] at hy1; subst hy1;rw [<- append_assoc] at hz1;rcases List.mem_append.mp hz1 with h | h
     ·exact c.le_tr s2 (F.low z1 h)
     ·rw [mem_singleton] at h; subst h; exact s2
    ·intro z hz;rcases List.mem_append.mp hz with h | h
     ·exact ⟨c.le_tr (F.eq z h).1 s1,c.le_tr s2 (F.eq z h).2⟩
     ·rw [mem_singleton] at h; subst h; exact ⟨s1,s2⟩
 ·rintro r st1 ⟨q,X,B,W,b,rfl,F⟩;exact ⟨_,q,X,B,W,b,rfl,F⟩
 ·rintro r st1 ⟨n,q,X,B,W,b,rfl,F⟩;obtain ⟨J,eJ,hJ⟩:=hg n q;rw [eJ];have hn':=F.hn;have hq':=F.hq;by_cases z:q > 0
  ·rw [if_pos z];refine wpS_bind (yl1 (U:=P ++ X) (V:=B ++ [b]) (W:=W) (by simpa [append_assoc] using F.at_) [20] [20] λ st2 a2=>?_);refine hJ st2 (X ++ (B ++ [b]).reverse) W [26] ?_ [20] [5] (wd5 c F);refine .trans ?_ F.pm;rw [append_assoc];refine List.Perm.append_left _ (.trans (List.Perm.append_right _ (reverse_perm _)) ?_);simp
  ·rw [if_neg z];exact hJ st1 (X ++ (B ++ [b])) W (by simpa [append_assoc] using F.at_) (by simpa [append_assoc] using F.pm) [26] [5] F.dn
theorem ye5 (c:[29]) {st:SortSt} {lo:Nat} (a:At κ p st (P ++ R)) (hM:∀ x ∈ P ++ R,M x) (hlo:lo=P.length) (h1:1<=R.length)
    (h:∀ m st' R',At κ p st' (P ++ R')->R'.Perm R->1<=m->m<=R.length->(R'.take m).Pairwise (le lt)->Q (some m) st'):wpS [6] A E s (countRun' lo R.length) Q st:=by
 have isa:∀ {f:FA},f=(λ x __s=>(ltAt' (lo + __s.2) (lo + __s.2 - 1) >>= λ r=>match r with
  | some b=>if b=true then pure (.done (none,__s.2)) else pure (.yield (none,__s.2 + 1))
  | x=>pure (.done (some none,__s.2))))->isA lo f:=by
  rintro f rfl x n;refine congrArg _ (funext λ r=>?_);rcases r with _ | _ | _ <;> rfl
 have r0:R[0]?=some R[0]:=getElem?_eq_getElem h1
 have fall:∀ {st1:SortSt} {X W:List Keyed} {y:Keyed},At κ p st1 (P ++ (X ++ y :: W))->(X ++ y :: W).Perm R->(X ++ [y]).Pairwise (λ x y=>le lt y x)->∀ {n1:Nat},n1=X.length->∀ {f:FD} {g:Option [43] × Nat × Nat->StateT SortSt Sem [43]},isD lo f ->
     (∀ n q,∃ (J:StateT SortSt Sem [43]) (f:FA) (g':Option [43] × Nat->StateT SortSt Sem [43]),g (none,n,q)=(if q > 0 then reverseSlice' (lo + n - (q + 1)) (lo + n) >>= λ _=>J else J) /\ isA lo f /\ (∀ n,g' (none,n)=pure (some n)) /\ J=(reverseSlice' lo (lo + n) >>= λ _=>forIn [n:R.length] (none,n) f >>= g')) ->
     wpS [6] A E s (forIn [n1 + 1:R.length] (none,n1 + 1,0) f >>= g) Q st1:=by
  intro st1 X W y a1 pm dn n1 hn f g hf hg;refine tz4 c hf (λ n q=>?_) hlo rfl (λ x hx=>hM x (mem_append_left _ hx)) (λ x hx=>hM x (mem_append_right _ hx)) hn a1 pm dn;obtain ⟨J,f,g',e1,hf,hg,e⟩:=hg n q;refine ⟨J,e1,?_⟩;intro st2 V W a2 pm2 hn2 h2 so;rw [e];have ll:=pm2.length_eq;rw [length_append] at ll;refine fin3 c hf hg a2 (λ x hx=>?_) hlo hn2 ll.symm h2 so λ m st' R' a3 pm3 m1 m2 so3=>h m st' R' a3 (pm3.trans pm2) m1 m2 so3;rcases List.mem_append.mp hx with q | q
  ·simp_all
  ·exact hM x (mem_append_right _ (pm2.mem_iff.mp q))
 refine wpS_bind (wpS_mono (yp1 c (f:=_) (isa rfl) a hM hlo (Nat.le_refl 1) h1 (by rw [xd0 r0]; simp)) ?_);rintro ⟨r,n⟩ st1 ⟨rfl,rfl,b1,b2,b3,b4⟩;dsimp only at b1 b2 b3 b4 ⊢;by_cases z:(n == R.length)=true
 ·rw [if_pos z];exact wpS_pure (h n _ R a (.refl _) b1 b2 b3)
 rw [if_neg z];have z':n ≠ R.length:=λ e=>z (beq_iff_eq.mpr e);rcases b4 with b4 | ⟨x,y,ey,ex,q⟩
 ·exact absurd b4 z'
 have d:R=R.take n ++ y :: R.drop (n + 1):=by
  have:=take_append_drop n R;rw [sf0 ey] at this;exact this.symm
 by_cases n1:n > 1
 ·rw [if_pos n1];refine wpS_bind (we1 c a hM (x:=R[0]) (y:=x) (by rw [getElem?_append_right [5],show lo - P.length=0 by omega]; exact r0) (by rw [getElem?_append_right [5],show lo + n - 1 - P.length=n - 1 by omega]; exact ex) ?_);cases q2:lt R[0] x with
  | true=>exact wpS_pure (h n _ R a (.refl _) b1 b2 b3)
  | false =>
   dsimp only;rw [if_neg [17]]
   have all:∀ u ∈ R.take n,le lt u x /\ le lt x u:=by
    have e0:(R.take n)[0]?=some R[0]:=by rw [getElem?_take_of_lt [5]]; exact r0
    have el:(R.take n)[n - 1]?=some x:=by rw [getElem?_take_of_lt [5]]; exact ex
    intro u hu;obtain ⟨i,hi⟩:=List.mem_iff_getElem?.mp hu
    have li:i < n:=by
     have:=(List.getElem?_eq_some_iff.mp hi).1;rw [length_take] at this;omega
    constructor
    ·by_cases e:i=n - 1
     ·subst e; rw [el] at hi; cases hi; exact c.rf _
     ·exact vn0 b3 [5] hi el
    ·by_cases e:i=0
     ·subst e; rw [e0] at hi; cases hi; exact q2
     ·exact c.le_tr q2 (vn0 b3 [5] e0 hi)
   have lt1:(R.take n).length=n:=by rw [length_take]; omega
   refine wpS_bind (yl1 (U:=P) (V:=R.take n) (W:=y :: R.drop (n + 1)) (by rw [<- d]; exact a) hlo [5] λ st2 a2=>?_);refine wpS_bind (wpS_lift (wpAny_rule ⟨rfl,?_⟩));refine fall a2 ?_ ?_ (by rw [List.length_reverse]; exact lt1.symm) ?_ ?_
   ·refine .trans (List.Perm.append_right _ (reverse_perm _)) ?_;rw [<- d]
   ·refine List.pairwise_append.mpr ⟨?_,pairwise_singleton _ _,λ u hu v hv=>?_⟩
    ·rw [List.pairwise_reverse];exact b3
    ·rw [mem_singleton] at hv; subst hv;exact c.le_tr (c.lt_le q) (all u (List.mem_reverse.mp hu)).2
   ·intro x n q;refine congrArg _ (funext λ r=>?_);rcases r with _ | _ | _
    ·rfl
    ·dsimp only;rw [if_neg [17]];refine congrArg _ (funext λ r=>?_);rcases r with _ | _ | _ <;> rfl
    ·rfl
   ·intro n q;exact ⟨_,_,_,rfl,isa rfl,λ _=>rfl,rfl⟩
 ·rw [if_neg n1];have e1:n=1:=by omega
  subst e1;refine wpS_bind (wpS_lift (wpAny_rule ⟨rfl,?_⟩));have t1:=xd0 r0;rw [take_zero,nil_append] at t1;have ex0:x=R[0]:=by rw [show 1 - 1=0 from rfl,r0] at ex; cases ex; rfl
  rw [show (0:Nat) + 1=1 from rfl] at t1;rw [t1] at d;refine fall (X:=[R[0]]) (y:=y) (W:=R.drop (1 + 1)) (by rw [<- d]; exact a) (by rw [<- d]) ?_ rfl ?_ ?_
  ·refine List.pairwise_append.mpr ⟨pairwise_singleton _ _,pairwise_singleton _ _,λ u hu v hv=>?_⟩;rw [mem_singleton] at hu hv;subst hu hv;rw [<- ex0];exact c.lt_le q
  ·intro x n q;refine congrArg _ (funext λ r=>?_);rcases r with _ | _ | _
   ·rfl
   ·dsimp only;rw [if_neg [17]];refine congrArg _ (funext λ r=>?_);rcases r with _ | _ | _ <;> rfl
   ·rfl
  ·intro n q;exact ⟨_,_,_,rfl,isa rfl,λ _=>rfl,rfl⟩
end
section
variable {p:Array (Nat × Nat × Nat)}
variable {lt:Keyed->Keyed->Bool} 
theorem sh2 (c:[29]) {st:SortSt} {lo ok:Nat} {Q:Bool->SortSt->Prop} (a:At κ p st (P ++ R)) (hM:∀ x ∈ P ++ R,M x) (hlo:lo=P.length) (h1:1<=ok) (h2:ok<=n) (h3:n<=R.length) (so:(R.take ok).Pairwise (le lt))
    (h:∀ st' R',At κ p st' (P ++ R')->R'.Perm R->(R'.take n).Pairwise (le lt)->Q true st'):wpS [6] A E s (binarySort' lo n ok) Q st:=by
 refine wpS_bind (wpS_mono (wpS_forRange (λ x (r:Option Bool × Unit) st'=>r=(none,()) /\ ∃ R',At κ p st' (P ++ R') /\ R'.Perm R /\ (R'.take x).Pairwise (le lt)) (Q:=λ (r:Option Bool × Unit) st'=>r=(none,()) /\ ∃ R',At κ p st' (P ++ R') /\ R'.Perm R /\ (R'.take n).Pairwise (le lt)) ?_ ?_ ⟨rfl,R,a,.refl _,by simp_all⟩) ?_)
 ·rintro k r st1 hk0 hk ⟨rfl,R',a1,pm,so1⟩;have ll:=pm.length_eq
  have hM1:∀ x ∈ P ++ R',M x:=λ x hx=>by
   rcases List.mem_append.mp hx with q | q
   ·simp_all
   ·exact hM x (mem_append_right _ (pm.mem_iff.mp q))
  have ev:R'[k]?=some R'[k]:=getElem?_eq_getElem [5];have at':∀ {m:Nat} {x:Keyed},R'[m]?=some x->m < k->(R'.take k)[m]?=some x:=λ e l=>by simp_all
  dsimp only
  refine wpS_bind (wpS_mono (wpS_forRange (λ y (r:Option Bool × Nat × Nat) st'=>st'=st1 /\ r.1=none /\ r.2.1<=r.2.2 /\ r.2.2<=k /\ r.2.2 - r.2.1<=k - y /\ (∀ i x,i < r.2.1->R'[i]?=some x->le lt x R'[k]) /\ ∀ i x,r.2.2<=i->i < k->R'[i]?=some x->le lt R'[k] x)
   (Q:=λ (r:Option Bool × Nat × Nat) st'=>st'=st1 /\ r.1=none /\ r.2.1<=k /\ (∀ i x,i < r.2.1->R'[i]?=some x->le lt x R'[k]) /\ ∀ i x,r.2.1<=i->i < k->R'[i]?=some x->le lt R'[k] x) ?_ ?_ ⟨rfl,rfl,Nat.zero_le _,Nat.le_refl _,Nat.le_refl _,λ i x hi=>absurd hi (Nat.not_lt_zero _),λ i x h1 h2=>absurd h2 [20]⟩) ?_)
  ·rintro y ⟨r,l,u⟩ st2 _ hy ⟨rfl,rfl,b1,b2,b3,b4,b5⟩;dsimp only at b1 b2 b3 b4 b5 ⊢;by_cases z:l ≥ u
   ·rw [if_pos z];have:l=u:=by omega
    subst this;exact wpS_pure ⟨rfl,rfl,b2,b4,b5⟩
   ·rw [if_neg z];have em:R'[(l + u) / 2]?=some R'[(l + u) / 2]:=getElem?_eq_getElem [5];refine wpS_bind (we1 c a1 hM1 (x:=R'[k]) (y:=R'[(l + u) / 2]) (by rw [getElem?_append_right [5],show lo + k - P.length=k by omega]; exact ev) (by rw [getElem?_append_right [5],show lo + (l + u) / 2 - P.length=(l + u) / 2 by omega]; exact em) ?_);cases q:lt R'[k] R'[(l + u) / 2] with
    | true =>
     refine wpS_pure ⟨rfl,rfl,by simp_all;omega,by simp_all;omega,by simp_all;omega,b4,λ i x h1 h2 ex=>?_⟩;by_cases e:i=(l + u) / 2
     ·subst e; rw [em] at ex; cases ex; exact c.lt_le q
     ·have h1':(l + u) / 2<=i:=h1;exact c.le_tr (c.lt_le q) (vn0 so1 (show (l + u) / 2 < i by omega) (at' em [5]) (at' ex h2))
    | false =>
     refine wpS_pure ⟨rfl,rfl,by simp_all;omega,b2,by simp_all;omega,λ i x h1 ex=>?_,b5⟩;have h1':i < (l + u) / 2 + 1:=h1;by_cases e:i=(l + u) / 2
     ·subst e; rw [em] at ex; cases ex; exact q
     ·exact c.le_tr (vn0 so1 (show i < (l + u) / 2 by omega) (at' ex [5]) (at' em [5])) q
  ·rintro ⟨r,l,u⟩ st2 ⟨rfl,rfl,b1,b2,b3,b4,b5⟩;dsimp only at b1 b2 b3 b4 b5 ⊢;have:l=u:=by omega
   subst this;trivial
  ·rintro ⟨r,l,u⟩ st2 ⟨rfl,rfl,b2,b4,b5⟩;dsimp only at b2 b4 b5 ⊢
   have d:R'=R'.take l ++ ((R'.take k).drop l ++ R'[k] :: R'.drop (k + 1)):=by
    have e1:=take_append_drop k R';rw [sf0 ev] at e1;have e2:=take_append_drop l (R'.take k);rw [List.take_take,show min l k=l by omega] at e2;rw [<- append_assoc,e2];exact e1.symm
   have t1:(R'.take l).length=l:=by rw [length_take]; omega
   have t2:((R'.take k).drop l).length=k - l:=by rw [length_drop,length_take]; omega
   refine wpS_bind (zz4 (U:=P ++ R'.take l) (V:=(R'.take k).drop l) (x:=R'[k]) (W:=R'.drop (k + 1)) (by rw [append_assoc,<- d]; exact a1) (by rw [length_append]; omega) (by rw [length_append]; omega) λ st3 a3=>wpS_pure ⟨rfl,R'.take l ++ R'[k] :: ((R'.take k).drop l ++ R'.drop (k + 1)),by rw [append_assoc] at a3; exact a3,?_,?_⟩)
   ·refine .trans ?_ pm
    conv=>rhs; rw [d]
    exact List.Perm.append_left _ List.perm_middle.symm
   ·have e:(R'.take l ++ R'[k] :: ((R'.take k).drop l ++ R'.drop (k + 1))).take (k + 1)=R'.take l ++ R'[k] :: (R'.take k).drop l:=by
      rw [<- cons_append,<- append_assoc];exact List.take_left' (by simp only [length_append,length_cons]; omega)
    rw [e]
    have m1:∀ z ∈ R'.take l,le lt z R'[k]:=λ z hz=>by
     obtain ⟨i,hi,ez⟩:=List.mem_take_iff_getElem.mp hz;exact b4 i z [5] (List.getElem?_eq_some_iff.mpr ⟨by omega,ez⟩)
    have m2:∀ z ∈ (R'.take k).drop l,le lt R'[k] z:=λ z hz=>by
     obtain ⟨i,hi,ez⟩:=List.mem_drop_iff_getElem.mp hz;have hi':i + l < k:=by rw [length_take] at hi; omega
     rw [List.getElem_take] at ez;exact b5 (l + i) z [5] [5] (List.getElem?_eq_some_iff.mpr ⟨by omega,ez⟩)
    have so2:=so1;have e2:=take_append_drop l (R'.take k);rw [List.take_take,show min l k=l by omega] at e2;rw [<- e2] at so2;obtain ⟨p1,p2,p3⟩:=List.pairwise_append.mp so2;refine List.pairwise_append.mpr ⟨p1,List.pairwise_cons.mpr ⟨m2,p2⟩,λ z hz v hv=>?_⟩;rcases List.mem_cons.mp hv with rfl | hv
    ·exact m1 z hz
    ·exact p3 z hz v hv
 ·simp_all
 ·rintro r st1 ⟨rfl,R',a1,pm,so1⟩;exact wpS_pure (h st1 R' a1 pm so1)
end
theorem wb (s:Nat):∀ (m V U W:List Keyed) (arr:Array Keyed) (o:Nat),arr.toList=U ++ (V ++ W)->V.length=m.length->U.length=s + o ->
    ((m.zipIdx o).foldl (λ (a:Array Keyed) (x:Keyed × Nat)=>match x with | (q,j)=>a.setIfInBounds (s + j) q) arr).toList=U ++ (m ++ W)
 | [],V,U,W,arr,o,h,l,_=>by
  simp_all
 | v :: m,V,U,W,arr,o,h,l,hu=>by
  cases V with
  | nil=>simp at l
  | cons u V =>
   rw [List.zipIdx_cons,foldl_cons]
   have:=wb s m V (U ++ [v]) W (arr.setIfInBounds (s + o) v) (o + 1) (by
    simp_all) (by simpa using l) (by simp; omega)
   simp_all
variable {S:List Keyed}
section
variable {p:Array (Nat × Nat × Nat)}
variable {lt:Keyed->Keyed->Bool} 
theorem sf3 {σ:Type} {s':σ} {Q:PUnit->σ->Prop} {st:σ} (h:Q ⟨⟩ s'):wpS Md A E s (set s':StateT σ Sem PUnit) Q st:=by
 unfold wpS; rw [StateT.run_set]; exact wpAny_pure ⟨rfl,h⟩
theorem tk1 {r:List Keyed} {b:Nat} (h:arr.toList=P ++ (r ++ S)) (hb:b=P.length) (hi:i < r.length):arr[b + i]?=some r[i]:=by
 rw [<- getElem?_toList,h,getElem?_append_right [5],getElem?_append_left [5],show b + i - P.length=i by omega];simp
theorem bsF (c:[29]) {r:List Keyed} {b:Nat} {key:Keyed} (h:arr.toList=P ++ (r ++ S)) (hb:b=P.length) (hM:∀ x ∈ r,M x) (mk:M key) (so:r.Pairwise (le lt)):By lt M false key arr b r.length (λ i=>!lt key (r.getD i key)) where
 ky:=mk
 it:=λ i hi=>⟨r[i],tk1 h hb hi,hM _ (getElem_mem hi),by simp_all⟩
 mono:=λ i j hij hj q=>by
  by_cases z:i=j
  ·subst z; exact q
  have e1:=getElem?_eq_getElem (l:=r) (i:=i) [5];have e2:=getElem?_eq_getElem hj;have l:=vn0 so (show i < j by omega) e1 e2;rw [getD_some e2] at q;rw [getD_some e1];have h':le lt r[j] key:=(by simpa using q:lt key r[j]=false);have z:lt key r[i]=false:=c.le_tr l h';simpa using z
theorem bsT (c:[29]) {r:List Keyed} {b:Nat} {key:Keyed} (h:arr.toList=P ++ (r ++ S)) (hb:b=P.length) (hM:∀ x ∈ r,M x) (mk:M key) (so:r.Pairwise (le lt)):By lt M true key arr b r.length (λ i=>lt (r.getD i key) key) where
 ky:=mk
 it:=λ i hi=>⟨r[i],tk1 h hb hi,hM _ (getElem_mem hi),by simp_all⟩
 mono:=λ i j hij hj q=>by
  by_cases z:i=j
  ·subst z; exact q
  have e1:=getElem?_eq_getElem (l:=r) (i:=i) [5];have e2:=getElem?_eq_getElem hj;have l:=vn0 so (show i < j by omega) e1 e2;rw [getD_some e2] at q;rw [getD_some e1];rcases c.ng r[j] r[i] key q with z | z
  ·rw [show lt r[j] r[i]=false from l] at z; cases z
  ·exact z
theorem xa5 (c:[29]) {st:SortSt} {r1 r2:List Keyed} {sa pw sb pw2:Nat} {Q:Bool->SortSt->Prop} (a:At κ p st (P ++ (r1 ++ (r2 ++ S)))) (hM:∀ x ∈ r1 ++ r2,M x) (e1:p[i]?=some (sa,na,pw)) (e2:p[i + 1]?=some (sb,nb,pw2)) (hsa:sa=P.length) (hna:na=r1.length) (hsb:sb=P.length + r1.length) (hnb:nb=r2.length)
    (n1:0 < r1.length) (n2:0 < r2.length) (s1:r1.Pairwise (le lt)) (s2:r2.Pairwise (le lt)) (h:∀ st' m,At κ ((p.setIfInBounds i (sa,na + nb,pw)).eraseIdxIfInBounds (i + 1)) st' (P ++ (m ++ S))->m.Perm (r1 ++ r2)->m.Pairwise (le lt)->Q true st') :
    wpS [6] A E s (mergeAt' i) Q st:=by
 refine wpS_bind (wpS_get ?_);obtain rfl:=a.pe;have ls:=a.ls;rw [e1,e2];dsimp only;have M1:∀ x ∈ r1,M x:=λ x hx=>hM x (mem_append_left _ hx);have M2:∀ x ∈ r2,M x:=λ x hx=>hM x (mem_append_right _ hx);have ls2:(arrOf st).toList=(P ++ r1) ++ (r2 ++ S):=by simp_all
 have hsb':sb=(P ++ r1).length:=by simp_all
 have k0:r2[0]?=some r2[0]:=getElem?_eq_getElem n2;have kl:r1[r1.length - 1]?=some r1[r1.length - 1]:=getElem?_eq_getElem [5]
 have fin:∀ {st':SortSt},Ok κ st'->arrOf st'=arrOf st->pendingOf st'=((pendingOf st).setIfInBounds i (sa,na + nb,pw)).eraseIdxIfInBounds (i + 1)->(∀ x ∈ r1,∀ y ∈ r2,le lt x y)->Q true st':=λ o ea ep hx =>
  h _ (r1 ++ r2) ⟨o,ep,by simp_all⟩ (.refl _) (List.pairwise_append.mpr ⟨s1,s2,hx⟩)
 refine wpS_bind (sf3 ?_);refine wpS_bind (ub0 (x:=r2[0]) (by have:=tk1 (i:=0) ls2 hsb' n2; exact this) ?_);subst hna hnb;refine wpS_bind (su0 c ⟨a.ok.kd,a.ok.fl⟩ (bsF c ls hsa M1 (M2 _ (getElem_mem n2)) s1) n1 λ k k1 k2 k3=>?_);dsimp only
 have lowA:∀ i x,i < k->r1[i]?=some x->le lt x r2[0]:=λ i x hi ex=>by
  have q:=k2 i hi;rw [getD_some ex] at q;exact (by simpa using q:lt r2[0] x=false)
 have highA:∀ i x,k<=i->r1[i]?=some x->le lt r2[0] x:=λ i x hi ex=>by
  have q:=k3 i hi (List.getElem?_eq_some_iff.mp ex).1;rw [getD_some ex] at q;exact c.lt_le (by simpa using q)
 have first2:∀ y ∈ r2,le lt r2[0] y:=λ y hy=>by
  obtain ⟨j,hj,rfl⟩:=List.mem_iff_getElem.mp hy;by_cases z:j=0
  ·subst z; exact c.rf _
  ·exact vn0 s2 [5] k0 (getElem?_eq_getElem hj)
 have last1:∀ x ∈ r1,le lt x r1[r1.length - 1]:=λ x hx=>by
  obtain ⟨j,hj,rfl⟩:=List.mem_iff_getElem.mp hx;by_cases z:j=r1.length - 1
  ·subst z; exact c.rf _
  ·exact vn0 s1 [5] (getElem?_eq_getElem hj) kl
 by_cases z:(r1.length - k == 0)=true
 ·rw [if_pos z];have z':r1.length - k=0:=eq_of_beq z;refine wpS_pure (fin ⟨a.ok.kd,a.ok.fl⟩ rfl rfl λ x hx y hy=>?_);obtain ⟨j,hj,rfl⟩:=List.mem_iff_getElem.mp hx;exact c.le_tr (lowA j _ [5] (getElem?_eq_getElem hj)) (first2 y hy)
 rw [if_neg z];have z':r1.length - k ≠ 0:=λ e=>z (beq_iff_eq.mpr e)
 refine wpS_bind (ub0 (x:=r1[r1.length - 1]) (by
  have:=tk1 (i:=r1.length - 1) ls hsa [5];rw [show sa + k + (r1.length - k) - 1=sa + (r1.length - 1) by omega];exact this) ?_)
 refine wpS_bind (su0 c ⟨a.ok.kd,a.ok.fl⟩ (bsT c ls2 hsb' M2 (M1 _ (getElem_mem _)) s2) [5] λ t t1 t2 t3=>?_);dsimp only
 have lowB:∀ i y,i < t->r2[i]?=some y->le lt y r1[r1.length - 1]:=λ i y hi ey=>by
  have q:=t2 i hi;rw [getD_some ey] at q;exact c.lt_le q
 have highB:∀ i y,t<=i->r2[i]?=some y->le lt r1[r1.length - 1] y:=λ i y hi ey=>by
  have q:=t3 i hi (List.getElem?_eq_some_iff.mp ey).1;rw [getD_some ey] at q;exact q
 by_cases zt:(t == 0)=true
 ·rw [if_pos zt];have zt':t=0:=eq_of_beq zt;refine wpS_pure (fin ⟨a.ok.kd,a.ok.fl⟩ rfl rfl λ x hx y hy=>?_);obtain ⟨j,hj,rfl⟩:=List.mem_iff_getElem.mp hy;exact c.le_tr (last1 x hx) (highB j _ [5] (getElem?_eq_getElem hj))
 rw [if_neg zt];have zt':t ≠ 0:=λ e=>zt (beq_iff_eq.mpr e)
 have xs:((arrOf st).extract (sa + k) sb).toList=r1.drop k:=by
  rw [ut3,ls2,List.take_append_of_le_length [5],take_of_length_le [5],List.drop_append,show sa + k - P.length=k by omega,drop_eq_nil_of_le [5],nil_append]
 have ys:((arrOf st).extract sb (sb + t)).toList=r2.take t:=by
  rw [xu3,ls2,List.drop_left' hsb'.symm,List.take_append_of_le_length [5]]
 have dx:∀ x ∈ r1.drop k,∃ j,k<=j /\ r1[j]?=some x:=λ x hx=>by
  obtain ⟨j,hj,rfl⟩:=List.mem_drop_iff_getElem.mp hx;exact ⟨k + j,by omega,getElem?_eq_getElem [5]⟩
 have dy:∀ y ∈ r2.take t,∃ j,j < t /\ r2[j]?=some y:=λ y hy=>by
  obtain ⟨j,hj,rfl⟩:=List.mem_take_iff_getElem.mp hy;exact ⟨j,by omega,getElem?_eq_getElem [5]⟩
 have done:∀ (mg:Array Keyed) (st2:SortSt),Same κ (SortSt.mk' (kindOf st) (arrOf st) (((pendingOf st).setIfInBounds i (sa,r1.length + r2.length,pw)).eraseIdxIfInBounds (i + 1)) (gallopOf st) (failedOf st)) st2->Fin lt (r1.drop k) (r2.take t) mg.toList ->
     ∀ (f:SortSt->SortSt),(∀ u,f u=setArr u (mg.toList.zipIdx.foldl (λ (a:Array Keyed) (x:Keyed × Nat)=>match x with | (q,j)=>a.setIfInBounds (sa + k + j) q) (arrOf u)))->wpS [6] A E s (modify f >>= λ _=>get >>= λ u=>pure (failedOf u).isNone) Q st2:=by
  intro mg st2 sm F f hf;refine wpS_bind (wpS_modify (wpS_bind (wpS_get ?_)));rw [hf]
  have e:(failedOf (setArr st2 (mg.toList.zipIdx.foldl (λ (a:Array Keyed) (x:Keyed × Nat)=>match x with | (q,j)=>a.setIfInBounds (sa + k + j) q) (arrOf st2)))).isNone=true:=by
   show (failedOf st2).isNone=true;rw [sm.ok.fl]; rfl
  rw [e];have l1:(r1.take k).length=k:=by simp_all
  have l2:mg.toList.length=(r1.drop k ++ r2.take t).length:=F.1.length_eq
  have wbk:=wb (sa + k) mg.toList (r1.drop k ++ r2.take t) (P ++ r1.take k) (r2.drop t ++ S) (arrOf st2) 0 (by
   rw [sm.ar];show (arrOf st).toList=_;rw [ls];simp only [append_assoc];rw [<- append_assoc (r1.take k),take_append_drop,<- append_assoc (r2.take t),take_append_drop]) l2.symm [26]
  refine wpS_pure (h _ (r1.take k ++ mg.toList ++ r2.drop t) ⟨⟨sm.ok.kd,sm.ok.fl⟩,sm.pe,?_⟩ ?_ ?_)
  ·simp_all;omega
  ·have q:=F.1;refine .trans (List.Perm.append_right _ (List.Perm.append_left _ q)) ?_;rw [<- append_assoc (r1.take k),take_append_drop,append_assoc,take_append_drop]
  ·have mem:∀ v ∈ mg.toList,v ∈ r1.drop k \/ v ∈ r2.take t:=λ v hv=>List.mem_append.mp (F.1.mem_iff.mp hv)
   have lowk:∀ x ∈ r1.take k,le lt x r2[0]:=λ x hx=>by
    obtain ⟨j,hj,rfl⟩:=List.mem_take_iff_getElem.mp hx;exact lowA j _ [5] (getElem?_eq_getElem [5])
   have s1':=s1;rw [<- take_append_drop k r1] at s1';have s2':=s2;rw [<- take_append_drop t r2] at s2'
   have hd:∀ y ∈ r2.drop t,le lt r1[r1.length - 1] y:=λ y hy=>by
    obtain ⟨j,hj,rfl⟩:=List.mem_drop_iff_getElem.mp hy;exact highB (t + j) _ [5] (getElem?_eq_getElem [5])
   refine List.pairwise_append.mpr ⟨List.pairwise_append.mpr ⟨(List.pairwise_append.mp s1').1,F.2,λ x hx v hv=>?_⟩,(List.pairwise_append.mp s2').2.1,λ x hx y hy=>?_⟩
   ·rcases mem v hv with q | q
    ·exact (List.pairwise_append.mp s1').2.2 x hx v q
    ·exact c.le_tr (lowk x hx) (first2 v (mem_of_mem_take q))
   ·rcases List.mem_append.mp hx with q | q
    ·exact c.le_tr (lowk x q) (first2 y (mem_of_mem_drop hy))
    ·rcases mem x q with q | q
     ·exact c.le_tr (last1 x (mem_of_mem_drop q)) (hd y hy)
     ·exact (List.pairwise_append.mp s2').2.2 x q y hy
 have pre1:∀ x ∈ ((arrOf st).extract (sa + k) sb).toList,M x:=λ x hx=>M1 x (by rw [xs] at hx; exact mem_of_mem_drop hx);have pre2:∀ x ∈ ((arrOf st).extract sb (sb + t)).toList,M x:=λ x hx=>M2 x (by rw [ys] at hx; exact mem_of_mem_take hx);have pre3:((arrOf st).extract (sa + k) sb).toList.Pairwise (le lt):=by rw [xs]; exact s1.sublist (drop_sublist _ _)
 have pre4:((arrOf st).extract sb (sb + t)).toList.Pairwise (le lt):=by rw [ys]; exact s2.sublist (take_sublist _ _)
 have pre5:0 < ((arrOf st).extract (sa + k) sb).toList.length:=by simp_all;omega
 have pre6:0 < ((arrOf st).extract sb (sb + t)).toList.length:=by simp_all;omega
 have pre7:∀ x y,((arrOf st).extract sb (sb + t)).toList[0]?=some x->((arrOf st).extract (sa + k) sb).toList[0]?=some y->le lt x y:=λ x y hx hy=>by
  rw [ys,getElem?_take_of_lt [5],k0] at hx;cases hx;rw [xs] at hy;obtain ⟨j,hj,ej⟩:=dx y (mem_of_getElem? hy);exact highA j y hj ej
 have pre8:∀ x,((arrOf st).extract (sa + k) sb).toList[((arrOf st).extract (sa + k) sb).toList.length - 1]?=some x->∀ y ∈ ((arrOf st).extract sb (sb + t)).toList,le lt y x:=λ x hx y hy=>by
  rw [xs,length_drop,getElem?_drop,show k + (r1.length - k - 1)=r1.length - 1 by omega,kl] at hx;cases hx;rw [ys] at hy;obtain ⟨j,hj,ej⟩:=dy y hy;exact lowB j y hj ej
 by_cases g:r1.length - k<=t
 ·rw [if_pos g];refine wpS_bind (vz4 c ⟨a.ok.kd,a.ok.fl⟩ pre1 pre2 pre3 pre4 pre5 pre6 pre7 pre8 λ mg st2 sm F=>?_);rw [xs,ys] at F;refine done mg st2 sm F _ ?_;intro u; rfl
 ·rw [if_neg g];refine wpS_bind (sz4 c ⟨a.ok.kd,a.ok.fl⟩ pre1 pre2 pre3 pre4 pre5 pre6 pre7 pre8 λ mg st2 sm F=>?_);rw [xs,ys] at F;refine done mg st2 sm F _ ?_;intro u; rfl
end
noncomputable def pos:Nat->List (List Keyed)->List (Nat × Nat)
 | _,[]=>[]
 | o,r :: rs=>(o,r.length) :: pos (o + r.length) rs
theorem vw0:∀ (o:Nat) (X Y:List (List Keyed)),pos o (X ++ Y)=pos o X ++ pos (o + X.flatten.length) Y
 | o,[],Y=>by simp [pos]
 | o,r :: X,Y=>by
  show (o,r.length) :: pos (o + r.length) (X ++ Y)=_;rw [vw0];simp [pos,Nat.add_assoc]
theorem tf1:∀ (o:Nat) (X:List (List Keyed)),(pos o X).length=X.length
 | _,[]=>rfl
 | o,r :: X=>by show (pos _ X).length + 1=X.length + 1; rw [tf1]
noncomputable abbrev pn (t:Nat × Nat × Nat):Nat × Nat:=(t.1,t.2.1)
structure Lay (κ:SortKind) (lt:Keyed->Keyed->Bool) (L0:List Keyed) (p:Array (Nat × Nat × Nat)) (st:SortSt) (rs:List (List Keyed)) (rest:List Keyed):Prop where
 at_:At κ p st (rs.flatten ++ rest)
 po:p.toList.map pn=pos 0 rs
 so:∀ r ∈ rs,0 < r.length /\ r.Pairwise (le lt)
 pm:(rs.flatten ++ rest).Perm L0
theorem Lay.size {κ:SortKind} {lt:Keyed->Keyed->Bool} {L0:List Keyed} {p:Array (Nat × Nat × Nat)} {st:SortSt} {rs:List (List Keyed)} {rest:List Keyed} (l:Lay κ lt L0 p st rs rest):p.size=rs.length:=by
 have:=congrArg List.length l.po;rw [length_map,tf1] at this;exact this
variable {L0:List Keyed} {rs:List (List Keyed)}
theorem Lay.many {lt:Keyed->Keyed->Bool} {p:Array (Nat × Nat × Nat)} {st:SortSt} {rest:List Keyed} (l:Lay κ lt L0 p st rs rest):rs.length<=rs.flatten.length:=by
 have h:=l.so;clear l
 induction rs with
 | nil=>simp
 | cons r rs ih =>
  simp_all;omega
section
variable {p:Array (Nat × Nat × Nat)}
variable {lt:Keyed->Keyed->Bool} 
theorem Lay.merge (c:[29]) {st:SortSt} {rest:List Keyed} {Q:Bool->SortSt->Prop} (hM:∀ x ∈ L0,M x) (l:Lay κ lt L0 p st rs rest) (hi:i + 1 < rs.length)
    (h:∀ st' p' rs',Lay κ lt L0 p' st' rs' rest->rs'.length + 1=rs.length->rs'.flatten.length=rs.flatten.length->Q true st'):wpS [6] A E s (mergeAt' i) Q st:=by
 obtain ⟨X,r1,r2,Y,rfl,hX⟩:∃ X r1 r2 Y,rs=X ++ r1 :: r2 :: Y /\ X.length=i:=by
  refine ⟨rs.take i,rs[i],rs[i + 1],rs.drop (i + 2),?_,by simp_all;omega⟩;simp
 have po:=l.po;rw [vw0] at po;obtain ⟨px,pr,e1,e2,e3⟩:=List.map_eq_append_iff.mp po;obtain ⟨t1,pr1,e4,e5,e6⟩:=List.map_eq_cons_iff.mp e3;obtain ⟨t2,py,e7,e8,e9⟩:=List.map_eq_cons_iff.mp e6;subst e4 e7;obtain ⟨sa,na,pw⟩:=t1;obtain ⟨sb,nb,pw2⟩:=t2;have lp:px.length=i:=by have:=congrArg List.length e2; rw [length_map,tf1] at this; omega
 injection e5 with f1 f2
 injection e8 with f3 f4
 dsimp only at f1 f2 f3 f4;rw [Nat.zero_add] at f1 f3 e9;have g1:p[i]?=some (sa,na,pw):=by rw [<- getElem?_toList,e1,getElem?_append_right [5],show i - px.length=0 by omega]; rfl
 have g2:p[i + 1]?=some (sb,nb,pw2):=by rw [<- getElem?_toList,e1,getElem?_append_right [5],show i + 1 - px.length=1 by omega]; rfl
 have a:=l.at_;have fl:(X ++ r1 :: r2 :: Y).flatten ++ rest=X.flatten ++ (r1 ++ (r2 ++ (Y.flatten ++ rest))):=by simp
 rw [fl] at a;have pm:=l.pm;rw [fl] at pm;have s1:=l.so r1 [17];have s2:=l.so r2 [17];refine xa5 c a (λ x hx=>hM x (pm.mem_iff.mp ?_)) g1 g2 f1 f2 f3 f4 s1.1 s2.1 s1.2 s2.2 λ st' m a' pm' so'=>?_
 ·rcases List.mem_append.mp hx with q | q
  ·simp_all
  simp_all
 ·have lm:=pm'.length_eq;rw [length_append] at lm;refine h st' ((p.setIfInBounds i (sa,na + nb,pw)).eraseIdxIfInBounds (i + 1)) (X ++ m :: Y) ⟨?_,?_,?_,?_⟩ (by simp; omega) [20]
  ·simp_all
  ·have pl:((p.setIfInBounds i (sa,na + nb,pw)).eraseIdxIfInBounds (i + 1)).toList=px ++ (sa,na + nb,pw) :: py:=by
     rw [Array.toList_eraseIdxIfInBounds,Array.toList_setIfInBounds,e1,List.set_append_right _ _ [5],show i - px.length=0 by omega,set_cons_zero,List.eraseIdx_append_of_length_le [5],show i + 1 - px.length=1 by omega];rfl
   rw [pl,map_append,e2,vw0,map_cons];refine congrArg _ ?_;show (sa,na + nb) :: _=(0 + X.flatten.length,m.length) :: pos _ Y;rw [Nat.zero_add,f1,show na + nb=m.length by omega,e9,show X.flatten.length + m.length=X.flatten.length + r1.length + r2.length by omega]
  ·intro r hr;rcases List.mem_append.mp hr with q | q
   ·exact l.so r (mem_append_left _ q)
   ·rcases List.mem_cons.mp q with rfl | q
    ·exact ⟨by omega,so'⟩
    ·exact l.so r (mem_append_right _ (.tail _ (.tail _ q)))
  ·refine .trans ?_ pm;have fl2:(X ++ m :: Y).flatten ++ rest=X.flatten ++ (m ++ (Y.flatten ++ rest)):=by simp
   rw [fl2];refine List.Perm.append_left _ ?_;rw [<- append_assoc r1];exact List.Perm.append_right _ pm'
theorem xf4 (c:[29]) {st:SortSt} {Q:Unit->SortSt->Prop} (a:At κ #[] st L0) (hM:∀ x ∈ L0,M x) (h2:2<=L0.length) (h:∀ st' p L,At κ p st' L->L.Perm L0->L.Pairwise (le lt)->Q () st') :
    wpS [6] A E s sortRuns' Q st:=by
 refine wpS_bind (wpS_get ?_);dsimp only;have sz:(arrOf st).size=L0.length:=by rw [<- length_toList,a.ls]
 generalize hsz:(arrOf st).size=size at *;have hs:size=L0.length:=sz;generalize ((sortPriv% PySem.Builtin.minRun):Nat->Nat->Nat->Nat) size size 0=mr;have st0:Lay κ lt L0 #[] st [] L0:=⟨by simpa using a,rfl,λ _ h=>(nomatch h),by simp⟩
 have llen:∀ {p:Array (Nat × Nat × Nat)} {st':SortSt} {rs:List (List Keyed)} {rest:List Keyed},Lay κ lt L0 p st' rs rest->rs.flatten.length + rest.length=size:=λ l=>by
  have:=l.pm.length_eq
  simp_all
 have push:∀ {p:Array (Nat × Nat × Nat)} {st':SortSt} {rs:List (List Keyed)} {rest:List Keyed} {lo n:Nat},Lay κ lt L0 p st' rs rest->lo=rs.flatten.length->1<=n->n<=rest.length->(rest.take n).Pairwise (le lt) ->
     Lay κ lt L0 (p.push (lo,n,0)) (setPending st' ((pendingOf st').push (lo,n,0))) (rs ++ [rest.take n]) (rest.drop n):=by
  intro p st' rs rest lo n l hlo h1 h2 so;have e:(rs ++ [rest.take n]).flatten ++ rest.drop n=rs.flatten ++ rest:=by simp
  have lt1:(rest.take n).length=n:=by simp_all
  refine ⟨by rw [e]; exact ⟨⟨l.at_.ok.kd,l.at_.ok.fl⟩,by show (pendingOf st').push _=_; rw [l.at_.pe],l.at_.ls⟩,?_,?_,by rw [e]; exact l.pm⟩
  ·rw [toList_push,map_append,l.po,vw0];refine congrArg _ ?_;show [(lo,n)]=[(0 + rs.flatten.length,(rest.take n).length)]
   simp_all
  ·intro r hr;rcases List.mem_append.mp hr with q | q
   ·exact l.so r q
   simp_all;omega
 refine wpS_bind (wpS_mono (wpS_forRange (λ x (r:Option Unit × Nat) st'=>r.1=none /\ x<=r.2 /\ ∃ p rs rest,Lay κ lt L0 p st' rs rest /\ r.2=rs.flatten.length) (Q:=λ (r:Option Unit × Nat) st'=>r.1=none /\ ∃ p rs,Lay κ lt L0 p st' rs []) ?_ ?_ ⟨rfl,Nat.zero_le _,#[],[],L0,st0,rfl⟩) ?_)
 ·rintro x ⟨r,lo⟩ st1 _ hx ⟨rfl,b1,p1,rs,rest,l,hlo⟩;dsimp only at b1 hlo ⊢;have ln:=llen l;by_cases z:lo ≥ size
  ·rw [if_pos z];have e:rest=[]:=List.eq_nil_of_length_eq_zero [5];subst e;exact wpS_pure ⟨rfl,p1,rs,l⟩
  ·rw [if_neg z];have hr:size - lo=rest.length:=by omega
   rw [hr];refine wpS_bind (ye5 c l.at_ (λ x hx=>hM x (l.pm.mem_iff.mp hx)) hlo [5] λ m st2 R2 a2 pm2 m1 m2 so2=>?_);have l2:Lay κ lt L0 p1 st2 rs R2:=⟨a2,l.po,l.so,(List.Perm.append_left _ pm2).trans l.pm⟩;have r2l:=pm2.length_eq
   have jp:∀ (n:Nat) (st3:SortSt) (R3:List Keyed),Lay κ lt L0 p1 st3 rs R3->1<=n->n<=R3.length->(R3.take n).Pairwise (le lt)->∀ (G:SortSt->StateT SortSt Sem (ForInStep (Option Unit × Nat))) (J:StateT SortSt Sem (ForInStep (Option Unit × Nat))),
       (∀ (q:Array (Nat × Nat × Nat)) (st4:SortSt) rs4,Lay κ lt L0 q st4 rs4 R3->rs4.flatten.length=lo->wpS [6] A E s J (λ r st'=>match r with
        | .done c'=>c'.1=none /\ ∃ p rs,Lay κ lt L0 p st' rs []
        | .yield c'=>c'.1=none /\ x + 1<=c'.2 /\ ∃ p rs rest,Lay κ lt L0 p st' rs rest /\ c'.2=rs.flatten.length) st4) ->
       ((pendingOf st3).back?=none->G st3=J)->(∀ s1 n1 o1,(pendingOf st3).back?=some (s1,n1,o1)->∃ (pw:Nat) (f:Nat->Option Unit × Unit->StateT SortSt Sem (ForInStep (Option Unit × Unit))) (g:Option Unit × Unit->StateT SortSt Sem (ForInStep (Option Unit × Nat))),G st3=(forIn [0:size] (none,()) f >>= g) ∧
        (∀ y,f y (none,())=(get >>= λ u=>match (if (pendingOf u).size > 1 then (pendingOf u)[(pendingOf u).size - 2]? else none) with
         | some (_,_,older)=>if older<=pw then pure (.done (none,())) else mergeAt' ((pendingOf u).size - 2) >>= λ b=>if (!b)=true then pure (.done (some (),())) else pure (.yield (none,()))
         | none=>pure (.done (none,())))) ∧
        g (none,())=(modify (λ u=>setPending u ((pendingOf u).modify ((pendingOf u).size - 1) λ t=>(t.1,t.2.1,pw))) >>= λ _=>J)) ->
       wpS [6] A E s (get >>= G) (λ r st'=>match r with
        | .done c'=>c'.1=none /\ ∃ p rs,Lay κ lt L0 p st' rs []
        | .yield c'=>c'.1=none /\ x + 1<=c'.2 /\ ∃ p rs rest,Lay κ lt L0 p st' rs rest /\ c'.2=rs.flatten.length) st3:=by
    intro n st3 R3 l3 h1 h2 so3 G J hJ hG1 hG2;refine wpS_bind (wpS_get ?_);cases hb:(pendingOf st3).back? with
    | none =>
     rw [hG1 hb];exact hJ _ st3 rs l3 hlo.symm
    | some t =>
     obtain ⟨s1,n1,o1⟩:=t;obtain ⟨pw,f,g,e1,e2,e3⟩:=hG2 s1 n1 o1 hb;rw [e1];refine wpS_bind (wpS_mono (wpS_forRange (λ y (r:Option Unit × Unit) st'=>r=(none,()) /\ ∃ q rs4,Lay κ lt L0 q st' rs4 R3 /\ rs4.flatten.length=lo) (Q:=λ (r:Option Unit × Unit) st'=>r=(none,()) /\ ∃ q rs4,Lay κ lt L0 q st' rs4 R3 /\ rs4.flatten.length=lo) ?_ (λ _ _ q=>q) ⟨rfl,p1,rs,l3,hlo.symm⟩) ?_)
     ·rintro y r st4 _ _ ⟨rfl,q,rs4,l4,hl4⟩;rw [e2];refine wpS_bind (wpS_get ?_);have pe:=l4.at_.pe;have ps:=l4.size;by_cases c1:(pendingOf st4).size > 1
      ·rw [if_pos c1];cases c2:(pendingOf st4)[(pendingOf st4).size - 2]? with
       | none=>simp_all;omega
       | some t =>
        obtain ⟨_,_,older⟩:=t;dsimp only;by_cases c3:older<=pw
        ·rw [if_pos c3];exact wpS_pure ⟨rfl,q,rs4,l4,hl4⟩
        ·rw [if_neg c3];refine wpS_bind (l4.merge c hM (by rw [pe] at c1 ⊢; omega) λ st5 p5 rs5 l5 _ hl5=>?_);rw [if_neg [17]];exact wpS_pure ⟨rfl,p5,rs5,l5,by omega⟩
      ·rw [if_neg c1];exact wpS_pure ⟨rfl,q,rs4,l4,hl4⟩
     ·rintro r st4 ⟨rfl,q,rs4,l4,hl4⟩;rw [e3];refine wpS_bind (wpS_modify (hJ (q.modify (q.size - 1) λ t=>(t.1,t.2.1,pw)) _ rs4 ⟨⟨⟨l4.at_.ok.kd,l4.at_.ok.fl⟩,?_,l4.at_.ls⟩,?_,l4.so,l4.pm⟩ hl4))
      ·have pe4:=l4.at_.pe
       simp_all
      ·rw [<- l4.po,Array.toList_modify];apply ext_getElem?;intro k;rw [getElem?_map,getElem?_map,List.getElem?_modify];split
       ·cases q.toList[k]? <;> rfl
       simp
   have end_:∀ {n:Nat} {R3:List Keyed},1<=n->n<=R3.length->(R3.take n).Pairwise (le lt)->∀ (q:Array (Nat × Nat × Nat)) (st4:SortSt) rs4,Lay κ lt L0 q st4 rs4 R3->rs4.flatten.length=lo->∀ (f:SortSt->SortSt),(∀ u,f u=setPending u ((pendingOf u).push (lo,n,0)))->wpS [6] A E s (modify f >>= λ _=>pure (ForInStep.yield ((none,lo + n):Option Unit × Nat))) (λ r st'=>match r with
         | .done c'=>c'.1=none /\ ∃ p rs,Lay κ lt L0 p st' rs []
         | .yield c'=>c'.1=none /\ x + 1<=c'.2 /\ ∃ p rs rest,Lay κ lt L0 p st' rs rest /\ c'.2=rs.flatten.length) st4:=by
    intro n R3 h1 h2 so3 q st4 rs4 l4 hl4 f hf;refine wpS_bind (wpS_modify (wpS_pure ?_));rw [hf];refine ⟨rfl,by omega,_,_,_,push l4 hl4.symm h1 h2 so3,?_⟩
    simp_all
   dsimp only;by_cases g:m < mr
   ·rw [if_pos g];refine wpS_bind (wpS_lift (wpAny_rule ⟨rfl,?_⟩));refine wpS_bind (sh2 c a2 (λ x hx=>hM x (l2.pm.mem_iff.mp hx)) hlo m1 (show m<=min rest.length mr by omega) [5] so2 λ st3 R3 a3 pm3 so3=>?_);rw [if_neg [17]];have l3:Lay κ lt L0 p1 st3 rs R3:=⟨a3,l.po,l.so,(List.Perm.append_left _ pm3).trans l2.pm⟩;have r3l:=pm3.length_eq;refine wpS_mono (jp _ st3 R3 l3 (show 1<=min rest.length mr by omega) [5] so3 _ _ (λ q st4 rs4 l4 hl4=>end_ [5] [5] so3 q st4 rs4 l4 hl4 _ λ _=>rfl) ?_ ?_) ?_
    ·intro hb; rw [hb]
    ·intro s1 n1 o1 hb;rw [hb];refine ⟨_,_,_,rfl,λ y=>?_,rfl⟩;refine congrArg _ (funext λ u=>?_);generalize (if (pendingOf u).size > 1 then (pendingOf u)[(pendingOf u).size - 2]? else none)=o;rcases o with _ | ⟨_,_,_⟩ <;> rfl
    ·intro r st' q; cases r <;> exact q
   ·rw [if_neg g];refine wpS_mono (jp m st2 R2 l2 m1 [5] so2 _ _ (λ q st4 rs4 l4 hl4=>end_ m1 [5] so2 q st4 rs4 l4 hl4 _ λ _=>rfl) ?_ ?_) ?_
    ·intro hb; rw [hb]
    ·intro s1 n1 o1 hb;rw [hb];refine ⟨_,_,_,rfl,λ y=>?_,rfl⟩;refine congrArg _ (funext λ u=>?_);generalize (if (pendingOf u).size > 1 then (pendingOf u)[(pendingOf u).size - 2]? else none)=o;rcases o with _ | ⟨_,_,_⟩ <;> rfl
    ·intro r st' q; cases r <;> exact q
 ·rintro ⟨r,lo⟩ st1 ⟨rfl,b1,p1,rs,rest,l,hlo⟩;dsimp only at b1 hlo;have ln:=llen l;have b1':max 0 size<=lo:=b1;have e:rest=[]:=List.eq_nil_of_length_eq_zero [5];subst e;exact ⟨rfl,p1,rs,l⟩
 ·rintro ⟨r,lo⟩ st1 ⟨rfl,p1,rs,l⟩;dsimp only;have ln:=llen l;have mn:=l.many;refine wpS_bind (wpS_mono (wpS_forRange (λ x (r:Option Unit × Unit) st'=>r=(none,()) /\ ∃ p rs,Lay κ lt L0 p st' rs [] /\ rs.length + x<=size + 1 + (if rs.length<=1 then x else 0)) (Q:=λ (r:Option Unit × Unit) st'=>r=(none,()) /\ ∃ p rs,Lay κ lt L0 p st' rs [] /\ rs.length<=1) ?_ ?_ ⟨rfl,p1,rs,l,by omega⟩) ?_)
  ·rintro x r st2 _ hx ⟨rfl,p2,rs2,l2,b⟩;refine wpS_bind (wpS_get ?_);have pe:=l2.at_.pe;have ps:=l2.size;have ps':(pendingOf st2).size=rs2.length:=by rw [pe]; exact ps
   by_cases z:(pendingOf st2).size<=1
   ·rw [if_pos z];exact wpS_pure ⟨rfl,p2,rs2,l2,by omega⟩
   ·rw [if_neg z];refine wpS_bind (l2.merge c hM ?_ λ st3 p3 rs3 l3 hl3 _=>?_)
    ·exact (show ∀ (P:Prop) [Decidable P] (n m:Nat),2<=n->n=m->(if P then n - 2 - 1 else n - 2) + 1 < m by intro P _ n m h1 h2; split <;> omega) _ _ _ (show 2<=(pendingOf st2).size by omega) ps'
    ·rw [if_neg [17]];refine wpS_pure ⟨rfl,p3,rs3,l3,?_⟩;rw [if_neg [5]] at b;split <;> omega
  ·rintro r st2 ⟨rfl,p2,rs2,l2,b⟩;refine ⟨rfl,p2,rs2,l2,?_⟩;by_cases z:rs2.length<=1
   ·exact z
   simp_all;omega
  ·rintro r st2 ⟨rfl,p2,rs2,l2,b⟩;dsimp only;have pm:=l2.pm;have a2:=l2.at_;rw [append_nil] at pm a2;refine wpS_pure (h st2 p2 _ a2 pm ?_)
   match rs2,b,l2.so with
   | [],_,_=>simp
   | [r],_,so=>simp_all
   | _ :: _ :: _,b,_=>simp at b
end
end Ts
namespace Ts
open PySem PyProof.Rows PySem.W
theorem vz1 {α β:Type} {f:α->β} {L N:List β} (h:L.Perm N):∀ l:List α,N=l.map f->∃ l':List α,l'.Perm l /\ L=l'.map f:=by
 induction h with
 | nil=>simp
 | cons x _ ih =>
  intro l e;obtain ⟨a,l1,rfl,rfl,e3⟩:=List.map_eq_cons_iff.mp e.symm;obtain ⟨l',p,e4⟩:=ih l1 e3.symm;exact ⟨a :: l',p.cons a,by rw [e4]; rfl⟩
 | swap x y t =>
  intro l e;obtain ⟨a,l1,rfl,rfl,e3⟩:=List.map_eq_cons_iff.mp e.symm;obtain ⟨b,l2,rfl,rfl,e5⟩:=List.map_eq_cons_iff.mp e3;exact ⟨b :: a :: l2,.swap a b l2,by rw [<- e5]; rfl⟩
 | trans _ _ ih1 ih2 =>
  intro l e;obtain ⟨l2,p2,e2⟩:=ih2 l e;obtain ⟨l1,p1,e1⟩:=ih1 l2 e2;exact ⟨l1,p1.trans p2,e1⟩
open Classical in
def idx (vs:[24]) (x:Keyed):Nat:=if h:∃ i:Nat,vs[i]?=some x.1 then Classical.choose h else 0
variable {vs:[24]}
theorem wn1 {x:Keyed} (h:∃ i:Nat,vs[i]?=some x.1):vs[idx vs x]?=some x.1:=by
 unfold idx;rw [dif_pos h];exact Classical.choose_spec h
section
variable {prog:Program} {w:World} {A:Around} {E:[7]} {s:Shared} {κ:SortKind}
theorem run_idx {lt:Nat->Nat->Bool} (O:Ms.Ord lt) (h2:2<=vs.length) (sm:∀ (i j:Nat) v,vs[i]?=some v->vs[j]?=some v->∀ k,lt i k=lt j k /\ lt k i=lt k j)
    (ask:∀ (i j:Nat) x y,vs[i]?=some x->vs[j]?=some y->∀ C:Bool->Shared->Prop,C (lt i j) s->wpAny [6] A (keyLt' κ x y) C (λ _ _=>False) s) :
    wpS [6] A E s sortRuns' (λ _ st'=>∃ p:Array Nat,p.Perm [41] /\ Ms.Up lt p vs.length /\ arrOf st'=p.map (kas_item [31]) /\ failedOf st'=none) (SortSt.mk' κ [31] #[] 7 none):=by
 let M:Keyed->Prop:=λ x=>∃ i:Nat,vs[i]?=some x.1
 let lk:Keyed->Keyed->Bool:=λ x y=>lt (idx vs x) (idx vs y)
 have c:Cm prog w A s κ lk M:=⟨λ x y hx hy C h=>ask _ _ _ _ (wn1 hx) (wn1 hy) C h,λ x=>O.ir _,λ x y z=>O.tr _ _ _,λ x y z=>O.ng _ _ _⟩
 have it:[31].toList=(List.range vs.length).map (kas_item [31]):=by
  have:=kas_range [31];have sz:[31].size=vs.length:=by simp
  rw [sz] at this;have e:=congrArg Array.toList this;simpa using e.symm
 have ki:∀ i,i < vs.length->(kas_item [31] i).1=vs.getD i .none:=λ i hi=>by
  show ([31].getD i _).1=_;simp [*]
 refine xf4 c (L0:=[31].toList) ⟨⟨rfl,rfl⟩,rfl,rfl⟩ (λ x hx=>?_) (by simp; exact h2) λ st' p L a pm so=>?_
 ·rw [it] at hx;obtain ⟨i,hi,rfl⟩:=List.mem_map.mp hx;have hi':=List.mem_range.mp hi;exact ⟨i,by rw [ki i hi',getD_eq_getElem?_getD,getElem?_eq_getElem hi']; rfl⟩
 ·obtain ⟨l,pl,el⟩:=vz1 pm _ it;subst el;refine ⟨l.toArray,Array.perm_iff_toList_perm.mpr pl,?_,Array.toList_inj.mp (by rw [a.ls]; simp),a.ok.fl⟩;have ll:l.length=vs.length:=by have:=pl.length_eq; simpa using this
  intro x y hxy hy;show lt (l.toArray.getD y 0) (l.toArray.getD x 0)=false;have gx:∀ z,z < l.length->l.toArray.getD z 0=l.getD z 0:=λ z hz=>by simp
  rw [gx y [5],gx x [5]];by_cases e:x=y
  ·subst e; exact O.ir _
  have ex:l[x]?=some l[x]:=getElem?_eq_getElem [5];have ey:l[y]?=some l[y]:=getElem?_eq_getElem [5];have q:=vn0 so (show x < y by omega) (by rw [getElem?_map,ex]; rfl) (by rw [getElem?_map,ey]; rfl);have rx:l[x] < vs.length:=List.mem_range.mp (pl.mem_iff.mp (getElem_mem _));have ry:l[y] < vs.length:=List.mem_range.mp (pl.mem_iff.mp (getElem_mem _));have vx:vs[l[x]]?=some (kas_item [31] l[x]).1:=by rw [ki _ rx,getD_eq_getElem?_getD,getElem?_eq_getElem rx]; rfl
  have vy:vs[l[y]]?=some (kas_item [31] l[y]).1:=by rw [ki _ ry,getD_eq_getElem?_getD,getElem?_eq_getElem ry]; rfl
  have jx:=wn1 (vs:=vs) (x:=kas_item [31] l[x]) ⟨_,vx⟩;have jy:=wn1 (vs:=vs) (x:=kas_item [31] l[y]) ⟨_,vy⟩;have q':lt (idx vs (kas_item [31] l[y])) (idx vs (kas_item [31] l[x]))=false:=q;rw [(sm _ _ _ jy vy _).1,(sm _ _ _ jx vx _).2] at q';simp [*]
end
end Ts
namespace Pv
open PySem PySem.Spec PySem.W PyProof.Rows L2
abbrev T3:=Int × Int × Int
noncomputable def lt3 (a b:T3):Bool:=decide (a.1 < b.1) || (a.1 == b.1 && (decide (a.2.1 < b.2.1) || (a.2.1 == b.2.1 && decide (a.2.2 < b.2.2))))
def IsT3 (h:Heap) (v:Value) (t:T3):Prop:=∃ a o t1 t2 t3 n,v=.ref a /\ h.get? a=some o /\ o.cls=.type "tuple" /\ o.data=.seq #[.int t.1 t1,.int t.2.1 t2,.int t.2.2 t3] n
variable {h:Heap} {v:Value}
theorem IsT3.one {t u:T3} (i:IsT3 h v t) (k:IsT3 h v u):t=u:=by
 obtain ⟨a,o,t1,t2,t3,n,rfl,e2,_,e4⟩:=i;obtain ⟨b,q,u1,u2,u3,m,f1,f2,_,f4⟩:=k;cases f1;rw [e2] at f2;cases f2;rw [e4] at f4;obtain ⟨x,y,z⟩:=t
 simp_all
theorem lt3_iff {a b:T3}:lt3 a b=true ↔ a.1 < b.1 \/ a.1=b.1 /\ (a.2.1 < b.2.1 \/ a.2.1=b.2.1 /\ a.2.2 < b.2.2):=by simp [lt3]
theorem wr3 {a b c:Int} {P Q R:Prop} (h:a < b \/ a=b /\ P) (k:b < c \/ b=c /\ Q) (f:P->Q->R):a < c \/ a=c /\ R:=by
 rcases h with h | ⟨rfl,p⟩
 ·omega
 ·exact k.imp id λ ⟨e,q⟩=>⟨e,f p q⟩
theorem vr3 {a c:Int} (b:Int) {P Q R:Prop} (h:a < c \/ a=c /\ R) (f:R->P \/ Q):(a < b \/ a=b /\ P) \/ (b < c \/ b=c /\ Q):=by
 rcases Int.lt_trichotomy a b with p | rfl | p
 ·exact .inl (.inl p)
 ·rcases h with h | ⟨e,r⟩
  ·exact .inr (.inl h)
  simp_all
 omega
theorem tr3 (ts:List T3):Ms.Ord λ i j=>lt3 (ts.getD i (0,0,0)) (ts.getD j (0,0,0)) where
 ir:=λ a=>by simp [lt3]
 tr:=λ a b c h k=>lt3_iff.mpr (wr3 (lt3_iff.mp h) (lt3_iff.mp k) λ p q=>wr3 p q Int.lt_trans)
 ng:=λ a b c h=>by
  rw [lt3_iff,lt3_iff];refine vr3 _ (lt3_iff.mp h) λ r=>vr3 _ r λ x=>?_;omega
variable {prog:Program} {w:World} {A:Around} {E:[7]} {s:Shared}
section
theorem xi5 {x y:Value} {a b:T3} {Q:Bool->Shared->Prop} (hx:IsT3 s.heap x a) (hy:IsT3 s.heap y b) (h:Q (lt3 a b) s):wpAny [6] A (keyLt' (tuples' true) x y) Q E s:=by
 obtain ⟨x,ox,t1,t2,t3,n,rfl,ex,_,dx⟩:=hx;obtain ⟨y,oy,u1,u2,u3,m,rfl,ey,_,dy⟩:=hy;obtain ⟨a1,a2,a3⟩:=a;obtain ⟨b1,b2,b3⟩:=b;refine kat_lt ex dx ey dy ?_;refine kat_cons (wpAny_eqBool_int ?_);by_cases c1:a1=b1
 ·rw [show (a1 == b1)=true from beq_iff_eq.mpr c1];refine kat_yes (kat_cons (wpAny_eqBool_int ?_));by_cases c2:a2=b2
  ·rw [show (a2 == b2)=true from beq_iff_eq.mpr c2];refine kat_yes (kat_cons (wpAny_eqBool_int ?_));by_cases c3:a3=b3
   ·rw [show (a3 == b3)=true from beq_iff_eq.mpr c3];refine kat_yes (kat_nil ?_);have e:lt3 (a1,a2,a3) (b1,b2,b3)=false:=by subst c1 c2 c3; simp [lt3]
    simp_all
   ·rw [show (a3 == b3)=false from by simpa using c3];have e:lt3 (a1,a2,a3) (b1,b2,b3)=decide (a3 < b3):=by subst c1 c2; simp [lt3]
    rw [e] at h;exact kat_no (kat_one _ _ (lt_int h))
  ·rw [show (a2 == b2)=false from by simpa using c2];have e:lt3 (a1,a2,a3) (b1,b2,b3)=decide (a2 < b2):=by subst c1; simp [lt3,c2]
   rw [e] at h;exact kat_no (kat_one _ _ (lt_int h))
 ·rw [show (a1 == b1)=false from by simpa using c1];have e:lt3 (a1,a2,a3) (b1,b2,b3)=decide (a1 < b1):=by simp [lt3,c1]
  rw [e] at h;exact kat_no (oneLt_int h)
end
noncomputable abbrev ltI (ts:List T3):Nat->Nat->Bool:=λ i j=>lt3 (ts.getD i (0,0,0)) (ts.getD j (0,0,0))
noncomputable abbrev outV (vs:[24]) (p:Array Nat):List Value:=p.toList.map λ i=>vs.getD i Value.none
theorem vq1 (vs:[24]):outV vs [41]=vs:=by
 apply ext_getElem
 ·simp
 simp_all
variable {n:Nat}
theorem no_lt {vs:Array Value} {C:Prop} (h:(seqObj "list" vs n).cls=Value.type "tuple"):C:=by
 simp_all
structure SK (prog:Program) (w:World) (vs:List Value) (lt:Nat->Nat->Bool) (κ:SortKind) (J:Heap->Prop) (U:Nat):Prop where
 od:Ms.Ord lt
 kd:2<=vs.length->∀ {A:Around} {E:Value->Shared->Prop} (s:Shared) {Q:SortKind->Shared->Prop},J s.heap->Q κ s->wpAny (model prog w) A (keyKind' vs.toArray) Q E s
 sm:∀ (i j:Nat) v,vs[i]?=some v->vs[j]?=some v->∀ k,lt i k=lt j k /\ lt k i=lt k j
 cm:∀ {A:Around} (s:Shared) (i j:Nat) x y,A.units<=U->J s.heap->vs[i]?=some x->vs[j]?=some y->∀ C:Bool->Shared->Prop,C (lt i j) s->wpAny (model prog w) A (keyLt' κ x y) C (λ _ _=>False) s
variable {vs:[24]} {U:Nat}
section
variable {lt:Nat->Nat->Bool} {κ:SortKind} {J:Heap->Prop} 
theorem ua2 {a:Addr} {P:PySem.Fin->Shared->Prop} (K:SK prog w vs lt κ J U) (hU:A.units<=U) (ho:s.heap.get? a=some (seqObj "list" vs.toArray n)) (hJ:∀ h':Heap,(∀ b o,b ≠ a->s.heap.get? b=some o->h'.get? b=some o)->J h') (hz:vs.length<=sizeLine)
    (h:∀ (p:Array Nat) (h':Heap) (c:Nat),p.Perm ([41])->Ms.Up lt p vs.length->(∀ b o,b ≠ a->s.heap.get? b=some o->h'.get? b=some o) ->
     h'.get? a=some (seqObj "list" (outV vs p).toArray c)->P (.done (.ret .none)) { s with heap:=h' }) :
    wpAny [6] A (Builtin.«list.sort» ⟨[.ref a],[]⟩) P E s:=by
 have ha:a < s.heap.objs.size:=Heap.lt_size ho;obtain ⟨e1,ho1⟩:∃ e1,(s.heap.update a (Obj.mapSeq λ _=>(#[]:Array Value))).get? a=some (seqObj "list" #[] e1):=⟨_,get?_update_seq ho λ _=>#[]⟩
 have kp:∀ b o,b ≠ a->s.heap.get? b=some o->(((s.heap.update a (Obj.mapSeq λ _=>(#[]:Array Value))).push (seqObj "tuple" vs.toArray 0)).push (seqObj "list" #[] 0)).get? b=some o:=λ b o hb e =>
  Heap.get?_push_of_some _ (Heap.get?_push_of_some _ (by rw [Heap.get?_update_ne _ _ _ _ hb]; exact e))
 have ht3:=hJ _ kp;have hoN:=Heap.get?_push_of_some (seqObj "list" #[] 0) (Heap.get?_push_of_some (seqObj "tuple" vs.toArray 0) ho1);generalize hN:((s.heap.update a (Obj.mapSeq λ _=>(#[]:Array Value))).push (seqObj "tuple" vs.toArray 0)).push (seqObj "list" #[] 0)=hp3 at kp ht3 hoN
 have fin:∀ (p:Array Nat),p.Perm ([41])->Ms.Up lt p vs.length->P (.done (.ret .none)) { s with heap:=hp3.update a (Obj.mapSeq λ _=>(outV vs p).toArray) }:=λ p hp hu=>by
  refine h p _ _ hp hu (λ b o hb e=>by rw [Heap.get?_update_ne _ _ _ _ hb]; exact kp b o hb e) (get?_update_seq hoN λ _=>(outV vs p).toArray)
 have szO:∀ p:Array Nat,p.Perm ([41])->(outV vs p).toArray.size<=sizeLine + 1:=λ p hp=>by
  have:=hp.size_eq
  simp_all;omega
 rw [list_sort_plain];refine wpAny_bind (listItems_at ho rfl (wpAny_bind (listUpdate_at ho rfl ?_ (by simpa using hz) (Nat.zero_le _))));refine wpAny_bind (seqEpoch_at ho1 rfl (wpAny_bind (wpAny_newTuple ?_ (by simpa using hz))));refine wpAny_bind (wpAny_newList (wpAny_holding ?_) (Nat.zero_le _));show wpAny [6] A _ P E { s with heap:=((s.heap.update a (Obj.mapSeq λ _=>(#[]:Array Value))).push (seqObj "tuple" vs.toArray 0)).push (seqObj "list" #[] 0) };rw [hN];dsimp only;by_cases c:vs.toArray.size < 2
 ·rw [if_pos c,if_pos c];refine wpAny_bind [35];rw [StateT.run_pure];refine wpAny_bind [35]
  have id1:(arrOf (SortSt.mk' general' [31] #[] 7 none)).map (·.2)=(outV vs [41]).toArray:=by
   rw [vq1];show [31].map (·.2)=vs.toArray;apply Array.toList_inj.mp;simp [List.map_snd_zip]
  dsimp only;rw [id1];have pr:=Array.Perm.refl [41];refine wpAny_bind (seqEpoch_at hoN rfl (wpAny_bind (listUpdate_at hoN rfl ?_ (Nat.zero_le _) (szO _ pr))));simp only [bne_self_eq_false,Bool.false_eq_true,if_false];refine wpAny_pure (fin _ pr ?_);intro x y hxy hy;have:x=y:=by simp at c; omega
  subst this;exact Ms.le_rf K.od _
 ·rw [if_neg c,if_neg c];have c2:2<=vs.length:=by simp at c; omega
  refine wpAny_bind (K.kd c2 { s with heap:=hp3 } ht3 ?_);refine wpAny_bind (wpAny_mono (Ts.run_idx (vs:=vs) (lt:=lt) (s:={ s with heap:=hp3 }) (κ:=κ) K.od c2 K.sm λ i j x y e1 e2 C hc=>K.cm { s with heap:=hp3 } i j x y hU ht3 e1 e2 C hc) ?_ λ _ _ z=>z)
  ·rintro ⟨⟨⟩,st'⟩ s' ⟨rfl,p,pp,pu,hp1,hp2⟩;dsimp only;rw [kat_snds rfl hp1];refine wpAny_bind (seqEpoch_at hoN rfl (wpAny_bind (listUpdate_at hoN rfl ?_ (Nat.zero_le _) (szO _ pp))));rw [hp2];simp only [bne_self_eq_false,Bool.false_eq_true,if_false];exact wpAny_pure (fin _ pp pu)
theorem sj2 {l:Addr} {Q:[7]} (K:SK prog w vs lt κ J U) (hU:A.units + 2<=U) (hl:s.heap.IsList l vs.toArray) (hJ:∀ h':Heap,(∀ b o,s.heap.get? b=some o->h'.get? b=some o)->J h') (h64:vs.length<=sizeLine)
    (h:∀ (p:Array Nat) (h':Heap) (c:Nat),p.Perm ([41])->Ms.Up lt p vs.length->(∀ b o,s.heap.get? b=some o->h'.get? b=some o) ->
     h'.get? [36]=some (seqObj "list" (outV vs p).toArray c)->Q (.ref [36]) { s with heap:=h' }) :
    wpAny [6] A (call (.builtin "sorted") [.ref l]) Q E s:=by
 have hz:=h64;refine Calls.call_function_entry kind_sorted plain_sorted entry_sorted (args_sorted1 _) ?_;unfold Builtin.«sorted»;refine wpAny_bind (m:=checkCount "sorted" 1 1 _) (wpAny_pure (wpAny_bind (collect_list hl ?_ hz)));refine wpAny_bind (wpAny_newList ?_ hz)
 have z1:[23].objs.size=s.heap.objs.size + 1:=by
  simp
 have kp:∀ b o,s.heap.get? b=some o->([23].push (seqObj "list" vs.toArray 0)).get? b=some o:=λ b o q=>by
  have hb:b < s.heap.objs.size:=Heap.lt_size q;exact Heap.get?_push_of_some _ (by rw [Heap.get?_update_ne _ _ _ _ (Nat.ne_of_lt hb)]; exact Heap.get?_push_of_some _ q)
 have zo:([23].push (seqObj "list" vs.toArray 0)).get? [36]=some (seqObj "list" vs.toArray 0):=by
  have q:=Heap.get?_push_size [23] (o:=seqObj "list" vs.toArray 0) rfl
  simp_all
 show wpAny _ _ _ _ _ { s with heap:=[23].push (seqObj "list" vs.toArray 0) };rw [z1];generalize [23].push (seqObj "list" vs.toArray 0)=hp at kp zo;refine wpAny_bind (wpAny_holding (wpAny_call_entry slot_list_sort ⟨_,zo,rfl⟩ entry_list_sort (ua2 (s:={ s with heap:=hp }) K (by simpa using hU) zo (λ h' g=>hJ h' λ b o q=>g b o (Nat.ne_of_lt (Nat.lt_succ_of_lt (Heap.lt_size q))) (kp b o q)) h64 λ p h' c a1 a2 a3 a4=>⟨_,rfl,?_⟩) (args_list_sort _)));refine wpAny_pure ⟨_,rfl,h p h' c a1 a2 (λ b o q=>a3 b o (Nat.ne_of_lt (Nat.lt_succ_of_lt (Heap.lt_size q))) (kp b o q)) a4⟩
end
def Lw {α β:Type} (R:β->α->Prop):List β->List α->Prop
 | [],[]=>True
 | v :: vs,t :: ts=>R v t /\ Lw R vs ts
 | _,_=>False
theorem Lw.mono {α β:Type} {R S:β->α->Prop} (k:∀ v t,R v t->S v t):∀ {vs:List β} {ts:List α},Lw R vs ts->Lw S vs ts
 | [],[],_=>trivial
 | [],_ :: _,i=>i.elim
 | _ :: _,[],i=>i.elim
 | _ :: _,_ :: _,i=>⟨k _ _ i.1,i.2.mono k⟩
theorem Lw.len {α β:Type} {R:β->α->Prop}:∀ {vs:List β} {ts:List α},Lw R vs ts->vs.length=ts.length
 | [],[],_=>rfl
 | [],_ :: _,i=>i.elim
 | _ :: _,[],i=>i.elim
 | _ :: _,_ :: _,i=>congrArg (· + 1) i.2.len
theorem Lw.get {α:Type} {R:Value->α->Prop} {d:α}:∀ {vs:[24]} {ts:List α},Lw R vs ts->∀ i,i < vs.length->R (vs.getD i .none) (ts.getD i d)
 | [],[],_,i,hi=>absurd hi (Nat.not_lt_zero _)
 | [],_ :: _,z,_,_=>z.elim
 | _ :: _,[],z,_,_=>z.elim
 | _ :: _,_ :: _,z,0,_=>z.1
 | _ :: _,_ :: _,z,i + 1,hi=>z.2.get i (Nat.lt_of_succ_lt_succ hi)
structure TupI {α:Type} (Is:Heap->Value->α->Prop) (lt:α->α->Bool) (d:α):Prop where
 kept:∀ {h h':Heap} {v t},(∀ b o,h.get? b=some o->o.cls=.type "tuple" -> h'.get? b=some o)->Is h v t->Is h' v t
 one:∀ {h v t u},Is h v t->Is h v u->t=u
 ord:∀ ts:List α,Ms.Ord λ i j=>lt (ts.getD i d) (ts.getD j d)
 fst:∀ {h v t},Is h v t->∃ a o i t1 r n,v=.ref a /\ h.get? a=some o /\ o.cls=.type "tuple" /\ o.data=.seq (.int i t1 :: r).toArray n
 lt':∀ {prog w A} {E:Value->Shared->Prop} {s x y a b} {Q:Bool->Shared->Prop},Is s.heap x a->Is s.heap y b->Q (lt a b) s->wpAny (model prog w) A (keyLt' (tuples' true) x y) Q E s
section
variable {α:Type} {Is:Heap->Value->α->Prop} {lt:α->α->Bool} {d:α} {ts:List α}
theorem TupI.firsts (T:TupI Is lt d) {h:Heap}:∀ {vs:[24]} {ts:List α},Lw (Is h) vs ts->∃ fs,KatTups h vs fs /\ fs.length=vs.length /\ ∀ v ∈ fs,∃ i t,v=Value.int i t
 | [],[],_=>⟨[],trivial,rfl,λ _ hv=>nomatch hv⟩
 | [],_ :: _,z=>z.elim
 | _ :: _,[],z=>z.elim
 | v :: vs,t :: ts,z=>by
  obtain ⟨fs,f1,f2,f3⟩:=T.firsts z.2;obtain ⟨a,o,i,t1,r,n,rfl,e2,e3,e4⟩:=T.fst z.1;refine ⟨.int i t1 :: fs,KatTups.cons e2 e3 e4 rfl f1,by simp_all,λ x hx=>?_⟩;rcases List.mem_cons.mp hx with rfl | hx
  ·simp
  ·exact f3 x hx
theorem TupI.at (T:TupI Is lt d) (z:Lw (Is h) vs ts) {i:Nat} (e:vs[i]?=some v):Is h v (ts.getD i d):=by
 have g:=z.get (d:=d) i (List.getElem?_eq_some_iff.mp e).1
 simp_all
theorem TupI.sk (T:TupI Is lt d) (z:Lw (Is h) vs ts):SK prog w vs (λ i j=>lt (ts.getD i d) (ts.getD j d)) (tuples' true) (λ h=>Lw (Is h) vs ts) U where
 od:=T.ord ts
 kd:=λ h2 {A E} s {Q} z q=>by
  obtain ⟨fs,f1,f2,f3⟩:=T.firsts z;refine kat_kind f1 [5] (T:=.type "int") (λ v hv=>?_) [27] ?_
  ·obtain ⟨i,t,rfl⟩:=f3 v hv;exact Looks.of_pure rfl
  assumption
 sm:=λ i j v e1 e2 k=>by
  rw [T.one (T.at z e1) (T.at z e2)];trivial
 cm:=λ {A} s i j x y _ z e1 e2 C hc=>T.lt' (T.at z e1) (T.at z e2) hc
theorem TupI.keep (T:TupI Is lt d) {h':Heap} {a:Addr} {us:Array Value} (ho:h.get? a=some (seqObj "list" us n)) (k:∀ b o,b ≠ a->h.get? b=some o->h'.get? b=some o) (z:Lw (Is h) vs ts):Lw (Is h') vs ts :=
 z.mono λ _ _=>T.kept λ b o e ec=>k b o (λ z=>by subst z; rw [ho] at e; cases e; exact no_lt ec) e
end
abbrev T3s (h:Heap):List Value->List T3->Prop:=Lw (IsT3 h)
theorem ti3:TupI IsT3 lt3 (0,0,0) where
 kept:=λ k ⟨a,o,t1,t2,t3,n,e1,e2,e3,e4⟩=>⟨a,o,t1,t2,t3,n,e1,k _ _ e2 e3,e3,e4⟩
 one:=IsT3.one
 ord:=tr3
 fst:=λ ⟨a,o,t1,t2,t3,n,e1,e2,e3,e4⟩=>⟨a,o,_,t1,_,n,e1,e2,e3,e4⟩
 lt':=xi5
abbrev V3s (K:Fg) (H:Hp):List V->List T3->Prop:=Lw λ v t=>∃ a,v=.ref a /\ H a=some (.tup [.int t.1,.int t.2.1,.int t.2.2])
variable {X:Cx}
section
theorem wv0 {pins:[18]} {σ:L2.St} {H:Hp} {s:Shared} (I:[8]):∀ {vs:List V} {ts:List T3} {us:[24]},V3s X.K H vs ts->Vals vs us->T3s s.heap us ts
 | [],[],_,_,.nil=>trivial
 | [],_ :: _,_,z,_=>z.elim
 | _ :: _,[],_,z,_=>z.elim
 | v :: vs,t :: ts,_,z,.cons r rs=>by
  obtain ⟨⟨a,rfl,hq⟩,z⟩:=z;refine ⟨?_,wv0 I z rs⟩;cases r;obtain ⟨its,rv,⟨o,p1,p2,n,p3⟩,_⟩:=I.tuple (SqT.of hq);cases rv with
  | cons r1 rv =>
   cases rv with
   | cons r2 rv =>
    cases rv with
    | cons r3 rv =>
     cases rv;obtain ⟨t1,rfl⟩:=r1;obtain ⟨t2,rfl⟩:=r2;obtain ⟨t3,rfl⟩:=r3;exact ⟨a,o,t1,t2,t3,n,rfl,p1,p2,p3⟩
theorem xq0 {vs:List V} {us:[24]} (r:Vals vs us):∀ (l:List Nat),(∀ i ∈ l,i < vs.length)->Vals (l.map λ i=>vs.getD i .non) (l.map λ i=>us.getD i Value.none)
 | [],_=>.nil
 | i :: l,h=>by
  refine .cons ?_ (xq0 r l λ j hj=>h j (mem_cons_of_mem _ hj));have hi:=h i (mem_cons_self ..);obtain ⟨u,e,z⟩:=Vals.get r (i:=i) (x:=vs.getD i .non) [26]
  simp_all
end
noncomputable def encT (t:T3):D:=.tup [.int t.1,.int t.2.1,.int t.2.2]
noncomputable def t3?:D->Option T3
 | .tup [.int a,.int b,.int c]=>some (a,b,c)
 | _=>none
noncomputable def t3s?:List D->Option (List T3)
 | []=>some []
 | d :: r=>match t3? d with
  | some t=>match t3s? r with
   | some ts=>some (t :: ts)
   | none=>none
  | none=>none
theorem vu1:∀ ts:List T3,t3s? (ts.map encT)=some ts
 | []=>rfl
 | t :: ts=>by simp only [map_cons,t3s?,encT,t3?,vu1 ts]
theorem th3 {d:D} {t:T3} (h:t3? d=some t):d=encT t:=by
 unfold t3? at h;split at h
 ·cases h; rfl
 ·cases h
theorem xb3:∀ {l:List D} {ts:List T3},t3s? l=some ts->l=ts.map encT
 | [],ts,h=>by cases h; rfl
 | d :: r,ts,h=>by
  unfold t3s? at h;split at h
  ·next t e =>
   split at h
   ·next us e2=>cases h; rw [th3 e,xb3 e2]; rfl
   ·cases h
  ·cases h
theorem xz0 {K:Fg} {H:Hp}:∀ {ts:List T3} {vs:List V},RelDs K H (ts.map encT) vs->V3s K H vs ts
 | [],_,.nil=>trivial
 | t :: ts,_,.cons r rs=>by
  refine ⟨?_,xz0 rs⟩;cases r with
  | tup hq r2 =>
   cases r2 with
   | cons x r2 =>
    cases r2 with
    | cons y r2 =>
     cases r2 with
     | cons z r2 =>
      cases r2;cases x;cases y;cases z
      simp_all
def le3 (a b:T3):Prop:=lt3 b a=false
section
variable {α:Type} {d0:α} {enc:α->D} {lt:α->α->Bool}
theorem yn0 {K:Fg} {H:Hp} {ts:List α} {vs:List V} (r:RelDs K H (ts.map enc) vs):∀ (l:List Nat),(∀ i ∈ l,i < vs.length)->RelDs K H ((l.map λ i=>ts.getD i d0).map enc) (l.map λ i=>vs.getD i .non)
 | [],_=>.nil
 | i :: l,h=>by
  refine .cons ?_ (yn0 r l λ j hj=>h j (mem_cons_of_mem _ hj));have hi:=h i (mem_cons_self ..);have hl:=r.length;rw [length_map] at hl;obtain ⟨v,e,z⟩:=r.get (i:=i) (d:=enc (ts.getD i d0)) [26]
  simp_all
theorem uz0 {ts:List α} {q:Array Nat} (h:q.Perm (List.toArray (List.range ts.length))):(q.toList.map λ i=>ts.getD i d0).Perm ts:=by
 have h1:q.toList.Perm (List.range ts.length):=h.toList;refine (h1.map _).trans (List.Perm.of_eq ?_);apply ext_getElem
 ·simp
 simp_all
theorem uv1 {ts:List α} {q:Array Nat} (h:q.Perm (List.toArray (List.range ts.length))) (u:Ms.Up (λ i j=>lt (ts.getD i d0) (ts.getD j d0)) q ts.length):(q.toList.map λ i=>ts.getD i d0).Pairwise λ a b=>lt b a=false:=by
 have sz:q.size=ts.length:=by have:=h.size_eq; simpa using this
 rw [List.pairwise_iff_getElem];intro i j hi hj hij;simp only [length_map,length_toList] at hi hj;have z:=u i j (Nat.le_of_lt hij) [5];simp only [List.getElem_map,Array.getElem_toList];have e1:Ms.at' q i=q[i]:=by simp_all
 have e2:Ms.at' q j=q[j]:=by simp_all
 rw [e1,e2] at z;exact z
def rSort (K:Fg) (enc:α->D) (lt:α->α->Bool) (d0:α):List V->Hp->VK->Prop:=λ xs H Q=>∃ (p:Addr) (vs:List V) (ts:List α),xs=[.ref p] /\ SqL K H p vs /\ RelDs K H (ts.map enc) vs /\ vs.length<=sizeLine ∧
 ∀ q:Array Nat,q.Perm ([41])->Ms.Up (λ i j=>lt (ts.getD i d0) (ts.getD j d0)) q vs.length->∀ r,H r=none->Q (.ref r) (upd H r (.lst (q.toList.map λ i=>vs.getD i .non)))
theorem zy1 {Is:Heap->Value->α->Prop} {srt:C3} (T:TupI Is lt d0) (rl:∀ {pins σ H s},Inv X pins σ H s->∀ {t v u},RelD X.K H (enc t) v->RelV v u->Is s.heap u t)
    (hs:∀ {ds μ Q},srt ds μ Q->∃ (p:Addr) (ts:List α),ds=[.ref p] /\ μ p=some (.lst (ts.map enc)) /\ ts.length<=sizeLine /\ ∀ us:List α,us.Perm ts->(us.Pairwise λ a b=>lt b a=false)->∀ r,μ r=none->Q (.ref r) (updM μ r (.lst (us.map enc)))):RC X (.builtin "sorted") srt:=by
 refine ⟨rSort X.K enc lt d0,?_,λ xs vs H Q μ Q3 m r h k=>?_⟩
 ·intro pins s σ H xs us Q I r h;obtain ⟨p,vs,ts,rfl,hq,h3,h64,k⟩:=h;cases r with
  | cons r rr =>
   cases rr;cases r;obtain ⟨its,rv,pl,hz⟩:=I.list hq;have hl:=rv.length
   have lw:∀ {ts:List α} {vs:List V} {us:[24]},RelDs X.K H (ts.map enc) vs->Vals vs us->Lw (Is s.heap) us ts:=λ {ts}=>by
    induction ts with
    | nil=>intro vs us a b; cases a; cases b; trivial
    | cons t ts ih=>intro vs us a b; cases a with | cons a1 a2=>cases b with | cons b1 b2=>exact ⟨rl I a1 b1,ih a2 b2⟩
   have z:=lw h3 rv;refine sj2 (T.sk z) [21] pl.isList (λ h' g=>z.mono λ _ _=>T.kept λ b o e _=>g b o e) [5] λ q h' c a1 a2 a3 a4=>?_;have a1':q.Perm [41]:=by rw [hl]; exact a1
   have lt':∀ i ∈ q.toList,i < vs.length:=λ i hi=>by
    have e:i ∈ List.toArray (List.range vs.length):=a1'.mem_iff.mp (by simpa using hi);simpa using e
   have sz:q.toList.length=vs.length:=by have:=a1'.size_eq; simpa using this
   have nw:s.heap.objs.size<=s.heap.objs.size + 1:=Nat.le_succ _;refine ⟨.ref _,_,I.laid (t':=s.toks) a3 nw (show ObjOk X.prog X.w _ h' _ (.lst (q.toList.map λ i=>vs.getD i .non)) from ⟨by simp_all,_,c,xq0 rv _ lt',a4⟩),rfl,k q a1' (by rw [hl]; exact a2) _ (I.hok.fresh nw)⟩
 ·obtain ⟨p,ts,rfl,e,h1,h2⟩:=hs h;cases r with
  | cons r1 r2 =>
   cases r2;cases r1;obtain ⟨us,hv,rv⟩:=m p _ e;have hl:=rv.length;rw [length_map] at hl;refine ⟨p,us,ts,rfl,SqL.of hv,rv,by omega,λ q a1 a2 r hr=>?_⟩;rw [<- hl] at a1 a2
   have lt':∀ i ∈ q.toList,i < us.length:=λ i hi=>by
    have e:i ∈ List.toArray (List.range ts.length):=a1.mem_iff.mp (by simpa using hi)
    simp_all
   exact k _ _ _ _ (h2 _ (uz0 (d0:=d0) a1) (uv1 a1 a2) r (m.free hr)) (Kp.new hr) (.ref r) (m.newL hr (yn0 rv _ lt'))
end
def srtR:C3:=λ ds μ Q=>match ds with
 | [.ref p]=>match μ p with
  | some (.lst l)=>match t3s? l with
   | some ts=>ts.length<=sizeLine /\ ∀ us:List T3,us.Perm ts->us.Pairwise le3->∀ r,μ r=none->Q (.ref r) (updM μ r (.lst (us.map encT)))
   | none=>False
  | _=>False
 | _=>False
section
theorem xr2:RC X (.builtin "sorted") srtR:=by
 refine zy1 (enc:=encT) ti3 (λ {_ _ _ _} I {t v u} a b=>?_) λ {ds μ Q} h=>?_
 ·exact (wv0 I (xz0 (ts:=[t]) (.cons a .nil)) (.cons b .nil)).1
 ·unfold srtR at h;split at h
  ·next p =>
   split at h
   ·next l e =>
    split at h
    ·next ts e2=>exact ⟨p,ts,rfl,by rw [e,xb3 e2],h.1,h.2⟩
    ·exact h.elim
   ·exact h.elim
  ·exact h.elim
end
theorem zl1 {K:Fg} {H:Hp}:∀ {ts:List T3} {vs:List V},V3s K H vs ts->RelDs K H (ts.map encT) vs
 | [],[],_=>.nil
 | [],_ :: _,z=>z.elim
 | _ :: _,[],z=>z.elim
 | t :: ts,v :: vs,z=>by
  obtain ⟨⟨a,rfl,hq⟩,z⟩:=z;exact .cons (.tup hq (.cons (.int _) (.cons (.int _) (.cons (.int _) .nil)))) (zl1 z)
end Pv
namespace Pv
open PySem PySem.Spec PyProof.Rows L2
open PySem.AutoSeq1 (wpAny_loadPart')
theorem ndlt (x y:Int):(!decide (x < y))=decide (y<=x):=by
 by_cases h:x < y
 ·simp_all
 simp_all
theorem yt3 (p q:Addr) (a b:T3) (t1 t2 t3 u1 u2 u3:Tok) (n m:Nat) (dd dd2:Option Addr) (sl sl2:Array (Option Value)) :
    Meets (Builtin.«tuple.__ge__» ⟨[.ref p,.ref q],[]⟩) (λ A R s=>s.heap.get? p=some { cls:=.type "tuple",dict:=dd,data:=.seq #[.int a.1 t1,.int a.2.1 t2,.int a.2.2 t3] n,slots:=sl } /\ s.heap.get? q=some { cls:=.type "tuple",dict:=dd2,data:=.seq #[.int b.1 u1,.int b.2.1 u2,.int b.2.2 u3] m,slots:=sl2 } ∧
     R (.ok (.ret (.bool (!lt3 a b)))) s) :=
 .of_wp λ prog w A R s h=>by
  obtain ⟨hp,g,dr,tk,os⟩:=s; obtain ⟨hl,hb,h⟩:=h;obtain ⟨a1,a2,a3⟩:=a;obtain ⟨b1,b2,b3⟩:=b;have f2:=AutoSeq1.sub_tuple_tuple;have ge:∀ (x y:Int) (tx ty:Tok) {Q:[7]} {E:[7]} {A:Around} {s:Shared},Q (.bool (decide (y<=x))) s->wpAny [6] A (richCompare .GtE (.int x tx) (.int y ty)) Q E s:=λ x y tx ty Q E A s hq=>ge_int hq;have eqb:∀ (x y:Int) (tx ty:Tok) {Q:Bool->Shared->Prop} {E:[7]} {A:Around} {s:Shared},Q (x == y) s->wpAny [6] A (eqBool (.int x tx) (.int y ty)) Q E s:=λ x y tx ty Q E A s hq=>wpAny_eqBool_int hq
  wp_walk using wpAny_loadPart' hl,wpAny_loadPart' hb,eqb a1 b1 t1 u1
  by_cases h1:a1=b1
  ·rw [show (a1 == b1)=true by simpa using h1]
   wp_walk using eqb a2 b2 t2 u2
   by_cases h2:a2=b2
   ·rw [show (a2 == b2)=true by simpa using h2]
    wp_walk using eqb a3 b3 t3 u3
    by_cases h3:a3=b3
    ·rw [show (a3 == b3)=true by simpa using h3]
     wp_walk
     have h':R (.ok (.ret (.bool true))) ⟨hp,g,dr,tk,os⟩:=by simpa [lt3,h1,h2,h3] using h
     exact ⟨_,rfl,h'⟩
    ·rw [show (a3 == b3)=false by simpa using h3]
     wp_walk using ge a3 b3 t3 u3
     have e:(!lt3 (a1,a2,a3) (b1,b2,b3))=decide (b3<=a3):=by rw [show lt3 (a1,a2,a3) (b1,b2,b3)=decide (a3 < b3) by subst h1 h2; simp [lt3],ndlt]
     simp_all
   ·rw [show (a2 == b2)=false by simpa using h2]
    wp_walk using ge a2 b2 t2 u2
    have e:(!lt3 (a1,a2,a3) (b1,b2,b3))=decide (b2<=a2):=by rw [show lt3 (a1,a2,a3) (b1,b2,b3)=decide (a2 < b2) by subst h1; simp [lt3,h2],ndlt]
    simp_all
  ·rw [show (a1 == b1)=false by simpa using h1]
   wp_walk using ge a1 b1 t1 u1
   have e:(!lt3 (a1,a2,a3) (b1,b2,b3))=decide (b1<=a1):=by rw [show lt3 (a1,a2,a3) (b1,b2,b3)=decide (a1 < b1) by simp [lt3,h1],ndlt]
   simp_all
section
variable {X:Cx}
def ge3R:R3:=λ x y μ Q=>match t3? x,t3? y with
 | some a,some b=>Q (.bl (!lt3 a b)) μ
 | _,_=>False
def rGe3 (K:Fg):R2:=λ x y H Q=>∃ p q a b,x=.ref p /\ y=.ref q /\ SqT K H p [.int a.1,.int a.2.1,.int a.2.2] /\ SqT K H q [.int b.1,.int b.2.1,.int b.2.2] /\ Q (.bl (!lt3 a b)) H
theorem sz3 {x y z:V} {us:[24]} (r:Vals [x,y,z] us):∃ a b c,us=[a,b,c] /\ RelV x a /\ RelV y b /\ RelV z c:=by
 cases r with
 | cons r1 r =>
  cases r with
  | cons r2 r =>
   cases r with
   | cons r3 r=>cases r; exact ⟨_,_,_,rfl,r1,r2,r3⟩
theorem ty4 (hu:X.A.units < cLine):OpR X (compareOp .GtE) (rGe3 X.K):=by
 intro pins s σ H x y v u Q I rx ry h;obtain ⟨p,q,a,b,rfl,rfl,ha,hb,k⟩:=h;cases rx;cases ry;obtain ⟨its,r1,⟨⟨c1,d1,e1,l1⟩,o1,o2,n1,o3⟩,_⟩:=I.tuple ha;obtain ⟨its2,r2,⟨⟨c2,d2,e2,l2⟩,o4,o5,n2,o6⟩,_⟩:=I.tuple hb;obtain ⟨_,_,_,rfl,⟨t1,rfl⟩,⟨t2,rfl⟩,⟨t3,rfl⟩⟩:=sz3 r1;obtain ⟨_,_,_,rfl,⟨u1,rfl⟩,⟨u2,rfl⟩,⟨u3,rfl⟩⟩:=sz3 r2;dsimp only at o2 o3 o5 o6;subst o2 o3 o5 o6;exact richCompare_meets_room (op:=.GtE) (T := "tuple") ⟨_,o1,rfl⟩ ⟨_,o4,rfl⟩ PySem.F.slot_tuple_ge PySem.F.entry_tuple_ge (PySem.F.args_tuple_ge_2 _ _) (yt3 p q a b t1 t2 t3 u1 u2 u3 n1 n2 d1 d2 l1 l2) ⟨o1,o4,by simp,⟨.bl (!lt3 a b),H,I,rfl,k⟩⟩ hu
theorem q_ge3 (hu:[42]):RO X (compareOp .GtE) ge3R:=by
 refine ⟨_,ty4 [5],λ x y v u H Q μ Q3 m rx ry h k=>?_⟩;unfold ge3R at h;split at h
 ·next a b ea eb =>
  rw [th3 ea] at rx;rw [th3 eb] at ry;obtain ⟨p,rfl,hp⟩:=(xz0 (ts:=[a]) (.cons rx .nil)).1;obtain ⟨q,rfl,hq⟩:=(xz0 (ts:=[b]) (.cons ry .nil)).1;exact ⟨p,q,a,b,rfl,rfl,SqT.of hp,SqT.of hq,k _ _ _ _ h (Kp.refl _) (.bl _) m⟩
 ·exact h.elim
end
end Pv
namespace L2
open PySem PySem.Spec PyProof.Rows
variable {u:Value} {y:V}
section
variable {κ:Type} [DecidableEq κ]
noncomputable def valV (kvs:List (κ × V)) (k:κ):Option V:=(kvs.find? λ kv=>decide (kv.1=k)).map (·.2)
noncomputable def putK (kvs:List (κ × V)) (k:κ) (v:V):List (κ × V) :=
 if (kvs.any λ kv=>decide (kv.1=k))=true then kvs.map (λ kv=>if kv.1=k then (kv.1,v) else kv) else kvs ++ [(k,v)]
theorem tk0 {p:κ × V} {r:List (κ × V)} {k:κ} (e:p.1=k):valV (p :: r) k=some p.2:=by simp [valV,find?_cons,e]
theorem sk0 {p:κ × V} {r:List (κ × V)} {k:κ} (e:¬ p.1=k):valV (p :: r) k=valV r k:=by simp [valV,find?_cons,e]
theorem zv0 (k:κ):∀ kvs:List (κ × V),(kvs.any λ kv=>decide (kv.1=k))=(valV kvs k).isSome
 | []=>rfl
 | p :: r=>by
  rw [any_cons];by_cases e:p.1=k
  ·simp only [tk0 e,decide_eq_true e,Bool.true_or,Option.isSome_some]
  ·rw [sk0 e,decide_eq_false e,Bool.false_or]; exact zv0 k r
theorem sj0 (kvs:List (κ × V)) (k:κ) (v:V):(putK kvs k v).length<=kvs.length + 1:=by
 unfold putK;split
 ·rw [length_map]; omega
 ·rw [length_append,length_cons,length_nil]; omega
theorem RelO.isSome_eq {o:Option V} {u:Option Value} (r:RelO o u):o.isSome=u.isSome:=by
 cases o with
 | none=>cases u with
  | none=>rfl
  | some _=>exact (show False from r).elim
 | some _=>cases u with
  | none=>exact (show False from r).elim
  | some _=>rfl
theorem KV.val {kvs:List (κ × V)} {vs:List (κ × Value)} (r:KV kvs vs) (k:κ):RelO (valV kvs k) (valueAt vs k):=by
 unfold KV at r
 induction r with
 | nil=>exact True.intro
 | @cons p q ps qs h t ih =>
  obtain ⟨h1,h2⟩:=h;by_cases e:p.1=k
  ·have e':q.1=k:=h1.symm.trans e;have b:valueAt (q :: qs) k=some q.2:=by simp [valueAt,find?_cons,e']
   rw [tk0 e,b]; exact h2
  ·have e':¬ q.1=k:=λ z=>e (h1.trans z);have b:valueAt (q :: qs) k=valueAt qs k:=by simp [valueAt,find?_cons,e']
   rw [sk0 e,b]; exact ih
theorem KV.any {kvs:List (κ × V)} {vs:List (κ × Value)} (r:KV kvs vs) (k:κ):(kvs.any λ kv=>decide (kv.1=k))=vs.any λ kv=>decide (kv.1=k):=by
 unfold KV at r
 induction r with
 | nil=>rfl
 | cons h t ih=>rw [any_cons,any_cons,ih,h.1]
theorem KV.repl {kvs:List (κ × V)} {vs:List (κ × Value)} (r:KV kvs vs) (k:κ) (ry:RelV y u) :
    KV (kvs.map λ kv=>if kv.1=k then (kv.1,y) else kv) (vs.map λ kv=>if kv.1=k then (kv.1,u) else kv):=by
 unfold KV at r ⊢
 induction r with
 | nil=>exact .nil
 | @cons p q ps qs h t ih =>
  rw [map_cons,map_cons];refine .cons ?_ ih;obtain ⟨h1,h2⟩:=h;by_cases e:p.1=k
  ·rw [if_pos e,if_pos (h1.symm.trans e)]; exact ⟨h1,ry⟩
  ·rw [if_neg e,if_neg (λ z=>e (h1.trans z))]; exact ⟨h1,h2⟩
theorem KV.put {kvs:List (κ × V)} {vs:List (κ × Value)} (r:KV kvs vs) (k:κ) (ry:RelV y u):KV (putK kvs k y) (stored vs k u):=by
 unfold putK stored;rw [r.any k];by_cases e:(vs.any λ kv=>decide (kv.1=k))=true
 ·rw [if_pos e,if_pos e]; exact r.repl k ry
 ·rw [if_neg e,if_neg e]; exact Paired.snoc r ⟨rfl,ry⟩
theorem KV.length {kvs:List (κ × V)} {vs:List (κ × Value)} (r:KV kvs vs):kvs.length=vs.length:=Paired.length r
end
variable {P:Program} {w:World}
theorem sb2 {k:Key} (r:RelV (kV k) u):(xe0 P w).is k u=true:=by
 cases k with
 | inl i=>obtain ⟨t,e⟩:=(show ∃ t,u=Value.int i t from r); subst e; exact zg1 P w i t
 | inr x=>obtain ⟨t,e⟩:=(show ∃ t,u=Value.str x t from r); subst e; exact yg1 P w x t
theorem tb1 {P:Program} {w:World}:∀ {ks:List Key} {us:[24]},Vals (ks.map kV) us->ItemsAre (xe0 P w) ks us
 | [],_,r=>by rw [map_nil] at r; cases r; exact .nil
 | k :: ks,_,r=>by
  rw [map_cons] at r;cases r with
  | cons h t=>exact .cons (sb2 h) (tb1 t)
abbrev KT (H:Hp):List (List Key × V)->List (List Key × Addr × Value)->Prop:=Paired λ p q=>p.1=q.1 /\ H q.2.1=some (.tup (p.1.map kV)) /\ RelV p.2 q.2.2
variable {H:Hp} {kvs:List (List Key × V)} {xs:List (List Key × Addr × Value)}
theorem KT.val (r:KT H kvs xs) (k:List Key):RelO (valV kvs k) ((atKey xs k).map (·.2)):=by
 induction r with
 | nil=>exact True.intro
 | @cons p q ps qs h t ih =>
  obtain ⟨h1,_,h2⟩:=h;by_cases e:p.1=k
  ·have e':q.1=k:=h1.symm.trans e;have b:atKey (q :: qs) k=some q.2:=by simp [atKey,find?_cons,e']
   rw [tk0 e,b]; exact h2
  ·have e':¬ q.1=k:=λ z=>e (h1.trans z);have b:atKey (q :: qs) k=atKey qs k:=by simp [atKey,find?_cons,e']
   rw [sk0 e,b]; exact ih
theorem KT.repl (r:KT H kvs xs) (k:List Key) (ry:RelV y u) :
    KT H (kvs.map λ kv=>if kv.1=k then (kv.1,y) else kv) (xs.map (putAt k u)):=by
 induction r with
 | nil=>exact .nil
 | @cons p q ps qs h t ih =>
  rw [map_cons,map_cons];refine .cons ?_ ih;obtain ⟨h1,h2,h3⟩:=h;unfold putAt;by_cases e:p.1=k
  ·rw [if_pos e,if_pos (h1.symm.trans e)]; exact ⟨h1,h2,ry⟩
  ·rw [if_neg e,if_neg (λ z=>e (h1.trans z))]; exact ⟨h1,h2,h3⟩
theorem KT.put (r:KT H kvs xs) (k:List Key) {b:Addr} (hb:H b=some (.tup (k.map kV))) (ry:RelV y u) :
    KT H (putK kvs k y) (storedH xs k b u):=by
 have e:(kvs.any λ kv=>decide (kv.1=k))=(atKey xs k).isSome:=by
  rw [zv0,(r.val k).isSome_eq,Option.isSome_map]
 unfold putK storedH;rw [e];by_cases q:(atKey xs k).isSome=true
 ·rw [if_pos q,if_pos q]; exact r.repl k ry
 ·rw [if_neg q,if_neg q]; exact Paired.snoc r ⟨rfl,hb,ry⟩
variable {H':Hp}
theorem KT.keeps (r:KT H kvs xs) (ht:∀ b ys,H b=some (.tup ys)->H' b=some (.tup ys)):KT H' kvs xs :=
 Paired.mapP r λ _ _ z=>⟨z.1,ht _ _ z.2.1,z.2.2⟩
variable {prog:Program} {A:Around} {E Q:[7]} {s:Shared} {h:Heap} {ep:Nat}
section
variable {K:Type} [DecidableEq K] {knd:HeapKind prog w K} 
def DHe (knd:HeapKind prog w K) (h:Heap) (d:Addr) (xs:List (K × Addr × Value)) (ep:Nat):Prop :=
 ∃ o es,h.get? d=some o /\ o.ExactDict /\ o.data=.dict es ep /\ es.toList=xs.map (entryOfKey knd) /\ (∀ x ∈ xs,knd.is h x.1 x.2.1) /\ (xs.map (·.1)).Nodup
theorem DHe.of {d:Addr} {xs:List (K × Addr × Value)} (x:DHe knd h d xs ep):h.DictOfH knd d xs:=by
 obtain ⟨o,es,a⟩:=x; exact ⟨o,es,ep,a⟩
theorem DHe.new {d a:Addr} {xs:List (K × Addr × Value)} {k:K} {v:Value} {o:Obj} {es:Array DictEntry} {hs:Int} (ho:s.heap.get? d=some o) (hc:o.ExactDict) (hd:o.data=.dict es ep) (he:es.toList=xs.map (entryOfKey knd))
    (his:∀ x ∈ xs,knd.is s.heap x.1 x.2.1) (hn:(xs.map (·.1)).Nodup) (hkey:knd.is s.heap k a) (hno:∀ (j:Nat) (p:Addr × Value),xs[j]? ≠ some (k,p)) (eh:entryOfKey knd (k,a,v)=⟨hs,.ref a,v⟩) :
    DHe knd (s.heap.update d (Obj.mapDictKeys (·.push ⟨hs,.ref a,v⟩))) d (storedH xs k a v) (ep + 1):=by
 have hnot:k ∉ xs.map (·.1):=not_mem_keys_of_get hno;rw [storedH_new (atKey_none_of_get hno)];refine ⟨_,_,Heap.get?_update_self _ ho (Obj.isFreed_of_dict (Obj.data_mapDictKeys hd _)),hc.mapDictKeys _,Obj.data_mapDictKeys hd _,by simp [he,eh],λ c mc=>?_,?_⟩
 ·rcases List.mem_append.mp mc with mc | mc; · exact knd.keeps (his c mc) ho hd (Heap.SameBut.update ..)
  rw [mem_singleton] at mc; subst mc; exact knd.keeps hkey ho hd (Heap.SameBut.update ..)
 ·rw [map_append,nodup_append]; refine ⟨hn,by simp,λ c mc c' mc'=>?_⟩;have e':c'=k:=by simpa using mc'
  subst e'; exact λ e=>hnot (e ▸ mc)
theorem vu3 {d a:Addr} {xs:List (K × Addr × Value)} {k:K} {v:Value} {Q:Unit->Shared->Prop} (hu:knd.room A) (hkey:knd.is s.heap k a) (hm:DHe knd s.heap d xs ep) (hsz:xs.length<=sizeLine)
    (hQ:∀ h' ep',ep'=(if (atKey xs k).isSome then ep else ep + 1)->DHe knd h' d (storedH xs k a v) ep'->Heap.SameBut d s.heap h'->Q () { s with heap:=h',toks:=s.toks + knd.draws k }) :
    wpAny [6] A (dictSet d (.ref a) v) Q E s:=by
 obtain ⟨o,es,ho,hc,hd,he,his,hn⟩:=hm;unfold dictSet; try with_reducible refine wpAny_holding ?_
 refine wpAny_bind (knd.pyHash hu hkey ?_); unfold dictSetHashed; try with_reducible refine wpAny_holding ?_
 refine wpAny_bind (wpAny_dictFind_heap (s:={ s with toks:=s.toks + knd.draws k }) hu hkey ho hd he his hn (λ hno=>?_) λ j p hj=>?_)
 ·exact wpAny_bind (wpAny_rule (wpAny_updateDictKeys (hz:=by have e:=size_of_entries he; omega) (s:={ s with toks:=s.toks + knd.draws k }) ho hd (hQ _ (ep + 1) (by rw [atKey_none_of_get hno]; rfl) (DHe.new ho hc hd he his hn hkey hno rfl) (Heap.SameBut.update ..))))
 ·have ak:=atKey_of_get hn hj;refine wpAny_bind (wpAny_rule (wpAny_bind (wpAny_updateDict (s:={ s with toks:=s.toks + knd.draws k }) ho hd (wpAny_point (hQ _ ep (by rw [ak]; rfl) ⟨_,_,Heap.get?_update_self _ ho (Obj.isFreed_of_dict (Obj.data_mapDict hd _)),hc.mapDict _,Obj.data_mapDict hd _,?_,?_,?_⟩ (Heap.SameBut.update ..))))))
  ·rw [storedH_old ak]; have z:=modify_map_putAt (entryOfKey knd) (λ e:DictEntry=>{ e with val:=v }) k v (λ _ _=>rfl) hn hj;rw [<- he] at z; obtain ⟨l⟩:=es; simpa using z
  ·rw [storedH_old ak]; intro c mc; obtain ⟨y,my,rfl⟩:=List.mem_map.mp mc; unfold putAt; split <;> exact knd.keeps (his y my) ho hd (Heap.SameBut.update ..)
  ·rw [storedH_old ak,keys_map_putAt]; exact hn
theorem wg4 {d a:Addr} {xs:List (K × Addr × Value)} {k:K} {v:Value} {Q:Unit->Shared->Prop} (hu:knd.room A.in1) (hkey:knd.is s.heap k a) (hm:DHe knd s.heap d xs ep) (hsz:xs.length<=sizeLine)
    (hQ:∀ h' ep',ep'=(if (atKey xs k).isSome then ep else ep + 1)->DHe knd h' d (storedH xs k a v) ep'->Heap.SameBut d s.heap h'->Q () { s with heap:=h',toks:=s.toks + knd.draws k }) :
    wpAny [6] A (setItem (.ref d) (.ref a) v) Q E s:=by
 have ty:=hm.of.typeIs;unfold setItem; try with_reducible refine wpAny_holding ?_
 refine wpAny_bind (wpAny_sequenceKey ty [27] (wpAny_bind (wpAny_callSpecial?_slot (name:=Str.ofString "__setitem__") ty slot_dict_setitem (wpAny_call_entry slot_dict_setitem ty entry_dict_setitem ?_ (args_dict_setitem _ _ _)))));refine (show wpAny _ _ (Builtin.Dict.notOrdered "__setitem__" ⟨[.ref d,.ref a,v],[]⟩ >>= _) _ _ s from wpAny_bind (wpAny_notOrdered_dict ty ?_));exact (show wpAny _ _ (dictSet d (.ref a) v >>= _) _ _ s from wpAny_bind (vu3 hu hkey hm hsz λ h' ep' e1 dd hs=>wpAny_pure ⟨.none,rfl,wpAny_pure (hQ h' ep' e1 dd hs)⟩))
theorem zw1 {d a:Addr} {xs:List (K × Addr × Value)} {k:K} {v:Value} (hu:knd.room A) (hkey:knd.is s.heap k a) (hm:DHe knd s.heap d xs ep) (hsz:xs.length<=sizeLine)
    (h1:∀ p,atKey xs k=some p->Q p.2 { s with toks:=s.toks + knd.draws k })
    (h2:atKey xs k=none->∀ h',DHe knd h' d (storedH xs k a v) (ep + 1)->Heap.SameBut d s.heap h'->Q v { s with heap:=h',toks:=s.toks + knd.draws k }) :
    wpAny [6] A (dictSetDefault d (.ref a) v) Q E s:=by
 obtain ⟨o,es,ho,hc,hd,he,his,hn⟩:=hm;unfold dictSetDefault; try with_reducible refine wpAny_holding ?_
 refine wpAny_bind (knd.pyHash hu hkey (wpAny_bind (wpAny_dictFind_heap (s:={ s with toks:=s.toks + knd.draws k }) hu hkey ho hd he his hn (λ hno=>?_) λ j p hj=>?_)))
 ·exact wpAny_bind (wpAny_rule (wpAny_bind (wpAny_updateDictKeys (hz:=by have e:=size_of_entries he; omega) (s:={ s with toks:=s.toks + knd.draws k }) ho hd (wpAny_pure (h2 (atKey_none_of_get hno) _ (DHe.new ho hc hd he his hn hkey hno rfl) (Heap.SameBut.update ..))))))
 ·refine wpAny_bind (wpAny_dictEntries (s:={ s with toks:=s.toks + knd.draws k }) ho hd ?_); rw [entry_at he j,hj];exact wpAny_bind (wpAny_rule (wpAny_pure (h1 p (atKey_of_get hn hj))))
end
theorem wb2 {κ:Type} [DecidableEq κ] (kvs:List (κ × V)) (k:κ) (v:V):(putK kvs k v).length=if (valV kvs k).isSome then kvs.length else kvs.length + 1:=by
 unfold putK; rw [zv0]; split <;> simp
section
variable {a:Addr}
theorem vt4 {u:HO} (ok:HOk P w H h) (e:Rd H a u):ObjOk P w H h a u:=e.ok ok
theorem vf2 {kvs:List (Key × V)} (ok:HOk P w H h) (e:Rd H a (.dK kvs)):kvs.length<=sizeLine /\ (a == sysModules)=false /\ ∃ vs,KV kvs vs /\ h.DictOf (xe0 P w) a vs :=
 show ObjOk P w H h a (.dK kvs) from vt4 ok e
theorem dk_of {kvs:List (Key × V)} (ok:HOk P w H h) (e:H a=some (.dK kvs)):kvs.length<=sizeLine /\ (a == sysModules)=false /\ ∃ vs,KV kvs vs /\ h.DictOf (xe0 P w) a vs:=vf2 ok (.inl e)
theorem zu0 {ks:List Key} (ok:HOk P w H h) (e:H a=some (.tup (ks.map kV))):(tupleKind (xe0 P w)).is h ks a:=by
 obtain ⟨_,its,r,o,h1,h2,n,h3⟩:=(show ObjOk P w H h a (.tup (ks.map kV)) from ok a _ e);exact ⟨o,its.toArray,n,h1,h2,h3,by simpa using tb1 r⟩
theorem zs1 {ne:Nat} (ok:HOk P w H h) (e:Rd H a (.dT kvs ne)):kvs.length<=sizeLine /\ (a == sysModules)=false ∧
    ∃ xs,KT H kvs xs /\ DHe (tupleKind (xe0 P w)) h a xs ne:=by
 obtain ⟨z,y,xs,r,o,es,ep,h1,h2,h3,h4,h5,h6⟩:=(show ObjOk P w H h a (.dT kvs ne) from vt4 ok e);subst h6;refine ⟨z,y,xs,r,o,es,h1,h2,h3,h4,λ x hx=>?_,h5⟩
 have all:∀ {l:List (List Key × V)} {m:List (List Key × Addr × Value)},KT H l m->∀ x ∈ m,(tupleKind (xe0 P w)).is h x.1 x.2.1:=by
  intro l m q
  induction q with
  | nil=>intro x hx; exact nomatch hx
  | @cons p q ps qs hq t ih =>
   intro x hx;rcases List.mem_cons.mp hx with e | hx
   ·subst e;exact zu0 ok (by rw [<- hq.1]; exact hq.2.1)
   ·exact ih x hx
 exact all r x hx
theorem xx2 (ok:HOk P w H h) (e:∃ ne,Rd H a (.dT kvs ne)):kvs.length<=sizeLine /\ (a == sysModules)=false /\ ∃ xs,KT H kvs xs /\ h.DictOfH (tupleKind (xe0 P w)) a xs:=by
 obtain ⟨ne,e⟩:=e; obtain ⟨z,y,xs,r,d⟩:=zs1 ok e; exact ⟨z,y,xs,r,d.of⟩
end
def DGet (H:Hp) (a:Addr) (y:V) (r:Option V):Prop :=
 (∃ kvs k,Rd H a (.dK kvs) /\ y=kV k /\ r=valV kvs k) \/ ∃ kvs k b,(∃ ne,Rd H a (.dT kvs ne)) /\ y=.ref b /\ H b=some (.tup (k.map kV)) /\ r=valV kvs k
def DPut (H:Hp) (a:Addr) (y v:V) (H':Hp):Prop :=
 (∃ kvs k,H a=some (.dK kvs) /\ y=kV k /\ kvs.length < sizeLine /\ H'=upd H a (.dK (putK kvs k v))) ∨
 ∃ kvs k b ne,H a=some (.dT kvs ne) /\ y=.ref b /\ H b=some (.tup (k.map kV)) /\ kvs.length < sizeLine /\ H'=upd H a (.dT (putK kvs k v) (if (valV kvs k).isSome then ne else ne + 1))
theorem DGet.k {H:Hp} {a:Addr} {kvs:List (Key × V)} {k:Key} (e:H a=some (.dK kvs)):DGet H a (kV k) (valV kvs k):=.inl ⟨kvs,k,.inl e,rfl,rfl⟩
theorem DGet.t {a b:Addr} {k:List Key} {ne:Nat} (e:H a=some (.dT kvs ne)) (eb:H b=some (.tup (k.map kV))):DGet H a (.ref b) (valV kvs k):=.inr ⟨kvs,k,b,⟨ne,.inl e⟩,rfl,eb,rfl⟩
theorem DPut.k {H:Hp} {a:Addr} {kvs:List (Key × V)} {k:Key} {v:V} (e:H a=some (.dK kvs)) (hl:kvs.length < sizeLine):DPut H a (kV k) v (upd H a (.dK (putK kvs k v))):=.inl ⟨kvs,k,e,rfl,hl,rfl⟩
theorem DPut.t {a b:Addr} {k:List Key} {v:V} {ne:Nat} (e:H a=some (.dT kvs ne)) (eb:H b=some (.tup (k.map kV))) (hl:kvs.length < sizeLine) :
    DPut H a (.ref b) v (upd H a (.dT (putK kvs k v) (if (valV kvs k).isSome then ne else ne + 1))):=.inr ⟨kvs,k,b,ne,e,rfl,eb,hl,rfl⟩
variable {X:Cx} {pins:[18]} {σ:St} {h':Heap}
section
variable {a:Addr} {v:V} {r:Value} {o:Option V} 
theorem Inv.big (I:[8]):sysModules < s.heap.objs.size:=by
 have h:mainGlobals < s.heap.objs.size:=(I.mod.glob.keeps I.bk).lt;exact Nat.lt_trans [27] h
theorem vg2 (hu:A.units + 1 < cLine) (I:[8]) (g:DGet H a y (some v)) (ry:RelV y u) (h:∀ w' s',Inv X pins σ H s'->RelV v w'->Q w' s') :
    wpAny [12] A (getItem (.ref a) u) Q E s:=by
 rcases g with ⟨kvs,k,e,ey,l⟩ | ⟨kvs,k,b,e,ey,eb,l⟩
 ·subst ey;obtain ⟨z,hd,vs,rel,dd⟩:=vf2 I.hok e;obtain ⟨w',hw,rw'⟩:=RelO.some_of (v:=v) (o:=valueAt vs k) (by rw [l]; exact rel.val k);exact wpAny_getItem_of (sb2 ry) dd.mapOf hw (h w' _ (I.tok _) rw')
 ·subst ey;cases (show u=Value.ref b from ry);obtain ⟨z,hd,xs,rel,dd⟩:=xx2 I.hok e;obtain ⟨w',hw,rw'⟩:=RelO.some_of (v:=v) (o:=(atKey xs k).map (·.2)) (by rw [l]; exact rel.val k);obtain ⟨p,hp,hp2⟩:=Option.map_eq_some_iff.mp hw;refine wpAny_getItem_heap (tupleKind_room_in1 hu) (zu0 I.hok eb) dd hp ?_;rw [hp2];exact h w' _ (I.tok _) rw'
theorem d_in (hu:A.units + 1 < cLine) (I:[8]) (g:DGet H a y o) (ry:RelV y u) (h:∀ s',Inv X pins σ H s'->Q (.bool o.isSome) s') :
    wpAny [12] A (compareOp .In u (.ref a)) Q E s:=by
 rcases g with ⟨kvs,k,e,ey,l⟩ | ⟨kvs,k,b,e,ey,eb,l⟩
 ·subst ey;obtain ⟨z,hd,vs,rel,dd⟩:=vf2 I.hok e;refine wpAny_in_of (sb2 ry) hd dd.mapOf ?_;rw [<- (rel.val k).isSome_eq,<- l];exact h _ (I.tok _)
 ·subst ey;cases (show u=Value.ref b from ry);obtain ⟨z,hd,xs,rel,dd⟩:=xx2 I.hok e;refine wpAny_in_heap (tupleKind_room_in1 hu) (zu0 I.hok eb) hd dd ?_;have q:=(rel.val k).isSome_eq;rw [Option.isSome_map] at q;rw [<- q,<- l];exact h _ (I.tok _)
theorem wg2 (hu:A.units + 1 < cLine) (I:[8]) (g:DGet H a y o) (ry:RelV y u) (h:∀ s',Inv X pins σ H s'->Q (.bool (!o.isSome)) s') :
    wpAny [12] A (compareOp .NotIn u (.ref a)) Q E s:=by
 rcases g with ⟨kvs,k,e,ey,l⟩ | ⟨kvs,k,b,e,ey,eb,l⟩
 ·subst ey;obtain ⟨z,hd,vs,rel,dd⟩:=vf2 I.hok e;refine wpAny_notIn_of (sb2 ry) hd dd.mapOf ?_;rw [<- (rel.val k).isSome_eq,<- l];exact h _ (I.tok _)
 ·subst ey;cases (show u=Value.ref b from ry);obtain ⟨z,hd,xs,rel,dd⟩:=xx2 I.hok e;refine wpAny_notIn_heap (tupleKind_room_in1 hu) (zu0 I.hok eb) hd dd ?_;have q:=(rel.val k).isSome_eq;rw [Option.isSome_map] at q;rw [<- q,<- l];exact h _ (I.tok _)
theorem xi1 {t':Nat} {ob:HO} (I:[8]) (mu:Mut (H a)) (hs:Heap.SameBut a s.heap h') (he:∃ q,h'.get? a=some q) (new:ObjOk X.prog X.w (upd H a ob) h' a ob) :
    Inv X pins σ (upd H a ob) { s with heap:=h',toks:=t' } :=
 I.write (x:=a) (e:=a) mu (.inl rfl) (λ b q hb z=>(hs.2 b hb).trans z) he new
theorem vd5 {kvs:List (Key × V)} {vs:List (Key × Value)} (z:kvs.length<=sizeLine) (hd:(a == sysModules)=false) (rel:KV kvs vs) (dd:h'.DictOf (xe0 P w) a vs) :
    ObjOk P w H' h' a (.dK kvs):=⟨z,hd,vs,rel,dd⟩
theorem zg2 {Q:Unit->Shared->Prop} (hu:A.units + 1 < cLine) (I:[8]) (g:DPut H a y v H') (ry:RelV y u) (rv:RelV v r) (h:∀ s',Inv X pins σ H' s'->Q () s') :
    wpAny [12] A (setItem (.ref a) u r) Q E s:=by
 rcases g with ⟨kvs,k,e,ey,l,eH⟩ | ⟨kvs,k,b,ne,e,ey,eb,l,eH⟩
 ·subst ey eH;obtain ⟨z,hd,vs,rel,dd⟩:=dk_of I.hok e;have hz:vs.length<=sizeLine:=by rw [<- rel.length]; exact z
  have hl:(putK kvs k v).length<=sizeLine:=by have:=sj0 kvs k v; omega
  refine wpAny_setItem_pairs (hsz:=hz) (sb2 ry) dd λ h' dd' hs=>h _ ?_;have he:∃ q,h'.get? a=some q:=let ⟨q,_,_,hq,_⟩:=dd'; ⟨q,hq⟩
  exact xi1 I (by rw [e]; exact True.intro) hs he (vd5 hl hd (rel.put k rv) dd')
 ·subst ey eH;cases (show u=Value.ref b from ry);obtain ⟨z,hd,xs,rel,dd⟩:=zs1 I.hok (.inl e);have hz:xs.length<=sizeLine:=by rw [<- Paired.length rel]; exact z
  have hl:(putK kvs k v).length<=sizeLine:=by have:=sj0 kvs k v; omega
  refine wg4 (tupleKind_room_in1 hu) (zu0 I.hok eb) dd hz λ h' ep' e1 dd' hs=>h _ ?_;obtain ⟨q,es,hq,h2,h3,h4,_,h5⟩:=dd';have e2:ep'=if (valV kvs k).isSome then ne else ne + 1:=by rw [e1,(rel.val k).isSome_eq,Option.isSome_map]
  refine xi1 I (by rw [e]; exact True.intro) hs ⟨q,hq⟩ ⟨hl,hd,_,(rel.put k eb rv).keeps λ c ys ec=>?_,q,es,ep',hq,h2,h3,h4,h5,e2⟩;rw [xb0 (ul0 ec e (λ z=>nomatch z))];exact ec
end
def NoSl (i:Expr):Prop:=∀ ov iv,subscripted i false ov iv=operate [ov,iv] (getItem ov iv)
theorem sh3 {env:Env} {value slice:Expr} {pos:Pos} {T id:String} 
    (hl:typeLookup (.type T) "__getitem__" = pure (some (.builtin id))) (hs:NoSl slice)
    (h:wpAny [6] A (eval value env) (λ o s₁=>wpAny [6] A (eval slice env) (λ i s₂=>s₂.TypeIs o T /\ wpAny [6] A (getItem o i) Q E s₂) E s₁) E s) :
    wpAny [6] A (eval (.Subscript value slice pos) env) Q E s:=by
 refine Subscript_ (wpAny_mono h (λ o s₁ h₁=>wpAny_mono h₁ (λ i s₂ h₂=>?_) λ _ _ x=>x) λ _ _ x=>x);obtain ⟨hT,h₂⟩:=h₂;unfold subscriptTail;refine wpAny_bind ?_;rw [getitemInPython_of_ne hT.not_modules];refine wpAny_bind (wpAny_specialOf hT hl ?_)
 have fin:wpAny [6] A (subscripted slice false o i) (λ r s₃=>wpAny [6] A (letTemporaryGo value o r >>= λ _=>pure r) Q E s₃) E s₂:=by
  rw [hs o i];exact wpAny_operating (wpAny_mono h₂ (λ r s₃ h₃=>wpAny_bind (wpAny_letTemporaryGo (wpAny_pure h₃))) λ _ _ x=>x)
 first
  | exact wpAny_pure (wpAny_bind fin)
  | exact wpAny_bind (wpAny_pure (wpAny_bind fin))
  | exact wpAny_bind fin
theorem uh1 {a:Addr} {o:Option V} (I:[8]) (g:DGet H a y o):s.TypeIs (.ref a) "dict" := by
 rcases g with ⟨kvs,k,e,_,_⟩ | ⟨kvs,k,b,e,_,_,_⟩
 ·obtain ⟨_,_,vs,_,dd⟩:=vf2 I.hok e;exact dd.typeIs
 ·obtain ⟨_,_,xs,_,dd⟩:=xx2 I.hok e;exact dd.typeIs
def vh5 (td ty:TE):TE:=λ σ H Q=>td σ H λ x H1=>ty σ H1 λ y H2=>∃ a v,x=.ref a /\ DGet H2 a y (some v) /\ Q v H2
def tj5 (td ty tv:TE):TS:=λ D σ H=>tv σ H λ v H1=>td σ H1 λ x H2=>ty σ H2 λ y H3=>∃ a H4,x=.ref a /\ DPut H3 a y v H4 /\ D.nx σ H4
section
variable {o i e value:Expr} {pos pos' tpos:Pos} {td ty tv:TE}
theorem wp3 (hu:X.A.units + 1 < cLine) (ho:PE X o td) (hi:PE X i ty) (hs:NoSl i):PE X (.Subscript o i pos) (vh5 td ty):=by
 intro pins s σ H Q I h;refine sh3 PySem.F.slot_dict_getitem.lookup hs (thn (ho pins s σ H _ I h) λ u s1 ⟨x,H1,I1,rx,q1⟩=>thn (hi pins s1 σ H1 _ I1 q1) λ iv s2 ⟨y,H2,I2,ry,a,v,ex,g,q2⟩=>?_);subst ex;obtain rfl:u=Value.ref a:=rx;exact ⟨uh1 I2 g,vg2 hu I2 g ry λ w' s3 I3 rw'=>⟨v,H2,I3,rw',q2⟩⟩
theorem uy1 (hu:X.A.units + 1 < cLine) (ho:PE X o td) (hi:PE X i ty) (hv:PE X value tv) (hs:swapsWith value (some (.Subscript o i pos')) pos.line X.env=pure false) :
    PS X (.Assign [.Subscript o i pos'] value pos) (tj5 td ty tv):=by
 intro pins s σ H D I h;refine wpAny_Assign_Subscript (thn (hv pins s σ H _ I h) λ r s1 ⟨v,H1,I1,rv,q1⟩=>thn (ho pins s1 σ H1 _ I1 q1) λ u s2 ⟨x,H2,I2,rx,q2⟩=>thn (hi pins s2 σ H2 _ I2 q2) λ iv s3 ⟨y,H3,I3,ry,a,H4,ex,g,q3⟩=>?_) hs;subst ex;obtain rfl:u=Value.ref a:=rx;exact zg2 hu I3 g ry rv λ s4 I4=>⟨σ,H4,I4,q3⟩
end
theorem zx2 (h:Heap) (hb:sysModules < h.objs.size):ObjOk P w H (h.push { cls:=.type "dict",data:=.dict #[] }) h.objs.size (.dK []) :=
 ⟨Nat.zero_le _,beq_eq_false_iff_ne.mpr (Ne.symm (Nat.ne_of_lt hb)),[],.nil,Heap.DictOf.new h⟩
theorem yx2 (h:Heap) (hb:sysModules < h.objs.size):ObjOk P w H (h.push { cls:=.type "dict",data:=.dict #[] }) h.objs.size (.dT [] 0) :=
 ⟨Nat.zero_le _,beq_eq_false_iff_ne.mpr (Ne.symm (Nat.ne_of_lt hb)),[],.nil,_,#[],0,Heap.get?_push_size _ rfl,⟨rfl,rfl,rfl⟩,rfl,rfl,nodup_nil,rfl⟩
def ve4:TE:=λ _ H Q=>∀ p,H p=none->Q (.ref p) (upd H p (.dK []))
def we4:TE:=λ _ H Q=>∀ p,H p=none->Q (.ref p) (upd H p (.dT [] 0))
section
variable {pos:Pos}
theorem ts2:PE X (.Dict [] [] pos) ve4:=λ pins s σ H Q I h =>
 wpAny_Dict_empty ⟨.ref s.heap.objs.size,_,I.laid (a:=s.heap.objs.size) (o:=.dK []) (t':=s.toks) (λ _ _ q=>Heap.get?_push_of_some _ q) [21] (zx2 s.heap I.big),rfl,h _ (I.hok.fresh [21])⟩
theorem us2:PE X (.Dict [] [] pos) we4:=λ pins s σ H Q I h =>
 wpAny_Dict_empty ⟨.ref s.heap.objs.size,_,I.laid (a:=s.heap.objs.size) (o:=.dT [] 0) (t':=s.toks) (λ _ _ q=>Heap.get?_push_of_some _ q) [21] (yx2 s.heap I.big),rfl,h _ (I.hok.fresh [21])⟩
end
structure M1 (X:Cx) (o:Expr) (m:Str) (apos:Pos) (e:Expr) (cpos:Pos):Prop where
 base:attributeBase o m X.env (eval o X.env)=eval o X.env
 few:((backTo cpos (starEach [e] X.env)).all (λ x=>!x.1) && (backToKw cpos (keywordEach [] X.env)).all (λ x=>x.1.isSome)
  && decide (([e]:List Expr).length + ([]:List Keyword).length + (if ([]:List Keyword).isEmpty then 0 else 1) < 30))=true
 line:(apos.endLine == cpos.line)=true
 trees:backTo cpos (starEach [e] X.env)=[(false,eval e X.env)]
structure M2 (X:Cx) (o:Expr) (m:Str) (apos:Pos) (e f:Expr) (cpos:Pos):Prop where
 base:attributeBase o m X.env (eval o X.env)=eval o X.env
 few:((backTo cpos (starEach [e,f] X.env)).all (λ x=>!x.1) && (backToKw cpos (keywordEach [] X.env)).all (λ x=>x.1.isSome)
  && decide (([e,f]:List Expr).length + ([]:List Keyword).length + (if ([]:List Keyword).isEmpty then 0 else 1) < 30))=true
 line:(apos.endLine == cpos.line)=true
 trees:backTo cpos (starEach [e,f] X.env)=[(false,eval e X.env),(false,eval f X.env)]
end L2
namespace Pv
open PySem PySem.Spec PyProof.Rows L2
noncomputable def keyI:D->Option (List Int)
 | .tup l=>ints? l
 | _=>none
noncomputable def valL (kvs:List (List Int × D)) (k:List Int):Option D:=(kvs.find? λ kv=>decide (kv.1=k)).map (·.2)
noncomputable def putL (kvs:List (List Int × D)) (k:List Int) (y:D):List (List Int × D):=if (kvs.any λ kv=>decide (kv.1=k))=true then kvs.map (λ kv=>if kv.1=k then (kv.1,y) else kv) else kvs ++ [(k,y)]
def dnl3:TE3:=λ _ μ Q=>∀ p,μ p=none->Q (.ref p) (updM μ p (.dcl false []))
def dgR:R3:=λ x y μ Q=>match x,keyI y with
 | .ref p,some k=>match μ p with
  | some (.dcl _ kvs)=>match valL kvs k with
   | some v=>Q v μ
   | none=>False
  | _=>False
 | _,_=>False
def dinR (neg:Bool):R3:=λ y x μ Q=>match x,keyI y with
 | .ref p,some k=>match μ p with
  | some (.dcl _ kvs)=>Q (.bl (if neg then !(valL kvs k).isSome else (valL kvs k).isSome)) μ
  | _=>False
 | _,_=>False
def zf2 (to ti tv:TE3):TS3:=λ D' ρ μ=>tv ρ μ λ v μ1=>to ρ μ1 λ x μ2=>ti ρ μ2 λ y μ3=>match x,keyI y with
 | .ref p,some k=>match μ3 p with
  | some (.dcl b kvs)=>kvs.length < 90000 /\ D'.nx ρ (updM μ3 p (.dcl b (putL kvs k v)))
  | _=>False
 | _,_=>False
variable {H:Hp}
theorem Kp.wrD {p:Addr} {o:HO} {xs:List (List Key × V)} {ne:Nat} (h:H p=some (.dT xs ne)):Kp H (upd H p o) :=
 [15]
variable {K:Fg} {μ:Mu} {kvs:List (List Int × D)} {vs:List (List Key × V)} {b0:Bool}
theorem RelM.newC {p:Addr} {ne:Nat} (h:H p=none) (r:RelKl K H kvs vs) (cl:b0=false->ne=vs.length) (m:RelM K μ H):RelM K (updM μ p (.dcl b0 kvs)) (upd H p (.dT vs ne)):=m.put (Kp.new h) (.dcl r cl)
theorem RelM.wrC {p:Addr} {ws:List (List Key × V)} {ne n2:Nat} (h:H p=some (.dT ws ne)) (r:RelKl K H kvs vs) (c0:b0=false->n2=vs.length) (m:RelM K μ H):RelM K (updM μ p (.dcl b0 kvs)) (upd H p (.dT vs n2)):=m.put (Kp.wrD h) (.dcl r c0)
theorem tm1:∀ {a b:List Int},kL a=kL b->a=b
 | [],[],_=>rfl
 | [],_ :: _,h=>by cases h
 | _ :: _,[],h=>by cases h
 | x :: a,y :: b,h=>by
  have h':(Sum.inl x:Key) :: kL a=Sum.inl y :: kL b:=h;injection h' with h1 h2
  cases h1;rw [tm1 h2]
theorem RelKl.len {l:List (List Int × D)} (r:RelKl K H l vs):l.length=vs.length:=by
 induction r with
 | nil=>rfl
 | cons _ _ ih=>simp_all
theorem RelKl.any {K:Fg} {H:Hp} {t:List Int} {l:List (List Int × D)} {vs:List (List Key × V)} (r:RelKl K H l vs):(vs.any λ kv=>decide (kv.1=kL t))=l.any λ kv=>decide (kv.1=t):=by
 induction r with
 | nil=>rfl
 | cons _ _ ih =>
  rw [any_cons,any_cons,ih];congr 1;rw [decide_eq_decide];exact ⟨tm1,λ h=>congrArg kL h⟩
theorem RelKl.val {t:List Int} {l:List (List Int × D)} (r:RelKl K H l vs):(valL l t=none /\ valV vs (kL t)=none) \/ ∃ d v,valL l t=some d /\ valV vs (kL t)=some v /\ RelD K H d v:=by
 induction r with
 | nil=>exact .inl ⟨rfl,rfl⟩
 | cons h _ ih =>
  rename_i t' d' v' l' vs' _;by_cases c:t'=t
  ·subst c;exact .inr ⟨d',v',by simp [valL],tk0 rfl,h⟩
  ·have e1:valL ((t',d') :: l') t=valL l' t:=by simp [valL,c]
   rw [e1,sk0 (p:=(kL t',v')) (λ z=>c (tm1 z))];exact ih
variable {y:D} {v:V}
theorem RelKl.rep {t:List Int} (ry:RelD K H y v) {l:List (List Int × D)} (r:RelKl K H l vs):RelKl K H (l.map λ kv=>if kv.1=t then (kv.1,y) else kv) (vs.map λ kv=>if kv.1=kL t then (kv.1,v) else kv):=by
 induction r with
 | nil=>exact .nil
 | cons h _ ih =>
  rename_i t' d' v' l' vs' _;rw [map_cons,map_cons];by_cases c:t'=t
  ·rw [if_pos c,if_pos (by rw [c])]; exact .cons ry ih
  ·rw [if_neg c,if_neg (λ z=>c (tm1 z))]; exact .cons h ih
theorem RelKl.snoc {K:Fg} {H:Hp} {t:List Int} {y:D} {v:V} (ry:RelD K H y v) {l:List (List Int × D)} {vs:List (List Key × V)} (r:RelKl K H l vs):RelKl K H (l ++ [(t,y)]) (vs ++ [(kL t,v)]):=by
 induction r with
 | nil=>exact .cons ry .nil
 | cons h _ ih=>exact .cons h ih
theorem RelKl.put {t:List Int} (ry:RelD K H y v) {l:List (List Int × D)} (r:RelKl K H l vs):RelKl K H (putL l t y) (putK vs (kL t) v):=by
 unfold putL putK;rw [r.any];split
 ·exact r.rep ry
 ·exact r.snoc ry
theorem wx0 {K:Fg} {H:Hp}:∀ {l:List D} {vs:List V} {k:List Int},RelDs K H l vs->ints? l=some k->vs=(kL k).map kV
 | _,_,k,.nil,e=>by simp [ints?] at e; subst e; rfl
 | _,_,k,.cons h r,e=>by
  cases h with
  | int x =>
   simp only [ints?] at e;split at e
   ·next ys e1 =>
    simp only [Option.some.injEq] at e;subst e;rw [wx0 r e1]; rfl
   ·cases e
  | _=>simp [ints?] at e
theorem zx0 {k:List Int} (r:RelD K H y v) (e:keyI y=some k):∃ b,v=.ref b /\ H b=some (.tup ((kL k).map kV)):=by
 cases r with
 | tup hq rs=>exact ⟨_,rfl,by rw [<- wx0 rs e]; exact hq⟩
 | _=>simp [keyI] at e
variable {o i:Expr} {X:Cx} {to ti:TE3}
section
variable {pos pos':Pos}
theorem vo4:RE X (.Dict [] [] pos) dnl3:=⟨_,us2,λ σ H Q ρ μ Q3 s m h k p hp=>k _ _ _ _ (h p (m.free hp)) (Kp.new hp) (.ref p) (m.newC hp .nil λ _=>rfl)⟩
theorem re_dg (hu:[42]) (ho:RE X o to) (hi:RE X i ti) (hs:NoSl i:=by intro _ _; rfl):RE X (.Subscript o i pos) (o3 dgR to ti):=by
 obtain ⟨vo,po,ro⟩:=ho;obtain ⟨vi,pi,ri⟩:=hi;refine ⟨_,wp3 [5] po pi hs,λ σ H Q ρ μ Q3 s m h k=>ro σ H _ ρ μ _ s m h λ x μ1 a H1 h1 k1 r1 m1=>ri σ H1 _ ρ μ1 _ (s.mono k1) m1 h1 λ y μ2 b H2 h2 k2 r2 m2=>?_⟩;unfold dgR at h2;split at h2
 ·next p kk ek =>
  split at h2
  ·next b0 kvs e =>
   split at h2
   ·next v ev =>
    cases r1;obtain ⟨ws,n9,hw,rk,cl⟩:=m2.dcl p _ kvs e;obtain ⟨b',rfl,hb⟩:=zx0 r2 ek;rcases rk.val (t:=kk) with ⟨z,_⟩ | ⟨d,w,z1,z2,rd⟩
    ·simp_all
    ·rw [ev] at z1;cases z1;have g:=DGet.t (k:=kL kk) hw hb;rw [z2] at g;exact ⟨p,w,rfl,g,k _ _ _ _ h2 (k1.trans k2) rd m2⟩
   ·exact h2.elim
  ·exact h2.elim
 ·exact h2.elim
theorem q_din (neg:Bool) (hu:[42]):RO X (compareOp (if neg then .NotIn else .In)) (dinR neg):=by
 refine ⟨λ y x H Q=>∃ a o,x=.ref a /\ DGet H a y o /\ Q (.bl (if neg then !o.isSome else o.isSome)) H,?_,λ y x b a H Q μ Q3 m ry rx h k=>?_⟩
 ·intro pins s σ H y x u v Q I ry rx h;obtain ⟨a,o,rfl,g,q⟩:=h;cases rx;cases neg with
  | true=>exact wg2 [5] I g ry λ s' I'=>⟨.bl (!o.isSome),H,I',rfl,q⟩
  | false=>exact d_in [5] I g ry λ s' I'=>⟨.bl o.isSome,H,I',rfl,q⟩
 ·unfold dinR at h;split at h
  ·next p kk ek =>
   split at h
   ·next b0 kvs e =>
    cases rx;obtain ⟨ws,n9,hw,rk,cl⟩:=m.dcl p _ kvs e;obtain ⟨b',rfl,hb⟩:=zx0 ry ek;refine ⟨p,_,rfl,DGet.t (k:=kL kk) hw hb,?_⟩
    have es:(valV ws (kL kk)).isSome=(valL kvs kk).isSome:=by
     rcases rk.val (t:=kk) with ⟨z1,z2⟩ | ⟨d,w,z1,z2,_⟩ <;> rw [z1,z2] <;> rfl
    rw [es];exact k _ _ _ _ h (Kp.refl _) (.bl _) m
   ·exact h.elim
  ·exact h.elim
theorem zu4 (hu:[42]):RO X (compareOp .NotIn) (dinR true):=q_din true hu
theorem wl3 {value:Expr} {tv:TE3} (hu:[42]) (ho:RE X o to) (hi:RE X i ti) (hv:RE X value tv) (hs:swapsWith value (some (.Subscript o i pos')) pos.line X.env=pure false:=by rfl) :
    RS X (.Assign [.Subscript o i pos'] value pos) (zf2 to ti tv):=by
 obtain ⟨vo,po,ro⟩:=ho;obtain ⟨vi,pi,ri⟩:=hi;obtain ⟨vv,pv,rv⟩:=hv
 refine ⟨_,uy1 [5] po pi pv hs,λ σ H D ρ μ D3 s m h k=>rv σ H _ ρ μ _ s m h λ y μ1 v H1 h1 k1 r1 m1=>ro σ H1 _ ρ μ1 _ (s.mono k1) m1 h1 λ d μ2 x H2 h2 k2 r2 m2 =>
  ri σ H2 _ ρ μ2 _ (s.mono (k1.trans k2)) m2 h2 λ kd μ3 b H3 h3 k3 r3 m3=>?_⟩
 split at h3
 ·next p kk ek =>
  split at h3
  ·next b0 kvs e =>
   cases r2;obtain ⟨ws,n9,hw,rk,cl⟩:=m3.dcl p _ kvs e;obtain ⟨b',rfl,hb⟩:=zx0 r3 ek;have hl:=rk.len;have hz:(90000:Nat) < sizeLine:=by decide
   refine ⟨p,_,rfl,DPut.t (k:=kL kk) hw hb [5],?_⟩;exact k.nx _ _ _ _ h3.2 (k1.trans (k2.trans (k3.trans (Kp.wrD hw)))) (s.mono (k1.trans (k2.trans (k3.trans (Kp.wrD hw))))) (m3.wrC hw (rk.put (r1.mono (k2.trans k3))) λ z=>by rw [wb2,cl z])
  ·exact h3.elim
 ·exact h3.elim
end
def sdf3 (to:TE3) (t:TA3):TE3:=λ ρ μ Q=>to ρ μ λ x μ1=>match x with
 | .ref p=>match μ1 p with
  | some (.dcl _ _)=>t ρ μ1 λ ds μ2=>match ds with
   | [y,d]=>match keyI y,μ2 p with
    | some k,some (.dcl b kvs)=>kvs.length < 90000 /\ (match valL kvs k with
     | some v=>Q v μ2
     | none=>Q d (updM μ2 p (.dcl b (putL kvs k d))))
    | _,_=>False
   | _=>False
  | _=>False
 | _=>False
def rSd:V->List V->Hp->VK->Prop:=λ x vs H Q=>∃ a kvs k b v ne,x=.ref a /\ vs=[.ref b,v] /\ H a=some (.dT kvs ne) /\ H b=some (.tup (k.map kV)) /\ kvs.length < sizeLine ∧
 (∀ u,valV kvs k=some u->Q u H) /\ (valV kvs k=none->Q v (upd H a (.dT (putK kvs k v) (ne + 1))))
section
theorem mt_sd (hu:X.A.units + 1 < cLine):MtM X "dict.setdefault" rSd:=by
 intro pins s σ H x vs v us Q I rx rv h;obtain ⟨d,kvs,k,b,v0,ne,rfl,rfl,e,eb,l,q1,q2⟩:=h;cases rx;cases rv with
 | cons r1 r2 =>
 cases r2 with
 | cons r2 r3 =>
 cases r3;rename_i u1 u2;cases (show u1=Value.ref b from r1);obtain ⟨z,hd,xs,rel,dd⟩:=zs1 I.hok (.inl e);have hz:xs.length<=sizeLine:=by rw [<- Paired.length rel]; exact z
 refine wpAny_call_entry F.slot_dict_setdefault dd.of.typeIs F.entry_dict_setdefault ?_ (F.args_dict_setdefault_3 _ _ _);unfold Builtin.«dict.setdefault»; refine wpAny_bind ?_;unfold Builtin.Dict.keyAndDefault; refine wpAny_bind (wpAny_notOrdered_dict dd.of.typeIs ?_);refine (show wpAny _ _ (pure (d,Value.ref b,some u2)) _ _ s from wpAny_pure ?_);show wpAny _ _ (if (d == sysModules)=true then _ else (dictSetDefault d (.ref b) u2 >>= _)) _ _ s;rw [if_neg [26]];have rv:=rel.val k;refine wpAny_bind (zw1 (tupleKind_room_in1 hu) (zu0 I.hok eb) dd hz (λ p hp=>wpAny_pure ⟨p.2,rfl,?_⟩) λ hno h' dd' hs'=>wpAny_pure ⟨_,rfl,?_⟩)
 ·rw [hp,Option.map_some] at rv;cases ev:valV kvs k with
  | none=>rw [ev] at rv; exact rv.elim
  | some w'=>rw [ev] at rv; exact ⟨w',H,I.tok _,rv,q1 w' ev⟩
 ·rw [hno,Option.map_none] at rv;cases ev:valV kvs k with
  | some w'=>rw [ev] at rv; exact rv.elim
  | none =>
   have hl:(putK kvs k v0).length<=sizeLine:=by have:=sj0 kvs k v0; omega
   obtain ⟨ob,es,hq,h2,h3,h4,_,h5⟩:=dd';refine ⟨v0,upd H d (.dT (putK kvs k v0) (ne + 1)),xi1 (ob:=.dT (putK kvs k v0) (ne + 1)) I (by rw [e]; exact True.intro) hs' ⟨ob,hq⟩ ⟨hl,hd,_,(rel.put k eb r2).keeps λ c ys ec=>?_,ob,es,_,hq,h2,h3,h4,h5,rfl⟩,r2,q2 ev⟩;rw [xb0 (ul0 ec e (λ z=>nomatch z))]; exact ec
variable {e:Expr} {es:List Expr} {t:TA3} {apos cpos:Pos}
theorem re_sd (hu:[42]) (ho:RE X o to) (ha:RA X (e :: es) t) (hbase:attributeBase o "setdefault" X.env (eval o X.env)=eval o X.env:=by rfl)
    (hfew:((backTo cpos (starEach (e :: es) X.env)).all (λ x=>!x.1) && (backToKw cpos (keywordEach [] X.env)).all (λ x=>x.1.isSome)
     && decide [22])=true:=by rfl)
    (hline:(apos.endLine == cpos.line)=true:=by rfl) (hs:starEach (e :: es) X.env=[34] :: starEach es X.env:=by rfl) (hplain:(backTo cpos (starEach es X.env)).any (·.1)=false:=by rfl) :
    RE X (.Call (.Attribute o "setdefault" apos) (e :: es) [] cpos) (sdf3 to t):=by
 obtain ⟨va,pa,ra⟩:=ho;obtain ⟨vb,pb,rb⟩:=ha;refine ⟨_,sp3 PySem.F.plainAttrs_dict PySem.F.slot_dict_setdefault PySem.F.type_dict_setdefault (mt_sd [5]) pa pb hbase hfew hline hs hplain,λ σ H Q ρ μ Q3 s m h k=>ra σ H _ ρ μ _ s m h λ x μ1 v H1 h1 k1 r1 m1=>?_⟩;split at h1
 ·next p =>
  split at h1
  ·next b0 kvs0 e0 =>
   cases r1;obtain ⟨ws0,n9,hw0,_,cl⟩:=m1.dcl p _ kvs0 e0;refine ⟨.inr (.inr (.inl ⟨rfl,.inr ⟨ws0,_,hw0⟩⟩)),rb σ H1 _ ρ μ1 _ (s.mono k1) m1 h1 λ ds μ2 vs H2 h2 k2 r2 m2=>?_⟩;split at h2
   ·next y d =>
    cases r2 with
    | cons ry r2 =>
    cases r2 with
    | cons rd r2 =>
    cases r2;split at h2
    ·next kk b1 kvs ek e =>
     obtain ⟨ws,n9,hw,rk,cl⟩:=m2.dcl p _ kvs e;obtain ⟨b,rfl,hb⟩:=zx0 ry ek;have hl:=rk.len;have hz:(90000:Nat) < sizeLine:=by decide
     refine ⟨p,ws,kL kk,b,_,_,rfl,rfl,hw,hb,by omega,λ u eu=>?_,λ eu=>?_⟩
     ·rcases rk.val (t:=kk) with ⟨_,z2⟩ | ⟨d',w',z1,z2,rd'⟩
      ·simp_all
      ·rw [eu] at z2; cases z2; rw [z1] at h2; exact k _ _ _ _ h2.2 (k1.trans k2) rd' m2
     ·rcases rk.val (t:=kk) with ⟨z1,_⟩ | ⟨d',w',_,z2,_⟩
      ·rw [z1] at h2; exact k _ _ _ _ h2.2 (k1.trans (k2.trans (Kp.wrD hw))) (rd.mono (Kp.wrD hw)) (m2.wrC hw (rk.put rd) λ z=>by rw [wb2,eu,cl z]; rfl)
      simp_all
    ·exact h2.elim
   ·exact h2.elim
  ·exact h1.elim
 ·exact h1.elim
end
noncomputable def keyK:D->Option Key
 | .int i=>some (.inl i)
 | .str x=>some (.inr x)
 | _=>none
noncomputable def valK (kvs:List (Key × D)) (k:Key):Option D:=(kvs.find? λ kv=>decide (kv.1=k)).map (·.2)
noncomputable def putY (kvs:List (Key × D)) (k:Key) (y:D):List (Key × D):=if (kvs.any λ kv=>decide (kv.1=k))=true then kvs.map (λ kv=>if kv.1=k then (kv.1,y) else kv) else kvs ++ [(k,y)]
def dnk3:TE3:=λ _ μ Q=>∀ p,μ p=none->Q (.ref p) (updM μ p (.dck []))
def uf2 (neg:Bool):R3:=λ y x μ Q=>match x,keyK y with
 | .ref p,some k=>match μ p with
  | some (.dck kvs)=>Q (.bl (if neg then !(valK kvs k).isSome else (valK kvs k).isSome)) μ
  | _=>False
 | _,_=>False
def zo1 (to ti tv:TE3):TS3:=λ D' ρ μ=>tv ρ μ λ v μ1=>to ρ μ1 λ x μ2=>ti ρ μ2 λ y μ3=>match x,keyK y with
 | .ref p,some k=>match μ3 p with
  | some (.dck kvs)=>kvs.length < 90000 /\ D'.nx ρ (updM μ3 p (.dck (putY kvs k v)))
  | _=>False
 | _,_=>False
theorem Kp.wrK {p:Addr} {o:HO} {xs:List (Key × V)} (h:H p=some (.dK xs)):Kp H (upd H p o) :=
 [15]
theorem RelM.newK {p:Addr} (h:H p=none) (m:RelM K μ H):RelM K (updM μ p (.dck [])) (upd H p (.dK [])):=m.put (Kp.new h) (.dck .nil)
theorem RelM.wrK {K:Fg} {μ:Mu} {H:Hp} {p:Addr} {kvs:List (Key × D)} {vs ws:List (Key × V)} (h:H p=some (.dK ws)) (r:RelKk K H kvs vs) (m:RelM K μ H):RelM K (updM μ p (.dck kvs)) (upd H p (.dK vs)):=m.put (Kp.wrK h) (.dck r)
theorem RelKk.len {l:List (Key × D)} {vs:List (Key × V)} (r:RelKk K H l vs):l.length=vs.length:=by
 induction r with
 | nil=>rfl
 | cons _ _ ih=>simp_all
theorem RelKk.any {K:Fg} {H:Hp} {t:Key} {l:List (Key × D)} {vs:List (Key × V)} (r:RelKk K H l vs):(vs.any λ kv=>decide (kv.1=t))=l.any λ kv=>decide (kv.1=t):=by
 induction r with
 | nil=>rfl
 | cons _ _ ih=>simp_all
theorem RelKk.val {t:Key} {l:List (Key × D)} {vs:List (Key × V)} (r:RelKk K H l vs):(valK l t=none /\ valV vs t=none) \/ ∃ d v,valK l t=some d /\ valV vs t=some v /\ RelD K H d v:=by
 induction r with
 | nil=>exact .inl ⟨rfl,rfl⟩
 | cons h _ ih =>
  rename_i t' d' v' l' vs' _;by_cases c:t'=t
  ·subst c;exact .inr ⟨d',v',by simp [valK],tk0 rfl,h⟩
  ·have e1:valK ((t',d') :: l') t=valK l' t:=by simp [valK,c]
   rw [e1,sk0 (p:=(t',v')) c];exact ih
theorem RelKk.put {t:Key} (ry:RelD K H y v) {l:List (Key × D)} {vs:List (Key × V)} (r:RelKk K H l vs):RelKk K H (putY l t y) (putK vs t v):=by
 have rep:∀ {l:List (Key × D)} {vs:List (Key × V)},RelKk K H l vs->RelKk K H (l.map λ kv=>if kv.1=t then (kv.1,y) else kv) (vs.map λ kv=>if kv.1=t then (kv.1,v) else kv):=by
  intro l vs r
  induction r with
  | nil=>exact .nil
  | cons h _ ih =>
   rename_i t' d' v' l' vs' _;rw [map_cons,map_cons];by_cases c:t'=t
   ·rw [if_pos c,if_pos c]; exact .cons ry ih
   ·rw [if_neg c,if_neg c]; exact .cons h ih
 have snoc:∀ {l:List (Key × D)} {vs:List (Key × V)},RelKk K H l vs->RelKk K H (l ++ [(t,y)]) (vs ++ [(t,v)]):=by
  intro l vs r
  induction r with
  | nil=>exact .cons ry .nil
  | cons h _ ih=>exact .cons h ih
 unfold putY putK;rw [r.any];split
 ·exact rep r
 ·exact snoc r
theorem vb2 {k:Key} (r:RelD K H y v) (e:keyK y=some k):v=kV k:=by
 cases r <;> simp [keyK] at e <;> subst e <;> rfl
section
variable {pos pos':Pos}
theorem uo4:RE X (.Dict [] [] pos) dnk3:=⟨_,ts2,λ σ H Q ρ μ Q3 s m h k p hp=>k _ _ _ _ (h p (m.free hp)) (Kp.new hp) (.ref p) (m.newK hp)⟩
theorem yu4 (neg:Bool) (hu:[42]):RO X (compareOp (if neg then .NotIn else .In)) (uf2 neg):=by
 refine ⟨λ y x H Q=>∃ a o,x=.ref a /\ DGet H a y o /\ Q (.bl (if neg then !o.isSome else o.isSome)) H,?_,λ y x b a H Q μ Q3 m ry rx h k=>?_⟩
 ·intro pins s σ H y x u v Q I ry rx h;obtain ⟨a,o,rfl,g,q⟩:=h;cases rx;cases neg with
  | true=>exact wg2 [5] I g ry λ s' I'=>⟨.bl (!o.isSome),H,I',rfl,q⟩
  | false=>exact d_in [5] I g ry λ s' I'=>⟨.bl o.isSome,H,I',rfl,q⟩
 ·unfold uf2 at h;split at h
  ·next p kk ek =>
   split at h
   ·next kvs e =>
    cases rx;obtain ⟨ws,hw,rk⟩:=m.dck p kvs e;cases vb2 ry ek;refine ⟨p,_,rfl,DGet.k (k:=kk) hw,?_⟩
    have es:(valV ws kk).isSome=(valK kvs kk).isSome:=by
     rcases rk.val (t:=kk) with ⟨z1,z2⟩ | ⟨d,w,z1,z2,_⟩ <;> rw [z1,z2] <;> rfl
    rw [es];exact k _ _ _ _ h (Kp.refl _) (.bl _) m
   ·exact h.elim
  ·exact h.elim
theorem xn3 (hu:[42]):RO X (compareOp .NotIn) (uf2 true):=yu4 true hu
theorem tp2 {value:Expr} {tv:TE3} (hu:[42]) (ho:RE X o to) (hi:RE X i ti) (hv:RE X value tv) (hs:swapsWith value (some (.Subscript o i pos')) pos.line X.env=pure false:=by rfl) :
    RS X (.Assign [.Subscript o i pos'] value pos) (zo1 to ti tv):=by
 obtain ⟨vo,po,ro⟩:=ho;obtain ⟨vi,pi,ri⟩:=hi;obtain ⟨vv,pv,rv⟩:=hv
 refine ⟨_,uy1 [5] po pi pv hs,λ σ H D ρ μ D3 s m h k=>rv σ H _ ρ μ _ s m h λ y μ1 v H1 h1 k1 r1 m1=>ro σ H1 _ ρ μ1 _ (s.mono k1) m1 h1 λ d μ2 x H2 h2 k2 r2 m2 =>
  ri σ H2 _ ρ μ2 _ (s.mono (k1.trans k2)) m2 h2 λ kd μ3 b H3 h3 k3 r3 m3=>?_⟩
 split at h3
 ·next p kk ek =>
  split at h3
  ·next kvs e =>
   cases r2;obtain ⟨ws,hw,rk⟩:=m3.dck p kvs e;cases vb2 r3 ek;have hl:=rk.len;have hz:(90000:Nat) < sizeLine:=by decide
   refine ⟨p,_,rfl,DPut.k (k:=kk) hw [5],?_⟩;exact k.nx _ _ _ _ h3.2 (k1.trans (k2.trans (k3.trans (Kp.wrK hw)))) (s.mono (k1.trans (k2.trans (k3.trans (Kp.wrK hw))))) (m3.wrK hw (rk.put (r1.mono (k2.trans k3))))
  ·exact h3.elim
 ·exact h3.elim
end
end Pv
namespace L2
open PySem PySem.Spec PyProof.Rows
noncomputable def It2 (lo:Int) (n:Nat):It:=⟨λ i _=>i < n,λ i H x H'=>H'=H /\ x=.int (lo + i * 2),λ i _=>n<=i⟩
variable {tg:Expr}
theorem wi2 {P:Program} {w:World} {K:PySem.W.Frag} (it:Addr) (lo:Int) (n:Nat):Turn P w K tg (It2 lo n) [it] it (λ i h=>IsRangeIter h it (lo + (i:Nat) * 2) ((n:Int) - (i:Nat)) 2) where
 mem:=by simp
 obj:=λ i h st b hb=>by
  simp_all
 keep:=λ i h h' st k=>k it [17] _ st
 item:=by
  intro X hP hw hK hc i pins s σ H E I hf st hg;subst hP hw hK;obtain ⟨f0,f1,f2,f3,f4,f5⟩:=hf it [17];have W:=Walks.range (prog:=X.prog) (w:=X.w) (I.ok.hd hc) it lo 2 n;refine W.item i s _ _ hg st λ v h' tk hv st' kk=>?_;obtain ⟨t,rfl⟩:=hv;have I1:Inv X pins σ H [19]:=I.turned (λ b o hb e=>kk b o (by simpa using hb) e) f0 f1 f3 f4 f5;exact ⟨_,rfl,xe2 (s:=[19]) (n := "range_iterator") st' rfl rfl [27] ⟨.int (lo + i * 2),H,I1,⟨t,rfl⟩,⟨rfl,rfl⟩,st',λ b hb=>(hf b hb).1⟩⟩
 done:=by
  intro X hP hw hK hc i pins s σ H E I hf st hg;subst hP hw hK;obtain ⟨f0,f1,f2,f3,f4,f5⟩:=hf it [17];exact wpAny_pyNext_range_end (I.ok.hd hc) st (by have:n<=i:=hg; omega) λ h' eb=>⟨rfl,I.turned (t':=s.toks) (λ b o hb e=>eb b o hb e) f0 f1 f3 f4 f5⟩
 self:=λ _ _ _ _ _ st h=>wpAny_pyIter_rangeiter st h
theorem uk1 (a b:Int):Builtin.Range.rangeSize a b 2=(((b - a + 1) / 2).toNat:Int):=by
 simp only [Builtin.Range.rangeSize,show (2:Int) > 0 by decide,if_true];split <;> omega
theorem sv1 {a b:Int} (ha : -(2 ^ 60)<=a) (ha':a < 2 ^ 60) (hb : -(2 ^ 60)<=b) (hb':b < 2 ^ 60):Builtin.Range.small a b 2=true:=by
 unfold Builtin.Range.small;rw [uk1];simp only [Builtin.Range.rangeFitsLong,Bool.and_eq_true,Bool.or_eq_true,decide_eq_true_eq,beq_iff_eq,show (2:Int) > 0 by decide,if_true];omega
section
variable {X:Cx} 
theorem sx1 {pins:[18]} {σ:St} {H:Hp} {s:Shared} {R:It->Hp->Prop} {E:[7]} {lo hi:Int} {t u v:Tok} {tk:Nat} (I:[8]) (h1 : -(2 ^ 60)<=lo) (h2:lo < 2 ^ 60) (h3 : -(2 ^ 60)<=hi) (h4:hi < 2 ^ 60)
    (q:R (It2 lo ((hi - lo + 1) / 2).toNat) H):wpAny [12] X.A (pyIter (.ref s.heap.objs.size)) (PIE X pins σ tg R) E { s with heap:=s.heap.push { cls:=.type "range",data:=.fields #[.int lo t,.int hi u,.int 2 v] },toks:=tk }:=by
 refine wpAny_pyIter_range (IsRange.new ..) (sv1 h1 h2 h3 h4) ?_;have I1:Inv X pins σ H { s with heap:=s.heap.push { cls:=.type "range",data:=.fields #[.int lo t,.int hi u,.int 2 v] },toks:=tk }:=I.kept λ b o e=>Heap.get?_push_of_some _ e
 refine ⟨(s.heap.push { cls:=.type "range",data:=.fields #[.int lo t,.int hi u,.int 2 v] }).objs.size,[(s.heap.push { cls:=.type "range",data:=.fields #[.int lo t,.int hi u,.int 2 v] }).objs.size],_,_,H,rfl,
  I1.kept (t':=tk) λ b o e=>Heap.get?_push_of_some _ e,wi2 _ lo ((hi - lo + 1) / 2).toNat,?_,λ b hb=>?_,q⟩
 ·have e1:lo + ((0:Nat):Int) * 2=lo:=by simp
  have e2:((((hi - lo + 1) / 2).toNat:Nat):Int) - ((0:Nat):Int)=Builtin.Range.rangeSize lo hi 2:=by rw [uk1]; simp
  show IsRangeIter _ _ (lo + ((0:Nat):Int) * 2) (((((hi - lo + 1) / 2).toNat:Nat):Int) - ((0:Nat):Int)) 2;rw [e1,e2];exact Heap.get?_push_size _ rfl
 ·have e:b=(s.heap.push { cls:=.type "range",data:=.fields #[.int lo t,.int hi u,.int 2 v] }).objs.size:=by simpa using hb
  subst e;exact I1.fpOk [21] (I1.hok.fresh [21])
def iRngS (ta:TA):TI:=λ σ H R=>ta σ H λ vs H1=>∃ i j:Int,vs=[.int i,.int j,.int 2] /\ (-(2 ^ 60)<=i /\ i < 2 ^ 60 /\ -(2 ^ 60)<=j /\ j < 2 ^ 60) /\ R (It2 i ((j - i + 1) / 2).toNat) H1
theorem yz1 {a b c:Expr} {ta:TA} {p pos:Pos} (hg:Gl X "range") (hm:X.mg "range" = none) (ha:PA X [a,b,c] ta) (hs:starEach [a,b,c] X.env=[(false,eval a X.env),(false,eval b X.env),(false,eval c X.env)]:=by rfl) (hs2:starEach [b,c] X.env=[(false,eval b X.env),(false,eval c X.env)]:=by rfl) :
    PI X tg (.Call (.Name "range" p) [a,b,c] [] pos) (iRngS ta):=by
 intro pins s σ H R I h;refine Call_ (yo0 I hg hm boot_range (PyProof.Rows.callWith_type1 (thn (ha pos pins s σ H _ I h) λ us s1 ⟨vs,H1,I1,r1,q1⟩=>?_) (by rw [hs,hs2]) (by rw [hs2]; rfl)));obtain ⟨i,j,e,⟨q1,q2,q3,q4⟩,q⟩:=q1;subst e;cases r1 with
 | cons r rr =>
  cases rr with
  | cons r' rr =>
   cases rr with
   | cons r3 rr =>
    cases rr;obtain ⟨t,rfl⟩:=r;obtain ⟨t',rfl⟩:=r';obtain ⟨t3,rfl⟩:=r3;exact call_range_3 [27] (sx1 I1 q1 q2 q3 q4 q) (.inl (PyProof.noPylong_small [27]))
end
end L2
namespace Pv
open PySem L2
noncomputable def rng2 (lo:Int) (n:Nat):List D:=(List.range n).map λ i=>.int (lo + (i:Nat) * 2)
theorem xq2 (lo:Int) (n i:Nat):(rng2 lo n)[i]?=if i < n then some (.int (lo + i * 2)) else none:=by
 unfold rng2;rw [getElem?_map];split
 ·simp_all
 simp_all
theorem xl1 (lo:Int) (n:Nat):(rng2 lo n).length=n:=by simp [rng2]
theorem yc2 {K:Fg} {H0:Hp} (lo:Int) (n:Nat):ItOk K (It2 lo n) (rng2 lo n) (λ _=>True) H0:=λ i H μ k m _=>by
 refine ⟨λ d e=>?_,λ hl=>by rw [xl1] at hl; exact hl⟩;rw [xq2] at e;split at e
 ·next h =>
  cases e;refine ⟨h,λ x H2 y=>?_⟩;obtain ⟨rfl,rfl⟩:=y;exact ⟨Kp.refl _,m,.int _⟩
 ·cases e
def irS3 (t:TA3):TI3:=λ ρ μ R=>t ρ μ λ ds μ1=>match ds with
 | [.int i,.int j,.int c]=>c=2 /\ (-(2 ^ 60)<=i /\ i < 2 ^ 60 /\ -(2 ^ 60)<=j /\ j < 2 ^ 60) /\ R (rng2 i ((j - i + 1) / 2).toNat) (λ _=>True) μ1
 | _=>False
section
variable {X:Cx} {a b c tg:Expr} {ta tb tc:TE3} {pos:Pos}
theorem tw1 {p:Pos} (hm:X.mg "range" = none) (ha:RE X a ta) (hb:RE X b tb) (hc:RE X c tc) (hg:Gl X "range" := by rfl) (hs:starEach [a,b,c] X.env=[(false,eval a X.env),(false,eval b X.env),(false,eval c X.env)]:=by rfl) (hs2:starEach [b,c] X.env=[(false,eval b X.env),(false,eval c X.env)]:=by rfl) (hs3:starEach [c] X.env=[(false,eval c X.env)]:=by rfl) :
    RI X tg (.Call (.Name "range" p) [a,b,c] [] pos) (irS3 (xa0 ta (xa0 tb (xa0 tc nil3)))):=by
 obtain ⟨va,pa,ra⟩:=vi0 ha (vi0 hb (vi0 hc ua1 hs3) (by rw [hs2,hs3])) (by rw [hs,hs2]);refine ⟨_,yz1 hg hm pa hs hs2,λ σ H R ρ μ R3 s m h k=>ra σ H _ ρ μ _ s m h λ ds μ1 vs H1 h1 k1 r1 m1=>?_⟩;split at h1
 ·next i j c =>
  obtain ⟨rfl,h2,h3⟩:=h1;cases r1 with
  | cons r1 r2 =>
   cases r2 with
   | cons r2 r3 =>
    cases r3 with
    | cons r3 r4 =>
     cases r4;cases r1;cases r2;cases r3;exact ⟨i,j,rfl,h2,k _ _ _ _ _ h3 k1 m1 (yc2 _ _)⟩
 ·exact h1.elim
end
end Pv
namespace Pv
open PySem PySem.Spec PySem.W PyProof.Rows L2
def DG (h:Heap) (d:Addr) (es:Array DictEntry) (ep:Nat):Prop:=∃ o,h.get? d=some o /\ o.ExactDict /\ o.data=.dict es ep
variable {s:Shared} {es:Array DictEntry} {ep:Nat}
theorem DG.ty {d:Addr} (x:DG s.heap d es ep):s.TypeIs (.ref d) "dict" := by
 obtain ⟨o,a,b,_⟩:=x;exact ⟨o,a,b.1⟩
variable {Q:Option Value->Shared->Prop}
section
variable {prog:Program} {w:World} {A:Around} {E:[7]} {d it:Addr} {i:Nat}
theorem su3 {Q:[7]} (lo:(d == sysModules)=false) (x:DG s.heap d es ep) (q:Q (.ref s.heap.objs.size) { s with heap:=s.heap.push { cls:=.type "dict_keyiterator",data:=.fields #[.ref d,.int 0 0,.int es.size 0,.int ep 0] } }) :
    wpAny [6] A (pyIter (.ref d)) Q E s:=by
 have ty:=x.ty;obtain ⟨o,e1,e2,e3⟩:=x;refine wpAny_pyIter_slot ty F.slot_dict_iter (wpAny_call_entry F.slot_dict_iter ty F.entry_dict_iter ?a (F.args_dict_iter_1 _))
 case a =>
  unfold Builtin.«dict.__iter__»;refine wpAny_bind ?_; unfold Builtin.Dict.dictSlotNone;refine wpAny_bind (wpAny_notOrdered_dict ty (show wpAny _ _ (pure (Value.ref d)) _ _ s from wpAny_pure ?_));show wpAny _ _ (Builtin.Dict.showsAll d >>= _) _ _ s; unfold Builtin.Dict.showsAll;rw [if_neg [26]];refine wpAny_bind (wpAny_pure (wpAny_bind (wpAny_dictEntries e1 e3 (wpAny_bind (wpAny_dictEpoch e1 e3 ?_)))));refine wpAny_bind (wpAny_newObj_type (wpAny_pure ⟨_,rfl, "dict_keyiterator",_,⟨_,Heap.get?_push_size _ rfl,rfl⟩,F.slot_dict_keyiterator_next.lookup,q⟩))
theorem tu3 (hi:s.heap.IsKeyIter it d i es.size ep) (x:DG s.heap d es ep) (lt:i < es.size)
    (q:∀ h',h'.IsKeyIter it d (i + 1) es.size ep->Heap.SameBut it s.heap h'->Q (some es[i].key) { s with heap:=h' }):wpAny [6] A (pyNext (.ref it)) Q E s:=by
 obtain ⟨o,a1,a2,a3⟩:=id hi;obtain ⟨od,e1,e2,e3⟩:=x;have ty:=hi.typeIs;have own0:Builtin.Dict_items.ownsTuple "dict_keyiterator" = false:=by decide
 unfold pyNext;refine wpAny_bind (wpAny_attempt (wpAny_callSpecial?_slot (name:=Str.ofString "__next__") ty F.slot_dict_keyiterator_next (wpAny_call_entry F.slot_dict_keyiterator_next ty F.entry_dict_keyiterator_next ?a (F.args_dict_keyiterator_next_1 _))))
 case a =>
  refine wpAny_bind (wpAny_pure (wpAny_bind (wpAny_bind ?_)))
  first | refine wpAny_bind (wpAny_typeNameOfWhole_keyiter ty [35]) | refine wpAny_bind (wpAny_typeNameOf_keyiter ty [35])
  refine wpAny_bind (wpAny_fieldsOf a1 a3 ?_); simp only [own0,Bool.false_eq_true,if_false];show wpAny _ _ (if (Value.ref d == Value.none)=true then _ else _) _ _ s; rw [if_neg (show ¬ ((Value.ref d == Value.none)=true) from Bool.false_ne_true)];refine wpAny_bind (wpAny_pure (wpAny_bind (wpAny_dictEntries e1 e3 ?_))); rw [if_neg [17]];refine wpAny_bind (wpAny_pure (wpAny_bind (wpAny_dictEpoch e1 e3 ?_))); rw [if_neg [17]];refine wpAny_pure ?_;simp only [show ¬ ((i:Int) < 0) from by omega,if_false,Int.toNat_natCast,Array.getElem?_eq_getElem lt];refine wpAny_bind ?_
  first | refine wpAny_bind (wpAny_typeNameOfWhole_keyiter ty [35]) | refine wpAny_bind (wpAny_typeNameOf_keyiter ty [35])
  refine wpAny_bind (wpAny_isOneOf_keyiter ty (show wpAny _ _ (setField (.ref it) 1 (rawInt ((i:Int) + 1)) >>= _) _ _ s from wpAny_bind (wpAny_setField a1 a3 [17] ?_)));have hi':(s.heap.update it (Obj.mapFields (·.setIfInBounds 1 (rawInt ((i:Int) + 1))))).IsKeyIter it d (i + 1) es.size ep:=⟨_,Heap.get?_update_self _ a1 (Obj.isFreed_of_fields (Obj.data_mapFields a3 _)),(Obj.cls_mapFields ..).trans a2,by rw [Obj.data_mapFields a3]; simp [rawInt]⟩;refine wpAny_bind (wpAny_holding (wpAny_bind (wpAny_isOneOf_keyiter (s:={ s with heap:=s.heap.update it (Obj.mapFields (·.setIfInBounds 1 (rawInt ((i:Int) + 1)))) }) hi'.typeIs ?_)));show wpAny _ _ (pure es[i].key) _ _ _;exact wpAny_pure (wpAny_pure ⟨_,rfl,wpAny_pure (q _ hi' (Heap.SameBut.update ..))⟩)
theorem td5 (hh:A.handled=none) (hi:s.heap.IsKeyIter it d i es.size ep) (x:DG s.heap d es ep) (ge:es.size<=i)
    (q:∀ h',Heap.ExtBut it s.heap h'->Q none { s with heap:=h' }):wpAny [6] A (pyNext (.ref it)) Q E s:=by
 obtain ⟨o,a1,a2,a3⟩:=id hi;obtain ⟨od,e1,e2,e3⟩:=x;have ty:=hi.typeIs;have own0:Builtin.Dict_items.ownsTuple "dict_keyiterator" = false:=by decide
 unfold pyNext;refine wpAny_bind (wpAny_attempt (wpAny_callSpecial?_slot (name:=Str.ofString "__next__") ty F.slot_dict_keyiterator_next (wpAny_call_entry F.slot_dict_keyiterator_next ty F.entry_dict_keyiterator_next ?a (F.args_dict_keyiterator_next_1 _))))
 case a =>
  refine wpAny_bind (wpAny_pure (wpAny_bind (wpAny_bind ?_)))
  first | refine wpAny_bind (wpAny_typeNameOfWhole_keyiter ty [35]) | refine wpAny_bind (wpAny_typeNameOf_keyiter ty [35])
  refine wpAny_bind (wpAny_fieldsOf a1 a3 ?_); simp only [own0,Bool.false_eq_true,if_false];show wpAny _ _ (if (Value.ref d == Value.none)=true then _ else _) _ _ s; rw [if_neg (show ¬ ((Value.ref d == Value.none)=true) from Bool.false_ne_true)];refine wpAny_bind (wpAny_pure (wpAny_bind (wpAny_dictEntries e1 e3 ?_))); rw [if_neg [17]];refine wpAny_bind (wpAny_pure (wpAny_bind (wpAny_dictEpoch e1 e3 ?_))); rw [if_neg [17]];refine wpAny_pure ?_;simp only [show ¬ ((i:Int) < 0) from by omega,if_false,Int.toNat_natCast,Array.getElem?_eq_none ge];refine wpAny_bind ?_
  first | refine wpAny_bind (wpAny_typeNameOfWhole_keyiter ty [35]) | refine wpAny_bind (wpAny_typeNameOf_keyiter ty [35])
  show wpAny _ _ (setField (.ref it) 0 .none >>= _) _ _ s; refine wpAny_bind (wpAny_setField a1 a3 [17] ?_);show wpAny _ _ (newExc (.type "StopIteration") [] >>= _) _ _ _; refine wpAny_bind ?_; simp only [newExc,newTuple];refine wpAny_bind (wpAny_newObj_type (wpAny_bind (m:=firstArgMember _ _) (wpAny_of_eq (a:=Value.none) (by rfl) (wpAny_newObj_type ?_ (by size_fits)))) (by size_fits));simp only [raiseNew]; refine wpAny_bind (wpAny_handled ?_); rw [show A.in1.handled=none from hh];refine wpAny_bind (wpAny_pure (wpAny_throw ?_)); refine wpAny_bind (wpAny_isInstance (T := "StopIteration") (b:=true) ⟨_,Heap.get?_push_size _ rfl,rfl⟩ isSubtype_stop ?_);exact wpAny_pure (q _ (((Heap.SameBut.update ..).extBut.push _).push _))
end
end Pv
namespace Pv
open PySem PySem.Spec PyProof.Rows L2
noncomputable def Itd (a:Addr) (n m:Nat):It :=
 ⟨λ i H=>∃ kvs,H a=some (.dT kvs m) /\ kvs.length=n /\ i < n,λ i H x H'=>H'=H /\ ∃ kvs k v b,H a=some (.dT kvs m) /\ kvs[i]?=some (k,v) /\ x=.ref b /\ H b=some (.tup (k.map kV)),
  λ i H=>∃ kvs,H a=some (.dT kvs m) /\ kvs.length=n /\ n<=i⟩
theorem wd3 {H:Hp}:∀ {kvs:List (List Key × V)} {xs:List (List Key × Addr × Value)},KT H kvs xs->∀ (i:Nat) x,xs[i]?=some x->∃ v,kvs[i]?=some (x.1,v) /\ H x.2.1=some (.tup (x.1.map kV))
 | _,_,.nil,i,x,e=>by simp at e
 | _,_,.cons (a:=p) (b:=q) h r,0,x,e=>by
  simp at e; subst e;exact ⟨p.2,by rw [List.getElem?_cons_zero,<- h.1],by simp_all⟩
 | _,_,.cons h r,i + 1,x,e=>by
  rw [getElem?_cons_succ] at e ⊢;exact wd3 r i x e
variable {tg:Expr}
theorem vt1 {P:Program} {w:World} {K:PySem.W.Frag} (a it:Addr) (n m:Nat):Turn P w K tg (Itd a n m) [it] it (λ i h=>h.IsKeyIter it a i n m) where
 mem:=by simp
 obj:=λ i h st b hb=>by
  have e:b=it:=by simpa using hb
  subst e;obtain ⟨o,e,c,d⟩:=st
  simp_all
 keep:=λ i h h' st k=>by
  obtain ⟨o,e,c,d⟩:=st;exact ⟨o,k it [17] o e,c,d⟩
 item:=by
  intro X hP hw hK hc i pins s σ H E I hf st hg;subst hP hw hK;obtain ⟨f0,f1,f2,f3,f4,f5⟩:=hf it [17];obtain ⟨kvs,e,el,hi⟩:=hg;obtain ⟨z,hd,xs,rel,o,es,ho,hc1,hd1,he,_⟩:=zs1 I.hok (.inl e);have l1:xs.length=n:=by rw [<- Paired.length rel]; exact el
  have l2:es.size=n:=by rw [<- length_toList,he,length_map,l1]
  have st':s.heap.IsKeyIter it a i es.size m:=by rw [l2]; exact st
  refine tu3 st' ⟨o,ho,hc1,hd1⟩ [5] λ h' hst hk=>?_;rw [l2] at hst;have hx:xs[i]?=some (xs[i]'(by omega)):=getElem?_eq_getElem _
  have ek:(es[i]'(by omega)).key=.ref (xs[i]'(by omega)).2.1:=by
   have q:es.toList[i]?=some (entryOfKey (tupleKind (xe0 X.prog X.w)) (xs[i]'(by omega))):=by simp_all
   rw [getElem?_toList,Array.getElem?_eq_getElem [5]] at q;cases q':es[i]'(by omega) with
   | mk a1 a2 a3=>rw [q'] at q; cases q; rfl
  obtain ⟨v,kg,kh⟩:=wd3 rel i _ hx;have I1:Inv X pins σ H { s with heap:=h' }:=I.turned (t':=s.toks) (λ b o hb e=>hk.extBut b o hb e) f0 f1 f3 f4 f5;obtain ⟨o1,e1,c1,d1⟩:=id hst;refine ⟨_,rfl,xe2 (s:={ s with heap:=h' }) e1 c1 d1 [27] ⟨.ref _,H,I1,ek,⟨rfl,kvs,_,v,_,e,kg,rfl,kh⟩,hst,λ b hb=>(hf b hb).1⟩⟩
 done:=by
  intro X hP hw hK hc i pins s σ H E I hf st hg;subst hP hw hK;obtain ⟨f0,f1,f2,f3,f4,f5⟩:=hf it [17];obtain ⟨kvs,e,el,hi⟩:=hg;obtain ⟨z,hd,xs,rel,o,es,ho,hc1,hd1,he,_⟩:=zs1 I.hok (.inl e);have l1:xs.length=n:=by rw [<- Paired.length rel]; exact el
  have l2:es.size=n:=by rw [<- length_toList,he,length_map,l1]
  have st':s.heap.IsKeyIter it a i es.size m:=by rw [l2]; exact st
  exact td5 (I.ok.hd hc) st' ⟨o,ho,hc1,hd1⟩ [5] λ h' hk=>⟨rfl,I.turned (t':=s.toks) (λ b o hb e=>hk b o hb e) f0 f1 f3 f4 f5⟩
 self:=λ A i s Q E st h=>wpAny_pyIter_keyiter st h
variable {K:Fg}
section
variable {X:Cx} 
def iDct (tl:TE):TI:=λ σ H R=>tl σ H λ x H1=>∃ a kvs m,x=.ref a /\ H1 a=some (.dT kvs m) /\ R (Itd a kvs.length m) H1
theorem uo3 {l:Expr} {tl:TE} (hl:PE X l tl):PI X tg l (iDct tl):=by
 intro pins s σ H R I h;refine thn (hl pins s σ H _ I h) λ v s1 ⟨x,H1,I1,r1,q1⟩=>?_
 have fp:∀ b ∈ [s1.heap.objs.size],FpOk X pins H1 b:=λ b hb=>by
  have e:b=s1.heap.objs.size:=by simpa using hb
  subst e;exact I1.fpOk [21] (I1.hok.fresh [21])
 obtain ⟨a,kvs,m,rfl,e,q⟩:=q1;cases r1;obtain ⟨z,hd,xs,rel,o,es,ho,hc1,hd1,he,_⟩:=zs1 I1.hok (.inl e);have l2:es.size=kvs.length:=by rw [<- length_toList,he,length_map]; exact (Paired.length rel).symm
 refine su3 hd ⟨o,ho,hc1,hd1⟩ ?_;rw [l2];exact ⟨s1.heap.objs.size,[s1.heap.objs.size],_,_,H1,rfl,I1.kept (t':=s1.toks) λ b o e=>Heap.get?_push_of_some _ e,vt1 a _ _ _,⟨_,Heap.get?_push_size _ rfl,rfl,rfl⟩,fp,q⟩
noncomputable def tupI (k:List Int):D:=.tup (k.map .int)
theorem yu0 {K:Fg} {H:Hp}:∀ k:List Int,RelDs K H (k.map .int) ((kL k).map kV)
 | []=>.nil
 | i :: k=>.cons (.int i) (yu0 k)
theorem RelKl.get {H:Hp} {l:List (List Int × D)} {vs:List (List Key × V)} (r:RelKl K H l vs):∀ (i:Nat) k v,vs[i]?=some (k,v)->∃ t d,l[i]?=some (t,d) /\ k=kL t:=by
 induction r with
 | nil=>simp
 | cons h _ ih =>
  intro i k v e;cases i with
  | zero=>simp_all
  | succ i=>simp_all
theorem xv2 {H0:Hp} {a:Addr} {l:List (List Int × D)}:ItOk K (Itd a l.length l.length) (l.map λ kv=>tupI kv.1) (λ μ=>μ a=some (.dcl false l)) H0:=λ i H μ k m s=>by
 obtain ⟨vs,n9,h,r,cl⟩:=m.dcl a _ l s;obtain rfl:n9=l.length:=(cl rfl).trans r.len.symm;have hl:=r.len;refine ⟨λ d e=>?_,λ hl'=>⟨vs,h,hl.symm,by simpa using hl'⟩⟩;rw [getElem?_map] at e
 have hi:i < l.length:=by
  rcases Nat.lt_or_ge i l.length with c | c
  ·exact c
  simp_all
 refine ⟨⟨vs,h,hl.symm,hi⟩,λ x H2 y=>?_⟩;obtain ⟨rfl,kvs,kk,v,b,e1,e2,rfl,e3⟩:=y;rw [h] at e1;cases e1;obtain ⟨t,dd,e4,rfl⟩:=r.get i kk v e2;rw [e4] at e;cases e;exact ⟨Kp.refl _,m,.tup e3 (yu0 t)⟩
def isd3 (t:TE3):TI3:=λ ρ μ R=>t ρ μ λ d μ1=>match d with
 | .ref p=>match μ1 p with
  | some (.dcl false l)=>R (l.map λ kv=>tupI kv.1) (λ μ=>μ p=some (.dcl false l)) μ1
  | _=>False
 | _=>False
theorem sm4 {a:Expr} {ta:TE3} (ha:RE X a ta):RI X tg a (isd3 ta):=by
 obtain ⟨va,pa,ra⟩:=ha;refine ⟨_,uo3 pa,λ σ H R ρ μ R3 s m h k=>ra σ H _ ρ μ _ s m h λ d μ1 v H1 h1 k1 r1 m1=>?_⟩;split at h1
 ·next p =>
  split at h1
  ·next l e =>
   cases r1;obtain ⟨vs,n9,hv,rv,cl⟩:=m1.dcl p _ l e;obtain rfl:n9=l.length:=(cl rfl).trans rv.len.symm;refine ⟨p,vs,_,rfl,hv,?_⟩;rw [<- rv.len];exact k _ _ _ _ _ h1 k1 m1 xv2
  ·exact h1.elim
 ·exact h1.elim
end
end Pv
namespace Pv
open PySem PySem.Spec PySem.W PyProof.Rows L2
abbrev T2:=Int × Int
noncomputable def lt2 (a b:T2):Bool:=decide (a.1 < b.1) || (a.1 == b.1 && decide (a.2 < b.2))
def IsT2 (h:Heap) (v:Value) (t:T2):Prop:=∃ a o t1 t2 n,v=.ref a /\ h.get? a=some o /\ o.cls=.type "tuple" /\ o.data=.seq #[.int t.1 t1,.int t.2 t2] n
theorem IsT2.one {h:Heap} {v:Value} {t u:T2} (i:IsT2 h v t) (k:IsT2 h v u):t=u:=by
 obtain ⟨a,o,t1,t2,n,rfl,e2,_,e4⟩:=i;obtain ⟨b,q,u1,u2,m,f1,f2,_,f4⟩:=k;cases f1;rw [e2] at f2;cases f2;rw [e4] at f4;obtain ⟨x,y⟩:=t
 simp_all
theorem lt2_iff {a b:T2}:lt2 a b=true ↔ a.1 < b.1 \/ a.1=b.1 /\ a.2 < b.2:=by simp [lt2]
theorem sr3 (ts:List T2):Ms.Ord λ i j=>lt2 (ts.getD i (0,0)) (ts.getD j (0,0)) where
 ir:=λ a=>by simp [lt2]
 tr:=λ a b c h k=>lt2_iff.mpr (wr3 (lt2_iff.mp h) (lt2_iff.mp k) Int.lt_trans)
 ng:=λ a b c h=>by
  rw [lt2_iff,lt2_iff];refine vr3 _ (lt2_iff.mp h) λ x=>?_;omega
section
variable {prog:Program} {w:World} {A:Around} {E:[7]} {s:Shared}
theorem yi5 {x y:Value} {a b:T2} {Q:Bool->Shared->Prop} (hx:IsT2 s.heap x a) (hy:IsT2 s.heap y b) (h:Q (lt2 a b) s):wpAny [6] A (keyLt' (tuples' true) x y) Q E s:=by
 obtain ⟨x,ox,t1,t2,n,rfl,ex,_,dx⟩:=hx;obtain ⟨y,oy,u1,u2,m,rfl,ey,_,dy⟩:=hy;obtain ⟨a1,a2⟩:=a;obtain ⟨b1,b2⟩:=b;refine kat_lt ex dx ey dy ?_;refine kat_cons (wpAny_eqBool_int ?_);by_cases c1:a1=b1
 ·rw [show (a1 == b1)=true from beq_iff_eq.mpr c1];refine kat_yes (kat_cons (wpAny_eqBool_int ?_));by_cases c2:a2=b2
  ·rw [show (a2 == b2)=true from beq_iff_eq.mpr c2];refine kat_yes (kat_nil ?_);have e:lt2 (a1,a2) (b1,b2)=false:=by subst c1 c2; simp [lt2]
   simp_all
  ·rw [show (a2 == b2)=false from by simpa using c2];have e:lt2 (a1,a2) (b1,b2)=decide (a2 < b2):=by subst c1; simp [lt2]
   rw [e] at h;exact kat_no (kat_one _ _ (lt_int h))
 ·rw [show (a1 == b1)=false from by simpa using c1];have e:lt2 (a1,a2) (b1,b2)=decide (a1 < b1):=by simp [lt2,c1]
  rw [e] at h;exact kat_no (oneLt_int h)
end
theorem ti2:TupI IsT2 lt2 (0,0) where
 kept:=λ k ⟨a,o,t1,t2,n,e1,e2,e3,e4⟩=>⟨a,o,t1,t2,n,e1,k _ _ e2 e3,e3,e4⟩
 one:=IsT2.one
 ord:=sr3
 fst:=λ ⟨a,o,t1,t2,n,e1,e2,e3,e4⟩=>⟨a,o,_,t1,_,n,e1,e2,e3,e4⟩
 lt':=yi5
noncomputable def ys1 (t:T2):D:=.tup [.int t.1,.int t.2]
noncomputable def t2?:D->Option T2
 | .tup [.int a,.int b]=>some (a,b)
 | _=>none
noncomputable def t2s?:List D->Option (List T2)
 | []=>some []
 | d :: r=>match t2? d with
  | some t=>match t2s? r with
   | some ts=>some (t :: ts)
   | none=>none
  | none=>none
theorem uu1:∀ ts:List T2,t2s? (ts.map ys1)=some ts
 | []=>rfl
 | t :: ts=>by simp only [map_cons,t2s?,ys1,t2?,uu1 ts]
theorem ue4 {d:D} {t:T2} (h:t2? d=some t):d=ys1 t:=by
 unfold t2? at h;split at h
 ·cases h; rfl
 ·cases h
theorem zb3:∀ {l:List D} {ts:List T2},t2s? l=some ts->l=ts.map ys1
 | [],ts,h=>by cases h; rfl
 | d :: r,ts,h=>by
  unfold t2s? at h;split at h
  ·next t e =>
   split at h
   ·next us e2=>cases h; rw [ue4 e,zb3 e2]; rfl
   ·cases h
  ·cases h
def le2 (a b:T2):Prop:=lt2 b a=false
def sp1:C3:=λ ds μ Q=>match ds with
 | [.ref p]=>match μ p with
  | some (.lst l)=>match t2s? l with
   | some ts=>ts.length<=sizeLine /\ ∀ us:List T2,us.Perm ts->us.Pairwise le2->∀ r,μ r=none->Q (.ref r) (updM μ r (.lst (us.map ys1)))
   | none=>False
  | _=>False
 | _=>False
variable {X:Cx}
section
theorem yy1:RC X (.builtin "sorted") sp1:=by
 refine zy1 (enc:=ys1) ti2 (λ {_ _ _ _} I {t v u} a b=>?_) λ {ds μ Q} h=>?_
 ·cases a with
  | tup hq r2 =>
   cases r2 with
   | cons x r2 =>
    cases r2 with
    | cons y r2 =>
     cases r2;cases x;cases y;cases b;obtain ⟨its,rv,⟨o,p1,p2,n,p3⟩,_⟩:=I.tuple (SqT.of hq);cases rv with
     | cons r1 rv =>
      cases rv with
      | cons r2 rv =>
       cases rv;obtain ⟨t1,rfl⟩:=r1;obtain ⟨t2,rfl⟩:=r2;exact ⟨_,o,t1,t2,n,rfl,p1,p2,p3⟩
 ·unfold sp1 at h;split at h
  ·next p =>
   split at h
   ·next l e =>
    split at h
    ·next ts e2=>exact ⟨p,ts,rfl,by rw [e,zb3 e2],h.1,h.2⟩
    ·exact h.elim
   ·exact h.elim
  ·exact h.elim
end
def minQ:C3:=λ ds μ Q=>match ds with
 | [x,y]=>match t2? x,t2? y with
  | some a,some b=>Q (if ltP b.1 b.2 a.1 a.2 then y else x) μ
  | _,_=>False
 | _=>False
theorem zc3 {K:Fg} {H:Hp} {x:D} {t:T2} {v:V} (r:RelD K H x v) (e:t2? x=some t):∃ p,v=.ref p /\ H p=some (.tup [.int t.1,.int t.2]):=by
 rw [ue4 e] at r;cases r with
 | tup hq rs=>rw [wx0 rs (k:=[t.1,t.2]) rfl] at hq; exact ⟨_,rfl,hq⟩
theorem ut4 (hc:X.calm=true) (hu:[42]):RC X (.builtin "min") minQ:=by
 refine ⟨_,xh2 hc hu,λ xs vs H Q μ Q3 m r h k=>?_⟩;unfold minQ at h;split at h
 ·split at h
  ·next a b ea eb =>
   cases r with
   | cons r1 r =>
   cases r with
   | cons r2 r =>
   cases r;obtain ⟨p,rfl,hp⟩:=zc3 r1 ea;obtain ⟨q,rfl,hq⟩:=zc3 r2 eb;refine ⟨p,q,a.1,a.2,b.1,b.2,rfl,SqT.of hp,SqT.of hq,k _ _ _ _ h (Kp.refl _) ?_ m⟩;cases ltP b.1 b.2 a.1 a.2
   ·exact r1
   ·exact r2
  ·exact h.elim
 ·exact h.elim
end Pv
namespace Pv
open PySem
noncomputable def isN:D->Bool
 | .non=>true
 | _=>false
def isNR (neg:Bool):R3:=λ x y μ Q=>match y with
 | .non=>Q (.bl (if neg then !isN x else isN x)) μ
 | _=>False
noncomputable def putD (f:Str) (v:D):List (Str × D)->List (Str × D)
 | []=>[(f,v)]
 | (g,x) :: r=>if g=f then (g,v) :: r else (g,x) :: putD f v r
def fld3 (t:TE3) (c f:Str):TE3:=λ ρ μ Q=>t ρ μ λ d μ1=>match d with
 | .ref p=>match μ1 p with
  | some (.ins c' fs)=>c'=c /\ (match fs.lookup f with
   | some v=>Q v μ1
   | none=>False)
  | _=>False
 | _=>False
def yf1 (to tv:TE3) (c f:Str):TS3:=λ D' ρ μ=>tv ρ μ λ y μ1=>to ρ μ1 λ d μ2=>match d with
 | .ref p=>match μ2 p with
  | some (.ins c' fs)=>(c'=c /\ fs.length < 1000) /\ D'.nx ρ (updM μ2 p (.ins c (putD f y fs)))
  | _=>False
 | _=>False
def zr3 (c:Str) (sp:Sp3) (t:TA3):TE3:=λ ρ μ Q=>t ρ μ λ ds μ1=>∀ p,μ1 p=none->sp (.ref p :: ds) (updM μ1 p (.ins c [])) (λ v μ2=>v=.non /\ Q (.ref p) μ2)
def wb1 (c m:Str) (sp:Sp3) (to:TE3) (t:TA3):TE3:=λ ρ μ Q=>to ρ μ λ d μ1=>match d with
 | .ref p=>match μ1 p with
  | some (.ins c' fs)=>(c'=c /\ fs.lookup m=none) /\ t ρ μ1 λ ds μ2=>sp (.ref p :: ds) μ2 Q
  | _=>False
 | _=>False
end Pv
namespace Pv
open PySem PySem.Spec PyProof.Rows L2 PySem.Calls
variable {H:Hp} {C:Addr}
theorem Kp.wrI {p:Addr} {o:HO} {dx:Addr} {fs:List (Str × V)} (h:H p=some (.ins C dx fs)):Kp H (upd H p o) :=
 [15]
variable {K:Fg} {f:Str} {vs:List (Str × V)}
theorem RelFs.put {d:D} {v:V} (r:RelD K H d v) {l:List (Str × D)} (h:RelFs K H l vs):RelFs K H (putD f d l) (putF f v vs):=by
 induction h with
 | nil=>exact .cons r .nil
 | @cons g d' v' l' vs' h1 h2 ih =>
  simp only [putD,putF];split
  ·exact .cons r h2
  ·exact .cons h1 ih
theorem RelFs.get {l:List (Str × D)} (h:RelFs K H l vs) {d:D} (e:l.lookup f=some d):∃ v,vs.lookup f=some v /\ RelD K H d v:=by
 induction h with
 | nil=>cases e
 | @cons g d' v' l' vs' h1 h2 ih =>
  simp only [List.lookup] at e ⊢;split at e
  ·simp_all
  simp_all
theorem RelFs.no {l:List (Str × D)} (h:RelFs K H l vs) (e:l.lookup f=none):vs.lookup f=none:=by
 induction h with
 | nil=>rfl
 | @cons g d' v' l' vs' h1 h2 ih =>
  simp only [List.lookup] at e ⊢;split at e
  ·cases e
  simp [*]
theorem RelFs.len {l:List (Str × D)} (h:RelFs K H l vs):l.length=vs.length:=by
 induction h with
 | nil=>rfl
 | cons _ _ ih=>simp_all
theorem RelM.wrI {K:Fg} {μ:Mu} {H:Hp} {p:Addr} {c:Str} {C dx:Addr} {fs:List (Str × D)} {vs ws:List (Str × V)} (n:nsIn K mainGlobals c=some (some (.ref C))) (h:H p=some (.ins C dx ws)) (hx:H dx=some (.own p)) (r:RelFs K H fs vs) (m:RelM K μ H) :
    RelM K (updM μ p (.ins c fs)) (upd H p (.ins C dx vs)):=m.put (Kp.wrI h) (.ins n hx r)
theorem RelM.newI {μ:Mu} {x dx:Addr} {c:Str} (n:nsIn K mainGlobals c=some (some (.ref C))) (h:H x=none) (hd:H dx=none) (hne:dx ≠ x) (m:RelM K μ H) :
    RelM K (updM μ x (.ins c [])) (upd (upd H dx (.own x)) x (.ins C dx [])):=by
 have h1:upd H dx (.own x) x=none:=by rw [xb0 (Ne.symm hne)]; exact h
 exact (m.newT (o:=.own x) hd).put (Kp.new h1) (.ins n zg0 .nil)
structure ObjC (K:Fg) (c:Str) (C:Addr):Prop where
 ns:nsIn K mainGlobals c=some (some (.ref C))
 cl:Cls K C
variable {x:Str} {X:Cx} {ps:List Str} {sp:Sp3}
section
variable {e o value:Expr} {te to tv:TE3} {c m:Str} {pos pos' p apos:Pos} {es:List Expr} {t:TA3} 
theorem wo4 (he:RE X e te) (oc:ObjC X.K c C) (na:NoAttr X.K C f) (hb:attributeBase e f X.env (eval e X.env)=eval e X.env:=by rfl):RE X (.Attribute e f pos) (fld3 te c f):=by
 obtain ⟨va,pa,ra⟩:=he;refine ⟨_,zx4 pa hb,λ σ H Q ρ μ Q3 s mm h k=>ra σ H _ ρ μ _ s mm h λ d μ1 v H1 h1 k1 r1 m1=>?_⟩;cases r1 with
 | ref q =>
  dsimp only at h1;cases e0:μ1 q with
  | none=>simp_all
  | some oo =>
   cases oo with
   | lst _=>simp_all
   | dck _=>simp_all
   | dcl _ _=>simp_all
   | ins c' fs =>
    rw [e0] at h1;obtain ⟨rfl,h2⟩:=h1;obtain ⟨C',dx,vs,n,q1,q2,r⟩:=m1.ins q _ fs e0;rw [oc.ns] at n;cases n;cases e1:fs.lookup f with
    | none=>simp_all
    | some d =>
     rw [e1] at h2;obtain ⟨v,l,rv⟩:=r.get e1;exact ⟨q,C,dx,vs,v,rfl,q1,oc.cl,na,l,k _ _ _ _ h2 k1 rv m1⟩
 | _=>exact False.elim h1
theorem vm4 (ho:RE X o to) (hv:RE X value tv) (oc:ObjC X.K c C) (na:NoAttr X.K C f) (hs:swapsWith value (some (.Attribute o f pos')) pos.line X.env=pure false:=by rfl):RS X (.Assign [.Attribute o f pos'] value pos) (yf1 to tv c f):=by
 obtain ⟨va,pa,ra⟩:=ho;obtain ⟨vb,pb,rb⟩:=hv;refine ⟨_,uv4 pa pb hs,λ σ H D ρ μ D3 s mm h kd=>rb σ H _ ρ μ _ s mm h λ y μ1 u H1 h1 k1 r1 m1=>ra σ H1 _ ρ μ1 _ (s.mono k1) m1 h1 λ d μ2 v H2 h2 k2 r2 m2=>?_⟩;cases r2 with
 | ref q =>
  dsimp only at h2;cases e0:μ2 q with
  | none=>simp_all
  | some oo =>
   cases oo with
   | lst _=>simp_all
   | dck _=>simp_all
   | dcl _ _=>simp_all
   | ins c' fs =>
    rw [e0] at h2;obtain ⟨⟨rfl,hl⟩,h3⟩:=h2;obtain ⟨C',dx,vs,n,q1,q2,r⟩:=m2.ins q _ fs e0;have n0:=n;rw [oc.ns] at n;cases n;refine ⟨q,C,dx,vs,rfl,q1,oc.cl,na,by rw [<- r.len]; exact hl,?_⟩;have kw:Kp H2 (upd H2 q (.ins C dx (putF f u vs))):=Kp.wrI q1;exact kd.nx _ _ _ _ h3 (k1.trans (k2.trans kw)) (((s.mono k1).mono k2).mono kw) (m2.wrI n0 q1 q2 (r.put (r1.mono k2)))
 | _=>exact False.elim h2
def CalT (P:Program) (w:World) (K:Fg) (mg:[28]) (base:Heap) (k:Nat) (C:Addr) (m:Str) (ps:List Str) (sp:Sp3):Prop :=
 ∃ f fd,FnOk P w K mg base CX0 k f fd ps (lift K sp) /\ findIn K (.ref C) m=some (some (.ref f)) /\ isFn K (.ref f)=true /\ keepIn K (.ref f)=true /\ Binds K fd ps []
theorem zm3 {k:Nat} {pl:Sem Bool} (ho:RE X o to) (oc:ObjC X.K c C) (cf:CalT X.prog X.w X.K X.mg X.base k C m ps sp) (hr:Room k X.A) (ha:RA X (e :: es) t)
    (hst:starEach (e :: es) X.env=[34] :: starEach es X.env:=by rfl) (hpl:(backTo pos (starEach es X.env)).any (·.1)=false:=by rfl)
    (ht:eval (.Call (.Attribute o m apos) (e :: es) [] pos) X.env=(do
     let ov <- eval o X.env
     standAt apos.atName
     let (f,first) <- holding [ov] (getMethod ov m pl)
     callWith pos f first (backTo pos (starEach (e :: es) X.env)) (backToKw pos (keywordEach [] X.env))):=by rfl) :
    RE X (.Call (.Attribute o m apos) (e :: es) [] pos) (wb1 c m sp to t):=by
 obtain ⟨f,fd,F,h1,h2,h3,hb⟩:=cf;obtain ⟨va,pa,ra⟩:=ho;obtain ⟨vb,pb,rb⟩:=ha;refine ⟨_,zp3 (pl:=pl) pa oc.cl ⟨h1,h2,h3⟩ F hr hb .nil yq3 pb hst hpl ht,λ σ H Q ρ μ Q3 s mm h kk=>ra σ H _ ρ μ _ s mm h λ d μ1 v H1 g1 k1 r1 m1=>?_⟩;cases r1 with
 | ref q =>
  dsimp only at g1;cases e0:μ1 q with
  | none=>simp_all
  | some oo =>
   cases oo with
   | lst _=>simp_all
   | dck _=>simp_all
   | dcl _ _=>simp_all
   | ins c' fs =>
    rw [e0] at g1;obtain ⟨⟨rfl,hl⟩,g2⟩:=g1;obtain ⟨C',dx,vs,n,q1,q2,r⟩:=m1.ins q _ fs e0;rw [oc.ns] at n;cases n;refine ⟨q,dx,vs,rfl,q1,r.no hl,rb σ H1 _ ρ μ1 _ (s.mono k1) m1 g2 λ ds μ2 us H2 g3 k2 r2 m2=>?_⟩;rw [append_nil];exact ⟨_,_,_,.cons (.ref q) r2,m2,g3,kk.after (k1.trans k2)⟩
 | _=>exact False.elim g1
end
section
variable {P:Program} {w:World} {mg:[28]} {base:Heap}
theorem CalT.mono {j k:Nat} {C:Addr} {m:Str} {ps:List Str} {sp:Sp3} (c:CalT P w K mg base j C m ps sp) (h:j<=k):CalT P w K mg base k C m ps sp:=by
 obtain ⟨f,fd,F,r⟩:=c;exact ⟨f,fd,F.mono h,r⟩
theorem zv3 {qual:Str} {st:Stmt} {f:Addr} {fd:FuncData} {N:List Str} {k:Nat} {t:TS3} (F:Fun K x qual st f fd) (hf:findIn K (.ref C) x=some (some (.ref f))) (hi:isFn K (.ref f)=true) (hb:Binds K fd ps []) (S:FnScope N ps (wa0 st))
    (len:∀ ds μ Q,sp ds μ Q->ds.length=ps.length)
    (body:∀ (cdv:Value) (A:Around) (outer:List Env) (s:Shared) (H:Hp) (E:XK),Room k (A.deeper (envOfC qual (wa0 st) s.heap.objs.size f cdv))->RSs (cxOf CX0 P w K mg base N qual (wa0 st) f cdv A outer s H E).nox (vc0 st) t)
    (rd:∀ ds μ Q,sp ds μ Q->t { nx:=λ _ μ'=>Q .non μ',rt:=Q } (ua0 N ds) μ):CalT P w K mg base (k + 1) C x ps sp:=by
 refine ⟨f,fd,Fun.ok F S (λ vs H Q E h=>?_) λ cdv A outer s H vs Q E hr h=>?_,hf,hi,F.kp,hb⟩
 ·obtain ⟨ds,μ,Q3,r,m,q,ks⟩:=h;rw [<- r.length]; exact len _ _ _ q
 ·obtain ⟨ds,μ,Q3,r,m,q,ks⟩:=h;obtain ⟨tv,p,rt⟩:=body cdv A outer s H E hr;exact ⟨tv,p,rt _ H _ _ μ _ (RSt.start N r) m (rd ds μ Q3 q) ⟨λ ρ μ' σ H' h' k' s' m'=>ks _ _ _ _ h' k' .non m',λ ρ μ' σ H' h'=>False.elim h',λ ρ μ' σ H' h'=>False.elim h',ks⟩⟩
end
theorem uw1 {ss:List Stmt}:RSs X ss ud0:=⟨λ _ _ _=>False,λ pins s σ H D I h=>h.elim,λ σ H D ρ μ D3 s m h k=>h⟩
end Pv
namespace Pv
open PySem
abbrev Rise (xs:Array Nat):Prop:=xs.toList.Pairwise (· < ·)
variable {xs:Array Nat} {i:Nat}
theorem xn0 (h:Rise xs) {j a b:Nat} (hi:xs[i]?=some a) (hj:xs[j]?=some b) (l:i < j):a < b:=by
 have h':=List.pairwise_iff_getElem.mp h;rw [<- getElem?_toList] at hi hj;obtain ⟨hi1,hi2⟩:=List.getElem?_eq_some_iff.mp hi;obtain ⟨hj1,hj2⟩:=List.getElem?_eq_some_iff.mp hj;rw [<- hi2,<- hj2];exact h' i j hi1 hj1 l
theorem sp0 (xs:Array Nat) (j:Nat) (h:Rise xs):∀ (fuel lo hi:Nat),hi - lo<=fuel->lo<=hi->hi<=xs.size->(∀ i a,i < lo->xs[i]?=some a->a < j)->(∀ i a,hi<=i->xs[i]?=some a->j<=a) ->
    (∀ i a,xs[i]?=some a->(i < SetTable.below.go xs j fuel lo hi ↔ a < j)) /\ SetTable.below.go xs j fuel lo hi<=xs.size
 | 0,lo,hi,f,l1,l2,a1,a2=>by
  have e:lo=hi:=by omega
  subst e;unfold SetTable.below.go;refine ⟨λ i a q=>⟨λ c=>a1 i a c q,λ c=>?_⟩,l2⟩;by_cases z:i < lo
  ·exact z
  ·have:=a2 i a [5] q; omega
 | fuel + 1,lo,hi,f,l1,l2,a1,a2=>by
  unfold SetTable.below.go;split
  ·next c =>
   have m1:(lo + hi) / 2 < hi:=by omega
   have m2:lo<=(lo + hi) / 2:=by omega
   have hm:xs[(lo + hi) / 2]?=some (xs.getD ((lo + hi) / 2) j):=by
    have:(lo + hi) / 2 < xs.size:=by omega
    simp_all
   dsimp only;split
   ·next c2 =>
    refine sp0 xs j h fuel _ _ [5] [5] l2 (λ i a z q=>?_) a2;by_cases y:i=(lo + hi) / 2
    ·subst y; simp_all
    ·exact Nat.lt_trans (xn0 h q hm [5]) c2
   ·next c2 =>
    refine sp0 xs j h fuel _ _ [5] [5] [5] a1 (λ i a z q=>?_);by_cases y:i=(lo + hi) / 2
    ·subst y; simp_all
    ·have:=xn0 h hm q [5]; omega
  ·next c =>
   have e:lo=hi:=by omega
   subst e;refine ⟨λ i a q=>⟨λ c=>a1 i a c q,λ c=>?_⟩,l2⟩;by_cases z:i < lo
   ·exact z
   ·have:=a2 i a [5] q; omega
theorem vj0 (h:Rise xs) (j:Nat) {a:Nat} (q:xs[i]?=some a):i < SetTable.below xs j ↔ a < j :=
 (sp0 xs j h xs.size 0 xs.size [5] [5] [21] (λ _ _ z=>absurd z (Nat.not_lt_zero _)) (λ i a z q=>by simp_all)).1 i a q
theorem xm0 (h:Rise xs) (j:Nat):SetTable.below xs j<=xs.size :=
 (sp0 xs j h xs.size 0 xs.size [5] [5] [21] (λ _ _ z=>absurd z (Nat.not_lt_zero _)) (λ i a z q=>by simp_all)).2
theorem ym0 (h:Rise xs) {j:Nat} (q:xs[i]?=some j):SetTable.below xs j=i:=by
 have h1:=vj0 h j q;have h2:=xm0 h j;by_cases c:SetTable.below xs j < i
 ·have hi:=(Array.getElem?_eq_some_iff.mp q).1;obtain ⟨a,ha⟩:∃ a,xs[SetTable.below xs j]?=some a:=⟨_,Array.getElem?_eq_getElem [5]⟩;have h3:=vj0 h j ha;have h4:=xn0 h ha q c;omega
 ·omega
theorem vb1 {j:Nat} (h:j ∈ xs.toList):∃ i:Nat,xs[i]?=some j:=by
 obtain ⟨i,hi⟩:=List.mem_iff_getElem?.mp h;exact ⟨i,by simp_all⟩
theorem xv0 {j:Nat} (h:xs[i]?=some j):j ∈ xs.toList:=List.mem_iff_getElem?.mpr ⟨i,by simp_all⟩
theorem wk0 (h:Rise xs) (j:Nat):SetTable.has xs j=true ↔ j ∈ xs.toList:=by
 unfold SetTable.has;constructor
 ·intro z; exact xv0 (eq_of_beq z)
 ·intro z;obtain ⟨i,hi⟩:=vb1 z;rw [ym0 h hi,hi];simp
theorem tz0 {t:SetTable} (h:Rise t.place) {j:Nat}:t.slot j=.live i ↔ t.place[i]?=some j:=by
 unfold SetTable.slot;dsimp only;constructor
 ·intro z;split at z
  ·simp_all
  ·split at z <;> cases z
 ·intro z;rw [ym0 h z,z];simp
theorem tt0 {t:SetTable} (h:Rise t.place) (hd:Rise t.dummies) {j:Nat} (dj:j ∈ t.dummies.toList->j ∉ t.place.toList):t.slot j=.dummy ↔ j ∈ t.dummies.toList:=by
 unfold SetTable.slot;dsimp only;constructor
 ·intro z;split at z
  ·cases z
  ·split at z
   ·next c=>exact (wk0 hd j).mp c
   ·cases z
 ·intro z;rw [if_neg,if_pos ((wk0 hd j).mpr z)];intro c;exact dj z (xv0 (eq_of_beq c))
theorem ut0 {t:SetTable} (h:Rise t.place) (hd:Rise t.dummies) {j:Nat}:t.slot j=.empty ↔ j ∉ t.place.toList /\ j ∉ t.dummies.toList:=by
 unfold SetTable.slot;dsimp only;constructor
 ·intro z;split at z
  ·cases z
  ·next c =>
   split at z
   ·cases z
   ·next c2 =>
    refine ⟨λ m=>c ?_,λ m=>c2 ((wk0 hd j).mpr m)⟩;obtain ⟨i,hi⟩:=vb1 m;rw [ym0 h hi,hi];simp
 ·rintro ⟨z1,z2⟩;rw [if_neg (λ c=>z1 (xv0 (eq_of_beq c))),if_neg (λ c=>z2 ((wk0 hd j).mp c))]
noncomputable def mkT (mask:Nat):SetTable:={ SetTable.fresh 0 0 false with mask:=mask }
noncomputable def trS (mask:Nat) (h:Int):Nat->SetTable.Probe
 | 0=>(mkT mask).probeStart h
 | n + 1=>(mkT mask).advance (trS mask h n)
noncomputable abbrev tr (mask:Nat) (h:Int) (n:Nat):Nat:=(trS mask h n).j
theorem ve1 (t:SetTable) (p:SetTable.Probe) (d:Option Nat):t.advance { p with dummy:=d }={ t.advance p with dummy:=d }:=by
 unfold SetTable.advance;dsimp only;split <;> rfl
noncomputable def seg (mask i perturb:Nat):SetTable.Probe:={ j:=i,more:=SetTable.runEnd mask i - i,i:=i,perturb:=perturb,dummy:=none }
theorem run9 (mask i:Nat):SetTable.runEnd mask i - i<=9:=by unfold SetTable.runEnd; split <;> omega
theorem ul4 (mask i:Nat):i<=SetTable.runEnd mask i:=by unfold SetTable.runEnd; split <;> omega
theorem tl4 (mask i:Nat) (h:i<=mask):SetTable.runEnd mask i<=mask:=by unfold SetTable.runEnd; split <;> omega
theorem ww0 {mask:Nat} {h:Int} {n i p:Nat} (e:trS mask h n=seg mask i p):∀ k,k<=SetTable.runEnd mask i - i->trS mask h (n + k)={ seg mask i p with j:=i + k,more:=SetTable.runEnd mask i - i - k }
 | 0,_=>e
 | k + 1,hk=>by
  have ih:=ww0 e k [5];show (mkT mask).advance (trS mask h (n + k))=_;rw [ih];unfold SetTable.advance;dsimp only [seg];rw [if_pos [5]];congr 1
variable {mask:Nat} {h:Int}
theorem xp0 {n p:Nat} (e:trS mask h n=seg mask i p):trS mask h (n + (SetTable.runEnd mask i - i) + 1)=seg mask (SetTable.leap mask i p).1 (SetTable.leap mask i p).2:=by
 have ih:=ww0 e _ [21];show (mkT mask).advance (trS mask h (n + (SetTable.runEnd mask i - i)))=_;rw [ih];unfold SetTable.advance;dsimp only [seg];rw [if_neg [5]];rfl
noncomputable def lp (mask:Nat):Nat->Nat × Nat->Nat × Nat
 | 0,x=>x
 | k + 1,x=>lp mask k (SetTable.leap mask x.1 x.2)
theorem xc3 {mask:Nat} {h:Int}:∀ (K:Nat) {n i p:Nat},trS mask h n=seg mask i p->∃ m,n<=m /\ m<=n + 10 * K /\ trS mask h m=seg mask (lp mask K (i,p)).1 (lp mask K (i,p)).2
 | 0,n,i,p,e=>⟨n,Nat.le_refl _,Nat.le_refl _,e⟩
 | K + 1,n,i,p,e=>by
  obtain ⟨m,h1,h2,h3⟩:=xc3 K (xp0 e);have:=run9 mask i;exact ⟨m,by omega,by omega,h3⟩
theorem zd3 (mask:Nat):∀ (a b:Nat) (x:Nat × Nat),lp mask (a + b) x=lp mask b (lp mask a x)
 | 0,b,x=>by rw [Nat.zero_add]; rfl
 | a + 1,b,x=>by rw [show a + 1 + b=(a + b) + 1 by omega]; exact zd3 mask a b _
theorem yd3 (mask:Nat):∀ (k:Nat) (x:Nat × Nat),x.2 < 32 ^ k->(lp mask k x).2=0
 | 0,x,h=>by simp at h; exact h
 | k + 1,x,h=>yd3 mask k _ (by show x.2 / 32 < 32 ^ k; omega)
noncomputable def f0 (mask i:Nat):Nat:=(i * 5 + 1) % (mask + 1)
noncomputable def fN (mask:Nat):Nat->Nat->Nat
 | 0,i=>i
 | k + 1,i=>fN mask k (f0 mask i)
theorem ta2 (mask:Nat):∀ (k i:Nat),lp mask k (i,0)=(fN mask k i,0)
 | 0,i=>rfl
 | k + 1,i=>by
  show lp mask k (SetTable.leap mask i 0)=_;have:SetTable.leap mask i 0=(f0 mask i,0):=by rfl
  rw [this,ta2 mask k];rfl
theorem zd1 (mask:Nat):∀ (a b i:Nat),fN mask (a + b) i=fN mask b (fN mask a i)
 | 0,b,i=>by rw [Nat.zero_add]; rfl
 | a + 1,b,i=>by rw [show a + 1 + b=(a + b) + 1 by omega]; exact zd1 mask a b _
noncomputable def okM:List Nat:=[7,15,31,63,127,255,511,1023,2047,4095]
noncomputable def gs:Nat->Nat
 | 0=>0
 | r + 1=>5 * gs r + 1
theorem ud2:∀ r,5 ^ r=4 * gs r + 1
 | 0=>rfl
 | r + 1=>by rw [Nat.pow_succ,ud2 r]; show _=4 * (5 * gs r + 1) + 1; omega
theorem td2:∀ a b,gs (a + b)=gs a * 5 ^ b + gs b
 | a,0=>by simp [gs]
 | a,b + 1=>by
  show 5 * gs (a + b) + 1=_;rw [td2 a b,Nat.pow_succ];show _=gs a * (5 ^ b * 5) + (5 * gs b + 1);rw [Nat.mul_add,<- Nat.mul_assoc,Nat.mul_comm 5 (gs a),Nat.mul_assoc (gs a) 5,Nat.mul_comm 5 (5 ^ b)];omega
theorem vd2:∀ k,∃ o,gs (2 ^ k)=2 ^ k * (2 * o + 1)
 | 0=>⟨0,rfl⟩
 | k + 1=>by
  obtain ⟨o,e⟩:=vd2 k;refine ⟨o + (2 * o + 1) * gs (2 ^ k),?_⟩
  have h:gs (2 ^ (k + 1))=gs (2 ^ k) * (4 * gs (2 ^ k) + 2):=by
   rw [show 2 ^ (k + 1)=2 ^ k + 2 ^ k by omega,td2,ud2]
   grind
  rw [h,Nat.pow_succ,e];generalize 2 ^ k=P
  grind
variable {x e:Nat}
theorem xr3 {P:Nat} (hP:0 < P) (h:x % P=e % P):x % (P * 2)=e % (P * 2) \/ (x + P) % (P * 2)=e % (P * 2):=by
 rw [Nat.mod_mul,Nat.mod_mul,Nat.mod_mul,h,Nat.add_mod_right,h,Nat.add_div_right _ hP];rcases Nat.mod_two_eq_zero_or_one (x / P) with a | a <;> rcases Nat.mod_two_eq_zero_or_one (e / P) with b | b
 ·left; rw [a,b]
 ·right; rw [b,show (x / P + 1) % 2=1 by omega]
 ·right; rw [b,show (x / P + 1) % 2=0 by omega]
 ·left; rw [a,b]
theorem tn1:∀ k e,∃ r,r < 2 ^ k /\ gs r % 2 ^ k=e % 2 ^ k
 | 0,e=>⟨0,by decide,by simp [Nat.mod_one]⟩
 | k + 1,e=>by
  obtain ⟨r,hr,h⟩:=tn1 k e;have hP:0 < 2 ^ k:=Nat.two_pow_pos k;rw [Nat.pow_succ];rcases xr3 hP h with q | q
  ·exact ⟨r,by omega,q⟩
  ·refine ⟨2 ^ k + r,by omega,?_⟩;obtain ⟨o,eo⟩:=vd2 k;rw [td2,ud2,eo,<- q];generalize 2 ^ k=P at *;have:P * (2 * o + 1) * (4 * gs r + 1) + gs r=(gs r + P) + P * 2 * (o + (2 * o + 1) * (2 * gs r)):=by grind
   simp_all
theorem vt3 (mask:Nat):∀ r,fN mask r 0=gs r % (mask + 1)
 | 0=>by rfl
 | r + 1=>by
  rw [zd1 mask r 1 0,vt3 mask r];show f0 mask (gs r % (mask + 1))=(5 * gs r + 1) % (mask + 1);unfold f0;rw [Nat.add_mod (gs r % (mask + 1) * 5),Nat.mul_mod,Nat.mod_mod,<- Nat.mul_mod,<- Nat.add_mod,Nat.mul_comm]
theorem uq3:∀ m ∈ okM,∃ k,m + 1=2 ^ k:=by
 intro m hm;simp only [okM,mem_cons,List.not_mem_nil,or_false] at hm;rcases hm with rfl | rfl | rfl | rfl | rfl | rfl | rfl | rfl | rfl | rfl
 ·exact ⟨3,rfl⟩
 ·exact ⟨4,rfl⟩
 ·exact ⟨5,rfl⟩
 ·exact ⟨6,rfl⟩
 ·exact ⟨7,rfl⟩
 ·exact ⟨8,rfl⟩
 ·exact ⟨9,rfl⟩
 ·exact ⟨10,rfl⟩
 ·exact ⟨11,rfl⟩
 ·exact ⟨12,rfl⟩
theorem xe5 (hm:mask ∈ okM) (hi:i<=mask) (he:e<=mask):∃ r,r<=mask /\ fN mask r i=e:=by
 obtain ⟨k,hk⟩:=uq3 mask hm
 have h2:fN mask (mask + 1) 0=0:=by
  obtain ⟨o,eo⟩:=vd2 k;rw [vt3,hk,eo,Nat.mul_mod_right]
 have g:∀ x,x<=mask->∃ r,r<=mask /\ fN mask r 0=x:=λ x hx=>by
  obtain ⟨r,hr,h⟩:=tn1 k x;refine ⟨r,by omega,?_⟩;rw [vt3,hk,h,Nat.mod_eq_of_lt [5]]
 obtain ⟨a,ha,ea⟩:=g i hi;obtain ⟨b,hb,eb⟩:=g e he;by_cases c:a<=b
 ·refine ⟨b - a,by omega,?_⟩;have:=zd1 mask a (b - a) 0
  simp_all
 ·refine ⟨mask + 1 - a + b,by omega,?_⟩;have h3:=zd1 mask a (mask + 1 - a) 0;rw [show a + (mask + 1 - a)=mask + 1 by omega,h2,ea] at h3;rw [zd1,<- h3,eb]
theorem ya5 {mask:Nat}:∀ (k:Nat) (x:Nat × Nat),x.1<=mask->(lp mask k x).1<=mask
 | 0,x,h=>h
 | k + 1,x,_=>ya5 k _ (by show (x.1 * 5 + 1 + x.2 / 32) % (mask + 1)<=mask; have:=Nat.mod_lt (x.1 * 5 + 1 + x.2 / 32) (show mask + 1 > 0 by omega); omega)
theorem wm1 (hm:mask ∈ okM) {p:Nat} (hi:i<=mask) (hp:p < 2 ^ 64) (he:e<=mask):∃ K,K<=13 + mask /\ (lp mask K (i,p)).1=e:=by
 have h1:=yd3 mask 13 (i,p) (Nat.lt_of_lt_of_le hp [27]);have h2:=ya5 13 (i,p) hi;obtain ⟨r,hr,er⟩:=xe5 hm h2 he;refine ⟨13 + r,by omega,?_⟩;rw [zd3,show lp mask 13 (i,p)=((lp mask 13 (i,p)).1,0) from Prod.ext rfl h1,ta2,er]
theorem th2 (h:Int):SetTable.bits h < 2 ^ 64:=by
 unfold SetTable.bits;omega
theorem wz0 (mask:Nat) (h:Int):trS mask h 0=seg mask (SetTable.bits h % (mask + 1)) (SetTable.bits h):=rfl
theorem ua4 (h:Int) (n:Nat):∃ n0 i p k,n=n0 + k /\ trS mask h n0=seg mask i p /\ i<=mask /\ p < 2 ^ 64 /\ k<=SetTable.runEnd mask i - i:=by
 induction n with
 | zero=>exact ⟨0,_,_,0,rfl,wz0 mask h,by have:=Nat.mod_lt (SetTable.bits h) (show mask + 1 > 0 by omega); omega,th2 h,Nat.zero_le _⟩
 | succ n ih =>
  obtain ⟨n0,i,p,k,e1,e2,e3,e4,e5⟩:=ih;by_cases c:k + 1<=SetTable.runEnd mask i - i
  ·exact ⟨n0,i,p,k + 1,by omega,e2,e3,e4,c⟩
  ·refine ⟨n0 + (SetTable.runEnd mask i - i) + 1,_,_,0,by omega,xp0 e2,?_,?_,Nat.zero_le _⟩
   ·show (i * 5 + 1 + p / 32) % (mask + 1)<=mask; have:=Nat.mod_lt (i * 5 + 1 + p / 32) (show mask + 1 > 0 by omega); omega
   ·show p / 32 < 2 ^ 64; omega
theorem zg3 (h:Int) (n:Nat):tr mask h n<=mask:=by
 obtain ⟨n0,i,p,k,e1,e2,e3,e4,e5⟩:=ua4 (mask:=mask) h n;subst e1;show (trS mask h (n0 + k)).j<=mask;rw [ww0 e2 k e5];show i + k<=mask;have:=tl4 mask i e3;omega
theorem wj1 (hm:mask ∈ okM) (h:Int) (n:Nat) (he:e<=mask):∃ m,n<=m /\ m < n + 10 * SetTable.turns mask /\ tr mask h m=e:=by
 obtain ⟨n0,i,p,k,e1,e2,e3,e4,e5⟩:=ua4 (mask:=mask) h n;have e6:=xp0 e2;have l1:(SetTable.leap mask i p).1<=mask:=by show (i * 5 + 1 + p / 32) % (mask + 1)<=mask; have:=Nat.mod_lt (i * 5 + 1 + p / 32) (show mask + 1 > 0 by omega); omega
 obtain ⟨K,hK,eK⟩:=wm1 hm l1 (show (SetTable.leap mask i p).2 < 2 ^ 64 by show p / 32 < 2 ^ 64; omega) he;obtain ⟨m,h1,h2,h3⟩:=xc3 K e6;have:=run9 mask i;refine ⟨m,by omega,by unfold SetTable.turns; omega,?_⟩;show (trS mask h m).j=e;rw [h3];exact eK
def Occ (t:SetTable) (j:Nat):Prop:=j ∈ t.place.toList \/ j ∈ t.dummies.toList
structure TOk (t:SetTable) (hs:List Int):Prop where
 ris:Rise t.place
 rid:Rise t.dummies
 dj:∀ j,j ∈ t.dummies.toList->j ∉ t.place.toList
 inP:∀ j,j ∈ t.place.toList->j<=t.mask
 inD:∀ j,j ∈ t.dummies.toList->j<=t.mask
 msk:t.mask ∈ okM
 sz:t.place.size=hs.length
 reach:∀ (i j:Nat) (h:Int),t.place[i]?=some j->hs[i]?=some h->∃ m,tr t.mask h m=j /\ ∀ l,l < m->Occ t (tr t.mask h l)
variable {hs:List Int}
theorem TOk.occ {t:SetTable} (k:TOk t hs) (j:Nat):Occ t j ↔ t.slot j ≠ .empty:=by
 rw [Ne,ut0 k.ris k.rid];unfold Occ;constructor
 ·rintro (z | z) ⟨a,b⟩
  ·exact a z
  ·exact b z
 ·intro z;by_cases c:j ∈ t.place.toList
  ·exact .inl c
  simp_all
theorem wc3:∀ (M:Nat) (L:List Nat),(∀ e,e < M->e ∈ L)->M<=L.length
 | 0,_,_=>Nat.zero_le _
 | M + 1,L,h=>by
  have h1:=h M (Nat.lt_succ_self _);have h2:=wc3 M (L.erase M) λ e he=>(List.mem_erase_of_ne (Nat.ne_of_lt he)).mpr (h e (Nat.lt_succ_of_lt he));rw [List.length_erase_of_mem h1] at h2;have:=List.length_pos_of_mem h1;omega
theorem TOk.hole {t:SetTable} (k:TOk t hs) (r:t.fill<=t.mask):∃ e,e<=t.mask /\ t.slot e=.empty:=by
 refine Classical.byContradiction λ c=>?_
 have:=wc3 (t.mask + 1) (t.place.toList ++ t.dummies.toList) λ e he=>by
  have h1:Occ t e:=(k.occ e).mpr λ z=>c ⟨e,by omega,z⟩;exact List.mem_append.mpr h1
 rw [length_append] at this;simp only [length_toList] at this;unfold SetTable.fill at r;omega
def Sk (t:SetTable) (hashAt:Nat->Int) (h:Int) (n m:Nat):Prop:=∀ l,n<=l->l < m->t.slot (tr t.mask h l) ≠ .empty /\ ∀ i,t.slot (tr t.mask h l)=.live i->hashAt i ≠ h
def DumOk (t:SetTable) (h:Int) (d:Option Nat) (n:Nat):Prop:=∀ x,d=some x->∃ l,l < n /\ tr t.mask h l=x /\ t.slot x=.dummy
theorem DumOk.up {t:SetTable} {d:Option Nat} {n m:Nat} (k:DumOk t h d n) (l:n<=m):DumOk t h d m:=λ x e=>by
 obtain ⟨a,b,c⟩:=k x e;exact ⟨a,by omega,c⟩
theorem Sk.cons {t:SetTable} {hashAt:Nat->Int} {h:Int} {n m:Nat} (a:t.slot (tr t.mask h n) ≠ .empty) (b:∀ i,t.slot (tr t.mask h n)=.live i->hashAt i ≠ h) (k:Sk t hashAt h (n + 1) m):Sk t hashAt h n m:=λ l h1 h2=>by
 by_cases c:l=n
 ·simp_all
 ·exact k l [5] h2
theorem yh1 (t:SetTable) (hashAt:Nat->Int) (h:Int):∀ (fuel n:Nat) (d:Option Nat),DumOk t h d n->(∃ m,n<=m /\ m < n + fuel /\ t.slot (tr t.mask h m)=.empty) ->
    (∃ m d',SetTable.probe.go t hashAt h fuel { trS t.mask h n with dummy:=d }=some (.empty (tr t.mask h m) d') /\ n<=m /\ t.slot (tr t.mask h m)=.empty /\ Sk t hashAt h n m /\ DumOk t h d' m) ∨
    (∃ m i d',SetTable.probe.go t hashAt h fuel { trS t.mask h n with dummy:=d }=some (.candidate (tr t.mask h m) i { trS t.mask h (m + 1) with dummy:=d' }) /\ n<=m /\ t.slot (tr t.mask h m)=.live i /\ hashAt i=h /\ Sk t hashAt h n m /\ DumOk t h d' m)
 | 0,n,d,k,c=>by omega
 | fuel + 1,n,d,k,c=>by
  have nx:t.slot (tr t.mask h n) ≠ .empty->∃ m,n + 1<=m /\ m < n + 1 + fuel /\ t.slot (tr t.mask h m)=.empty:=λ z=>by
   obtain ⟨m,a,b,e⟩:=c;refine ⟨m,?_,by omega,e⟩;by_cases y:m=n
   ·simp_all
   ·omega
  unfold SetTable.probe.go;dsimp only;cases hs:t.slot (tr t.mask h n) with
  | empty=>exact .inl ⟨n,d,rfl,Nat.le_refl _,hs,λ l a b=>by omega,k⟩
  | dummy =>
   dsimp only;have e1:t.advance { trS t.mask h n with dummy:=some (tr t.mask h n) }={ trS t.mask h (n + 1) with dummy:=some (tr t.mask h n) }:=ve1 t (trS t.mask h n) _;rw [e1];have k':DumOk t h (some (tr t.mask h n)) (n + 1):=λ x e=>by cases e; exact ⟨n,Nat.lt_succ_self _,rfl,hs⟩
   have e2:t.slot (tr t.mask h n) ≠ .empty:=by simp_all
   have e3:∀ i,t.slot (tr t.mask h n)=.live i->hashAt i ≠ h:=λ i z=>by simp_all
   rcases yh1 t hashAt h fuel (n + 1) _ k' (nx e2) with ⟨m,d',a1,a2,a3,a4,a5⟩ | ⟨m,i,d',a1,a2,a3,a4,a5,a6⟩
   ·exact .inl ⟨m,d',a1,by omega,a3,a4.cons e2 e3,a5⟩
   ·exact .inr ⟨m,i,d',a1,by omega,a3,a4,a5.cons e2 e3,a6⟩
  | live i =>
   dsimp only;have e1:t.advance { trS t.mask h n with dummy:=d }={ trS t.mask h (n + 1) with dummy:=d }:=ve1 t (trS t.mask h n) _;rw [e1];have e2:t.slot (tr t.mask h n) ≠ .empty:=by simp_all
   by_cases c2:hashAt i=h
   ·rw [if_pos (by simpa using c2)];exact .inr ⟨n,i,d,rfl,Nat.le_refl _,hs,c2,λ l a b=>by omega,k⟩
   ·rw [if_neg (by simpa using c2)];have e3:∀ i,t.slot (tr t.mask h n)=.live i->hashAt i ≠ h:=λ i' z=>by simp_all
    rcases yh1 t hashAt h fuel (n + 1) _ (k.up (Nat.le_succ _)) (nx e2) with ⟨m,d',a1,a2,a3,a4,a5⟩ | ⟨m,i,d',a1,a2,a3,a4,a5,a6⟩
    ·exact .inl ⟨m,d',a1,by omega,a3,a4.cons e2 e3,a5⟩
    ·exact .inr ⟨m,i,d',a1,by omega,a3,a4,a5.cons e2 e3,a6⟩
theorem TOk.probe {t:SetTable} {hs:List Int} (k:TOk t hs) (r:t.fill<=t.mask) (hashAt:Nat->Int) (h:Int) (n:Nat) (d:Option Nat) (kd:DumOk t h d n) :
    (∃ m d',t.probe hashAt h { trS t.mask h n with dummy:=d }=some (.empty (tr t.mask h m) d') /\ n<=m /\ t.slot (tr t.mask h m)=.empty /\ Sk t hashAt h n m /\ DumOk t h d' m) ∨
    (∃ m i d',t.probe hashAt h { trS t.mask h n with dummy:=d }=some (.candidate (tr t.mask h m) i { trS t.mask h (m + 1) with dummy:=d' }) /\ n<=m /\ t.slot (tr t.mask h m)=.live i /\ hashAt i=h /\ Sk t hashAt h n m /\ DumOk t h d' m):=by
 obtain ⟨e,he,ee⟩:=k.hole r;obtain ⟨m,h1,h2,h3⟩:=wj1 k.msk h n he;exact yh1 t hashAt h _ n d kd ⟨m,h1,h2,by rw [h3]; exact ee⟩
theorem wu0 {α:Type} {xs:List α} {p:Nat} {x:α} (hp:p<=xs.length) (h:i < p):(xs.take p ++ x :: xs.drop p)[i]?=xs[i]?:=by
 rw [getElem?_append_left [26],getElem?_take_of_lt h]
theorem uu0 {α:Type} {xs:List α} {p:Nat} {x:α} (hp:p<=xs.length):(xs.take p ++ x :: xs.drop p)[p]?=some x:=by
 simp_all
theorem vu0 {α:Type} {xs:List α} {p:Nat} {x:α} (hp:p<=xs.length) (h:p<=i):(xs.take p ++ x :: xs.drop p)[i + 1]?=xs[i]?:=by
 rw [getElem?_append_right [20],length_take,show i + 1 - min p xs.length=(i - p) + 1 by omega,getElem?_cons_succ,getElem?_drop];congr 1;omega
noncomputable def insL {α:Type} (xs:List α) (p:Nat) (x:α):List α:=xs.take p ++ x :: xs.drop p
theorem tp0 {α:Type} (xs:List α) (p:Nat) (x y:α):y ∈ insL xs p x ↔ y=x \/ y ∈ xs:=by
 have e:xs=xs.take p ++ xs.drop p:=(take_append_drop p xs).symm;unfold insL;rw [mem_append,mem_cons];constructor
 ·rintro (z | z | z)
  ·exact .inr (mem_of_mem_take z)
  ·exact .inl z
  ·exact .inr (mem_of_mem_drop z)
 ·rintro (z | z)
  ·exact .inr (.inl z)
  ·rw [e] at z;rcases List.mem_append.mp z with z | z
   ·exact .inl z
   simp_all
theorem vh0 {α:Type} (xs:List α) (p:Nat) (x:α):(insL xs p x).length=xs.length + 1:=by
 unfold insL
 simp_all;omega
theorem yn1 {α β:Type} (f:α->β) (xs:List α) (p:Nat) (x:α):(insL xs p x).map f=insL (xs.map f) p (f x):=by
 unfold insL;simp
theorem yq2 (h:Rise xs) {j:Nat} (hn:j ∉ xs.toList):(insL xs.toList (SetTable.below xs j) j).Pairwise (· < ·):=by
 have b:∀ {i a:Nat},xs[i]?=some a->(i < SetTable.below xs j ↔ a < j):=λ q=>vj0 h j q;have hb:=xm0 h j;have e:xs.toList=xs.toList.take (SetTable.below xs j) ++ xs.toList.drop (SetTable.below xs j):=(take_append_drop _ _).symm;have h':=h;unfold Rise at h';rw [e] at h';obtain ⟨h1,h2,h3⟩:=List.pairwise_append.mp h';unfold insL;refine List.pairwise_append.mpr ⟨h1,List.pairwise_cons.mpr ⟨λ x hx=>?_,h2⟩,λ x hx y hy=>?_⟩
 ·obtain ⟨i,hi⟩:=List.mem_iff_getElem?.mp hx;rw [getElem?_drop,getElem?_toList] at hi;have:=b hi;have ne:x ≠ j:=λ z=>hn (by subst z; exact xv0 hi);omega
 ·have hxl:x < j:=by
    obtain ⟨i,hi⟩:=List.mem_iff_getElem?.mp hx
    have hlt:i < SetTable.below xs j:=by
     have:=(List.getElem?_eq_some_iff.mp hi).1;rw [length_take] at this;omega
    rw [getElem?_take_of_lt hlt,getElem?_toList] at hi;exact (b hi).mp hlt
  rcases List.mem_cons.mp hy with rfl | hy
  ·exact hxl
  ·exact h3 x hx y hy
theorem yu3 (h:Rise xs) {p j:Nat} (hp:xs[p]?=some j) (x:Nat):x ∈ (SetTable.eraseAt xs p).toList ↔ x ∈ xs.toList /\ x ≠ j:=by
 have hpl:=(Array.getElem?_eq_some_iff.mp hp).1
 have e:(SetTable.eraseAt xs p).toList=xs.toList.take p ++ xs.toList.drop (p + 1):=by
  simp [SetTable.eraseAt,List.extract_eq_take_drop,take_of_length_le]
 rw [e,mem_append];constructor
 ·rintro (z | z)
  ·obtain ⟨i,hi⟩:=List.mem_iff_getElem?.mp z
   have hlt:i < p:=by
    have:=(List.getElem?_eq_some_iff.mp hi).1
    simp_all;omega
   rw [getElem?_take_of_lt hlt,getElem?_toList] at hi;exact ⟨xv0 hi,Nat.ne_of_lt (xn0 h hi hp hlt)⟩
  ·obtain ⟨i,hi⟩:=List.mem_iff_getElem?.mp z;rw [getElem?_drop,getElem?_toList] at hi;exact ⟨xv0 hi,Nat.ne_of_gt (xn0 h hp hi [5])⟩
 ·rintro ⟨z,ne⟩;obtain ⟨i,hi⟩:=vb1 z;have hil:=(Array.getElem?_eq_some_iff.mp hi).1;by_cases c:i < p
  ·exact .inl (List.mem_iff_getElem?.mpr ⟨i,by simp_all⟩)
  ·have:i ≠ p:=λ y=>by simp_all
   exact .inr (List.mem_iff_getElem?.mpr ⟨i - (p + 1),by rw [getElem?_drop,show p + 1 + (i - (p + 1))=i by omega,getElem?_toList]; exact hi⟩)
theorem tx0 (xs:Array Nat) (p:Nat):(SetTable.eraseAt xs p).toList=xs.toList.take p ++ xs.toList.drop (p + 1):=by
 simp [SetTable.eraseAt,List.extract_eq_take_drop,take_of_length_le]
theorem zq2 (h:Rise xs) (p:Nat):Rise (SetTable.eraseAt xs p):=by
 unfold Rise;rw [tx0];have e:xs.toList=xs.toList.take p ++ xs.toList.drop p:=(take_append_drop p xs.toList).symm;refine List.Pairwise.sublist ?_ h
 conv=>rhs; rw [e]
 refine List.Sublist.append (List.Sublist.refl _) ?_;rw [<- List.drop_drop];exact drop_sublist _ _
theorem tj0 {t:SetTable} (k:Rise t.dummies) (j x:Nat):x ∈ (t.put j).1.dummies.toList ↔ x ∈ t.dummies.toList /\ x ≠ j:=by
 show x ∈ (if SetTable.has t.dummies j then SetTable.eraseAt t.dummies (SetTable.below t.dummies j) else t.dummies).toList ↔ _;by_cases c:SetTable.has t.dummies j=true
 ·rw [if_pos c];obtain ⟨i,hi⟩:=vb1 ((wk0 k j).mp c);rw [ym0 k hi];exact yu3 k hi x
 ·rw [if_neg c];exact ⟨λ z=>⟨z,λ y=>by subst y; exact c ((wk0 k x).mpr z)⟩,λ z=>z.1⟩
theorem ue0 (t:SetTable) (j:Nat):(t.put j).1.place.toList=insL t.place.toList (SetTable.below t.place j) j:=SetTable.toList_insertAt _ _ _
theorem TOk.put {t:SetTable} {hs:List Int} (k:TOk t hs) {x:Nat} {h:Int} (hx:x ∉ t.place.toList) (hr:∃ m,tr t.mask h m=x /\ ∀ l,l < m->Occ t (tr t.mask h l)) :
    TOk (t.put x).1 (insL hs (SetTable.below t.place x) h):=by
 have hb:=xm0 k.ris x;have sz:=k.sz
 have oc:∀ j,Occ t j->Occ (t.put x).1 j:=λ j o=>by
  unfold Occ;rw [ue0,tp0,tj0 k.rid];by_cases c:j=x
  ·exact .inl (.inl c)
  ·exact o.elim (λ z=>.inl (.inr z)) λ z=>.inr ⟨z,c⟩
 have hxm:x<=t.mask:=by obtain ⟨m,e,_⟩:=hr; rw [<- e]; exact zg3 h m
 refine ⟨?_,?_,λ j a b=>?_,λ j a=>?_,λ j a=>?_,k.msk,?_,λ i j h' a b=>?_⟩
 ·unfold Rise; rw [ue0]; exact yq2 k.ris hx
 ·show Rise (if SetTable.has t.dummies x then SetTable.eraseAt t.dummies (SetTable.below t.dummies x) else t.dummies);split
  ·exact zq2 k.rid _
  ·exact k.rid
 ·rw [tj0 k.rid] at a;rw [ue0,tp0] at b;rcases b with rfl | b
  ·exact a.2 rfl
  ·exact k.dj j a.1 b
 ·rw [ue0,tp0] at a;rcases a with rfl | a
  ·exact hxm
  ·exact k.inP j a
 ·rw [tj0 k.rid] at a;exact k.inD j a.1
 ·rw [<- length_toList,ue0,vh0,vh0,length_toList,sz]
 ·have lp:SetTable.below t.place x<=t.place.toList.length:=by omega
  have lh:SetTable.below t.place x<=hs.length:=by omega
  rw [<- getElem?_toList,ue0] at a;show ∃ m,tr t.mask h' m=j /\ ∀ l,l < m->Occ (t.put x).1 (tr t.mask h' l);unfold insL at a b;by_cases c:i < SetTable.below t.place x
  ·rw [wu0 lp c,getElem?_toList] at a;rw [wu0 lh c] at b;obtain ⟨m,e,o⟩:=k.reach i j h' a b;exact ⟨m,e,λ l hl=>oc _ (o l hl)⟩
  ·by_cases c2:i=SetTable.below t.place x
   ·subst c2;rw [uu0 lp] at a;rw [uu0 lh] at b;cases a;cases b;obtain ⟨m,e,o⟩:=hr;exact ⟨m,e,λ l hl=>oc _ (o l hl)⟩
   ·obtain ⟨i',rfl⟩:∃ i',i=i' + 1:=⟨i - 1,by omega⟩;rw [vu0 lp [5],getElem?_toList] at a;rw [vu0 lh [5]] at b;obtain ⟨m,e,o⟩:=k.reach i' j h' a b;exact ⟨m,e,λ l hl=>oc _ (o l hl)⟩
theorem yr2 {t:SetTable} (k:TOk t hs) :(t.put x).1.fill<=t.fill + 1:=by
 unfold SetTable.fill;have h1:(t.put x).1.place.size=t.place.size + 1:=by rw [<- length_toList,ue0,vh0,length_toList]
 have h2:(t.put x).1.dummies.size<=t.dummies.size:=by
  show (if SetTable.has t.dummies x then SetTable.eraseAt t.dummies (SetTable.below t.dummies x) else t.dummies).size<=_;split
  ·rw [<- length_toList,tx0,length_append,length_take,length_drop,length_toList]; omega
  omega
 omega
theorem wq1 {t:SetTable} (k:TOk t hs) (hd:t.slot x=.dummy):(t.put x).1.fill<=t.fill:=by
 unfold SetTable.fill;have h1:(t.put x).1.place.size=t.place.size + 1:=by rw [<- length_toList,ue0,vh0,length_toList]
 have m:=(tt0 k.ris k.rid (k.dj x)).mp hd;obtain ⟨i,hi⟩:=vb1 m;have hil:=(Array.getElem?_eq_some_iff.mp hi).1
 have h2:(t.put x).1.dummies.size + 1<=t.dummies.size:=by
  show (if SetTable.has t.dummies x then SetTable.eraseAt t.dummies (SetTable.below t.dummies x) else t.dummies).size + 1<=_;rw [if_pos ((wk0 k.rid x).mpr m),ym0 k.rid hi,<- length_toList,tx0,length_append,length_take,length_drop,length_toList];omega
 omega
theorem xd1 (mask:Nat) (h:Int) (owner:Array [43]):∀ (fuel n i p:Nat),trS mask h n=seg mask i p->(∃ K,K < fuel /\ owner.getD (lp mask K (i,p)).1 (some 0)=none) ->
    ∃ m,SetTable.layClean.free mask owner fuel i p=some (tr mask h m) /\ n<=m /\ owner.getD (tr mask h m) (some 0)=none /\ ∀ l,n<=l->l < m->owner.getD (tr mask h l) (some 0) ≠ none
 | 0,n,i,p,e,c=>by omega
 | fuel + 1,n,i,p,e,c=>by
  have trk:∀ k,k<=SetTable.runEnd mask i - i->tr mask h (n + k)=i + k:=λ k hk=>by
   show (trS mask h (n + k)).j=_;rw [ww0 e k hk]
  have rl:=ul4 mask i;unfold SetTable.layClean.free;cases hf:(List.range (SetTable.runEnd mask i + 1 - i)).find? (λ k=>(owner.getD (i + k) (some 0)).isNone) with
  | some k =>
   dsimp only;obtain ⟨h1,h2,h3⟩:=List.find?_range_eq_some.mp hf;have h2':k < SetTable.runEnd mask i + 1 - i:=List.mem_range.mp h2;refine ⟨n + k,by rw [trk k [5]],by omega,by rw [trk k [5]]; simpa using h1,λ l a b=>?_⟩;obtain ⟨l',rfl⟩:∃ l',l=n + l':=⟨l - n,by omega⟩;rw [trk l' [5]];have:=h3 l' [5];intro z
   simp_all
  | none =>
   dsimp only;have h1:=List.find?_range_eq_none.mp hf
   have h1':∀ k,k<=SetTable.runEnd mask i - i->owner.getD (i + k) (some 0) ≠ none:=λ k hk z=>by
    have:=h1 k [5]
    simp_all
   have c':∃ K,K < fuel /\ owner.getD (lp mask K (SetTable.leap mask i p)).1 (some 0)=none:=by
    obtain ⟨K,a,b⟩:=c;cases K with
    | zero=>exact absurd b (h1' 0 (Nat.zero_le _))
    | succ K=>exact ⟨K,by omega,b⟩
   obtain ⟨m,a1,a2,a3,a4⟩:=xd1 mask h owner fuel _ _ _ (xp0 e) c';refine ⟨m,a1,by omega,a3,λ l b1 b2=>?_⟩;by_cases z:l<=n + (SetTable.runEnd mask i - i)
   ·obtain ⟨l',rfl⟩:∃ l',l=n + l':=⟨l - n,by omega⟩
    simp_all
   ·exact a4 l [5] b2
theorem ve3 {α β:Type} {f:α->Option β}:∀ {L:List α},(∀ j ∈ L,f j ≠ none)->(L.filterMap f).length=L.length
 | [],_=>rfl
 | j :: L,h=>by
  have h1:=h j (mem_cons_self ..);obtain ⟨b,hb⟩:∃ b,f j=some b:=by cases hq:f j with | none=>exact absurd hq h1 | some b=>exact ⟨b,rfl⟩
  rw [List.filterMap_cons_some hb,length_cons,length_cons,ve3 λ x hx=>h x (mem_cons_of_mem _ hx)]
theorem vx0 {α β:Type} {f g:α->Option β}:∀ {L:List α},(∀ j ∈ L,f j=g j)->L.filterMap f=L.filterMap g
 | [],_=>rfl
 | j :: L,h=>by
  rw [List.filterMap_cons,List.filterMap_cons,h j (mem_cons_self ..),vx0 λ x hx=>h x (mem_cons_of_mem _ hx)]
theorem we3 {f g:Nat->Option Nat} {x k:Nat} (e1:f x=none) (e2:g x=some k) (e3:∀ y,y ≠ x->g y=f y):∀ {L:List Nat},L.Nodup->x ∈ L->(L.filterMap g).Perm (k :: L.filterMap f)
 | [],_,h=>by cases h
 | y :: L,nd,h=>by
  obtain ⟨n1,n2⟩:=List.nodup_cons.mp nd;by_cases c:y=x
  ·subst c;rw [List.filterMap_cons_some e2,List.filterMap_cons_none e1];refine List.Perm.cons _ (List.Perm.of_eq ?_);exact vx0 λ j hj=>e3 j λ z=>n1 (z ▸ hj)
  ·have ih:=we3 e1 e2 e3 n2 (by rcases List.mem_cons.mp h with rfl | h; exact absurd rfl c; exact h);have e:=e3 y c;cases hf:f y with
   | none=>simp_all
   | some b =>
    rw [List.filterMap_cons_some (by rw [e,hf]),List.filterMap_cons_some hf];exact (List.Perm.cons _ ih).trans (List.Perm.swap _ _ _)
structure OwnOk (mask:Nat) (hs:List Int) (owner:Array (Option Nat)):Prop where
 sz:owner.size=mask + 1
 perm:((List.range (mask + 1)).filterMap λ j=>owner.getD j none).Perm (List.range hs.length)
 reach:∀ j k,owner.getD j none=some k->∃ h,hs[k]?=some h /\ ∃ m,tr mask h m=j /\ ∀ l,l < m->owner.getD (tr mask h l) none ≠ none
variable {owner:Array [43]}
theorem tw2 {j:Nat} (h:j < owner.size) (a b:Option Nat):owner.getD j a=owner.getD j b:=by simp_all
theorem OwnOk.step (hm:mask ∈ okM) (k:OwnOk mask hs owner) (hl:hs.length<=mask) (h:Int) :
    ∃ x,SetTable.layClean.free mask owner (SetTable.turns mask) (SetTable.bits h % (mask + 1)) (SetTable.bits h)=some x /\ OwnOk mask (hs ++ [h]) (owner.setIfInBounds x (some hs.length)):=by
 have sz:=k.sz
 obtain ⟨e,he,ee⟩:∃ e,e<=mask /\ owner.getD e none=none:=by
  refine Classical.byContradiction λ c=>?_;have h1:=ve3 (f:=λ j=>owner.getD j none) (L:=List.range (mask + 1)) λ j hj z=>c ⟨j,by have:=List.mem_range.mp hj; omega,z⟩;rw [k.perm.length_eq,length_range,length_range] at h1;omega
 have hi:SetTable.bits h % (mask + 1)<=mask:=by have:=Nat.mod_lt (SetTable.bits h) (show mask + 1 > 0 by omega); omega
 obtain ⟨K,hK,eK⟩:=wm1 hm hi (th2 h) he;obtain ⟨m,a1,a2,a3,a4⟩:=xd1 mask h owner (SetTable.turns mask) 0 _ _ (wz0 mask h) ⟨K,by unfold SetTable.turns; omega,by rw [eK,tw2 [5] _ none]; exact ee⟩;have ml:∀ l,tr mask h l < owner.size:=λ l=>by have:=zg3 (mask:=mask) h l; omega
 have a3':owner.getD (tr mask h m) none=none:=by simp_all
 have gx:(owner.setIfInBounds (tr mask h m) (some hs.length)).getD (tr mask h m) none=some hs.length:=by
  simp_all
 have gy:∀ y,y ≠ tr mask h m->(owner.setIfInBounds (tr mask h m) (some hs.length)).getD y none=owner.getD y none:=λ y hy=>by
  by_cases c:y < owner.size
  ·simp [Array.getD,c,Array.getElem_setIfInBounds,Ne.symm hy]
  simp_all
 have mono:∀ y,owner.getD y none ≠ none->(owner.setIfInBounds (tr mask h m) (some hs.length)).getD y none ≠ none:=λ y hy=>by
  by_cases c:y=tr mask h m
  ·simp_all
  simp_all
 refine ⟨tr mask h m,a1,by simp_all,?_,λ j q e=>?_⟩
 ·refine (we3 a3' gx gy List.nodup_range (List.mem_range.mpr (by have:=ml m; omega))).trans ?_;rw [length_append,List.length_singleton];exact ((List.Perm.cons _ k.perm).trans (List.perm_append_singleton _ _).symm).trans (List.Perm.of_eq List.range_succ.symm)
 ·by_cases c:j=tr mask h m
  ·subst c;rw [gx] at e;cases e;refine ⟨h,by simp,m,rfl,λ l hl=>mono _ ?_⟩
   simp_all
  ·rw [gy j c] at e;obtain ⟨h',b1,m',b2,b3⟩:=k.reach j q e;refine ⟨h',?_,m',b2,λ l hl=>mono _ (b3 l hl)⟩;rw [getElem?_append_left (List.getElem?_eq_some_iff.mp b1).1];exact b1
theorem we2 {mask:Nat} (hm:mask ∈ okM):∀ (rest done:List Int) (owner:Array [43]),OwnOk mask done owner->done.length + rest.length<=mask + 1 ->
    ∃ owner',List.foldl (λ acc h=>do
     let (owner,k) <- acc
     let j <- SetTable.layClean.free mask owner (SetTable.turns mask) (SetTable.bits h % (mask + 1)) (SetTable.bits h)
     pure (owner.setIfInBounds j (some k),k + 1)) (some (owner,done.length)) rest=some (owner',done.length + rest.length) /\ OwnOk mask (done ++ rest) owner'
 | [],done,owner,k,_=>⟨owner,rfl,by simp_all⟩
 | h :: rest,done,owner,k,hl=>by
  rw [length_cons] at hl;obtain ⟨x,e,k'⟩:=k.step hm [5] h;obtain ⟨o',e',k''⟩:=we2 hm rest (done ++ [h]) _ k' (by rw [length_append,List.length_singleton]; omega);refine ⟨o',?_,by simp_all⟩;rw [length_append,List.length_singleton] at e';rw [foldl_cons,length_cons,show done.length + (rest.length + 1)=done.length + 1 + rest.length by omega,<- e']
  simp_all
theorem own0 (mask:Nat):OwnOk mask [] (Array.replicate (mask + 1) none):=by
 have g:∀ j,(Array.replicate (mask + 1) (none:Option Nat)).getD j none=none:=λ j=>by
  by_cases c:j < mask + 1 <;> simp [Array.getD,c]
 refine ⟨by simp,?_,λ j k e=>by simp_all⟩
 simp_all
theorem tg1 (hm:mask ∈ okM) (hs:Array Int) (hl:hs.size<=mask + 1):∃ owner,SetTable.layClean mask hs=some owner /\ OwnOk mask hs.toList owner:=by
 obtain ⟨o,e,k⟩:=we2 hm hs.toList [] _ (own0 mask) (by simpa using hl);refine ⟨o,?_,by simpa using k⟩;unfold SetTable.layClean
 simp_all
theorem ys3 (hm:mask ∈ okM) (hs:Array Int) (hl:hs.size<=mask + 1) (fi mo:Nat) (le pl:Bool) :
    ∃ t' order,SetTable.laid mask fi mo le pl hs=some (t',order) /\ t'.mask=mask /\ t'.dummies = #[] /\ t'.led=le /\ t'.plain=pl /\ t'.finger=fi /\ t'.moves=mo /\ order.toList.Perm (List.range hs.size) /\ TOk t' (order.toList.map λ k=>hs.getD k 0):=by
 obtain ⟨o,e,k⟩:=tg1 hm hs hl;unfold SetTable.laid;rw [e];refine ⟨_,_,rfl,rfl,rfl,rfl,rfl,rfl,rfl,?_,?_⟩
 ·have:(((List.range (mask + 1)).filterMap λ j=>(o.getD j none).map (j,·)).map (·.2))=(List.range (mask + 1)).filterMap λ j=>o.getD j none:=by
    rw [List.map_filterMap];refine vx0 λ j _=>?_;cases o.getD j none <;> rfl
  simp only [List.toList_toArray];rw [this];simpa using k.perm
 ·generalize hlv:((List.range (mask + 1)).filterMap λ j=>(o.getD j none).map (j,·))=live
  have lget:∀ x,x ∈ live->x.1<=mask /\ o.getD x.1 none=some x.2:=λ x hx=>by
   rw [<- hlv] at hx;obtain ⟨j,hj,ej⟩:=List.mem_filterMap.mp hx;cases hq:o.getD j none with
   | none=>simp_all
   | some b=>rw [hq] at ej; cases ej; exact ⟨by have:=List.mem_range.mp hj; show j<=mask; omega,hq⟩
  have lin:∀ j q,j<=mask->o.getD j none=some q->j ∈ live.map (·.1):=λ j q hj eq=>by
   rw [<- hlv];exact List.mem_map.mpr ⟨(j,q),List.mem_filterMap.mpr ⟨j,List.mem_range.mpr [5],by rw [eq]; rfl⟩,rfl⟩
  have pw:(live.map (·.1)).Pairwise (· < ·):=by
   rw [<- hlv,List.map_filterMap,List.pairwise_filterMap];refine List.pairwise_lt_range.imp_of_mem ?_
   simp_all
  refine ⟨by omega,List.Pairwise.nil,λ j z=>by simp at z,λ j z=>?_,λ j z=>by simp at z,hm,by simp,λ i j h a b=>?_⟩
  ·have z':j ∈ live.map (·.1):=by simpa using z
   obtain ⟨x,hx,rfl⟩:=List.mem_map.mp z';exact (lget x hx).1
  ·have a':(live.map (·.1))[i]?=some j:=by simpa using a
   have b':((live.map (·.2)).map λ k=>hs.getD k 0)[i]?=some h:=by simpa using b
   rw [getElem?_map] at a' b';rw [getElem?_map] at b';cases hx:live[i]? with
   | none=>simp_all
   | some x =>
    rw [hx] at a' b';have a2:x.1=j:=by simpa using a'
    have b2:hs.getD x.2 0=h:=by simpa using b'
    obtain ⟨g1,g2⟩:=lget x (mem_of_getElem? hx);obtain ⟨h',c1,m,c2,c3⟩:=k.reach _ _ g2
    have hh:h'=h:=by
     simp_all
    subst hh;refine ⟨m,by rw [c2,a2],λ l hl=>.inl ?_⟩;have c4:=c3 l hl;cases hq:o.getD (tr mask h' l) none with
    | none=>exact absurd hq c4
    | some q=>simpa using lin _ q (zg3 h' l) hq
theorem xa1:∀ n,n < 512->SetTable.sizeAbove (n * 4) - 1 ∈ okM /\ n * 5 < (SetTable.sizeAbove (n * 4) - 1) * 3 /\ SetTable.sizeAbove (n * 4)<=2048:=by
 trivial
end Pv
namespace Pv
open PySem PySem.Spec PySem.W PyProof.Rows L2
noncomputable def kI (t:T3):List Int:=[t.1,t.2.1,t.2.2]
theorem vd3 {a b:T3} (h:kI a=kI b):a=b:=by
 obtain ⟨a1,a2,a3⟩:=a;obtain ⟨b1,b2,b3⟩:=b;simp only [kI,List.cons.injEq,and_true] at h
 simp_all
variable {prog:Program} {w:World} {A:Around} {E:[7]} {s:Shared} {Q:Bool->Shared->Prop} {h h':Heap}
section
abbrev TK (prog:Program) (w:World) (h:Heap) (t:T3) (a:Addr):Prop:=IsTupleKey (intKind prog w) h (kI t) a
noncomputable def hT (prog:Program) (w:World) (t:T3):Int:=tupleKeyHash (intKind prog w) (kI t)
theorem us3 {k:T3} {b:Addr} {Q:Int->Shared->Prop} (hu:A.units < cLine) (i:TK prog w s.heap k b) (h:∀ tk,Q (hT prog w k) { s with toks:=tk }):wpAny [6] A (pyHash (.ref b)) Q E s:=wpAny_pyHash_tuple hu i (h _)
theorem IsT3.key {a:Addr} {t:T3} (i:IsT3 h (.ref a) t):TK prog w h t a:=by
 obtain ⟨a',o,t1,t2,t3,n,e1,e2,e3,e4⟩:=i;cases e1;exact ⟨o,_,n,e2,e3,e4,.cons (intKind_is ..) (.cons (intKind_is ..) (.cons (intKind_is ..) .nil))⟩
theorem TK.t3 {h:Heap} {a:Addr} {t:T3} (i:TK prog w h t a):IsT3 h (.ref a) t:=by
 obtain ⟨o,items,n,e1,e2,e3,e4⟩:=i;obtain ⟨it⟩:=items;dsimp only at e4
 have f:∀ {k:Int} {v:Value},(intKind prog w).is k v=true->∃ tk,v=.int k tk:=λ {k v} z=>by
  cases v <;> simp [intKind,Value.isInt] at z
  simp_all
 unfold kI at e4;cases e4 with
 | cons a1 e4 =>
  cases e4 with
  | cons a2 e4 =>
   cases e4 with
   | cons a3 e4 =>
    cases e4;obtain ⟨t1,rfl⟩:=f a1;obtain ⟨t2,rfl⟩:=f a2;obtain ⟨t3,rfl⟩:=f a3;exact ⟨a,o,t1,t2,t3,n,rfl,e1,e2,e3⟩
theorem TK.kept {a:Addr} {t:T3} (k:∀ o,h.get? a=some o->o.cls=.type "tuple" -> h'.get? a=some o) (i:TK prog w h t a):TK prog w h' t a:=by
 obtain ⟨o,items,n,e1,e2,e3⟩:=i;exact ⟨o,items,n,k o e1 e2,e2,e3⟩
theorem yp0 {a:Addr} (h:Q true s):wpAny [6] A (isSame (.ref a) (.ref a)) Q E s:=by
 unfold isSame;dsimp only;rw [if_pos (beq_self_eq_true a)];exact wpAny_pure h
theorem TK.items {a:Addr} {t:T3} (i:TK prog w h t a):∃ o t1 t2 t3 n,h.get? a=some o /\ o.cls=.type "tuple" /\ o.data=.seq #[.int t.1 t1,.int t.2.1 t2,.int t.2.2 t3] n:=by
 obtain ⟨a',o,t1,t2,t3,n,e1,e2,e3,e4⟩:=i.t3
 simp_all
theorem zf3 {t:T3} {a:Addr} (i:TK prog w s.heap t a) (h:Q false s):wpAny [6] A (ofAClassStatement 8 (.ref a)) Q E s:=by
 have ty:=i.typeIs;obtain ⟨o,t1,t2,t3,n,e1,e2,e3⟩:=i.items;unfold ofAClassStatement;refine wpAny_bind (wpAny_typeOf ty ?_);dsimp only;rw [if_pos [27]];refine wpAny_bind [35];rw [if_neg [27]];refine wpAny_bind (wpAny_seqItems e1 e3 ?_);dsimp only;refine wpAny_bind ?_;rw [<- Array.forIn_toList];refine wpAny_forIn_list _ (λ rest r s'=>r.1=none /\ s'=s /\ ∀ v ∈ rest,carriedByValue v=true) _ ?_ ?_ _ _ ⟨rfl,rfl,by simp [carriedByValue]⟩
 ·rintro v rest r s' ⟨hr,rfl,hall⟩;have hv:=hall v mem_cons_self
  have hq:ofAClassStatement 7 v=pure false:=by
   cases v with
   | ref a=>trivial
   | _=>rfl
  rw [hq];refine wpAny_bind [35];simp only [Bool.false_eq_true,if_false];exact wpAny_pure ⟨rfl,rfl,λ u hu'=>hall u (mem_cons_of_mem _ hu')⟩
 ·rintro ⟨r1,r2⟩ s' ⟨hr,rfl,_⟩;simp only at hr;subst hr;exact wpAny_pure h
theorem xk3 {k:T3} {b:Addr} {stored:[24]} (i:TK prog w s.heap k b) (hs:∀ v ∈ stored,∃ t a,v=.ref a /\ TK prog w s.heap t a) (h:Q false s) :
    wpAny [6] A (searchCouldBeSeen (.ref b) stored) Q E s:=by
 unfold searchCouldBeSeen;refine wpAny_bind ?_;refine wpAny_forIn_list _ (λ rest r s'=>r.1=none /\ s'=s /\ ∀ v ∈ rest,∃ t a,v=.ref a /\ TK prog w s.heap t a) _ ?_ ?_ _ _ ⟨rfl,rfl,hs⟩
 ·rintro v rest r s' ⟨hr,rfl,hall⟩;obtain ⟨t,a,rfl,hv⟩:=hall v mem_cons_self;have tl:=λ u hu'=>hall u (mem_cons_of_mem _ hu');dsimp only;split
  ·exact wpAny_pure ⟨rfl,rfl,tl⟩
  ·refine wpAny_bind (wpAny_eqIsQuiet_tuple i ?_);simp only [Bool.not_true,Bool.false_eq_true,if_false];refine wpAny_bind (wpAny_eqIsQuiet_tuple hv ?_);simp only [Bool.not_true,Bool.false_eq_true,if_false];refine wpAny_bind (zf3 i ?_);simp only [Bool.false_eq_true,if_false];refine wpAny_bind (zf3 hv ?_);simp only [Bool.false_eq_true,if_false];exact wpAny_pure ⟨rfl,rfl,tl⟩
 ·rintro ⟨r1,r2⟩ s' ⟨hr,rfl,_⟩;simp only at hr;subst hr;exact wpAny_pure h
theorem yy2 {t:T3} {a:Addr} (i:TK prog w s.heap t a) (h:Q true s):wpAny [6] A (hashByValue 8 (.ref a)) Q E s:=by
 have ty:=i.typeIs;obtain ⟨o,t1,t2,t3,n,e1,e2,e3⟩:=i.items;unfold hashByValue;refine wpAny_bind (wpAny_specialOf ty F.slot_tuple_hash.lookup ?_);show wpAny _ _ (seqItems? (.ref a) >>= _) _ _ s;refine wpAny_bind (wpAny_seqItems e1 e3 ?_);refine wpAny_bind ?_;show wpAny _ _ (forIn #[Value.int t.1 t1,.int t.2.1 t2,.int t.2.2 t3] _ _) _ _ s;rw [<- Array.forIn_toList];refine wpAny_forIn_list _ (λ rest r s'=>r.1=none /\ s'=s /\ ∀ v ∈ rest,∃ i t,v=Value.int i t) _ ?_ ?_ _ _ ⟨rfl,rfl,by simp⟩
 ·rintro v rest r s' ⟨hr,rfl,hall⟩;obtain ⟨j,tk,rfl⟩:=hall v mem_cons_self;have hq:hashByValue 7 (.int j tk)=pure true:=by rfl
  rw [hq];refine wpAny_bind [35];simp only [Bool.not_true,Bool.false_eq_true,if_false];exact wpAny_pure ⟨rfl,rfl,λ u hu'=>hall u (mem_cons_of_mem _ hu')⟩
 ·rintro ⟨r1,r2⟩ s' ⟨hr,rfl,_⟩;simp only at hr;subst hr;exact wpAny_pure h
end
noncomputable def bT (prog:Program) (w:World):Bool:=[6].w.params.followText "set-order"
noncomputable abbrev ent (hf:T3->Int) (x:T3 × Addr):Int × Value:=(hf x.1,.ref x.2)
structure SetIs (prog:Program) (w:World) (hf:T3->Int) (h:Heap) (a:Addr) (o:Obj) (es:Array (Int × Value)) (ep:Nat) (t:SetTable) (xs:List (T3 × Addr)):Prop where
 ho:h.get? a=some o
 ex:o.ExactSet
 hd:o.data=.set es ep t
 el:es.toList=xs.map (ent hf)
 ks:∀ x ∈ xs,TK prog w h x.1 x.2
 nd:(xs.map (·.1)).Nodup
 ok:TOk t (xs.map λ x=>hf x.1)
 rm:t.fill<=t.mask
 pl:t.plain=true
 le:t.led = !bT prog w
variable {ep n:Nat} {xs:List (T3 × Addr)} {hf:T3->Int} {adding:Bool}
section
variable {a:Addr} {o:Obj} {es:Array (Int × Value)} {t:SetTable} 
theorem SetIs.at (S:SetIs prog w hf h a o es ep t xs) (i:Nat):es[i]?=(xs[i]?).map (ent hf):=by rw [<- getElem?_toList,S.el,getElem?_map]
theorem SetIs.size {h:Heap} (S:SetIs prog w hf h a o es ep t xs):es.size=xs.length:=by rw [<- length_toList,S.el,length_map]
theorem SetIs.fits {h:Heap} (S:SetIs prog w hf h a o es ep t xs):t.fits es.size=true:=by
 have h1:=S.ok.sz;have h2:=S.size;have h3:=S.rm;rw [length_map] at h1;simp [SetTable.fits,h1,h2,h3]
theorem SetIs.odd (S:SetIs prog w hf h a o es ep t xs):t.gaveWay=false:=by
 have:∀ m ∈ okM,(m % 2 == 0)=false:=by decide
 exact this _ S.ok.msk
theorem ta1 {f:Nat->Int} {h:Int} {d:Option Nat} {hs:List Int} {r:Option SetTable.Met} (k:TOk t hs) (rm:t.fill<=t.mask) (kd:DumOk t h d n) (e:t.probe f h { trS t.mask h n with dummy:=d }=r) :
    (∃ m d',r=some (.empty (tr t.mask h m) d') /\ n<=m /\ t.slot (tr t.mask h m)=.empty /\ Sk t f h n m /\ DumOk t h d' m) ∨
    (∃ m i d',r=some (.candidate (tr t.mask h m) i { trS t.mask h (m + 1) with dummy:=d' }) /\ n<=m /\ t.slot (tr t.mask h m)=.live i /\ f i=h /\ Sk t f h n m /\ DumOk t h d' m):=by
 subst e;exact k.probe rm f h n d kd
def Hist (hf:T3->Int) (t:SetTable) (xs:List (T3 × Addr)) (k:T3) (n:Nat):Prop:=∀ l,l < n->t.slot (tr t.mask (hf k) l) ≠ .empty /\ ∀ i,t.slot (tr t.mask (hf k) l)=.live i->∀ x,xs[i]?=some x->x.1 ≠ k
theorem zf1 {k:T3} {b:Addr} {Q:SetFound->Shared->Prop} (hu:A.units < cLine) (S:SetIs prog w hf s.heap a o es ep t xs) (hk:TK prog w s.heap k b)
    (found:∀ i b',xs[i]?=some (k,b')->Q (.there (if adding then none else some i)) s)
    (free:[33])
    {fuel:Nat} {d:Option Nat} {stand:Option SetTable.Probe} (kd:DumOk t (hf k) d n) (hist:Hist hf t xs k n) (st:stand.getD (t.probeStart (hf k))={ trS t.mask (hf k) n with dummy:=d })
    (ih:∀ (n':Nat) (d':Option Nat) (stand':Option SetTable.Probe),n < n'->DumOk t (hf k) d' n'->Hist hf t xs k n'->stand'.getD (t.probeStart (hf k))={ trS t.mask (hf k) n' with dummy:=d' } ->
     wpAny [6] A (setSearchFrom a (.ref b) (hf k) adding fuel stand') Q E s) :
    wpAny [6] A (setSearchFrom a (.ref b) (hf k) adding (fuel + 1) stand) Q E s:=by
 have hist':∀ {f:Nat->Int} {m:Nat},(∀ i,f i=((es[i]?).map (·.1)).getD 0)->Sk t f (hf k) n m->∀ l,l < m->t.slot (tr t.mask (hf k) l) ≠ .empty /\ ∀ i,t.slot (tr t.mask (hf k) l)=.live i->∀ x,xs[i]?=some x->x.1 ≠ k:=λ {f m} hf sk l hl=>by
  by_cases c:l < n
  ·exact hist l c
  ·obtain ⟨b1,b2⟩:=sk l [5] hl;refine ⟨b1,λ i e x hx z=>b2 i e ?_⟩;rw [hf,S.at,hx,Option.map_some,Option.map_some,Option.getD_some,<- z]
 unfold setSearchFrom;refine wpAny_bind (wpAny_setState_of S.ho S.hd S.fits ?_);dsimp only;rw [S.odd,st];simp only [Bool.false_eq_true,if_false];split
 ·next met heq =>
  rcases ta1 S.ok S.rm kd heq with ⟨m,d',e,a1,a2,a3,a4⟩ | ⟨m,i,d',e,a1,a2,a3,a4,a5⟩
  ·cases e;have H:=hist' (λ _=>rfl) a3
   have nk:k ∉ xs.map (·.1):=λ z=>by
    obtain ⟨x,hx,ek⟩:=List.mem_map.mp z;obtain ⟨i,hi⟩:=List.mem_iff_getElem?.mp hx;have hlt:i < t.place.size:=by rw [S.ok.sz,length_map]; exact (List.getElem?_eq_some_iff.mp hi).1
    have hp:t.place[i]?=some t.place[i]:=Array.getElem?_eq_getElem hlt;obtain ⟨m',q1,q2⟩:=S.ok.reach i _ (hf k) hp [26];have hl:=(tz0 S.ok.ris).mpr hp;rw [<- q1] at hl;by_cases c:m' < m
    ·exact (H m' c).2 i hl x hi ek
    ·by_cases c2:m=m'
     ·simp_all
     ·exact (S.ok.occ _).mp (q2 m [5]) a2
   have oc:∀ l,l < m->Occ t (tr t.mask (hf k) l):=λ l hl=>(S.ok.occ _).mpr (H l hl).1;cases d' with
   | none=>exact wpAny_pure (free _ false nk ((ut0 S.ok.ris S.ok.rid).mp a2).1 ⟨m,rfl,oc⟩ (λ z=>by cases z))
   | some x =>
    obtain ⟨l,b1,b2,b3⟩:=a4 x rfl;dsimp only;rw [b3];simp only [bne_self_eq_false,Bool.and_false,Bool.false_eq_true,if_false];refine wpAny_pure (free x true nk (S.ok.dj x ((tt0 S.ok.ris S.ok.rid (S.ok.dj x)).mp b3)) ⟨l,b2,λ l' hl=>oc l' [5]⟩ (λ _=>b3))
  ·cases e;have H:=hist' (λ _=>rfl) a4;have hp:=(tz0 S.ok.ris).mp a2;have hlt:i < xs.length:=by have:=(Array.getElem?_eq_some_iff.mp hp).1; rw [S.ok.sz,length_map] at this; exact this
   obtain ⟨x,hx⟩:∃ x,xs[i]?=some x:=⟨_,getElem?_eq_getElem hlt⟩;have he:es[i]?=some (ent hf x):=by rw [S.at,hx]; rfl
   have hkx:=S.ks x (mem_of_getElem? hx);have sm:t.sameMemory t.moves t.mask=some true:=by unfold SetTable.sameMemory; simp
   have sto:∀ v ∈ List.map (λ x=>x.snd) (Array.filter (λ x=>x.fst == hf k) es).toList,∃ t a,v=.ref a /\ TK prog w s.heap t a:=λ v hv=>by
    obtain ⟨y,hy,rfl⟩:=List.mem_map.mp hv
    have hy':y ∈ es.toList:=by
     simp_all
    rw [S.el] at hy';obtain ⟨z,hz,rfl⟩:=List.mem_map.mp hy';exact ⟨z.1,z.2,rfl,S.ks z hz⟩
   dsimp only;split
   ·refine wpAny_bind (xk3 hk sto ?_);simp only [Bool.false_eq_true,if_false];rw [he];dsimp only;refine wpAny_bind (wpAny_holding (wpAny_eqBool_tuple hu hkx hk ?_));refine wpAny_bind (wpAny_setState_of S.ho S.hd S.fits ?_);dsimp only;by_cases c:x.1=k
    ·rw [decide_eq_true (congrArg kI c)];have fd:=found i x.2 (by rw [hx,<- c]);cases adding
     ·rw [sm];simp only [Bool.false_and,Bool.false_eq_true,if_false,if_true];rw [a2];dsimp only;rw [he];dsimp only;refine wpAny_bind (yp0 (wpAny_bind [35]));exact wpAny_pure fd
     ·exact wpAny_pure fd
    ·rw [decide_eq_false (λ z=>c (vd3 z)),sm];simp only [Bool.and_false,Bool.false_eq_true,if_false,if_true];rw [a2];dsimp only;rw [he];dsimp only;refine wpAny_bind (yp0 (wpAny_bind [35]));refine ih (m + 1) d' _ [5] (a5.up (Nat.le_succ _)) (λ l hl=>?_) rfl;by_cases c2:l < m
     ·exact H l c2
     ·have:l=m:=by omega
      subst this;refine ⟨[26],λ i' z y hy=>?_⟩
      simp_all
   ·rw [he];dsimp only;refine wpAny_bind (wpAny_holding (wpAny_eqBool_tuple hu hkx hk ?_));refine wpAny_bind (wpAny_setState_of S.ho S.hd S.fits ?_);dsimp only;by_cases c:x.1=k
    ·rw [decide_eq_true (congrArg kI c)];have fd:=found i x.2 (by rw [hx,<- c]);cases adding
     ·rw [sm];simp only [Bool.false_and,Bool.false_eq_true,if_false,if_true];rw [a2];dsimp only;rw [he];dsimp only;refine wpAny_bind (yp0 (wpAny_bind [35]));exact wpAny_pure fd
     ·exact wpAny_pure fd
    ·rw [decide_eq_false (λ z=>c (vd3 z)),sm];simp only [Bool.and_false,Bool.false_eq_true,if_false,if_true];rw [a2];dsimp only;rw [he];dsimp only;refine wpAny_bind (yp0 (wpAny_bind [35]));refine ih (m + 1) d' _ [5] (a5.up (Nat.le_succ _)) (λ l hl=>?_) rfl;by_cases c2:l < m
     ·exact H l c2
     ·have:l=m:=by omega
      subst this;refine ⟨[26],λ i' z y hy=>?_⟩
      simp_all
 ·next hne =>
  rcases ta1 S.ok S.rm kd rfl with ⟨m,d',e,a1,a2,a3,a4⟩ | ⟨m,i,d',e,a1,a2,a3,a4,a5⟩
  ·exact (hne _ e).elim
  simp_all
theorem ww1 {k:T3} {b:Addr} {Q:SetFound->Shared->Prop} (hu:A.units < cLine) (S:SetIs prog w hf s.heap a o es ep t xs) (hk:TK prog w s.heap k b)
    (found:∀ i b',xs[i]?=some (k,b')->Q (.there (if adding then none else some i)) s)
    (free:[33])
    (N:Nat) (hN:t.slot (tr t.mask (hf k) N)=.empty) (r:Nat):∀ (fuel n:Nat) (d:Option Nat) (stand:Option SetTable.Probe),N < n + r->r<=fuel->DumOk t (hf k) d n->Hist hf t xs k n ->
    stand.getD (t.probeStart (hf k))={ trS t.mask (hf k) n with dummy:=d } ->
    wpAny [6] A (setSearchFrom a (.ref b) (hf k) adding fuel stand) Q E s:=by
 induction r with
 | zero =>
  intro fuel n d stand h1 h2 kd hist st;exact absurd hN (hist N [5]).1
 | succ r ih =>
  intro fuel n d stand h1 h2 kd hist st;cases fuel with
  | zero=>omega
  | succ fuel=>exact zf1 hu S hk found free kd hist st λ n' d' stand' a1 a2 a3 a4=>ih fuel n' d' stand' [5] [5] a2 a3 a4
end
section
variable {a:Addr} {o:Obj} {es:Array (Int × Value)} {t:SetTable} 
theorem xx0:∀ m ∈ okM,7<=m /\ m<=4095:=by decide
theorem ya1 {k:T3} {b:Addr} {Q:SetFound->Shared->Prop} (hu:A.units < cLine) (S:SetIs prog w hf s.heap a o es ep t xs) (hk:TK prog w s.heap k b)
    (found:∀ i b',xs[i]?=some (k,b')->Q (.there (if adding then none else some i)) s)
    (free:[33]) :
    wpAny [6] A (setSearch a (.ref b) (hf k) adding) Q E s:=by
 obtain ⟨e,he,ee⟩:=S.ok.hole S.rm;obtain ⟨N,_,h2,h3⟩:=wj1 S.ok.msk (hf k) 0 he;have hm:=xx0 _ S.ok.msk;unfold SetTable.turns at h2;unfold setSearch;refine ww1 hu S hk found free N (by rw [h3]; exact ee) (N + 1) _ 0 none none [5] [5] (λ x z=>by cases z) (λ l hl=>absurd hl (Nat.not_lt_zero _)) ?_;rfl
theorem yk3 (b:Addr) (es:Array (Int × Value)):byScan (.ref b) es=false:=by rfl
theorem SetIs.store (S:SetIs prog w hf h a o es ep t xs) {xs':List (T3 × Addr)} {es':Array (Int × Value)} {t':SetTable} (el:es'.toList=xs'.map (ent hf)) (ks:∀ x ∈ xs',TK prog w h x.1 x.2) (nd:(xs'.map (·.1)).Nodup)
    (ok:TOk t' (xs'.map λ x=>hf x.1)) (rm:t'.fill<=t'.mask) (pl:t'.plain=true) (le:t'.led = !bT prog w) :
    SetIs prog w hf (h.update a (Obj.putSet es' t')) a { o with data:=.set es' (ep + 1) t' } es' (ep + 1) t' xs':=by
 have hg:(h.update a (Obj.putSet es' t')).get? a=some { o with data:=.set es' (ep + 1) t' }:=by
  have:=Heap.get?_update_self (Obj.putSet es' t') S.ho (by rw [putSet_of es' t' S.hd]; rfl);rw [putSet_of es' t' S.hd] at this; exact this
 refine ⟨hg,S.ex,rfl,el,λ x hx=>(ks x hx).kept λ o' e1 e2=>?_,nd,ok,rm,pl,le⟩;rw [Heap.get?_update_ne _ _ _ _ (λ z=>?_)]
 ·exact e1
 ·rw [z,S.ho] at e1;cases e1;rw [S.ex.1] at e2;trivial
theorem zg5 {α β:Type} {m m':Sem α} {g:α->Sem β} {Q:β->Shared->Prop} (e:m=m') (h:wpAny [6] A (m' >>= g) Q E s):wpAny [6] A (m >>= g) Q E s:=by rw [e]; exact h
theorem ua5 {α:Type} {fe:α->Int × Value} {xs:List α} {es:Array (Int × Value)} (d:α) {mk fi mo:Nat} {le pl:Bool} (m1:mk ∈ okM) (hl:xs.length<=mk + 1) (eel:es.toList=xs.map (fe)) :
    ∃ t' order,∃ xs':List α,SetTable.laid mk fi mo le pl (es.map (·.1))=some (t',order) /\ (order.filterMap λ k=>es[k]?).toList=xs'.map (fe) /\ xs'.Perm xs /\ (order.filterMap λ k=>es[k]?).size=es.size /\ TOk t' (xs'.map λ x=>(fe x).1) /\ t'.mask=mk /\ t'.dummies = #[] /\ t'.led=le /\ t'.plain=pl /\ order.toList.Perm (List.range xs.length):=by
 have sz:es.size=xs.length:=by rw [<- length_toList,eel,length_map]
 have hat:∀ i:Nat,es[i]?=(xs[i]?).map (fe):=λ i=>by rw [<- getElem?_toList,eel,getElem?_map]
 obtain ⟨t',order,e1,e2,e3,e4,e5,e6,e7,e8,e9⟩:=ys3 m1 (es.map (·.1)) [26] fi mo le pl;rw [Array.size_map,sz] at e8;have olt:∀ k ∈ order.toList,k < xs.length:=λ k hk=>List.mem_range.mp (e8.mem_iff.mp hk)
 have fm:∀ (l:List Nat),(∀ k ∈ l,k < xs.length)->l.filterMap (λ k=>es[k]?)=(l.map λ k=>xs.getD k d).map (fe):=λ l=>by
  induction l with
  | nil=>intro _; rfl
  | cons k l ih =>
   simp_all
 have fm':(order.filterMap λ k=>es[k]?).toList=(order.toList.map λ k=>xs.getD k d).map (fe):=by simp_all
 have pm:(order.toList.map λ k=>xs.getD k d).Perm xs:=by
  refine (e8.map _).trans (List.Perm.of_eq ?_);apply ext_getElem
  ·simp
  simp_all
 have hz:(order.filterMap λ k=>es[k]?).size=es.size:=by rw [<- length_toList,fm',length_map,pm.length_eq,sz]
 have hok:TOk t' ((order.toList.map λ k=>xs.getD k d).map λ x=>(fe x).1):=by
  have:(order.toList.map λ k=>(es.map (·.1)).getD k 0)=(order.toList.map λ k=>xs.getD k d).map λ x=>(fe x).1:=by
   simp_all
  rw [<- this];exact e9
 exact ⟨t',order,_,e1,fm',pm,hz,hok,e2,e3,e4,e5,e8⟩
theorem wx1 {Q:Unit->Shared->Prop} {wd:Nat} (S:SetIs prog w hf s.heap a o es ep t xs) (m1:SetTable.sizeAbove wd - 1 ∈ okM) (m2:xs.length * 5 < (SetTable.sizeAbove wd - 1) * 3) (m3:SetTable.sizeAbove wd<=2048)
    (h:∀ h' o' es' ep' t' xs',Heap.SameBut a s.heap h'->SetIs prog w hf h' a o' es' ep' t' xs'->xs'.Perm xs->t'.fill * 5 < t'.mask * 3->t'.mask=SetTable.sizeAbove wd - 1->t'.dummies = #[]->Q () { s with heap:=h' }) :
    wpAny [6] A (setRelay a wd) Q E s:=by
 have sz:=S.size;have mm:=xx0 _ m1;have sl:SetTable.sizeAbove wd<=sizeLine:=by rw [sizeLine_eq]; omega
 obtain ⟨t',order,xs',e1,fm',pm,hz,hok,e2,e3,e4,e5,_⟩:=ua5 (fe:=ent hf) ((0,0,0),0) (fi:=t.finger) (mo:=t.movedTo (SetTable.sizeAbove wd - 1)) (le:=t.led) (pl:=t.plain) m1 [5] S.el;have el:t.relaid (es.map (·.1)) wd=some (t',order):=e1
 have rm:t'.fill * 5 < t'.mask * 3:=by
  have h1:=hok.sz;rw [length_map,pm.length_eq] at h1;unfold SetTable.fill
  simp_all
 have hm:=xx0 _ hok.msk;unfold setRelay;refine wpAny_bind (wpAny_setState_of S.ho S.hd S.fits ?_);dsimp only;rw [if_neg [5],el];refine zg5 (m':=if ((order.filterMap λ k=>es[k]?).size != es.size)=true then (unsupported "internal:set-table-lost-an-element" >>= λ (_:PUnit)=>pure ((order.filterMap λ k=>es[k]?),t')) else pure ((order.filterMap λ k=>es[k]?),t')) rfl ?_;rw [hz];simp only [bne_self_eq_false,Bool.false_eq_true,if_false];refine wpAny_bind (wpAny_pure (wpAny_storeSet_of S.ho S.hd ?_ [20]));exact h _ _ _ _ _ _ (Heap.SameBut.update _ a _) (S.store fm' (λ x hx=>S.ks x (pm.mem_iff.mp hx)) ((pm.map _).nodup_iff.mpr S.nd) hok (show t'.fill<=t'.mask by omega) (by rw [e5]; exact S.pl) (by rw [e4]; exact S.le)) pm rm e2 e3
theorem vq2 {Q:Unit->Shared->Prop} (S:SetIs prog w hf s.heap a o es ep t xs) (hn:xs.length < 512) (en:n=xs.length)
    (h:∀ h' o' es' ep' t' xs',Heap.SameBut a s.heap h'->SetIs prog w hf h' a o' es' ep' t' xs'->xs'.Perm xs->t'.fill * 5 < t'.mask * 3->Q () { s with heap:=h' }) :
    wpAny [6] A (setRelay a (n * 4)) Q E s:=by
 subst en;obtain ⟨m1,m2,m3⟩:=xa1 _ hn;exact wx1 S m1 m2 m3 λ h' o' es' ep' t' xs' q1 q2 q3 q4 _ _=>h h' o' es' ep' t' xs' q1 q2 q3 q4
def SetG (prog:Program) (w:World) (hf:T3->Int) (h:Heap) (a:Addr) (xs:List (T3 × Addr)):Prop:=∃ o es ep t,SetIs prog w hf h a o es ep t xs /\ t.fill * 5 < t.mask * 3
theorem sf5 {k:T3} {b:Addr} (hu:A.units < cLine) (S:SetG prog w hf s.heap a xs) (hk:TK prog w s.heap k b) (hn:xs.length + 1 < 512)
    (old:k ∈ xs.map (·.1)->Q false s)
    (new:k ∉ xs.map (·.1)->∀ h' xs',Heap.SameBut a s.heap h'->SetG prog w hf h' a xs'->xs'.Perm ((k,b) :: xs)->Q true { s with heap:=h' }):wpAny [6] A (setAddHashed a (.ref b) (hf k)) Q E s:=by
 obtain ⟨o,es,ep,t,S,rm5⟩:=S;have hm:=xx0 _ S.ok.msk;have sz:=S.size;unfold setAddHashed setAddHashedIn;refine wpAny_holding (wpAny_bind (wpAny_setState_of S.ho S.hd S.fits ?_));dsimp only;rw [yk3];simp only [Bool.false_eq_true,if_false];refine wpAny_bind (ya1 hu S hk (λ i b' e=>?_) λ sl wd nk ns rc wdd=>?_)
 ·exact wpAny_pure (old (List.mem_map.mpr ⟨_,mem_of_getElem? e,rfl⟩))
 ·dsimp only;refine wpAny_bind (wpAny_setState_of S.ho S.hd S.fits ?_);dsimp only;have ok':=S.ok.put ns rc;have f1:=yr2 S.ok (x:=sl);have pl':(t.put sl).1.plain=true:=S.pl;have mk':(t.put sl).1.mask=t.mask:=rfl;rw [pl'];simp only [if_true];refine wpAny_bind (yy2 hk ?_);simp only [if_true]
  have el':(SetTable.insertAt es (t.put sl).2 (hf k,Value.ref b)).toList=(insL xs (SetTable.below t.place sl) (k,b)).map (ent hf):=by
   rw [SetTable.toList_insertAt,yn1,S.el];rfl
  have pm:(insL xs (SetTable.below t.place sl) (k,b)).Perm ((k,b) :: xs):=by
   unfold insL;exact List.perm_middle.trans (List.Perm.cons _ (List.Perm.of_eq (take_append_drop _ _)))
  have sz':(SetTable.insertAt es (t.put sl).2 (hf k,Value.ref b)).size=xs.length + 1:=by rw [<- length_toList,el',length_map,vh0]
  have S':=S.store el' (λ x hx=>by
   rcases (tp0 _ _ _ _).mp hx with rfl | hx
   ·exact hk
   ·exact S.ks x hx) ((pm.map _).nodup_iff.mpr (List.nodup_cons.mpr ⟨nk,S.nd⟩)) (by rw [yn1]; exact ok') (by rw [mk']; omega) pl' S.le
  refine wpAny_bind (wpAny_storeSet_of S.ho S.hd ?_ (by rw [sz',sizeLine_eq]; omega));have sb:=Heap.SameBut.update s.heap a (Obj.putSet (SetTable.insertAt es (t.put sl).2 (hf k,Value.ref b)) (t.put sl).1);split
  ·next c =>
   have gr:SetTable.grown (es.size + 1)=(xs.length + 1) * 4:=by unfold SetTable.grown; simp_all;omega
   rw [gr];refine wpAny_bind (vq2 S' (by rw [vh0]; omega) (by rw [vh0]) λ h' o' es' ep' t' xs' q1 q2 q3 q4=>wpAny_pure ?_);exact new nk h' xs' (sb.trans q1) ⟨_,_,_,_,q2,q4⟩ (q3.trans pm)
  ·next c =>
   refine wpAny_pure (new nk _ _ sb ⟨_,_,_,_,S',?_⟩ pm);cases wd with
   | true =>
    have f2:=wq1 S.ok (wdd rfl);omega
   | false =>
    simp only [Bool.not_false,Bool.true_and,SetTable.tooFull,decide_eq_true_eq] at c;omega
end
def Got (P:Nat->Value->Prop) (ks:Nat->T3) (i:Nat) (xs:List (T3 × Addr)):Prop:=(∀ x ∈ xs,∃ j,j < i /\ P j (.ref x.2) /\ ks j=x.1) /\ ∀ j,j < i->ks j ∈ xs.map (·.1)
def KpH (h h':Heap):Prop:=∀ b o,h.get? b=some o->h'.get? b=some o
variable {P:Nat->Value->Prop} {ks:Nat->T3} {i:Nat} {J:Nat->Heap->Prop}
section
variable {R:Result->Shared->Prop} 
theorem SetG.nd {h:Heap} {a:Addr} {xs:List (T3 × Addr)} (S:SetG prog w hf h a xs):(xs.map (·.1)).Nodup:=by
 obtain ⟨o,es,ep,t,S,_⟩:=S;exact S.nd
theorem SetG.keep {a:Addr} (S:SetG prog w hf h a xs) (k1:∀ o,h.get? a=some o->h'.get? a=some o) (k2:∀ x ∈ xs,TK prog w h' x.1 x.2):SetG prog w hf h' a xs:=by
 obtain ⟨o,es,ep,t,S,q⟩:=S;exact ⟨o,es,ep,t,⟨k1 o S.ho,S.ex,S.hd,S.el,k2,S.nd,S.ok,S.rm,S.pl,S.le⟩,q⟩
theorem Got.len (g:Got P ks i xs) (hi:i<=n) (nd:(xs.map (·.1)).Nodup) (B:∀ l:List T3,l.Nodup->(∀ x ∈ l,∃ j,j < n /\ ks j=x)->l.length < 511):xs.length < 511:=by
 have:=B _ nd λ x hx=>by
  obtain ⟨y,hy,rfl⟩:=List.mem_map.mp hx;obtain ⟨j,h1,_,h2⟩:=g.1 y hy;exact ⟨j,by omega,h2⟩
 simp_all
theorem wg5 {I S:Addr} {fp wr:List Addr} {St:Nat->Heap->Prop} {h0:Heap} (W:Walks prog w A.in1 I fp wr n P St) (hS:S ∉ fp)
    (low:∀ b ∈ S :: wr,h0.objs.size<=b) (kj:∀ i h h',i<=n->J i h->KpH h0 h'->(∀ o,h.get? S=some o->h'.get? S=some o)->J i h')
    (ad:∀ i v (s:Shared) (Q:Bool->Shared->Prop) (E:[7]),i < n->P i v->KpH h0 s.heap->J i s.heap->(∀ b h' tk,Heap.SameBut S s.heap h'->J (i + 1) h'->Q b [19])->wpAny [6] A.in1 (setAdd S v) Q E s) :
    ∀ (k i:Nat) (s:Shared),n - i=k->i<=n->St i s.heap->KpH h0 s.heap->J i s.heap->(∀ h' tk,KpH h0 h'->J n h'->R (.ok (.ret .none)) [19]) ->
     codeAny [6] A (.builtin "set.update.loop" ⟨[.ref S,.ref I],[]⟩) R s:=by
 have nw:S ∉ wr:=λ h=>hS (W.sub _ h)
 have nl:∀ {b:Addr} {o:Obj},h0.get? b=some o->b ∉ wr /\ b ≠ S:=λ {b o} e =>
  ⟨λ z=>absurd (Heap.lt_size e) (Nat.not_lt.mpr (low b (mem_cons_of_mem _ z))),λ z=>absurd (Heap.lt_size e) (Nat.not_lt.mpr (low b [26]))⟩
 intro k
 induction k with
 | zero =>
  intro i s hk hi st kp sg q;have:i=n:=by omega
  subst this;refine codeAny_builtin F.entry_set_update_loop ?_;rw [Around.under_plainId F.plain_set_update_loop _];show wpAny _ A.in1 (pyNext (.ref I) >>= _) _ _ s;refine wpAny_bind (W.done s _ _ st λ h1 tk km=>?_);show wpAny _ A.in1 (ret Value.none) _ _ _;have kp1:KpH h0 h1:=λ b o e=>km b o (nl e).1 (kp b o e);exact wpAny_pure (q h1 tk kp1 (kj _ _ _ hi sg kp1 λ o e=>km S o nw e))
 | succ k ih =>
  intro i s hk hi st kp sg q;have lt:i < n:=by omega
  refine codeAny_builtin F.entry_set_update_loop ?_;rw [Around.under_plainId F.plain_set_update_loop _];show wpAny _ A.in1 (pyNext (.ref I) >>= _) _ _ s;refine wpAny_bind (W.item i s _ _ lt st λ v h1 tk hP st1 km=>?_);have kp1:KpH h0 h1:=λ b o e=>km b o (nl e).1 (kp b o e);show wpAny _ A.in1 (holding [v] (setAdd S v) >>= _) _ _ _;refine wpAny_bind (wpAny_holding (ad i v { s with heap:=h1,toks:=tk } _ _ lt hP kp1 (kj _ _ _ hi sg kp1 λ o e=>km S o nw e) λ b h2 tk2 sb sg2=>?_));have kp2:KpH h0 h2:=λ b o e=>by rw [sb.2 b (nl e).2]; exact kp1 b o e
  refine wpAny_pure ⟨plainId_quiet F.plain_set_update_loop _,ih (i + 1) { s with heap:=h2,toks:=tk2 } [5] lt (W.frame _ h1 _ st1 λ b hb o e=>?_) kp2 sg2 λ h' tk' a b=>q h' tk' a b⟩;rw [sb.2 b (λ z=>hS [26])]; exact e
noncomputable def nset (b:Bool):Obj:={ cls:=.type "set",dict:=none,data:=.set #[] 0 (.fresh 0 0 b) }
theorem tj3 (v:Value) {Q1:[7]} (h:Q1 (.ref s.heap.objs.size) { s with heap:=s.heap.push (nset (!bT prog w)) }):codeAny [6] A (.call (.builtin "set.__new__") ⟨[.type "set",v],[]⟩) (wants Q1 E) s:=by
 refine codeAny_of_tree ?_;show wpAny _ A.in1 (do checkBuiltinCall "set.__new__" ⟨[.type "set",v],[]⟩; again (.builtin "set.__new__" ⟨[.type "set",v],[]⟩)) _ _ s;refine wpAny_bind (wpAny_of_eq (F.newCall_set_1 v) (wpAny_pure ⟨plainId_quiet F.plain_set_new _,codeAny_builtin F.entry_set_new ?_⟩));rw [Around.under_plainId F.plain_set_new _]; unfold Builtin.«set.__new__» Builtin.Frozenset.newClass;have ss:=sub_set_self;obtain ⟨hp,g,d,tk,os⟩:=s;dsimp only; wp_walk;refine wpAny_askSetting [35]; dsimp only; simp only [newObj];refine wpAny_bind (wpAny_alloc [35]); exact wpAny_pure h
theorem set0 {a:Addr} (e:h.get? a=some (nset (!bT prog w))):SetG prog w hf h a []:=by
 refine ⟨_,#[],0,.fresh 0 0 (!bT prog w),⟨e,?_,rfl,rfl,(λ x hx=>nomatch hx),nodup_nil,?_,(show 0<=7 by decide),rfl,rfl⟩,(show 0 * 5 < 7 * 3 by decide)⟩
 ·trivial
 ·refine ⟨by simp [Rise,SetTable.fresh],by simp [Rise,SetTable.fresh],(λ j h=>by trivial),(λ j h=>by trivial),(λ j h=>by trivial),(show 7 ∈ okM by decide),rfl,(λ i j h z=>by trivial)⟩
theorem wi5 {l:Addr} {items:Array Value} {Q:[7]} (hh:A.handled=none) (hl:s.heap.IsList l items)
    (kj:∀ i h h',i<=items.size->J i h->KpH s.heap h'->(∀ o,h.get? s.heap.objs.size=some o->h'.get? s.heap.objs.size=some o)->J i h')
    (ad:∀ i v (s':Shared) (Q:Bool->Shared->Prop) (E:[7]),i < items.size->items[i]?=some v->KpH s.heap s'.heap->J i s'.heap->(∀ b h' tk,Heap.SameBut s.heap.objs.size s'.heap h'->J (i + 1) h'->Q b { s' with heap:=h',toks:=tk })->wpAny [6] A.in1.in1.in1 (setAdd s.heap.objs.size v) Q E s')
    (j0:∀ h:Heap,h.get? s.heap.objs.size=some (nset (!bT prog w))->J 0 h)
    (h:∀ (h':Heap) (tk:Nat),KpH s.heap h'->J items.size h'->Q (.ref s.heap.objs.size) [19]) :
    wpAny [6] A (call (.type "set") [.ref l]) Q E s:=by
 obtain ⟨c,tl,emro⟩:=F.called_set.mro;have e0:=F.called_set.made;have e1:=F.called_set.sub;refine wpAny_call (codeAny_of_tree ?_); show wpAny _ _ (callAny (.type "set") _) _ _ _;refine wpAny_pure ⟨Code.quiet_builtin _ (by decide +kernel),codeAny_builtin F.entry_type_call ?_⟩; rw [Around.under_plain (weight_type_call_type "set" [.ref l] []) rfl];have e2:=F.called_set.notType;have e3:=F.called_set.canCreate;have e4:=F.typeCall_set_1 (.ref l)
 repeat (any_goals (first | assumption | wp_step))
 refine codeAny_mono (tj3 (.ref l) (E:=E) (Q1:=λ obj s1=>obj=.ref s.heap.objs.size /\ s1={ s with heap:=s.heap.push (nset (!bT prog w)) }) ⟨rfl,rfl⟩) λ r s1 hr=>?_;cases r with
 | error e=>exact hr
 | ok fl =>
  cases fl with
  | ret obj =>
   obtain ⟨rfl,rfl⟩:=hr;have gS:(s.heap.push (nset (!bT prog w))).get? s.heap.objs.size=some (nset (!bT prog w)):=Heap.get?_push_size _ rfl;have tS:Shared.TypeIs { s with heap:=s.heap.push (nset (!bT prog w)) } (.ref s.heap.objs.size) "set" := ⟨_,gS,rfl⟩;have e5:=F.called_set.init.lookup;have e6:=F.called_set.init.bind (.ref s.heap.objs.size)
   repeat (any_goals (first | assumption | wp_step))
   refine codeAny_mono (codeAny_call_builtin (R:=wants (λ r s2=>r=.none /\ ∃ h' tk,s2=[19] /\ KpH s.heap h' /\ J items.size h') E) F.called_set.init.plain F.entry_set_init (check_set_init_1 tS ?_)) λ r2 s2 hr2=>?_
   ·obtain ⟨ol,gl,cl,nl,dl⟩:=hl;obtain ⟨ocls,odict,odata,oslots⟩:=ol;simp only at cl dl;subst cl; subst dl;have gl':(s.heap.push (nset (!bT prog w))).get? l=some { cls:=.type "list",dict:=odict,data:=.seq items nl,slots:=oslots }:=Heap.get?_push_of_some _ gl;have f1:=F.sub_list_set;have f2:=F.sub_list_frozenset;have f3:(Value.type "list" == Value.type "dict")=false:=by decide
    have il:(s.heap.push (nset (!bT prog w))).IsList l items:=⟨_,gl',rfl,nl,rfl⟩;unfold Builtin.«set.__init__» noKeywords Builtin.Frozenset.updateFrom;generalize hPI:pyIter=PI
    wp_walk
    subst hPI; refine wpAny_pyIter_list il ?_; refine wpAny_bind (wpAny_runValue ?_);have ls:l < s.heap.objs.size:=Heap.lt_size gl;have z1:(s.heap.push (nset (!bT prog w))).objs.size=s.heap.objs.size + 1:=Heap.size_push ..;have ni:l ≠ (s.heap.push (nset (!bT prog w))).objs.size:=by rw [z1]; exact Nat.ne_of_lt (Nat.lt_succ_of_lt ls)
    refine wg5 (A:=A.in1.in1) (h0:=s.heap) (J:=J) (Walks.list (show A.in1.in1.in1.handled=none by simp [hh]) _ l ni items) (S:=s.heap.objs.size) ?_ ?_ kj (λ i v s' Q E lt e=>ad i v s' Q E lt e) (items.size - 0) 0 _ [5] (Nat.zero_le _) ?_ ?_ ?_ ?_
    ·rw [z1];intro z
     simp_all
    ·simp
    ·exact ⟨⟨_,Heap.get?_push_size _ rfl,rfl,rfl⟩,il.push _⟩
    ·exact λ b o e=>Heap.get?_push_of_some _ (Heap.get?_push_of_some _ e)
    ·exact j0 _ (Heap.get?_push_of_some _ gS)
    ·intro h' tk kp sg;show wpAny _ _ _ _ _ _;refine wpAny_pure ?_;show wpAny _ _ (ret Value.none) _ _ _;exact wpAny_pure ⟨rfl,h',tk,rfl,kp,sg⟩
   ·cases r2 with
    | error e=>exact hr2
    | ok fl2 =>
     cases fl2 with
     | ret r =>
      obtain ⟨rfl,h',tk,rfl,kp,sg⟩:=hr2
      repeat (any_goals (first | assumption | wp_step))
      exact h _ _ kp sg
     | _=>exact hr2.elim
  | _=>exact hr.elim
theorem zw0 {l:Addr} {items:Array Value} {Q:[7]} (hh:A.handled=none) (hu:A.units + 16 < cLine) (hl:s.heap.IsList l items)
    (hi:∀ i v,i < items.size->items[i]?=some v->∃ b,v=.ref b /\ TK prog w s.heap (ks i) b) (B:∀ l:List T3,l.Nodup->(∀ x ∈ l,∃ j,j < items.size /\ ks j=x)->l.length < 511)
    (h:∀ (h':Heap) (tk:Nat) xs,KpH s.heap h'->SetG prog w (hT prog w) h' s.heap.objs.size xs->Got (λ i v=>items[i]?=some v) ks items.size xs->Q (.ref s.heap.objs.size) [19]) :
    wpAny [6] A (call (.type "set") [.ref l]) Q E s:=by
 have tkk:∀ {i:Nat} {xs:List (T3 × Addr)} {h:Heap},i<=items.size->Got (λ i v=>items[i]?=some v) ks i xs->KpH s.heap h->∀ x ∈ xs,TK prog w h x.1 x.2:=λ {i xs h} hn g k x hx=>by
  obtain ⟨j,a1,a2,a3⟩:=g.1 x hx;obtain ⟨b,e,t⟩:=hi j _ [5] a2;cases e;rw [<- a3];exact t.kept λ o e _=>k _ o e
 refine wi5 (J:=λ i h=>∃ xs,SetG prog w (hT prog w) h s.heap.objs.size xs /\ Got (λ i v=>items[i]?=some v) ks i xs) hh hl (λ i h h' hn ⟨xs,sg,g⟩ kp ks'=>⟨xs,sg.keep ks' (tkk hn g kp),g⟩) (λ i v s' Q E lt hP kp ⟨xs,sg,g⟩ q=>?_) (λ h e=>⟨[],set0 e,(λ x hx=>nomatch hx),λ j hj=>absurd hj (Nat.not_lt_zero _)⟩) λ h' tk kp ⟨xs,sg,g⟩=>h h' tk xs kp sg g;obtain ⟨b,rfl,tb0⟩:=hi i v lt hP;have tb:TK prog w s'.heap (ks i) b:=tb0.kept λ o e _=>kp b o e;have ln:=g.len (Nat.le_of_lt lt) sg.nd B;have ua:A.in1.in1.in1.units < cLine:=by simp_all;omega
 unfold setAdd;refine wpAny_holding (wpAny_bind (us3 ua tb λ tk2=>?_));refine sf5 (hf:=hT prog w) (s:={ s' with toks:=tk2 }) ua sg tb [5] (λ old=>?_) (λ new h2 xs2 sb sg2 pm=>?_)
 ·refine q _ s'.heap tk2 (Heap.SameBut.refl _ _) ⟨xs,sg,λ x hx=>?_,λ j hj=>?_⟩
  ·obtain ⟨j,a1,a2⟩:=g.1 x hx;exact ⟨j,by omega,a2⟩
  ·by_cases c:j < i
   ·exact g.2 j c
   ·rw [show j=i by omega]; exact old
 ·refine q _ h2 tk2 sb ⟨xs2,sg2,λ x hx=>?_,λ j hj=>?_⟩
  ·rcases List.mem_cons.mp (pm.mem_iff.mp hx) with rfl | hx
   ·exact ⟨i,by omega,hP,rfl⟩
   ·obtain ⟨j,a1,a2⟩:=g.1 x hx;exact ⟨j,by omega,a2⟩
  ·refine (pm.map (·.1)).mem_iff.mpr ?_;by_cases c:j < i
   ·exact mem_cons_of_mem _ (g.2 j c)
   ·rw [show j=i by omega]; simp
end
theorem sr2 {α β:Type} {f:α->β} {l m:List β} (p:l.Perm m):∀ xs:List α,m=xs.map f->∃ ys:List α,ys.Perm xs /\ l=ys.map f:=by
 induction p with
 | nil=>simp
 | cons a _ ih =>
  intro xs e;cases xs with
  | nil=>cases e
  | cons x xs =>
   rw [map_cons] at e;injection e with e1 e2
   obtain ⟨ys,p,q⟩:=ih xs e2;exact ⟨x :: ys,p.cons x,by simp_all⟩
 | swap a b l =>
  intro xs e
  match xs,e with
  | x :: y :: xs,e =>
   simp only [map_cons,List.cons.injEq] at e;obtain ⟨e1,e2,e3⟩:=e;exact ⟨y :: x :: xs,.swap x y xs,by simp_all⟩
 | trans _ _ i1 i2 =>
  intro xs e;obtain ⟨ys,p,q⟩:=i2 xs e;obtain ⟨zs,p',q'⟩:=i1 ys q;exact ⟨zs,p'.trans p,q'⟩
theorem yo1 {α:Type}:∀ {l:List α} {i:Nat} (h:i < l.length),(l[i] :: l.eraseIdx i).Perm l
 | x :: l,0,_=>List.Perm.refl _
 | x :: l,i + 1,h=>(List.Perm.swap _ _ _).trans ((yo1 (l:=l) (i:=i) (by simpa using h)).cons x)
theorem xz1 {α:Type} (next:Nat->Nat):∀ (fuel k:Nat) (left:List α) (out:Array α),left.length<=fuel->(pickOrder.go next fuel k left out).toList.Perm (out.toList ++ left)
 | 0,k,left,out,h=>by
  have:left=[]:=List.length_eq_zero_iff.mp [5];subst this;unfold pickOrder.go;simp
 | fuel + 1,k,left,out,h=>by
  unfold pickOrder.go;by_cases c:left=[]
  ·subst c;simp
  ·have lt:next k % left.length < left.length:=Nat.mod_lt _ (List.length_pos_iff.mpr c)
   rw [getElem?_eq_getElem lt];dsimp only;refine (xz1 next fuel (k + 1) _ _ (by rw [List.length_eraseIdx_of_lt lt]; omega)).trans ?_;rw [toList_push,append_assoc];refine List.Perm.append_left _ ?_;exact yo1 lt
theorem sy1 {α:Type} (next:Nat->Nat) (xs:Array α):(pickOrder next xs).toList.Perm xs.toList:=by
 have:=xz1 next xs.size 0 xs.toList #[] [17]
 assumption
theorem uf5 {xs:Array Nat} (h:Rise xs):SetTable.below xs 0=0:=by
 by_cases c:SetTable.below xs 0=0
 ·exact c
 ·have hl:=xm0 h 0;have hz:0 < xs.size:=by omega
  have q:xs[0]?=some xs[0]:=Array.getElem?_eq_getElem hz;have:=(vj0 h 0 q).mp [5];omega
theorem vf5 {xs:Array Nat} (h:Rise xs) {j:Nat} (q:xs[i]?=some j):SetTable.below xs (j + 1)=i + 1:=by
 have h1:=(vj0 h (j + 1) q).mpr [5];have hl:=xm0 h (j + 1);by_cases c:i + 1 < SetTable.below xs (j + 1)
 ·have hz:i + 1 < xs.size:=by omega
  have q2:xs[i + 1]?=some xs[i + 1]:=Array.getElem?_eq_getElem hz;have a:=(vj0 h (j + 1) q2).mp c;have b:=xn0 h q q2 [5];omega
 ·omega
theorem slot_sit:Slot "set_iterator" "__next__" "set_iterator.__next__" := by
 refine .of (owner := "set_iterator") (n := "__next__") ?_ ?_ ?_ ?_ ?_ ?_
 ·rfl
 ·decide +kernel
 ·decide +kernel
 ·decide +kernel
 ·trivial
 rfl
theorem wk1:Slot "set_iterator" "__iter__" "set_iterator.__iter__" := by
 refine .of (owner := "set_iterator") (n := "__iter__") ?_ ?_ ?_ ?_ ?_ ?_
 ·rfl
 ·decide +kernel
 ·decide +kernel
 ·decide +kernel
 ·trivial
 rfl
theorem wd1:entryFor table "set_iterator.__next__" = some Builtin.«set_iterator.__next__» := by exact entryFor_of_tree (by kernel_rfl)
theorem yf2:entryFor table "set_iterator.__iter__" = some Builtin.«dict_keyiterator.__iter__» := by refine entryFor_alias (id' := "dict_keyiterator.__iter__") (by kernel_rfl) ?_ (by decide +kernel) (by kernel_rfl); rfl
theorem zp1 (a:Value):argsOk "set_iterator.__next__" ⟨[a],[]⟩:=by
 rfl
theorem wy2 (a:Value):argsOk "set_iterator.__iter__" ⟨[a],[]⟩:=by
 rfl
theorem xs1:entryFor table "set.__iter__" = some Builtin.«frozenset.__iter__» := by exact entryFor_alias (id' := "frozenset.__iter__") (by kernel_rfl) rfl (by decide +kernel) (by kernel_rfl)
def SIt (h:Heap) (it a:Addr) (sl i n ep:Nat):Prop:=∃ o,h.get? it=some o /\ o.cls=.type "set_iterator" /\ o.data=.fields #[rawInt sl,rawInt i,.ref a,rawInt n,rawInt ep]
variable {it:Addr} {sl:Nat}
theorem SIt.keep {a:Addr} (x:SIt h it a sl i n ep) (k:∀ o,h.get? it=some o->h'.get? it=some o):SIt h' it a sl i n ep:=by
 obtain ⟨o,e1,e2⟩:=x;exact ⟨o,k o e1,e2⟩
theorem SIt.ty {a:Addr} (x:SIt s.heap it a sl i n ep):s.TypeIs (.ref it) "set_iterator" := by
 obtain ⟨o,e1,e2,_⟩:=x;exact ⟨o,e1,e2⟩
theorem ue2 {o:Obj} {vs:Array Value} {c:Value} (e1:h.get? it=some o) (e2:o.cls=c) (e3:o.data=.fields vs) (j:Nat) (x:Value) :
    ∃ o',(h.update it (Obj.mapFields (·.setIfInBounds j x))).get? it=some o' /\ o'.cls=c /\ o'.data=.fields (vs.setIfInBounds j x) :=
 ⟨_,Heap.get?_update_self _ e1 (Obj.isFreed_of_fields (Obj.data_mapFields e3 _)),(Obj.cls_mapFields ..).trans e2,Obj.data_mapFields e3 _⟩
structure SObj (prog:Program) (w:World) (h:Heap) (a:Addr) (o:Obj) (es:Array (Int × Value)) (ep:Nat) (t:SetTable):Prop where
 ho:h.get? a=some o
 ex:o.ExactSet
 hd:o.data=.set es ep t
 fits:t.fits es.size=true
 ris:Rise t.place
 sz:t.place.size=es.size
 pl:t.plain=true
 le:t.led = !bT prog w
theorem SObj.keep {a:Addr} {o:Obj} {es:Array (Int × Value)} {t:SetTable} (S:SObj prog w h a o es ep t) (k:∀ o,h.get? a=some o->h'.get? a=some o):SObj prog w h' a o es ep t :=
 ⟨k o S.ho,S.ex,S.hd,S.fits,S.ris,S.sz,S.pl,S.le⟩
theorem SetIs.obj {a:Addr} {o:Obj} {es:Array (Int × Value)} {t:SetTable} (S:SetIs prog w hf h a o es ep t xs):SObj prog w h a o es ep t :=
 ⟨S.ho,S.ex,S.hd,S.fits,S.ok.ris,by have h1:=S.ok.sz; have h2:=S.size; simp_all,S.pl,S.le⟩
section
variable {a:Addr} {o:Obj} {es:Array (Int × Value)} {t:SetTable}
theorem zk2 {Q:[7]} (S:SObj prog w s.heap a o es ep t)
    (q:Q (.ref s.heap.objs.size) { s with heap:=s.heap.push { cls:=.type "set_iterator",data:=.fields #[rawInt (0:Nat),rawInt (0:Nat),.ref a,rawInt es.size,rawInt ep] } }):wpAny [6] A (pyIter (.ref a)) Q E s:=by
 have ty:s.TypeIs (.ref a) "set" := ⟨o,S.ho,S.ex.1⟩;refine wpAny_pyIter_slot ty F.slot_set_iter (wpAny_call_entry F.slot_set_iter ty xs1 ?_ (F.args_set_iter_1 _));unfold Builtin.«frozenset.__iter__» Builtin.Frozenset.slot0 slotArgs;simp only [List.isEmpty_nil,Bool.not_true,Bool.false_eq_true,↓reduceIte,bind_assoc,length_nil,bne_self_eq_false];unfold Builtin.Frozenset.addrOf Builtin.Frozenset.sizeOf;refine wpAny_bind [35]
 try dsimp only
 refine wpAny_bind [35];refine wpAny_bind (wpAny_bind (wpAny_setEntries_of S.ho S.hd S.fits [35]))
 have dr:wpAny [6] A.in1 (setDrawn a) (λ b s'=>b=false /\ s'=s) E s:=by
  unfold setDrawn setsByText;refine wpAny_bind (wpAny_setState_of S.ho S.hd S.fits ?_);dsimp only;refine wpAny_bind (wpAny_bind (wpAny_askSetting (wpAny_pure (wpAny_pure ⟨?_,rfl⟩))));show (!_ && (!t.plain && _))=false;rw [S.pl];simp
 refine wpAny_bind (wpAny_mono dr (λ b s' h=>?_) λ _ _ h=>h);obtain ⟨rfl,rfl⟩:=h;simp only [Bool.false_eq_true,if_false];refine wpAny_bind [35];refine wpAny_bind (wpAny_setEpoch_of S.ho S.hd S.fits ?_);refine wpAny_bind (wpAny_newObj_type (wpAny_pure ⟨_,rfl, "set_iterator",_,⟨_,Heap.get?_push_size _ rfl,rfl⟩,slot_sit.lookup,q⟩))
noncomputable def ordS (prog:Program) (w:World) (a:Addr) (ep:Nat) (es:Array (Int × Value)):Array (Int × Value):=if bT prog w=true then pickOrder ([6].w.params.setOrder a ep) es else es
theorem tl1:(ordS prog w a ep es).toList.Perm es.toList:=by
 unfold ordS;split
 ·exact sy1 _ _
 rfl
theorem tw0:(ordS prog w a ep es).size=es.size:=by
 have:=(tl1 (prog:=prog) (w:=w) (a:=a) (ep:=ep) (es:=es)).length_eq;simpa using this
theorem xu0 {Q:Option (Value × Nat)->Shared->Prop} (S:SObj prog w s.heap a o es ep t) (hb:bT prog w=false->SetTable.below t.place sl=i)
    (some':∀ e nx,(ordS prog w a ep es)[i]?=some e->(bT prog w=false->SetTable.below t.place nx=i + 1)->Q (some (e.2,nx)) s) (none':(ordS prog w a ep es)[i]?=none->Q none s) :
    wpAny [6] A (setNext a sl i ep) Q E s:=by
 unfold setNext setsByText;refine wpAny_bind (wpAny_setState_of S.ho S.hd S.fits ?_);dsimp only;refine wpAny_bind (wpAny_bind (wpAny_askSetting [35]));unfold ordS at some' none';by_cases c:bT prog w=true
 ·rw [if_pos (show [6].w.params.followText "set-order" = true from c)];rw [if_pos c] at some' none';rw [if_neg [17]];refine wpAny_bind ?_;unfold setWalk setsByText;refine wpAny_bind (wpAny_setState_of S.ho S.hd S.fits ?_);dsimp only;refine wpAny_bind (wpAny_bind (wpAny_askSetting [35]));rw [if_pos (show [6].w.params.followText "set-order" = true from c)];refine wpAny_bind (wpAny_askSetting (wpAny_pure [35]));show Q (Option.map _ (pickOrder ([6].w.params.setOrder a ep) es)[i]?) s;cases e:(pickOrder ([6].w.params.setOrder a ep) es)[i]? with
  | none=>exact none' e
  | some v=>simp [*]
 ·have cf:bT prog w=false:=by simpa using c
  rw [if_neg (show ¬ [6].w.params.followText "set-order" = true from c)];rw [if_neg c] at some' none';split
  ·next dr =>
   have:(!t.plain && decide (es.size > 1))=true:=dr;rw [S.pl] at this;cases this
  ·refine wpAny_bind ?_;show wpAny _ _ (ite (_=true) _ (pure PUnit.unit)) _ _ _;rw [if_neg (by rw [S.le,cf]; simp)];refine wpAny_pure [35];rw [hb cf];cases e:es[i]? with
   | none=>exact none' e
   | some v =>
    have hlt:i < t.place.size:=by
     have h1:=S.sz;have:=(Array.getElem?_eq_some_iff.mp e).1;omega
    have q:t.place[i]?=some t.place[i]:=Array.getElem?_eq_getElem hlt;rw [q];exact some' v _ e (λ _=>vf5 S.ris q)
theorem yk2 {Q:Option Value->Shared->Prop} (S:SObj prog w s.heap a o es ep t) (hi:SIt s.heap it a sl i es.size ep) (hb:bT prog w=false->SetTable.below t.place sl=i) (lt:i < es.size)
    (q:∀ h' e nx,(ordS prog w a ep es)[i]?=some e->SIt h' it a nx (i + 1) es.size ep->(bT prog w=false->SetTable.below t.place nx=i + 1)->Heap.SameBut it s.heap h'->Q (some e.2) { s with heap:=h' }):wpAny [6] A (pyNext (.ref it)) Q E s:=by
 obtain ⟨oi,a1,a2,a3⟩:=id hi;have ty:=hi.ty;unfold pyNext;refine wpAny_bind (wpAny_attempt (wpAny_callSpecial?_slot (name:=Str.ofString "__next__") ty slot_sit (wpAny_call_entry slot_sit ty wd1 ?a (zp1 _))))
 case a =>
  unfold Builtin.«set_iterator.__next__»;refine wpAny_bind (m:=slotArgs "__next__" 0 _) [35];refine wpAny_bind (wpAny_fieldsOf a1 a3 ?_);show wpAny _ _ (setEntries a >>= _) _ _ s;refine wpAny_bind (wpAny_setEntries_of S.ho S.hd S.fits ?_);rw [if_neg [17]];show wpAny _ _ (setNext a sl i ep >>= _) _ _ s;refine wpAny_bind (xu0 S hb (λ e nx e1 e2=>?_) λ e=>?_)
  ·show wpAny _ _ (setField (.ref it) 0 (rawInt nx) >>= _) _ _ s;refine wpAny_bind (wpAny_setField a1 a3 [17] ?_);obtain ⟨o1,b1,b2,b3⟩:=ue2 a1 a2 a3 0 (rawInt nx);show wpAny _ _ (setField (.ref it) 1 (rawInt ((i:Int) + 1)) >>= _) _ _ _;refine wpAny_bind (wpAny_setField b1 b3 [17] ?_);obtain ⟨o2,c1,c2,c3⟩:=ue2 b1 b2 b3 1 (rawInt ((i:Int) + 1));show wpAny _ _ (ret e.2) _ _ _;exact wpAny_pure ⟨_,rfl,wpAny_pure (q _ e nx e1 ⟨o2,c1,c2,c3⟩ e2 ((Heap.SameBut.update ..).trans (Heap.SameBut.update ..)))⟩
  ·rw [Array.getElem?_eq_getElem (by rw [tw0]; exact lt)] at e;cases e
theorem vj3 {Q:Option Value->Shared->Prop} (hh:A.handled=none) (S:SObj prog w s.heap a o es ep t) (hi:SIt s.heap it a sl es.size es.size ep) (hb:bT prog w=false->SetTable.below t.place sl=es.size)
    (q:∀ h',Heap.ExtBut it s.heap h'->Q none { s with heap:=h' }):wpAny [6] A (pyNext (.ref it)) Q E s:=by
 obtain ⟨oi,a1,a2,a3⟩:=id hi;have ty:=hi.ty;unfold pyNext;refine wpAny_bind (wpAny_attempt (wpAny_callSpecial?_slot (name:=Str.ofString "__next__") ty slot_sit (wpAny_call_entry slot_sit ty wd1 ?a (zp1 _))))
 case a =>
  unfold Builtin.«set_iterator.__next__»;refine wpAny_bind (m:=slotArgs "__next__" 0 _) [35];refine wpAny_bind (wpAny_fieldsOf a1 a3 ?_);show wpAny _ _ (setEntries a >>= _) _ _ s;refine wpAny_bind (wpAny_setEntries_of S.ho S.hd S.fits ?_);rw [if_neg [17]];show wpAny _ _ (setNext a sl es.size ep >>= _) _ _ s;refine wpAny_bind (xu0 S hb (λ e nx e1 e2=>?_) λ e=>?_)
  ·rw [Array.getElem?_eq_none (by rw [tw0]; exact Nat.le_refl _)] at e1;cases e1
  ·show wpAny _ _ (setField (.ref it) 2 .none >>= _) _ _ s; refine wpAny_bind (wpAny_setField a1 a3 [17] ?_);show wpAny _ _ (newExc (.type "StopIteration") [] >>= _) _ _ _; refine wpAny_bind ?_; simp only [newExc,newTuple];refine wpAny_bind (wpAny_newObj_type (wpAny_bind (m:=firstArgMember _ _) (wpAny_of_eq (a:=Value.none) (by rfl) (wpAny_newObj_type ?_ (by size_fits)))) (by size_fits));simp only [raiseNew]; refine wpAny_bind (wpAny_handled ?_); rw [show A.in1.handled=none from hh];refine wpAny_bind (wpAny_pure (wpAny_throw ?_)); refine wpAny_bind (wpAny_isInstance (T := "StopIteration") (b:=true) ⟨_,Heap.get?_push_size _ rfl,rfl⟩ isSubtype_stop ?_);exact wpAny_pure (q _ (((Heap.SameBut.update ..).extBut.push _).push _))
theorem xk2 {Q:[7]} (hi:SIt s.heap it a sl i n ep) (h:Q (.ref it) s):wpAny [6] A (pyIter (.ref it)) Q E s:=by
 have ty:=hi.ty;refine wpAny_pyIter_slot ty wk1 (wpAny_call_entry wk1 ty yf2 ?_ (wy2 _));show wpAny _ _ (ret (.ref it)) _ _ s;exact wpAny_pure ⟨_,rfl, "set_iterator",_,ty,slot_sit.lookup,h⟩
theorem xw2 (ty:s.TypeIs (.ref a) "set") (h:Q false s):wpAny [6] A (Builtin.List.listLengthHint (.ref a)) Q E s:=by
 unfold Builtin.List.listLengthHint;refine wpAny_bind (wpAny_specialOf ty PySem.F.slot_set_len.lookup ?_); generalize hid:("set.__len__" : String)=id0; wp_delta;rw [show splitId id0=some ("set", "__len__") from by subst hid; decide +kernel]; subst hid;refine wpAny_bind (wpAny_isInstance (T := "set") (b:=true) ty (by rfl) ?_);refine wpAny_ite_split (λ c=>absurd c [27]) (λ _=>?_); refine wpAny_ite_split (λ _=>?_) (λ c=>absurd (by decide +kernel) c);exact wpAny_bind (wpAny_typeOf ty (wpAny_pure h))
theorem yw1 (hh:A.handled=none) (I a:Addr) (ne:a ≠ I):Walks prog w A I [I,a] [I] es.size (λ i v=>∃ e,(ordS prog w a ep es)[i]?=some e /\ v=e.2)
    (λ i h=>∃ sl,SIt h I a sl i es.size ep /\ (bT prog w=false->SetTable.below t.place sl=i) /\ SObj prog w h a o es ep t) where
 sub:=λ b hb=>by simp_all
 frame:=λ _ _ _ z hk=>by
  obtain ⟨sl,z1,z2,z3⟩:=z;exact ⟨sl,z1.keep λ o e=>hk I [17] o e,z2,z3.keep λ o e=>hk a [17] o e⟩
 item:=λ i s Q E hi z q=>by
  obtain ⟨sl,z1,z2,z3⟩:=z;refine yk2 z3 z1 z2 hi λ h' e nx a1 a2 a3 a4=>?_;exact q _ h' s.toks ⟨e,a1,rfl⟩ ⟨nx,a2,a3,z3.keep λ o e=>a4.extBut a o ne e⟩ λ b o hb e=>a4.extBut b o (λ y=>hb (by simp [y])) e
 done:=λ s Q E z q=>by
  obtain ⟨sl,z1,z2,z3⟩:=z;exact vj3 hh z3 z1 z2 λ h' k=>q h' s.toks λ b o hb e=>k b o (λ y=>hb (by simp [y])) e
 self:=λ _ _ _ _ z q=>by
  obtain ⟨sl,z1,_⟩:=z;exact xk2 z1 q
theorem uj3:KdlSrc prog w "set" a a es.size (λ i v=>∃ e,(ordS prog w a ep es)[i]?=some e /\ v=e.2) (λ h=>SObj prog w h a o es ep t) where
 type:=λ _ x=>⟨o,x.ho,x.ex.1⟩
 there:=λ _ x=>⟨Heap.lt_size x.ho,Heap.lt_size x.ho⟩
 keep:=λ _ _ x k=>x.keep λ o e=>k a (.inl rfl) o e
 notList:=by decide
 notTuple:=by decide
 hint:=λ _ _ _ _ x q=>xw2 ⟨o,x.ho,x.ex.1⟩ q
 iter:=λ _ s hh x=>by
  have hl:=Heap.lt_size x.ho;exact ⟨_,_,(λ _ _ q=>zk2 x q),yw1 hh _ a (Nat.ne_of_lt hl),⟨0,⟨_,Heap.get?_push_size _ rfl,rfl,rfl⟩,(λ _=>uf5 x.ris),x.keep λ o e=>Heap.get?_push_of_some _ e⟩⟩
theorem zc2 {acc:Array Value} (h:ItemsOf (λ i v=>∃ e,(ordS prog w a ep es)[i]?=some e /\ v=e.2) acc es.size):acc.toList=(ordS prog w a ep es).toList.map (·.2):=by
 obtain ⟨h1,h2⟩:=h;have h3:=tw0 (prog:=prog) (w:=w) (a:=a) (ep:=ep) (es:=es);apply ext_getElem?;intro i;rw [getElem?_map,getElem?_toList,getElem?_toList];by_cases c:i < es.size
 ·obtain ⟨e,e1,e2⟩:=h2 i (acc[i]'(by omega)) [17]
  simp_all
 simp_all
theorem sa3:∀ {h:Heap} {ys:List (T3 × Addr)},(∀ x ∈ ys,TK prog w h x.1 x.2)->T3s h (ys.map λ x=>Value.ref x.2) (ys.map (·.1))
 | _,[],_=>trivial
 | _,x :: ys,k=>⟨(k x (mem_cons_self ..)).t3,sa3 λ y hy=>k y (mem_cons_of_mem _ hy)⟩
theorem xq1 {Q:[7]} (hh:A.handled=none) (S:SetG prog w hf s.heap a xs) (h64:xs.length < 512)
    (h:∀ (ys:List (T3 × Addr)) (p:Array Nat) (h1 h':Heap) (c tk:Nat),ys.Perm xs->p.Perm (List.toArray (List.range ys.length))->Ms.Up (ltI (ys.map (·.1))) p ys.length->(∀ b o,s.heap.get? b=some o->h1.get? b=some o)->(∀ b o,h1.get? b=some o->h'.get? b=some o) ->
     h'.get? h1.objs.size=some (seqObj "list" (outV (ys.map λ x=>Value.ref x.2) p).toArray c)->Q (.ref h1.objs.size) [19]) :
    wpAny [6] A (call (.builtin "sorted") [.ref a]) Q E s:=by
 obtain ⟨o,es,ep,t,S,_⟩:=S;have zs:=S.size;have hz:es.size<=sizeLine:=by rw [sizeLine_eq]; omega
 obtain ⟨ys,py,ey⟩:=sr2 (f:=ent hf) (tl1 (prog:=prog) (w:=w) (a:=a) (ep:=ep) (es:=es)) xs S.el;refine Calls.call_function_entry kind_sorted plain_sorted entry_sorted (args_sorted1 _) ?_;unfold Builtin.«sorted»;refine wpAny_bind (m:=checkCount "sorted" 1 1 _) (wpAny_pure (wpAny_bind (kdu_collect (uj3 (o:=o) (t:=t)) hh S.obj hz λ h1 tk acc k1 ia=>?_)));rw [zc2 ia,ey,map_map,show ((λ x:Int × Value=>x.2) ∘ ent hf)=(λ x:T3 × Addr=>Value.ref x.2) from rfl];have l0:=py.length_eq;have l1:(ys.map λ x=>Value.ref x.2).length=ys.length:=length_map _;refine wpAny_bind (wpAny_newList ?_ [5]);have k2:∀ b o,s.heap.get? b=some o->(h1.push (seqObj "list" (ys.map λ x=>Value.ref x.2).toArray 0)).get? b=some o:=λ b o q=>Heap.get?_push_of_some _ (k1 b o q);have zo:(h1.push (seqObj "list" (ys.map λ x=>Value.ref x.2).toArray 0)).get? h1.objs.size=some (seqObj "list" (ys.map λ x=>Value.ref x.2).toArray 0):=Heap.get?_push_size _ rfl;have tt:=Lw.mono (λ _ _=>ti3.kept λ b o e _=>k2 b o e) (sa3 (prog:=prog) (w:=w) (h:=s.heap) (ys:=ys) λ x hx=>S.ks x (py.mem_iff.mp hx));show wpAny _ _ _ _ _ { s with heap:=h1.push (seqObj "list" (ys.map λ x=>Value.ref x.2).toArray 0),toks:=tk };refine wpAny_bind (wpAny_holding (wpAny_call_entry slot_list_sort ⟨_,zo,rfl⟩ entry_list_sort (ua2 (s:={ s with heap:=h1.push (seqObj "list" (ys.map λ x=>Value.ref x.2).toArray 0),toks:=tk }) (ti3.sk tt) [21] zo (λ h' g=>ti3.keep zo g tt) [5] λ p h' c a1 a2 a3 a4=>⟨_,rfl,?_⟩) (args_list_sort _)));rw [l1] at a1 a2;exact wpAny_pure ⟨_,rfl,h ys p h1 h' c tk py a1 a2 k1 (λ b o q=>a3 b o (Nat.ne_of_lt (Heap.lt_size q)) (Heap.get?_push_of_some _ q)) a4⟩
end
noncomputable abbrev vT (t:T3):List V:=[.int t.1,.int t.2.1,.int t.2.2]
def SB (ts:List T3):Prop:=∀ l:List T3,l.Nodup->(∀ x ∈ l,x ∈ ts)->l.length < 511
abbrev TSt:=L2.St->Hp->(List (T3 × Addr)->Hp->Prop)->Prop
def SE (X:Cx) (pins:[18]) (σ:L2.St) (R:List (T3 × Addr)->Hp->Prop) (u:Value) (s':Shared):Prop :=
 ∃ a xs H',u=.ref a /\ Inv X pins σ H' s' /\ FpOk X pins H' a /\ SetG X.prog X.w (hT X.prog X.w) s'.heap a xs /\ (∀ x ∈ xs,H' x.2=some (.tup (vT x.1))) /\ xs.length < 511 /\ R xs H'
def PSt (X:Cx) (e:Expr) (t:TSt):Prop :=
 ∀ (pins:[18]) (s:Shared) (σ:L2.St) (H:Hp) (R:List (T3 × Addr)->Hp->Prop),Inv X pins σ H s->t σ H R->wpAny [12] X.A (eval e X.env) (SE X pins σ R) X.xe s
theorem yb3 {prog:Program} {w:World} {h:Heap}:∀ {us:[24]} {ts:List T3} {i:Nat} {v:Value},T3s h us ts->us[i]?=some v->i < ts.length /\ ∃ b,v=.ref b /\ TK prog w h (ts.getD i (0,0,0)) b
 | [],[],i,v,_,e=>by simp at e
 | [],_ :: _,_,_,z,_=>z.elim
 | _ :: _,[],_,_,z,_=>z.elim
 | u :: us,t :: ts,0,v,z,e=>by
  simp only [List.getElem?_cons_zero,Option.some.injEq] at e;subst e;obtain ⟨a,o,t1,t2,t3,n,rfl,e2⟩:=id z.1;exact ⟨by simp,a,rfl,(show TK prog w h t a from IsT3.key z.1)⟩
 | u :: us,t :: ts,i + 1,v,z,e=>by
  simp only [getElem?_cons_succ] at e;obtain ⟨h1,b,h2,h3⟩:=yb3 (prog:=prog) (w:=w) z.2 e
  simp_all
theorem wa3 {K:Fg} {H:Hp}:∀ {vs:List V} {ts:List T3} {us:[24]} {i:Nat} {b:Addr},V3s K H vs ts->Vals vs us->us[i]?=some (.ref b)->H b=some (.tup (vT (ts.getD i (0,0,0))))
 | [],[],_,i,b,_,.nil,e=>by simp at e
 | [],_ :: _,_,_,_,z,_,_=>z.elim
 | _ :: _,[],_,_,_,z,_,_=>z.elim
 | v :: vs,t :: ts,_,0,b,z,.cons r rs,e=>by
  simp only [List.getElem?_cons_zero,Option.some.injEq] at e;subst e;obtain ⟨⟨a,rfl,hq⟩,_⟩:=z;cases r;exact hq
 | v :: vs,t :: ts,_,i + 1,b,z,.cons r rs,e=>by
  simp only [getElem?_cons_succ] at e;exact (show H b=some (.tup (vT (ts.getD i (0,0,0)))) from wa3 (K:=K) z.2 rs e)
variable {X:Cx} {e:Expr}
section
variable {p p2 pos pos2:Pos}
def tg5 (K:Fg) (ta:TA):TSt:=λ σ H R=>ta σ H λ xs H1=>∃ p vs ts,xs=[.ref p] /\ SqL K H1 p vs /\ V3s K H1 vs ts /\ SB ts ∧
 ∀ ys:List (T3 × Addr),(ys.map (·.1)).Nodup->(∀ t,t ∈ ys.map (·.1) ↔ t ∈ ts)->(∀ y ∈ ys,H1 y.2=some (.tup (vT y.1)))->R ys H1
theorem ts3 {items:[24]} {ts:List T3} {ys:List (T3 × Addr)} {Pr:Nat->Value->Prop} (hl:items.length=ts.length) (g:Got Pr (λ i=>ts.getD i (0,0,0)) items.length ys) (t:T3):t ∈ ys.map (·.1) ↔ t ∈ ts:=by
 constructor
 ·intro h;obtain ⟨y,hy,rfl⟩:=List.mem_map.mp h;obtain ⟨j,h1,_,h2⟩:=g.1 y hy;have h2:ts.getD j (0,0,0)=y.1:=h2;rw [<- h2,getD_eq_getElem?_getD,getElem?_eq_getElem [5]];simp
 ·intro h;obtain ⟨j,hj,e⟩:=getElem_of_mem h;have:ts.getD j (0,0,0) ∈ _:=g.2 j [5]
  simp_all
theorem vy1 {ta:TA} (hc:X.calm=true) (hu:[42]) (hg:Gl X "set") (hm:X.mg "set" = none) (ha:PA X [e] ta) (hs:starEach [e] X.env=[[34]]:=by rfl) :
    PSt X (.Call (.Name "set" p) [e] [] pos) (tg5 X.K ta):=by
 intro pins s σ H R I h;refine Call_ (yo0 I hg hm ue5 (PyProof.Rows.callWith_type1 (thn (ha pos pins s σ H _ I h) λ us s1 ⟨vs,H1,I1,r1,q1⟩=>?_) hs rfl));obtain ⟨a,ws,ts,e1,hq,h3,hB,k⟩:=q1;subst e1;cases r1 with
 | cons r rr =>
  cases rr;cases r
  have key:∀ {its:[24]},Vals ws its->(∀ l:List T3,l.Nodup->(∀ x ∈ l,∃ j,j < its.toArray.size /\ ts.getD j (0,0,0)=x)->l.length < 511) ∧
      (∀ i v,i < its.toArray.size->its.toArray[i]?=some v->∃ b,v=.ref b /\ TK X.prog X.w s1.heap (ts.getD i (0,0,0)) b) ∧
      ∀ (h':Heap) (tk:Nat) xs,KpH s1.heap h'->SetG X.prog X.w (hT X.prog X.w) h' s1.heap.objs.size xs->Got (λ i v=>its.toArray[i]?=some v) (λ i=>ts.getD i (0,0,0)) its.toArray.size xs->SE X pins σ R (.ref s1.heap.objs.size) { s1 with heap:=h',toks:=tk }:=λ {its} rv=>by
   have l1:=h3.len;have l2:=rv.length;have l3:its.toArray.size=its.length:=List.size_toArray
   have B:∀ l:List T3,l.Nodup->(∀ x ∈ l,∃ j,j < its.toArray.size /\ ts.getD j (0,0,0)=x)->l.length < 511:=λ l nd hl=>hB l nd λ x hx=>by
    obtain ⟨j,h1,h2⟩:=hl x hx;rw [<- h2,getD_eq_getElem?_getD,getElem?_eq_getElem [5]];simp
   refine ⟨B,λ i v lt e=>(yb3 (wv0 I1 h3 rv) (by simpa using e)).2,λ h' tk xs kp sg g=>?_⟩;have sq:∀ x ∈ xs,H1 x.2=some (.tup (vT x.1)):=λ x hx=>?_
   ·exact ⟨_,xs,H1,rfl,I1.kept kp,I1.fpOk [21] (I1.hok.fresh [21]),sg,sq,g.len [21] sg.nd B,k xs sg.nd (ts3 (items:=its) [5] [5]) sq⟩
   obtain ⟨j,_,h2,h3'⟩:=g.1 x hx;have h3':ts.getD j (0,0,0)=x.1:=h3';have:=wa3 h3 rv (i:=j) (b:=x.2) (by simpa using h2)
   rwa [h3'] at this
  obtain ⟨its,rv,pl,hz⟩:=I1.list hq;obtain ⟨k1,k2,k3⟩:=key rv;exact zw0 (I1.ok.hd hc) [5] pl.isList k2 k1 k3
def ug5 (K:Fg) (ts:TSt):TE:=λ σ H Q=>ts σ H λ xs H1=>∀ (ys:List (T3 × Addr)),ys.Perm xs->∀ q:Array Nat,q.Perm (List.toArray (List.range ys.length))->Ms.Up (ltI (ys.map (·.1))) q ys.length->V3s K H1 (ys.map λ x=>V.ref x.2) (ys.map (·.1)) ->
 ∀ r,H1 r=none->Q (.ref r) (upd H1 r (.lst (q.toList.map λ i=>(ys.map λ x=>V.ref x.2).getD i .non)))
theorem za3 {K:Fg} {H:Hp}:∀ {ys:List (T3 × Addr)},(∀ x ∈ ys,H x.2=some (.tup (vT x.1)))->V3s K H (ys.map λ x=>V.ref x.2) (ys.map (·.1))
 | [],_=>trivial
 | y :: ys,h=>⟨⟨_,rfl,h y (mem_cons_self ..)⟩,za3 (K:=K) λ x hx=>h x (mem_cons_of_mem _ hx)⟩
theorem ss1:∀ (ys:List (T3 × Addr)),Vals (ys.map λ x=>V.ref x.2) (ys.map λ x=>Value.ref x.2)
 | []=>.nil
 | y :: ys=>.cons rfl (ss1 ys)
theorem yp3 {ts:TSt} (hc:X.calm=true) (hg:Gl X "sorted") (hm:X.mg "sorted" = none) (hp:PSt X e ts) (hs:starEach [e] X.env=[[34]]:=by rfl):PE X (.Call (.Name "sorted" p) [e] [] pos) (ug5 X.K ts):=by
 intro pins s σ H Q I h;refine Call_ (yo0 I hg hm us0 (PyProof.Rows.callWith_builtin1 ?_ hs rfl));rw [hs];show wpAny _ _ (spliced ([34] :: backTo pos (starEach [] X.env))) _ _ s;refine Calls.spliced_cons ?_;refine thn (hp pins s σ H _ I h) λ u s1 q=>?_;obtain ⟨a,xs,H1,rfl,I1,fp,sg,sq,ln,k⟩:=q;refine Calls.spliced_nil ?_;refine xq1 (I1.ok.hd hc) sg [5] λ ys q h1 h' c tk py a1 a2 a3 a4 a5=>?_;have I2:Inv X pins σ H1 { s1 with heap:=h1,toks:=tk }:=I1.kept a3;have sz:q.toList.length=ys.length:=by have:=a1.size_eq; simpa using this
 have l0:=py.length_eq
 have lt':∀ i ∈ q.toList,i < (ys.map λ x=>V.ref x.2).length:=λ i hi=>by
  have e:i ∈ List.toArray (List.range ys.length):=a1.mem_iff.mp (by simpa using hi)
  simp_all
 refine ⟨.ref _,_,I2.laid (t':=tk) a4 [21] (show ObjOk X.prog X.w _ h' _ (.lst (q.toList.map λ i=>(ys.map λ x=>V.ref x.2).getD i .non)) from ⟨by rw [length_map,sz,sizeLine_eq]; omega,_,c,xq0 (ss1 ys) _ lt',a5⟩),rfl,?_⟩;exact k ys py q a1 a2 (za3 λ x hx=>sq x (py.mem_iff.mp hx)) _ (I2.hok.fresh [21])
end
abbrev TSt3:=St3->Mu->(List T3->Mu->Prop)->Prop
def RdSt (K:Fg) (tv:TSt) (t:TSt3):Prop:=∀ σ H R ρ μ R3,RSt K H ρ σ->RelM K μ H->t ρ μ R3->(∀ xs μ' H',R3 (xs.map (·.1)) μ'->(xs.map (·.1)).Nodup->(∀ x ∈ xs,H' x.2=some (.tup (vT x.1)))->Kp H H'->RelM K μ' H'->R xs H')->tv σ H R
def REs (X:Cx) (e:Expr) (t:TSt3):Prop:=∃ tv,PSt X e tv /\ RdSt X.K tv t
def zi3 (t:TA3):TSt3:=λ ρ μ R=>t ρ μ λ ds μ1=>∃ ts,(match ds with
 | [.ref p]=>μ1 p=some (.lst (ts.map encT))
 | _=>False) /\ SB ts /\ ∀ ks:List T3,ks.Nodup->(∀ x,x ∈ ks ↔ x ∈ ts)->R ks μ1
def wi3 (t:TSt3):TE3:=λ ρ μ Q=>t ρ μ λ ks μ1=>∀ us:List T3,us.Perm ks->us.Pairwise le3->∀ r,μ1 r=none->Q (.ref r) (updM μ1 r (.lst (us.map encT)))
section
variable {p p2 pos pos2:Pos} {t:TE3}
theorem sk3 (he:RE X e t) (hm:X.mg "set" = none) (hu:[42]) (hc:X.calm=true:=by rfl) (hg:Gl X "set" := by rfl) (hs:starEach [e] X.env=[[34]]:=by rfl):REs X (.Call (.Name "set" p) [e] [] pos) (zi3 (xa0 t nil3)):=by
 obtain ⟨va,pa,ra⟩:=vi0 he ua1 hs;refine ⟨_,vy1 hc hu hg hm pa hs,λ σ H R ρ μ R3 s m h k=>ra σ H _ ρ μ _ s m h λ ds μ1 vs H1 h1 k1 r1 m1=>?_⟩;obtain ⟨ts,hd,hB,q⟩:=h1;cases r1 with
 | nil=>exact hd.elim
 | cons r1 r2 =>
  cases r2 with
  | cons _ _=>simp_all
  | nil =>
   cases r1 with
   | ref a =>
    obtain ⟨us,hv,rv⟩:=m1 a _ hd;exact ⟨a,us,ts,rfl,SqL.of hv,xz0 rv,hB,λ ys nd al sq=>k ys μ1 H1 (q _ nd al) nd sq k1 m1⟩
   | _=>exact hd.elim
theorem ym3 {ts:TSt3} (he:REs X e ts) (hm:X.mg "sorted" = none) (hc:X.calm=true:=by rfl) (hg:Gl X "sorted" := by rfl) (hs:starEach [e] X.env=[[34]]:=by rfl):RE X (.Call (.Name "sorted" p) [e] [] pos) (wi3 ts):=by
 obtain ⟨va,pa,ra⟩:=he;refine ⟨_,yp3 hc hg hm pa hs,λ σ H Q ρ μ Q3 s m h k=>ra σ H _ ρ μ _ s m h λ xs μ1 H1 h1 nd1 sq1 k1 m1=>?_⟩;intro ys py q a1 a2 v3 r hr;have l1:(ys.map (·.1)).length=ys.length:=length_map _;rw [<- l1] at a1 a2
 have lt':∀ i ∈ q.toList,i < (ys.map λ x=>V.ref x.2).length:=λ i hi=>by
  have e:i ∈ List.toArray (List.range (ys.map (·.1)).length):=a1.mem_iff.mp (by simpa using hi)
  simp_all
 exact k _ _ _ _ (h1 _ ((uz0 a1).trans (py.map _)) (uv1 a1 a2) r (m1.free hr)) (k1.trans (Kp.new hr)) (.ref r) (m1.newL hr (yn0 (zl1 v3) _ lt'))
end
def xu2:C3:=λ ds μ Q=>match ds with
 | [.tup l]=>∀ r,μ r=none->Q (.ref r) (updM μ r (.lst l))
 | _=>False
section
variable {o:Expr} {es:List Expr} {to:TE3} {t:TA3} {apos cpos:Pos}
theorem tt4:RC X (.type "list") xu2:=by
 refine ⟨_,ud1,λ xs vs H Q μ Q3 m r h k=>?_⟩;unfold xu2 at h;split at h
 ·obtain ⟨v,rfl,r1⟩:=r.one;cases r1 with
  | tup hq rs=>exact ⟨_,_,rfl,.inr (SqT.of hq),λ r hr=>k _ _ _ _ (h r (m.free hr)) (Kp.new hr) (.ref r) (m.newL hr rs)⟩
 ·exact h.elim
end
end Pv
namespace Pv
open PySem PySem.Spec PyProof.Rows L2
section
variable {X:Cx}
theorem isN_v {K:Fg} {H:Hp} {x:D} {v:V} (r:RelD K H x v):decide (v=.non)=isN x:=by
 cases r <;> simp [isN]
theorem q_isN:RO X (compareOp .Is) (isNR false):=by
 refine ⟨_,vy4,λ x y v u H Q μ Q3 m rx ry h k=>?_⟩;cases ry with
 | non =>
  refine ⟨rfl,?_⟩;rw [isN_v rx];exact k _ _ _ _ h (Kp.refl _) (.bl _) m
 | _=>exact False.elim h
end
end Pv
namespace Pv
open PySem PySem.Spec PyProof.Rows L2 PySem.Calls
open PySem.AutoSeq1 (wpAny_loadPart')
def ixB (e:Value->Bool) (a b c d:Value) (j:Nat):Prop:=(j=0 /\ e a=true) \/ (j=1 /\ e a=false /\ e b=true) \/ (j=2 /\ e a=false /\ e b=false /\ e c=true) \/ (j=3 /\ e a=false /\ e b=false /\ e c=false /\ e d=true)
theorem loop4 {M:Model} {A:Around} {E:[7]} {s:Shared} {β:Type} {Q:β->Shared->Prop} {L:List Nat} (hL:L=[0,1,2,3]) {f:Nat->β->Sem (ForInStep β)} {b:β} {p:∃ bs,bs ++ L=L} (h:wpAny M A (forIn [0,1,2,3] b f) Q E s):wpAny M A (List.forIn'.loop L (λ a _=>f a) L b p) Q E s:=by
 subst hL;exact h
theorem ix4 (t:Addr) (a b c d x:Value) (n j:Nat) (dd:Option Addr) (sl:Array (Option Value)) (e:Value->Bool) (hj:ixB e a b c d j) :
    Meets (Builtin.«tuple.index» ⟨[.ref t,x],[]⟩) (λ A R s=>s.heap.get? t=some { cls:=.type "tuple",dict:=dd,data:=.seq #[a,b,c,d] n,slots:=sl } /\ (∀ y,y ∈ [a,b,c,d]->PySem.SeqAt.EqAt A.in1 s y x (e y)) /\ R (.ok (.ret (.int (j:Int) s.toks))) { s with toks:=s.toks + 1 }):=by
 intro prog w A R s h;obtain ⟨hp,g,dr,tk,os⟩:=s; obtain ⟨hl,he,h⟩:=h;unfold Builtin.«tuple.index»;simp only [Std.Legacy.Range.forIn_eq_forIn_range']
 wp_walk using wpAny_loadPart' hl
 have ra:=he a [17] prog w;have rb:∀ {Q:Bool->Shared->Prop} {E:[7]},Q (e b) ⟨hp,g,dr,tk,os⟩->wpAny [6] A.in1 (eqBool (#[a,b,c,d][1]) x) Q E ⟨hp,g,dr,tk,os⟩:=λ hq=>he b [17] prog w _ _ hq;have rc:∀ {Q:Bool->Shared->Prop} {E:[7]},Q (e c) ⟨hp,g,dr,tk,os⟩->wpAny [6] A.in1 (eqBool (#[a,b,c,d][2]) x) Q E ⟨hp,g,dr,tk,os⟩:=λ hq=>he c [17] prog w _ _ hq;have rd:∀ {Q:Bool->Shared->Prop} {E:[7]},Q (e d) ⟨hp,g,dr,tk,os⟩->wpAny [6] A.in1 (eqBool (#[a,b,c,d][3]) x) Q E ⟨hp,g,dr,tk,os⟩:=λ hq=>he d [17] prog w _ _ hq;refine loop4 (by simp [Std.Legacy.Range.size,List.range']) ?_;rw [List.forIn_cons];refine wpAny_bind ?_;show wpAny _ _ (eqBool a x >>= _) _ _ _;refine wpAny_bind (ra _ _ ?_);rcases hj with ⟨rfl,h1⟩ | ⟨rfl,h1,h2⟩ | ⟨rfl,h1,h2,h3⟩ | ⟨rfl,h1,h2,h3,h4⟩
 ·rw [h1]
  wp_walk
  exact h
 ·rw [h1]
  wp_walk using rb
  exact h
 ·rw [h1]
  wp_walk using rb,rc
  exact h
 ·rw [h1]
  wp_walk using rb,rc,rd
  exact h
def ixD (ps:List PyData) (q:PyData) (j:Nat):Prop:=∃ a b c d,ps=[a,b,c,d] /\ ((j=0 /\ PyData.eqv a q=true) \/ (j=1 /\ PyData.eqv a q=false /\ PyData.eqv b q=true) \/ (j=2 /\ PyData.eqv a q=false /\ PyData.eqv b q=false /\ PyData.eqv c q=true) \/ (j=3 /\ PyData.eqv a q=false /\ PyData.eqv b q=false /\ PyData.eqv c q=false /\ PyData.eqv d q=true))
def tix3 (to:TE3) (t:TA3):TE3:=λ ρ μ Q=>to ρ μ λ x μ1=>t ρ μ1 λ ds μ2=>match x,ds with
 | .ktp l,[y]=>match dats l,dat y with
  | some ps,some q=>((PyData.tuple ps).depth<=64 /\ q.depth<=64) /\ ∃ j,ixD ps q j /\ Q (.int (j:Int)) μ2
  | _,_=>False
 | _,_=>False
def rIx (K:Fg):V->List V->Hp->VK->Prop:=λ x vs H Q=>∃ (l:List D) (y:D) (v:V) (ps:List PyData) (q:PyData) (j:Nat),RelD K H (.ktp l) x /\ vs=[v] /\ RelD K H y v /\ dats l=some ps /\ dat y=some q /\ (PyData.tuple ps).depth<=64 /\ q.depth<=64 /\ ixD ps q j /\ Q (.int (j:Int)) H
variable {X:Cx} {x:Str}
section
theorem mt_ix (hu:X.A.units + 65 < cLine):MtM X "tuple.index" (rIx X.K):=by
 intro pins s σ H x vs v us Q I rx rv h;obtain ⟨l,y,v0,ps,q,j,r1,rfl,r2,e1,e2,d1,d2,⟨a,b,c,d,rfl,hj⟩,hq⟩:=h;cases rv with
 | cons ru rc =>
 cases rc;rename_i u;cases r1 with
 | ktp hq' rs =>
  cases rx;obtain ⟨its,rv,⟨o,ho,hc,n,hd⟩,hz⟩:=I.tuple hq';obtain ⟨as,ra⟩:=uf0 I rs e1 rv;obtain ⟨bs,rq⟩:=wg0 I r2 e2 ru;have c1:=xg0 l _ e1;have c2:=sd0 y q e2
  have hm:X.A.units + 1 + min (PyData.depthAll [a,b,c,d]) q.depth < cLine:=by
   omega
  have eq:=PySem.SeqAt.items_eqAt (vs:=its.toArray) (by simpa using ra) rq c1 c2 hm;obtain ⟨oc,od,oda,osl⟩:=o;dsimp only at hc hd;subst hc hd;cases ra with
  | cons q1 ra =>
  cases ra with
  | cons q2 ra =>
  cases ra with
  | cons q3 ra =>
  cases ra with
  | cons q4 ra =>
  cases ra;simp only [PyData.canLayAll0,Bool.and_eq_true] at c1;have f1:=PySem.SeqAt.readOf_eq c1.1 q1;have f2:=PySem.SeqAt.readOf_eq c1.2.1 q2;have f3:=PySem.SeqAt.readOf_eq c1.2.2.1 q3;have f4:=PySem.SeqAt.readOf_eq c1.2.2.2.1 q4;refine call_meets F.slot_tuple_index ⟨_,ho,rfl⟩ F.entry_tuple_index (F.args_tuple_index_2 _ _) (ix4 _ _ _ _ _ _ n j od osl (λ y=>PyData.eqv (PySem.SeqAt.readOf s.heap y) q) ?_) ⟨ho,λ y hy=>eq y (by simpa using hy),?_⟩
  ·unfold ixB
   simp_all
  ·exact ⟨.int j,H,I.kept (t':=s.toks + 1) λ b ob q=>q,⟨_,rfl⟩,hq⟩
variable {o e:Expr} {es:List Expr} {to:TE3} {t:TA3} {apos cpos:Pos}
def GdT (K:Fg) (mg:[28]) (x:Str) (l:List D):Prop:=∃ a o,mg x=some (.ref a) /\ K.lookup a=some o /\ o.cls=.type "tuple" /\ o.dict=none /\ ∀ H,RelD K H (.ktp l) (.ref a)
theorem sq2 {l:List D} {p0:Pos} (hu:X.A.units + 65 < cLine) (g:GdT X.K X.mg x l) (ha:RA X (e :: es) t) (hg:Gl X x:=by rfl) (hdb:[30]=false:=by decide) (hbase:attributeBase (.Name x p0) "index" X.env (eval (.Name x p0) X.env)=eval (.Name x p0) X.env:=by rfl)
    (hfew:((backTo cpos (starEach (e :: es) X.env)).all (λ x=>!x.1) && (backToKw cpos (keywordEach [] X.env)).all (λ x=>x.1.isSome)
     && decide [22])=true:=by rfl)
    (hline:(apos.endLine == cpos.line)=true:=by rfl) (hs:starEach (e :: es) X.env=[34] :: starEach es X.env:=by rfl) (hplain:(backTo cpos (starEach es X.env)).any (·.1)=false:=by rfl) :
    RE X (.Call (.Attribute (.Name x p0) "index" apos) (e :: es) [] cpos) (tix3 (c3 (.ktp l)) t):=by
 obtain ⟨a,o,hm,hk,hc,hdn,rd⟩:=g;obtain ⟨vb,pb,rb⟩:=ha;refine ⟨_,sp3 PySem.F.plainAttrs_tuple PySem.F.slot_tuple_index PySem.F.type_tuple_index (mt_ix hu) (uz1 hg hm (show RelV (.ref a) (.ref a) from rfl) hdb) pb hbase hfew hline hs hplain,λ σ H Q ρ μ Q3 s m h k=>?_⟩;refine ⟨.inr (.inl ⟨rfl,o,hk,hc,hdn⟩),rb σ H _ ρ μ _ s m h λ ds μ2 vs H2 h2 k2 r2 m2=>?_⟩;cases r2 with
 | nil=>exact False.elim h2
 | cons r2 r3 =>
  cases r3 with
  | cons _ _=>exact False.elim h2
  | nil =>
   rename_i y v;dsimp only at h2;cases e1:dats l with
   | none=>simp_all
   | some ps =>
    cases e2:dat y with
    | none=>simp_all
    | some q =>
     rw [e1,e2] at h2;obtain ⟨⟨d1,d2⟩,j,hj,hq⟩:=h2;exact ⟨l,y,v,ps,q,j,rd H2,rfl,r2,e1,e2,d1,d2,hj,k _ _ _ _ hq k2 (.int _) m2⟩
theorem yc5 {K:Fg} {mg:[28]} {h:Heap} {a:Addr} {l:List D} {its:Array Value} {n:Nat} {sl:Array (Option Value)} (X:K.In h) (G:h.Ns mainGlobals mg) (e:nsIn K mainGlobals x=some (some (.ref a)))
    (hk:K.lookup a=some ⟨.type "tuple",none,.seq its n,sl⟩) (r:TupK K l a):GdT K mg x l:=⟨a,_,mg_of X G e,hk,rfl,rfl,λ H=>r.rel H⟩
end
section
variable {C:Addr} {p pos:Pos}
theorem tq2 {k:Nat} {ps:List Str} {sp:Sp3} (oc:ObjC X.K x C) (mk:makesIn X.K C=true) (kp:keepIn X.K (.ref C)=true) (cf:CalT X.prog X.w X.K X.mg X.base k C "__init__" ps sp) (hm:X.mg x=some (.ref C)) (hr:Room (k + 1) X.A)
    (hg:Gl X x:=by rfl) (hdb:[30]=false:=by decide):RE X (.Call (.Name x p) [] [] pos) (zr3 x sp nil3):=by
 obtain ⟨f,fd,F,h1,h2,h3,hb⟩:=cf;refine ⟨_,zs2 ⟨mk,h1,h2,kp⟩ F hr hg hm hb .nil yq3 hdb,λ σ H Q ρ μ Q3 s mm h kk y dy n1 n2 n3=>?_⟩;rw [append_nil];have kA:Kp H (upd H dy (.own y)):=Kp.new n2;have n1':upd H dy (.own y) y=none:=by rw [xb0 (Ne.symm n3)]; exact n1
 have kB:Kp (upd H dy (.own y)) (upd (upd H dy (.own y)) y (.ins C dy [])):=Kp.new n1';refine ⟨_,_,_,.cons (.ref y) .nil,mm.newI oc.ns n1 n2 n3,h y (mm.free n1),λ d μ2 v H2 q k2 r2 m2=>?_⟩;obtain ⟨rfl,q2⟩:=q;cases r2;exact ⟨rfl,kk _ _ _ _ q2 (kA.trans (kB.trans k2)) (.ref y) m2⟩
end
end Pv
namespace Pv
open PySem PySem.Spec PyProof.Rows L2
noncomputable def to0 (cells:List (Str × Addr)):List (Str × NameKind)->List (Str × Addr)->List (Str × Addr)
 | [],acc=>acc
 | (n,k) :: r,acc=>if k == .free then to0 cells r ((n,(cells.lookup n).getD 0) :: acc) else to0 cells r acc
variable {scope:Scope}
theorem xy0 {env:Env} (h:∀ y ∈ scope.names,y.2=.free->(env.cells.lookup y.1).isSome=true):closureFor scope env=pure (to0 env.cells scope.names []):=by
 unfold closureFor
 have key:∀ (l:List (Str × NameKind)) (acc:List (Str × Addr)),(∀ y ∈ l,y.2=.free->(env.cells.lookup y.1).isSome=true) ->
     (forIn l acc (λ x r=>if (x.2 == NameKind.free)=true then do let c <- cellOf env x.1; pure (ForInStep.yield ((x.1,c) :: r)) else pure (ForInStep.yield r)):Sem (List (Str × Addr)))=pure (to0 env.cells l acc):=by
  intro l
  induction l with
  | nil=>intro acc _; rfl
  | cons y r ih =>
   intro acc hl;obtain ⟨n,k⟩:=y;rw [List.forIn_cons];have ih':=λ a=>ih a λ z hz=>hl z (mem_cons_of_mem _ hz);by_cases hk:k=.free
   ·subst hk;have hs:=hl (n,.free) (mem_cons_self ..) rfl;obtain ⟨c,hc⟩:=Option.isSome_iff_exists.mp hs;have ec:cellOf env n=pure c:=by unfold cellOf; rw [hc]
    simp only [to0,ec,pure_bind,beq_self_eq_true,if_true,hc,Option.getD_some];exact ih' _
   ·have hk':(k == NameKind.free)=false:=by simpa using hk
    simp only [to0,hk',Bool.false_eq_true,if_false,pure_bind];exact ih' _
 have:=key scope.names [] h
 simp_all
theorem zs0 {cells:List (Str × Addr)} {x:Str} {c:Addr}:∀ (l:List (Str × NameKind)) (acc:List (Str × Addr)),(∀ y ∈ l,y.2=.free->(cells.lookup y.1).isSome=true)->(acc.lookup x=some c->cells.lookup x=some c) ->
    (to0 cells l acc).lookup x=some c->cells.lookup x=some c
 | [],acc,_,ha,h=>ha h
 | (n,k) :: r,acc,hl,ha,h=>by
  unfold to0 at h;split at h
  ·next hk =>
   refine zs0 r _ (λ z hz=>hl z (mem_cons_of_mem _ hz)) (λ h2=>?_) h;rw [lookup_cons] at h2;split at h2
   ·next e =>
    have e':x=n:=eq_of_beq e;subst e';obtain ⟨c',hc⟩:=Option.isSome_iff_exists.mp (hl (x,k) (mem_cons_self ..) (eq_of_beq hk))
    simp_all
   ·exact ha h2
  ·exact zs0 r acc (λ z hz=>hl z (mem_cons_of_mem _ hz)) ha h
theorem vs0 {cells:List (Str × Addr)} {x:Str}:∀ (l:List (Str × NameKind)) (acc:List (Str × Addr)),((∃ c,acc.lookup x=some c) \/ (x,NameKind.free) ∈ l)->∃ c,(to0 cells l acc).lookup x=some c
 | [],acc,h=>by
  rcases h with h | h
  ·exact h
  ·cases h
 | (n,k) :: r,acc,h=>by
  unfold to0;split
  ·next hk =>
   refine vs0 r _ ?_;by_cases e:x=n
   ·simp_all
   ·rcases h with ⟨c,h⟩ | h
    ·left;refine ⟨c,?_⟩;rw [lookup_cons];have:(x == n)=false:=by simpa using e
     rw [this]; exact h
    simp_all
  ·next hk =>
   refine vs0 r acc ?_;rcases h with h | h
   ·exact .inl h
   ·rcases List.mem_cons.mp h with h | h
    ·simp_all
    ·exact .inr h
theorem CompSc.free {X:Cx} {NN:List Str} {scope:Scope} {js:List [43]} (hcell:∀ y ∈ scope.names,y.2 ≠ .cell) (hk:scope.kind=.function) (hfn:X.env.scope.kind=.function)
    (hn:∀ y ∈ scope.names,y.2=.local->scope.names.lookup y.1=some .local) (hfree:∀ y ∈ scope.names,y.2=.free->X.env.scope.names.lookup y.1=some .cell) (hlook:∀ y ∈ scope.names,y.2=.free->scope.names.lookup y.1=some .free)
    (hcl:∀ x,X.env.scope.names.lookup x=some .cell->(X.env.cells.lookup x).isSome=true) (len:js.length=NN.length)
    (hout:∀ i ∈ List.range js.length,∀ j,js.getD i none=some j->∃ x,NN[i]?=some x /\ X.N[j]?=some x /\ scope.names.lookup x=some .free) :
    CompSc X NN scope (to0 X.env.cells scope.names []) js where
 clos:=xy0 λ y hy e=>hcl _ (hfree y hy e)
 cell:=hcell
 kind:=hk
 names:=hn
 sub:=λ x c h=>zs0 scope.names [] (λ y hy e=>hcl _ (hfree y hy e)) (λ h=>by simp at h) h
 has:=λ x h=>by
  refine vs0 scope.names [] (.inr ?_)
  have hm:∃ k,(x,k) ∈ scope.names /\ (k=.free \/ k=.cell):=by
   have key:∀ kk,(relabel scope X.env).names.lookup x=some kk->(kk=.cell \/ kk=.free)->∃ k,(x,k) ∈ scope.names /\ (k=.free \/ k=.cell):=λ kk hkk hc=>by
    have hmem:=yh0 hkk;obtain ⟨⟨n,k⟩,hy,e⟩:=List.mem_map.mp hmem;dsimp only at e;split at e
    ·next hq =>
     cases e;simp only [Bool.and_eq_true] at hq;exact ⟨k,hy,.inl (by simpa using hq.1.1)⟩
    ·cases e;exact ⟨kk,hy,hc.symm⟩
   rcases h with h | h
   ·simp_all
   simp_all
  obtain ⟨k,hk1,hk2⟩:=hm;rcases hk2 with rfl | rfl
  ·exact hk1
  ·exact absurd rfl (hcell _ hk1)
 len:=len
 out:=λ i j h=>by
  have hi:i < js.length:=by
   rcases Nat.lt_or_ge i js.length with z | z
   ·exact z
   simp_all
  obtain ⟨x,e1,e2,e3⟩:=hout i (List.mem_range.mpr hi) j [26];have hf:=hfree (x,.free) (yh0 e3) rfl;refine ⟨x,e1,e2,.inr (.inl hf),by rw [hf]; simp,?_⟩;left
  have key:∀ (l:List (Str × NameKind)),l.lookup x=some .free->(l.map λ (n,k)=>if (k == NameKind.free && X.env.scope.kind == .function && X.env.kindOf n == some .cell) then (n,NameKind.cell) else (n,k)).lookup x=some .cell:=λ l=>by
   induction l with
   | nil=>intro h; simp at h
   | cons y r ih =>
    obtain ⟨n,k⟩:=y;intro h;rw [lookup_cons] at h;rw [map_cons,lookup_cons];by_cases e:x=n
    ·subst e;simp only [beq_self_eq_true,Option.some.injEq] at h;subst h
     have hkind:(X.env.kindOf x == some NameKind.cell)=true:=by
      show (X.env.scope.names.lookup x == some NameKind.cell)=true;rw [hf]; rfl
     simp [hfn,hkind]
    ·have e':(x == n)=false:=by simpa using e
     rw [e'] at h;have ih':=ih h;by_cases hq:(k == NameKind.free && X.env.scope.kind == ScopeKind.function && X.env.kindOf n == some NameKind.cell)=true
     ·simp only [hq,if_true,e']; exact ih'
     ·simp only [hq,Bool.false_eq_true,if_false,e']; exact ih'
  exact key _ e3
variable {NN:List Str} {js:List [43]}
theorem xo0 {CX:CXT} {P:Program} {w:World} {K:Fg} {mg:[28]} {base:Heap} {N:List Str} {qual:Str} {sc:Scope} {f:Addr} {cdv:Value} {A:Around} {outer:List Env} {s:Shared} {H:Hp} {E:XK} 
    (hcell:∀ y ∈ scope.names,y.2 ≠ .cell:=by decide +kernel) (hk:scope.kind=.function:=by rfl) (hfn:sc.kind=.function:=by rfl)
    (hn:∀ y ∈ scope.names,y.2=.local->scope.names.lookup y.1=some .local:=by decide +kernel) (hfree:∀ y ∈ scope.names,y.2=.free->sc.names.lookup y.1=some .cell:=by decide +kernel)
    (hlook:∀ y ∈ scope.names,y.2=.free->scope.names.lookup y.1=some .free:=by decide +kernel) (len:js.length=NN.length:=by rfl)
    (hout:∀ i ∈ List.range js.length,∀ j ∈ (js.getD i none).toList,∃ x ∈ NN[i]?.toList,N[j]?=some x /\ scope.names.lookup x=some .free:=by decide +kernel) :
    CompSc (cxOf CX P w K mg base N qual sc f cdv A outer s H E).nox NN scope (to0 (cxOf CX P w K mg base N qual sc f cdv A outer s H E).nox.env.cells scope.names []) js :=
 CompSc.free (X:=(cxOf CX P w K mg base N qual sc f cdv A outer s H E).nox) hcell hk hfn hn hfree hlook (λ x h=>by
  obtain ⟨c,hc⟩:=yy0 (n:=_) h
  exact Option.isSome_iff_exists.mpr ⟨c,hc⟩) len λ i hi j hj=>by
   obtain ⟨x,h1,h2,h3⟩:=hout i hi j (by rw [hj]; simp);exact ⟨x,by simpa using h1,h2,h3⟩
variable {X:Cx} {i:Nat} {x:Str} {px apos:Pos} {ifs:List Expr}
section
variable {cl:List (Str × Addr)} 
theorem yo3 {elt target iter:Expr} {pos:Pos} {wi:TI} {g:TG} {tc:TT} {te:TE} (hN:X.N.Nodup) (hi':X.N[i]?=some x) (hl:X.env.scope.names.lookup x=some .local) (hc:X.calm=true) (S:CompSc X NN scope cl js) (hi:PI X target iter wi)
    (hg:∀ C fp s₀ H₀ pn,PG [13] target g) (ht:∀ C fp s₀ H₀ pn,PTs [13] ifs tc) (he:∀ C fp s₀ H₀ pn,PE [13] elt te)
    (hs:∀ x,foldedSetIterable iter X.env x=pure x) (hw:swapsWith [16] (some (.Name x px)) apos.line X.env=pure true) :
    PS X (.Assign [.Name x px] [16] apos) (tAsg (wu1 js wi g tc te) (zt3 i)):=by
 intro pins s σ H D I h;rw [exec_Assign_Name_used _ _ _ _ hw];refine wpAny_bind (wpAny_standAt (wpAny_bind ?_));show wpAny _ _ (comprehension [16] scope X.env (firstIterPos [⟨target,iter,ifs,0⟩] pos) (newList []) (firstAsync [⟨target,iter,ifs,0⟩]) (firstIter [⟨target,iter,ifs,0⟩] X.env) (some (assign (.Name x px) X.env)) >>= λ _=>pure ()) _ _ s;refine wpAny_bind (wpAny_mono (tg2 (use:=some (assign (.Name x px) X.env)) (Q':=λ _ s'=>SP X pins D .next s') hc S hi hg ht he hs I h λ p0 C H' s' m' I5 hn hC n1 n2 n3 n4 q=>?_) (λ _ s' hq=>wpAny_pure (wpAny_pure hq)) λ _ _ e=>e);show wpAny _ _ (assign (.Name x px) X.env (.ref p0)) _ _ s';refine wpAny_assign_Name (zz0 I5 hN hi' (.inl hl) (v:=.ref p0) rfl (λ s2 I6 ⟨b,sb,hb⟩=>?_) (.inr hl))
 have nb:C ≠ b:=by
  rcases hb with hb | hb
  ·rw [hb]; exact n1
  ·exact Ne.symm (n3 x b hb)
 exact ⟨m',hn.sameBut sb nb,λ h' sb'=>⟨_,H',I6.turned (t':=s2.toks) (λ b o hb e=>sb'.extBut b o hb e) hC n1 (.inr n2) n3 n4,q⟩⟩
end
variable {te:TE3}
section
variable {elt target iter:Expr} {pos:Pos} {ti:TI3} {g:TG3} {tc:TT3} {cl:List (Str × Addr)} 
theorem zp0 (hN:X.N.Nodup) (hc:X.calm=true) (S:CompSc X NN scope cl js) (hi:RI X target iter ti) (hg:∀ C fp s₀ H₀ pn,RG [13] target g)
    (ht:∀ C fp s₀ H₀ pn,RTs [13] ifs tc) (he:∀ C fp s₀ H₀ pn,RE [13] elt te)
    (hs:∀ x,foldedSetIterable iter X.env x=pure x) (hi':X.N[i]?=some x:=by rfl) (hl:X.env.scope.names.lookup x=some .local:=by rfl)
    (hw:swapsWith [16] (some (.Name x px)) apos.line X.env=pure true:=by rfl):RS X (.Assign [.Name x px] [16] apos) (set3 i (te0 js ti g tc te)):=by
 obtain ⟨wi,pi,ri⟩:=hi
 let gU:TG:=λ v σ H Q=>∀ (r:TG3),r=g->∃ d ρ μ Q3,RSt X.K H ρ σ /\ RelM X.K μ H /\ RelD X.K H d v /\ g d ρ μ Q3 /\ (∀ ρ' μ' σ' H',Q3 ρ' μ'->Kp H H'->RSt X.K H' ρ' σ'->RelM X.K μ' H'->Q σ' H')
 let tU:TT:=λ σ H Q=>∃ ρ μ Q3,RSt X.K H ρ σ /\ RelM X.K μ H /\ tc ρ μ Q3 /\ (∀ b μ' H',Q3 b μ'->Kp H H'->RelM X.K μ' H'->Q b H')
 let eU:TE:=λ σ H Q=>∃ ρ μ Q3,RSt X.K H ρ σ /\ RelM X.K μ H /\ te ρ μ Q3 /\ Ks X.K H Q3 Q
 have hg':∀ C fp s₀ H₀ pn,PG [13] target gU:=λ C fp s₀ H₀ pn=>by
  obtain ⟨tv,p,r⟩:=hg C fp s₀ H₀ pn;intro pins s σ H v u Q I rv h;obtain ⟨d,ρ,μ,Q3,a1,a2,a3,a4,a5⟩:=h g rfl;exact p pins s σ H v u Q I rv (r v d σ H Q ρ μ Q3 a1 a2 a3 a4 a5)
 have ht':∀ C fp s₀ H₀ pn,PTs [13] ifs tU:=λ C fp s₀ H₀ pn=>by
  obtain ⟨tv,p,r⟩:=ht C fp s₀ H₀ pn;intro pins s σ H Q I h;obtain ⟨ρ,μ,Q3,a1,a2,a3,a4⟩:=h;exact p pins s σ H Q I (r σ H Q ρ μ Q3 a1 a2 a3 a4)
 have he':∀ C fp s₀ H₀ pn,PE [13] elt eU:=λ C fp s₀ H₀ pn=>by
  obtain ⟨tv,p,r⟩:=he C fp s₀ H₀ pn;intro pins s σ H Q I h;obtain ⟨ρ,μ,Q3,a1,a2,a3,a4⟩:=h;exact p pins s σ H Q I (r σ H Q ρ μ Q3 a1 a2 a3 a4)
 have rd:RdE X.K (wu1 js wi gU tU eU) (te0 js ti g tc te):=RdE.comp ri (λ v d σ H Q ρ μ Q3 a1 a2 a3 a4 a5 _ _=>⟨d,ρ,μ,Q3,a1,a2,a3,a4,a5⟩) (λ σ H Q ρ μ Q3 a1 a2 a3 a4=>⟨ρ,μ,Q3,a1,a2,a3,a4⟩) (λ σ H Q ρ μ Q3 a1 a2 a3 a4=>⟨ρ,μ,Q3,a1,a2,a3,a4⟩);exact ⟨_,yo3 hN hi' hl hc S pi hg' ht' he' hs hw,λ σ H D ρ μ D3 s m h k=>rd σ H _ ρ μ _ s m h λ d μ1 v H1 h1 k1 r1 m1=>k.nx _ _ _ _ h1 k1 ((s.mono k1).set i r1) m1⟩
theorem vp2 (hN:X.N.Nodup) (hf:∀ y ∈ scope.names,y.2 ≠ .free) (hcl:∀ y ∈ scope.names,y.2 ≠ .cell) (hn:∀ y ∈ scope.names,y.2=.local->scope.names.lookup y.1=some .local) (hi:RI X target iter ti) (hg:∀ C fp s₀ H₀ pn,RG (sb0 X NN scope [] C fp s₀ H₀ pn) target g)
    (ht:∀ C fp s₀ H₀ pn,RTs (sb0 X NN scope [] C fp s₀ H₀ pn) ifs tc) (he:∀ C fp s₀ H₀ pn,RE (sb0 X NN scope [] C fp s₀ H₀ pn) elt te) (hc:X.calm=true:=by rfl) (hk:scope.kind=.function:=by rfl)
    (hs:∀ x,foldedSetIterable iter X.env x=pure x:=by intro _; rfl) (hi':X.N[i]?=some x:=by rfl) (hl:X.env.scope.names.lookup x=some .local:=by rfl)
    (hw:swapsWith [16] (some (.Name x px)) apos.line X.env=pure true:=by rfl):RS X (.Assign [.Name x px] [16] apos) (set3 i (te0 (NN.map λ _=>none) ti g tc te)) :=
 zp0 hN hc (CompSc.closed hf hcl hk hn) hi hg ht he hs hi' hl hw
end
section
variable {e:Expr} {p p2 pos pos2:Pos}
theorem ss0 {K:Fg} {H:Hp}:∀ {xs:List D} {us:List V},RelDs K H xs us->RelDs K H xs.reverse us.reverse
 | _,_,.nil=>.nil
 | _,_,.cons r1 r2=>by
  rw [List.reverse_cons,List.reverse_cons];exact (ss0 r2).append (.cons r1 .nil)
variable {o:Expr} {es:List Expr} {to:TE3} {t:TA3} {cpos:Pos}
theorem tn4 (ho:RE X o to) (hbase:attributeBase o "pop" X.env (eval o X.env)=eval o X.env:=by rfl) (hline:(apos.endLine == cpos.line)=true:=by rfl) :
    RE X (.Call (.Attribute o "pop" apos) [] [] cpos) (pop3 to):=by
 obtain ⟨va,pa,ra⟩:=ho;refine ⟨_,wx4 PySem.F.plainAttrs_list PySem.F.slot_list_pop PySem.F.type_list_pop yz4 pa hbase hline,λ σ H Q ρ μ Q3 s m h k=>ra σ H _ ρ μ _ s m h λ d μ1 v H1 h1 k1 r1 m1=>?_⟩;cases r1 with
 | ref p =>
  dsimp only at h1;split at h1
  ·next l e0 =>
     obtain ⟨vs,hv,rs⟩:=m1 p l e0;have rr:=ss0 rs;cases er:l.reverse with
     | nil=>simp_all
     | cons d r =>
      rw [er] at h1 rr;generalize ev:vs.reverse=vr at rr;cases rr with
      | cons r1 r2 =>
       rename_i w ws;have e1:vs=ws.reverse ++ [w]:=by simp_all
       subst e1;refine ⟨.inl ⟨rfl,_,SqL.of hv⟩,p,_,w,rfl,rfl,hv,by simp,?_⟩;rw [List.dropLast_concat];exact k _ _ _ _ h1 (k1.trans (Kp.wr hv)) (r1.mono (Kp.wr hv)) (m1.wr hv (ss0 r2))
  ·exact h1.elim
 | _=>exact False.elim h1
end
end Pv
namespace Pv
open PySem
noncomputable abbrev si0:D:=.int 30
noncomputable abbrev yk0:D:=.int 4
noncomputable abbrev zb0:D:=.int 99999999999999999999
noncomputable abbrev ye0:D:=.int 400
noncomputable abbrev wh0:D:=.ktp [.str "go",.str "jump",.str "turn"]
noncomputable abbrev wd0:D:=.ktp [.str "go",.str "times"]
noncomputable abbrev ui0:D:=.ktp [.int 0,.int 0,.int 0]
noncomputable abbrev xj0:D:=.ktp [.ktp [.int 1,.int 0],.ktp [.int 0,.int 1],.ktp [.int (-1),.int 0],.ktp [.int 0,.int (-1)]]
noncomputable abbrev ub1:D:=.ktp [.int 0,.int 1]
noncomputable abbrev ti0:D:=.int 1000
noncomputable abbrev yx0:List D:=[.ktp [.int 1,.int 0],.ktp [.int 0,.int 1],.ktp [.int (-1),.int 0],.ktp [.int 0,.int (-1)]]
noncomputable def uz2:List Str:=["word"]
abbrev vh3 (q11:Sp3):TS3 :=
 (yc0 (va0 q11 (xa0 (v3 0) (xa0 [9] nil3))))
noncomputable def vz2:List Str:=["word", "depth", "count", "deed"]
abbrev wh3 (q12:Sp3):TS3 :=
 (seq3 (ifs3 (not3 (b3 (va0 isiR (xa0 (v3 0) (xa0 (c3 (.ty "tuple")) nil3))))) ud0 xc0) (seq3 (ifs3 (b3 (o3 gtR (v3 1) (c3 yk0))) ud0 xc0) (seq3 (set3 2 [9]) (seq3 (for3 (is3 (v3 0)) (gn3 3) (seq3 (set3 2 (o3 addR (v3 2) (va0 q12 (xa0 (v3 3) (xa0 (v3 1) nil3))))) (ifs3 (b3 (o3 gtR (v3 2) (c3 si0))) ud0 xc0))) (ret3 (v3 2))))))
noncomputable def zz3:List Str:=["deed", "depth"]
abbrev sd4 (q7 q11:Sp3):TS3 :=
 (seq3 (ifs3 (not3 (b3 (va0 isiR (xa0 (v3 0) (xa0 (c3 (.ty "tuple")) nil3))))) ud0 xc0) (seq3 (ifs3 (and3 (b3 (o3 eqR (va0 lenR [25]) (c3 (.int 2)))) (b3 (o3 (inR false) [32] (c3 wh0)))) (seq3 (yc0 (va0 q7 (xa0 [32] (xa0 (o3 ixR (v3 0) [11]) nil3)))) (ret3 [11])) xc0) (seq3 (ifs3 (and3 (b3 (o3 eqR (va0 lenR [25]) (c3 (.int 3)))) (b3 (o3 eqR [32] (c3 (.str "times"))))) (seq3 (yc0 (va0 q7 (xa0 [32] (xa0 (o3 ixR (v3 0) [11]) nil3)))) (ret3 (o3 addR [11] (va0 q11 (xa0 (o3 ixR (v3 0) (c3 (.int 2))) (xa0 (o3 addR (v3 1) [11]) nil3)))))) xc0) ud0)))
noncomputable def N_q7:List Str:=["kind", "number"]
abbrev t_q7:TS3 :=
 (seq3 (ifs3 (not3 (b3 (va0 isiR (xa0 (v3 1) (xa0 (c3 (.ty "int")) nil3))))) ud0 xc0) (seq3 (ifs3 (b3 (o3 gtR (va0 absR (xa0 (v3 1) nil3)) (c3 zb0))) ud0 xc0) (ifs3 (and3 (b3 (o3 ltR (v3 1) [9])) (b3 (o3 (inR false) (v3 0) (c3 wd0)))) ud0 xc0)))
noncomputable def wy3:List Str:=["pen", "part", "ahead", "x", "y"]
abbrev xd4:TS3 :=
 (seq3 (set3 2 (o3 ixR (c3 xj0) (o3 ixR (v3 0) (c3 (.int 2))))) (seq3 (set3 3 (o3 subR (o3 addR [32] (o3 mulR (o3 ixR (v3 1) [9]) (o3 ixR (v3 2) [9]))) (o3 mulR (o3 ixR (v3 1) [11]) (o3 ixR (v3 2) [11])))) (seq3 (set3 4 (o3 addR (o3 addR (o3 ixR (v3 0) [11]) (o3 mulR (o3 ixR (v3 1) [9]) (o3 ixR (v3 2) [11]))) (o3 mulR (o3 ixR (v3 1) [11]) (o3 ixR (v3 2) [9])))) (ret3 (tup3 (xa0 (v3 3) (xa0 (v3 4) (xa0 (o3 modR (o3 addR (o3 ixR (v3 0) (c3 (.int 2))) (o3 ixR (v3 1) (c3 (.int 2)))) (c3 (.int 4))) nil3))))))))
noncomputable def tx3:List Str:=["deed"]
abbrev wc4:TS3 :=
 (seq3 (ifs3 (b3 (o3 eqR [32] (c3 (.str "turn")))) (ret3 (tup3 (xa0 [9] (xa0 [9] (xa0 (o3 modR (o3 ixR (v3 0) [11]) (c3 (.int 4))) nil3))))) xc0) (seq3 (ifs3 (b3 (o3 eqR [32] (c3 (.str "times")))) ud0 xc0) (ret3 (tup3 (xa0 (o3 ixR (v3 0) [11]) (xa0 [9] (xa0 [9] nil3)))))))
noncomputable def uy2:List Str:=["word"]
abbrev vg3 (q10 q15:Sp3):TS3 :=
 (seq3 (yc0 (va0 q10 [25])) (ret3 (va0 q15 [25])))
noncomputable def zz2:List Str:=["word"]
abbrev yh3 (q16:Sp3):TS3 :=
 (ret3 (va0 sumR (xa0 (te0 [none] (is3 (v3 0)) (gn3 0) tt3 (va0 q16 [25])) nil3)))
noncomputable def xz3:List Str:=["deed"]
abbrev ud4 (q15:Sp3):TS3 :=
 (seq3 (ifs3 (b3 (o3 eqR [32] (c3 (.str "go")))) (ret3 (o3 ixR (v3 0) [11])) xc0) (seq3 (ifs3 (b3 (o3 eqR [32] (c3 (.str "times")))) (ret3 (o3 mulR (o3 ixR (v3 0) [11]) (va0 q15 (xa0 (o3 ixR (v3 0) (c3 (.int 2))) nil3)))) xc0) (ret3 [9])))
noncomputable def yz2:List Str:=["word"]
abbrev xh3 (q10 q13:Sp3):TS3 :=
 (seq3 (yc0 (va0 q10 [25])) (ret3 (va0 q13 [25])))
noncomputable def wz2:List Str:=["word"]
abbrev zh3 (q14:Sp3):TS3 :=
 (ret3 (va0 sumR (xa0 (te0 [none] (is3 (v3 0)) (gn3 0) tt3 (va0 q14 [25])) nil3)))
noncomputable def yz3:List Str:=["deed"]
abbrev td4 (q13:Sp3):TS3 :=
 (seq3 (ifs3 (b3 (o3 eqR [32] (c3 (.str "times")))) (ret3 (o3 mulR (o3 ixR (v3 0) [11]) (va0 q13 (xa0 (o3 ixR (v3 0) (c3 (.int 2))) nil3)))) xc0) (ret3 [11]))
noncomputable def xz2:List Str:=["word"]
abbrev sg3 (q17 q40:Sp3):TS3 :=
 (ret3 (ws1 (o3 leR (va0 q40 [25]) (c3 ye0)) (o3 leR (va0 q17 [25]) (c3 ye0))))
noncomputable def N_q8:List Str:=["picture", "stroke", "place"]
abbrev t_q8 (q9:Sp3):TS3 :=
 (seq3 (for3 (is3 (v3 0)) (gn3 1) (yc0 (va0 q9 (xa0 (v3 1) nil3)))) (for3 (ir23 (xa0 [11] (xa0 (va0 lenR [25]) nil3))) (gn3 2) (ifs3 (b3 (o3 ge3R (o3 ixR (v3 0) (o3 subR (v3 2) [11])) (o3 ixR (v3 0) (v3 2)))) ud0 xc0)))
noncomputable def N_q9:List Str:=["stroke"]
abbrev t_q9:TS3 :=
 (ifs3 (or3 (b3 (o3 neR (va0 lenR [25]) (c3 (.int 3)))) (b3 (o3 (inR true) (o3 ixR (v3 0) (c3 (.int 2))) (c3 ub1)))) ud0 xc0)
noncomputable def ty3:List Str:=["stroke"]
abbrev wd4:TS3 :=
 (seq3 (ifs3 (b3 (o3 eqR (o3 ixR (v3 0) (c3 (.int 2))) [9])) (ret3 (tup3 (xa0 (tup3 (xa0 [32] (xa0 (o3 ixR (v3 0) [11]) nil3))) (xa0 (tup3 (xa0 (o3 addR [32] [11]) (xa0 (o3 ixR (v3 0) [11]) nil3))) nil3)))) xc0) (ret3 (tup3 (xa0 (tup3 (xa0 [32] (xa0 (o3 ixR (v3 0) [11]) nil3))) (xa0 (tup3 (xa0 [32] (xa0 (o3 addR (o3 ixR (v3 0) [11]) [11]) nil3))) nil3)))))
noncomputable def xx3:List Str:=["point", "other", "low"]
abbrev vi2:TS3 :=
 (seq3 (set3 2 (va0 minQ (xa0 (v3 0) (xa0 (v3 1) nil3)))) (ret3 (tup3 (xa0 (o3 ixR (v3 2) [9]) (xa0 (o3 ixR (v3 2) [11]) (xa0 (if3 (b3 (o3 eqR (o3 ixR (v3 0) [11]) (o3 ixR (v3 1) [11]))) [9] [11]) nil3))))))
noncomputable def ty2:List Str:=["points"]
abbrev ug3 (q37:Sp3):TS3 :=
 (ret3 (te0 [none,some 0] (ir23 (xa0 [11] (xa0 (va0 lenR [25]) nil3))) (gn3 0) tt3 (va0 q37 (xa0 (o3 ixR (v3 1) (o3 subR (v3 0) [11])) (xa0 (o3 ixR (v3 1) (v3 0)) nil3)))))
noncomputable def wx3:List Str:=["strokes"]
abbrev xc4:TS3 :=
 (ret3 (va0 tupR (xa0 (wi3 (zi3 [25])) nil3)))
noncomputable def ux3:List Str:=["word"]
abbrev zc4 (q20 q34 q41:Sp3):TS3 :=
 (seq3 (ifs3 (not3 (b3 (va0 q20 [25]))) ud0 xc0) (ret3 (va0 q34 (xa0 (va0 q41 (xa0 (c3 ui0) [25])) nil3))))
noncomputable def tw3:List Str:=["pen", "word", "strokes", "here", "deed"]
abbrev vb4 (q24 q30 q36 q42:Sp3):TS3 :=
 (seq3 (set3 2 (lst3 nil3)) (seq3 (set3 3 (v3 0)) (seq3 (for3 (is3 (va0 q36 (xa0 (v3 1) nil3))) (gn3 4) (seq3 (ifs3 (b3 (o3 eqR (o3 ixR (v3 4) [9]) (c3 (.str "go")))) (yc0 (mt3 extR (v3 2) (xa0 (va0 q42 (xa0 (v3 3) (xa0 (o3 ixR (v3 4) [11]) nil3))) nil3))) xc0) (set3 3 (va0 q24 (xa0 (v3 3) (xa0 (va0 q30 (xa0 (v3 4) nil3)) nil3)))))) (ret3 (v3 2)))))
noncomputable def yx3:List Str:=["word", "deeds", "deed"]
abbrev tb4 (q14 q36:Sp3):TS3 :=
 (seq3 (set3 1 (lst3 nil3)) (seq3 (for3 (is3 (v3 0)) (gn3 2) (ifs3 (b3 (o3 neR (o3 ixR (v3 2) [9]) (c3 (.str "times")))) (yc0 (mt3 appR (v3 1) (xa0 (v3 2) nil3))) (ifs3 (b3 (o3 gtR (va0 q14 (xa0 (v3 2) nil3)) [9])) (yc0 (mt3 extR (v3 1) (xa0 (o3 mulR (va0 q36 (xa0 (o3 ixR (v3 2) (c3 (.int 2))) nil3)) (o3 ixR (v3 2) [11])) nil3))) xc0))) (ret3 (v3 1))))
noncomputable def uw3:List Str:=["pen", "number", "ahead", "points"]
abbrev wb4 (q38:Sp3):TS3 :=
 (seq3 (set3 2 (o3 ixR (c3 xj0) (o3 ixR (v3 0) (c3 (.int 2))))) (seq3 (set3 3 (te0 [none,some 0,some 2] (ir3 (xa0 (o3 addR (v3 1) [11]) nil3)) (gn3 0) tt3 (tup3 (xa0 (o3 addR (o3 ixR (v3 1) [9]) (o3 mulR (o3 ixR (v3 2) [9]) (v3 0))) (xa0 (o3 addR (o3 ixR (v3 1) [11]) (o3 mulR (o3 ixR (v3 2) [11]) (v3 0))) nil3))))) (ret3 (va0 q38 (xa0 (v3 3) nil3)))))
noncomputable def vx3:List Str:=["picture", "at", "seen", "pieces", "stroke"]
abbrev yc4 (q8 q35 q39:Sp3):TS3 :=
 (seq3 (yc0 (va0 q8 [25])) (seq3 (set3 1 (va0 q39 [25])) (seq3 (set3 2 dnl3) (seq3 (set3 3 (lst3 nil3)) (seq3 (for3 (is3 (v3 0)) (gn3 4) (ifs3 (b3 (o3 (dinR true) (v3 4) (v3 2))) (yc0 (mt3 appR (v3 3) (xa0 (va0 q35 (xa0 (v3 4) (xa0 (v3 1) (xa0 (v3 2) nil3)))) nil3))) xc0)) (ret3 (v3 3)))))))
noncomputable def sw3:List Str:=["picture", "at", "stroke", "point"]
abbrev ub4 (q19:Sp3):TS3 :=
 (seq3 (set3 1 dnl3) (seq3 (for3 (is3 (v3 0)) (gn3 2) (for3 (is3 (va0 q19 (xa0 (v3 2) nil3))) (gn3 3) (yc0 (mt3 appR (sdf3 (v3 1) (xa0 (v3 3) (xa0 (lst3 nil3) nil3))) (xa0 (v3 2) nil3))))) (ret3 (v3 1))))
noncomputable def zx3:List Str:=["stroke", "at", "seen", "piece", "place", "here", "point"]
abbrev sb4 (q19 q43:Sp3):TS3 :=
 (seq3 (zf2 (v3 2) (v3 0) (c3 (.bl true))) (seq3 (set3 3 (lst3 [25])) (seq3 (set3 4 [9]) (seq3 (ty0 (b3 (o3 ltR (v3 4) (va0 lenR (xa0 (v3 3) nil3)))) (seq3 (set3 5 (o3 ixR (v3 3) (v3 4))) (seq3 (for3 (is3 (va0 q19 (xa0 (v3 5) nil3))) (gn3 6) (yc0 (mt3 extR (v3 3) (xa0 (va0 q43 (xa0 (o3 dgR (v3 1) (v3 6)) (xa0 (v3 2) nil3))) nil3)))) (set3 4 (o3 addR (v3 4) [11]))))) (ret3 (va0 tupR (xa0 (va0 srtR (xa0 (v3 3) nil3)) nil3)))))))
noncomputable def vw3:List Str:=["strokes", "seen", "taken", "stroke"]
abbrev zb4:TS3 :=
 (seq3 (set3 2 (te0 [none,some 1] (is3 (v3 0)) (gn3 0) (b3 (o3 (dinR true) (v3 0) (v3 1))) (v3 0))) (seq3 (for3 (is3 (v3 2)) (gn3 3) (zf2 (v3 1) (v3 3) (c3 (.bl true)))) (ret3 (v3 2))))
noncomputable def yy3:List Str:=["picture", "at"]
abbrev tc4 (q8 q39:Sp3):TS3 :=
 (seq3 (yc0 (va0 q8 [25])) (seq3 (set3 1 (va0 q39 [25])) (ret3 (va0 sp1 (xa0 (te0 [none,some 1] (isd3 (v3 1)) (gn3 0) (b3 (o3 eqR (o3 modR (va0 lenR (xa0 (o3 dgR (v3 1) (v3 0)) nil3)) (c3 (.int 2))) [11])) (v3 0)) nil3)))))
noncomputable def zw3:List Str:=["picture", "trails", "piece"]
abbrev xb4 (q33 q46:Sp3):TS3 :=
 (seq3 (set3 1 (lst3 nil3)) (seq3 (for3 (is3 (va0 q33 [25])) (gn3 2) (yc0 (mt3 extR (v3 1) (xa0 (va0 q46 (xa0 (v3 2) nil3)) nil3)))) (ret3 (v3 1))))
noncomputable def yw3:List Str:=["piece", "odd", "strokes", "bridges", "start"]
abbrev sa4 (q19 q26 q28 q47:Sp3):TS3 :=
 (seq3 (set3 1 (va0 q26 [25])) (seq3 (set3 2 (te0 [none] (is3 (v3 0)) (gn3 0) tt3 (va0 q19 [25]))) (seq3 (set3 3 (te0 [none,some 1] (irS3 (xa0 [11] (xa0 (o3 subR (va0 lenR (xa0 (v3 1) nil3)) [11]) (xa0 (c3 (.int 2)) nil3)))) (gn3 0) tt3 (tup3 (xa0 (o3 ixR (v3 1) (v3 0)) (xa0 (o3 ixR (v3 1) (o3 addR (v3 0) [11])) nil3))))) (seq3 (set3 4 (if3 (b3 (o3 gtR (va0 lenR (xa0 (v3 1) nil3)) [9])) (o3 ixR (v3 1) [9]) (o3 ixR (o3 ixR (v3 2) [9]) [9]))) (ret3 (va0 q28 (xa0 (va0 q47 (xa0 (o3 addR (v3 2) (v3 3)) (xa0 (v3 4) nil3))) (xa0 (va0 lenR (xa0 (v3 2) nil3)) nil3))))))))
noncomputable def xw3:List Str:=["links", "start", "at", "used", "waiting", "way", "point", "number"]
abbrev ta4 (q25 q27 q44:Sp3):TS3 :=
 (seq3 (set3 2 (va0 q25 [25])) (seq3 (set3 3 dnk3) (seq3 (set3 4 (lst3 (xa0 (tup3 (xa0 (v3 1) (xa0 (c3 .non) nil3))) nil3))) (seq3 (set3 5 (lst3 nil3)) (seq3 (ty0 (b3 (o3 gtR (va0 lenR (xa0 (v3 4) nil3)) [9])) (seq3 (set3 6 (o3 ixR (o3 ixR (v3 4) (un3 negR [11])) [9])) (seq3 (set3 7 (va0 q44 (xa0 (o3 dgR (v3 2) (v3 6)) (xa0 (v3 3) nil3)))) (ifs3 (b3 (o3 (isNR false) (v3 7) (c3 .non))) (yc0 (mt3 appR (v3 5) (xa0 (pop3 (v3 4)) nil3))) (seq3 (zo1 (v3 3) (v3 7) (c3 (.bl true))) (yc0 (mt3 appR (v3 4) (xa0 (tup3 (xa0 (va0 q27 (xa0 (o3 ixR (v3 0) (v3 7)) (xa0 (v3 6) nil3))) (xa0 (v3 7) nil3))) nil3)))))))) (ret3 (v3 5)))))))
noncomputable def zy3:List Str:=["links", "at", "number", "point"]
abbrev sc4:TS3 :=
 (seq3 (set3 1 dnl3) (seq3 (for3 (ir3 (xa0 (va0 lenR [25]) nil3)) (gn3 2) (for3 (is3 (o3 ixR (v3 0) (v3 2))) (gn3 3) (yc0 (mt3 appR (sdf3 (v3 1) (xa0 (v3 3) (xa0 (lst3 nil3) nil3))) (xa0 (v3 2) nil3))))) (ret3 (v3 1))))
noncomputable def ww3:List Str:=["numbers", "used", "number"]
abbrev yb4:TS3 :=
 (seq3 (ty0 (b3 (o3 gtR (va0 lenR [25]) [9])) (seq3 (set3 2 (pop3 (v3 0))) (ifs3 (b3 (o3 (uf2 true) (v3 2) (v3 1))) (ret3 (v3 2)) xc0))) (ret3 (c3 .non)))
noncomputable def xy3:List Str:=["link", "point"]
abbrev uc4:TS3 :=
 (ret3 (if3 (b3 (o3 eqR [32] (v3 1))) (o3 ixR (v3 0) [11]) [32]))
noncomputable def sx3:List Str:=["way", "first_bridge", "trails", "place"]
abbrev vc4:TS3 :=
 (seq3 (set3 2 (lst3 (xa0 (lst3 (xa0 (o3 ixR [32] [9]) nil3)) nil3))) (seq3 (for3 (ir23 (xa0 [11] (xa0 (va0 lenR [25]) nil3))) (gn3 3) (seq3 (ifs3 (b3 (o3 geR (o3 ixR (o3 ixR (v3 0) (o3 subR (v3 3) [11])) [11]) (v3 1))) (yc0 (mt3 appR (v3 2) (xa0 (lst3 nil3) nil3))) xc0) (yc0 (mt3 appR (o3 ixR (v3 2) (un3 negR [11])) (xa0 (o3 ixR (o3 ixR (v3 0) (v3 3)) [9]) nil3))))) (ret3 (v3 2))))
noncomputable def sy2:List Str:=["trail"]
abbrev tg3 (q6:Sp3):TS3 :=
 (ret3 (ws1 (o3 gtR (va0 lenR [25]) [11]) (va0 allR (xa0 (te0 [none,some 0] (ir23 (xa0 [11] (xa0 (va0 lenR [25]) nil3))) (gn3 0) tt3 (va0 q6 (xa0 (o3 ixR (v3 1) (o3 subR (v3 0) [11])) (xa0 (o3 ixR (v3 1) (v3 0)) nil3)))) nil3))))
noncomputable def N_q6:List Str:=["point", "other"]
abbrev t_q6:TS3 :=
 (ret3 (o3 eqR (o3 addR (va0 absR (xa0 (o3 subR [32] (o3 ixR (v3 1) [9])) nil3)) (va0 absR (xa0 (o3 subR (o3 ixR (v3 0) [11]) (o3 ixR (v3 1) [11])) nil3))) [11]))
noncomputable def sy3:List Str:=["trails", "scribe", "trail", "point"]
abbrev uv0 (sp_Scribe___init__ sp_Scribe_go_to sp_Scribe_jump_to q21:Sp3):TS3 :=
 (ret3 (fld3 (v3 1) "Scribe" "deeds"))
abbrev tv0 (sp_Scribe___init__ sp_Scribe_go_to sp_Scribe_jump_to q21:Sp3):TS3 :=
 (seq3 (for3 (is3 (v3 0)) (gn3 2) (seq3 (yc0 (wb1 "Scribe" "jump_to" sp_Scribe_jump_to (v3 1) (xa0 (o3 ixR (v3 2) [9]) nil3))) (for3 (is3 (sl3 slR (v3 2) (pt3 [11]) np3)) (gn3 3) (yc0 (wb1 "Scribe" "go_to" sp_Scribe_go_to (v3 1) (xa0 (v3 3) nil3)))))) (uv0 sp_Scribe___init__ sp_Scribe_go_to sp_Scribe_jump_to q21))
abbrev sv0 (sp_Scribe___init__ sp_Scribe_go_to sp_Scribe_jump_to q21:Sp3):TS3 :=
 (seq3 (set3 1 (zr3 "Scribe" sp_Scribe___init__ nil3)) (tv0 sp_Scribe___init__ sp_Scribe_go_to sp_Scribe_jump_to q21))
abbrev vd4 (sp_Scribe___init__ sp_Scribe_go_to sp_Scribe_jump_to q21:Sp3):TS3 :=
 (seq3 (ifs3 (not3 (b3 (va0 allR (xa0 (te0 [none] (is3 (v3 0)) (gn3 0) tt3 (va0 q21 [25])) nil3)))) ud0 xc0) (sv0 sp_Scribe___init__ sp_Scribe_go_to sp_Scribe_jump_to q21))
noncomputable def uy3:List Str:=["far", "parts", "sign", "rest"]
noncomputable abbrev xi0:TS3 :=
 (ret3 (o3 addR (o3 mulR (lst3 (xa0 (o3 mulR (v3 2) (c3 zb0)) nil3)) (v3 1)) (if3 (b3 (o3 neR (v3 3) [9])) (lst3 (xa0 (v3 3) nil3)) (lst3 nil3))))
noncomputable abbrev yi0:TS3 :=
 (seq3 (set3 3 (o3 subR (v3 0) (o3 mulR (o3 mulR (v3 2) (v3 1)) (c3 zb0)))) (xi0))
abbrev yq0:TS3 :=
 (seq3 (set3 2 (if3 (b3 (o3 gtR (v3 0) [9])) [11] (un3 negR [11]))) (yi0))
abbrev zi0:TS3 :=
 (seq3 (ifs3 (b3 (o3 gtR (v3 1) (c3 ti0))) (ret3 (lst3 [25])) xc0) (yq0))
abbrev zd4:TS3 :=
 (seq3 (set3 1 (o3 sr1 (va0 absR [25]) (c3 zb0))) (zi0))
noncomputable def N_q0:List Str:=["script", "k"]
abbrev t_q0:TS3 :=
 (seq3 (ifs3 (b3 (o3 ltR (v3 1) (va0 lenR [25]))) (ret3 (o3 ixR (v3 0) (v3 1))) xc0) (ret3 [9]))
noncomputable def N_q3:List Str:=["script", "k", "cell"]
abbrev t_q3 (q0:Sp3):TS3 :=
 (seq3 (set3 2 (va0 q0 (xa0 (v3 0) (xa0 (v3 1) nil3)))) (seq3 (ifs3 (b3 (o3 geR (v3 2) (o3 powR (c3 (.int 10)) (c3 (.int 18))))) (ret3 (lst3 (xa0 (o3 subR (v3 2) (o3 powR (c3 (.int 10)) (c3 (.int 18)))) (xa0 (c3 (.bl true)) nil3)))) xc0) (ret3 (lst3 (xa0 (o3 modR (v3 2) (c3 (.int 2147483647))) (xa0 (c3 (.bl false)) nil3))))))
noncomputable def N_q1:List Str:=["state", "many", "found", "mixed"]
abbrev t_q1:TS3 :=
 (seq3 (ifs3 (b3 (o3 ixR (v3 0) [11])) (seq3 (set3 2 (o3 modR [32] (v3 1))) (seq3 (asg3 (o3 sr1 [32] (v3 1)) (sub3 (v3 0) [9])) (ret3 (v3 2)))) xc0) (seq3 (asg3 (o3 modR (o3 addR (o3 mulR [32] (c3 (.int 48271))) (c3 (.int 29))) (c3 (.int 2147483647))) (sub3 (v3 0) [9])) (seq3 (set3 3 (o3 modR (o3 addR (o3 addR (o3 mulR [32] [32]) (o3 mulR (c3 (.int 39373)) [32])) (c3 (.int 7))) (c3 (.int 2147483629)))) (seq3 (set3 3 (o3 modR (o3 addR (o3 mulR (v3 3) (v3 3)) (o3 mulR (c3 (.int 16807)) (v3 3))) (c3 (.int 2147483587)))) (ret3 (o3 modR (o3 sr1 (v3 3) (c3 (.int 8))) (v3 1)))))))
noncomputable def N_q5:List Str:=["state", "deep", "found", "k", "kind"]
abbrev t_q5 (q1 q5:Sp3):TS3 :=
 (seq3 (set3 2 (lst3 nil3)) (seq3 (for3 (ir3 (xa0 (va0 q1 (xa0 (v3 0) (xa0 (c3 (.int 5)) nil3))) nil3)) (gn3 3) (seq3 (set3 4 (va0 q1 (xa0 (v3 0) (xa0 (c3 (.int 7)) nil3)))) (ifs3 (b3 (o3 gtR (o3 ixR (v3 0) (c3 (.int 2))) [9])) (seq3 (asg3 (o3 subR (o3 ixR (v3 0) (c3 (.int 2))) [11]) (sub3 (v3 0) (c3 (.int 2)))) (ifs3 (and3 (b3 (o3 ltR (v3 4) (c3 (.int 2)))) (b3 (o3 gtR (v3 1) [9]))) (yc0 (mt3 appR (v3 2) (xa0 (tup3 (xa0 (c3 (.str "times")) (xa0 (va0 q1 (xa0 (v3 0) (xa0 (c3 (.int 5)) nil3))) (xa0 (va0 q5 (xa0 (v3 0) (xa0 (o3 subR (v3 1) [11]) nil3))) nil3)))) nil3))) (ifs3 (b3 (o3 ltR (v3 4) (c3 (.int 4)))) (yc0 (mt3 appR (v3 2) (xa0 (tup3 (xa0 (c3 (.str "turn")) (xa0 (o3 ixR (lst3 (xa0 [11] (xa0 (un3 negR [11]) (xa0 (c3 (.int 2)) (xa0 (c3 (.int 3)) (xa0 (un3 negR (c3 (.int 5))) (xa0 [9] (xa0 [11] (xa0 (un3 negR [11]) nil3))))))))) (va0 q1 (xa0 (v3 0) (xa0 (c3 (.int 8)) nil3)))) nil3))) nil3))) (ifs3 (b3 (o3 eqR (v3 4) (c3 (.int 4)))) (yc0 (mt3 appR (v3 2) (xa0 (tup3 (xa0 (c3 (.str "jump")) (xa0 (o3 subR (va0 q1 (xa0 (v3 0) (xa0 (c3 (.int 7)) nil3))) (c3 (.int 3))) nil3))) nil3))) (yc0 (mt3 appR (v3 2) (xa0 (tup3 (xa0 (c3 (.str "go")) (xa0 (va0 q1 (xa0 (v3 0) (xa0 (c3 (.int 4)) nil3))) nil3))) nil3))))))) xc0))) (ret3 (va0 tupR (xa0 (v3 2) nil3)))))
noncomputable def N_q2:List Str:=["script", "k", "deep", "most", "state"]
abbrev t_q2 (q3 q5:Sp3):TS3 :=
 (seq3 (set3 4 (o3 addR (va0 q3 (xa0 (v3 0) (xa0 (v3 1) nil3))) (lst3 (xa0 (v3 3) nil3)))) (ret3 (va0 q5 (xa0 (v3 4) (xa0 (v3 2) nil3)))))
noncomputable def N_q4:List Str:=["deeds", "pen", "x", "y", "heading", "strokes", "kind", "number", "step", "k", "low"]
abbrev wo0:TS3 :=
 (ret3 (tup3 (xa0 (tup3 (xa0 (v3 2) (xa0 (v3 3) (xa0 (v3 4) nil3)))) (xa0 (v3 5) nil3))))
abbrev vo0:TS3 :=
 (seq3 (for3 (is3 (v3 0)) (ww2 2 (tr0 (gn3 6) (tr0 (gn3 7) vw2))) (seq3 (set3 8 (o3 ixR (lst3 (xa0 (tup3 (xa0 [11] (xa0 [9] nil3))) (xa0 (tup3 (xa0 [9] (xa0 [11] nil3))) (xa0 (tup3 (xa0 (un3 negR [11]) (xa0 [9] nil3))) (xa0 (tup3 (xa0 [9] (xa0 (un3 negR [11]) nil3))) nil3))))) (v3 4))) (ifs3 (b3 (o3 eqR (v3 6) (c3 (.str "turn")))) (set3 4 (o3 modR (o3 addR (v3 4) (v3 7)) (c3 (.int 4)))) (ifs3 (b3 (o3 eqR (v3 6) (c3 (.str "jump")))) (seq3 (set3 2 (o3 addR (v3 2) (o3 mulR (o3 ixR (v3 8) [9]) (v3 7)))) (set3 3 (o3 addR (v3 3) (o3 mulR (o3 ixR (v3 8) [11]) (v3 7))))) (for3 (ir3 (xa0 (v3 7) nil3)) (gn3 9) (seq3 (set3 10 (va0 minQ (xa0 (tup3 (xa0 (v3 2) (xa0 (v3 3) nil3))) (xa0 (tup3 (xa0 (o3 addR (v3 2) (o3 ixR (v3 8) [9])) (xa0 (o3 addR (v3 3) (o3 ixR (v3 8) [11])) nil3))) nil3)))) (seq3 (yc0 (mt3 appR (v3 5) (xa0 (tup3 (xa0 (o3 ixR (v3 10) [9]) (xa0 (o3 ixR (v3 10) [11]) (xa0 (o3 modR (v3 4) (c3 (.int 2))) nil3)))) nil3))) (seq3 (set3 2 (o3 addR (v3 2) (o3 ixR (v3 8) [9]))) (set3 3 (o3 addR (v3 3) (o3 ixR (v3 8) [11]))))))))))) (wo0))
abbrev uo0:TS3 :=
 (seq3 (set3 5 (lst3 nil3)) (vo0))
abbrev t_q4:TS3 :=
 (seq3 (asg3 (v3 1) (ww2 3 (tr0 (gn3 2) (tr0 (gn3 3) (tr0 (gn3 4) vw2))))) (uo0))
noncomputable def vy3:List Str:=["script", "told", "picture", "deeds"]
abbrev ui2 (q2 q4 q18 q20 q32 q45:Sp3):TS3 :=
 (ret3 (orV3 (o3 gtR (va0 lenR (xa0 (v3 3) nil3)) (c3 (.int 30))) (o3 eqR (va0 q32 (xa0 (va0 tupR (xa0 (v3 3) nil3)) nil3)) (v3 2))))
abbrev si2 (q2 q4 q18 q20 q32 q45:Sp3):TS3 :=
 (seq3 (ifs3 (b3 (o3 neR (va0 srtR (xa0 (o3 ixR (va0 q4 (xa0 (v3 3) (xa0 (tup3 (xa0 [9] (xa0 [9] (xa0 [9] nil3)))) nil3))) [11]) nil3)) (va0 xu2 (xa0 (v3 2) nil3)))) (ret3 (c3 (.bl false))) xc0) (ui2 q2 q4 q18 q20 q32 q45))
abbrev xj2 (q2 q4 q18 q20 q32 q45:Sp3):TS3 :=
 (seq3 (set3 3 (va0 q18 (xa0 (va0 q45 (xa0 (v3 2) nil3)) nil3))) (si2 q2 q4 q18 q20 q32 q45))
abbrev yj2 (q2 q4 q18 q20 q32 q45:Sp3):TS3 :=
 (seq3 (ifs3 (b3 (o3 gtR (va0 lenR (xa0 (v3 2) nil3)) (c3 (.int 60)))) (ret3 (c3 (.bl true))) xc0) (xj2 q2 q4 q18 q20 q32 q45))
abbrev zj2 (q2 q4 q18 q20 q32 q45:Sp3):TS3 :=
 (seq3 (set3 2 (va0 q32 (xa0 (v3 1) nil3))) (yj2 q2 q4 q18 q20 q32 q45))
abbrev wj2 (q2 q4 q18 q20 q32 q45:Sp3):TS3 :=
 (seq3 (ifs3 (not3 (b3 (va0 q20 (xa0 (v3 1) nil3)))) (ret3 (c3 (.bl true))) xc0) (zj2 q2 q4 q18 q20 q32 q45))
abbrev yd4 (q2 q4 q18 q20 q32 q45:Sp3):TS3 :=
 (seq3 (set3 1 (va0 q2 (xa0 (v3 0) (xa0 [9] (xa0 (c3 (.int 2)) (xa0 (c3 (.int 10)) nil3)))))) (wj2 q2 q4 q18 q20 q32 q45))
noncomputable def ze0:List Str:=["self"]
abbrev xh0:TS3 :=
 (seq3 (yf1 (v3 0) (c3 ui0) "Scribe" "pen") (yf1 (v3 0) (lst3 nil3) "Scribe" "deeds"))
noncomputable def se0:List Str:=["self", "heading", "quarters"]
noncomputable abbrev th0 (q24:Sp3):TS3 :=
 (seq3 (set3 2 (o3 modR (o3 subR (v3 1) (o3 ixR (fld3 (v3 0) "Scribe" "pen") (c3 (.int 2)))) (c3 (.int 4)))) (ifs3 (b3 (o3 neR (v3 2) [9])) (seq3 (yc0 (mt3 appR (fld3 (v3 0) "Scribe" "deeds") (xa0 (tup3 (xa0 (c3 (.str "turn")) (xa0 (v3 2) nil3))) nil3))) (yf1 (v3 0) (va0 q24 (xa0 (fld3 (v3 0) "Scribe" "pen") (xa0 (tup3 (xa0 [9] (xa0 [9] (xa0 (v3 2) nil3)))) nil3))) "Scribe" "pen")) xc0))
noncomputable def xf0:List Str:=["self", "point"]
noncomputable abbrev sh0 (sp_Scribe_jump:Sp3):TS3 :=
 (seq3 (yc0 (wb1 "Scribe" "jump" sp_Scribe_jump (v3 0) (xa0 [9] (xa0 (o3 subR (o3 ixR (v3 1) [9]) (o3 ixR (fld3 (v3 0) "Scribe" "pen") [9])) nil3)))) (yc0 (wb1 "Scribe" "jump" sp_Scribe_jump (v3 0) (xa0 [11] (xa0 (o3 subR (o3 ixR (v3 1) [11]) (o3 ixR (fld3 (v3 0) "Scribe" "pen") [11])) nil3)))))
noncomputable def uh0:List Str:=["self", "heading", "far"]
abbrev yl0 (sp_Scribe_turn_to q22 q24:Sp3):TS3 :=
 (ifs3 (b3 (o3 neR (v3 2) [9])) (seq3 (yc0 (wb1 "Scribe" "turn_to" sp_Scribe_turn_to (v3 0) (xa0 (v3 1) nil3))) (seq3 (yc0 (mt3 extR (fld3 (v3 0) "Scribe" "deeds") (xa0 (te0 [none] (is3 (va0 q22 (xa0 (v3 2) nil3))) (gn3 0) tt3 (tup3 (xa0 (c3 (.str "jump")) [25]))) nil3))) (yf1 (v3 0) (va0 q24 (xa0 (fld3 (v3 0) "Scribe" "pen") (xa0 (tup3 (xa0 (v3 2) (xa0 [9] (xa0 [9] nil3)))) nil3))) "Scribe" "pen"))) xc0)
noncomputable def sg0:List Str:=["self", "point", "number"]
abbrev zm0 (sp_Scribe_turn_to q24:Sp3):TS3 :=
 (yf1 (v3 0) (va0 q24 (xa0 (fld3 (v3 0) "Scribe" "pen") (xa0 (tup3 (xa0 [11] (xa0 [9] (xa0 [9] nil3)))) nil3))) "Scribe" "pen")
noncomputable abbrev uc0 (sp_Scribe_turn_to q24:Sp3):TS3 :=
 (seq3 (yc0 (mt3 appR (fld3 (v3 0) "Scribe" "deeds") (xa0 (tup3 (xa0 (c3 (.str "go")) (xa0 (v3 2) nil3))) nil3))) (zm0 sp_Scribe_turn_to q24))
abbrev wm0 (sp_Scribe_turn_to q24:Sp3):TS3 :=
 (seq3 (ifs3 (and3 (b3 (o3 gtR (va0 lenR (xa0 (fld3 (v3 0) "Scribe" "deeds") nil3)) [9])) (b3 (o3 eqR (o3 ixR (o3 ixR (fld3 (v3 0) "Scribe" "deeds") (un3 negR [11])) [9]) (c3 (.str "go"))))) (set3 2 (o3 addR (o3 ixR (pop3 (fld3 (v3 0) "Scribe" "deeds")) [11]) [11])) xc0) (uc0 sp_Scribe_turn_to q24))
abbrev vm0 (sp_Scribe_turn_to q24:Sp3):TS3 :=
 (seq3 (set3 2 [11]) (wm0 sp_Scribe_turn_to q24))
abbrev uj0 (sp_Scribe_turn_to q24:Sp3):TS3 :=
 (seq3 (yc0 (wb1 "Scribe" "turn_to" sp_Scribe_turn_to (v3 0) (xa0 (tix3 (c3 (.ktp yx0)) (xa0 (tup3 (xa0 (o3 subR (o3 ixR (v3 1) [9]) (o3 ixR (fld3 (v3 0) "Scribe" "pen") [9])) (xa0 (o3 subR (o3 ixR (v3 1) [11]) (o3 ixR (fld3 (v3 0) "Scribe" "pen") [11])) nil3))) nil3)) nil3))) (vm0 sp_Scribe_turn_to q24))
end Pv
namespace Pv
open PySem PySem.Spec PyProof.Rows L2
section
variable {P:Program} {w:World} {K:Fg} {mg:[28]} {base:Heap}
theorem yl4:FnScope uz2 ["word"] (wa0 xp2):=[4]
theorem xl4:FnScope vz2 ["word", "depth"] (wa0 to2):=[4]
theorem sk4:FnScope zz3 ["deed", "depth"] (wa0 uo2):=[4]
theorem ti5:FnScope N_q7 ["kind", "number"] (wa0 s_q7):=[4]
theorem wj4:FnScope wy3 ["pen", "part"] (wa0 zn2):=[4]
theorem ti4:FnScope tx3 ["deed"] (wa0 um2):=[4]
theorem uh4:FnScope uy2 ["word"] (wa0 wl2):=[4]
theorem vk4:FnScope zz2 ["word"] (wa0 zo2):=[4]
theorem wk4:FnScope xz3 ["deed"] (wa0 yo2):=[4]
theorem zk4:FnScope yz2 ["word"] (wa0 xo2):=[4]
theorem tk4:FnScope wz2 ["word"] (wa0 vo2):=[4]
theorem uk4:FnScope yz3 ["deed"] (wa0 wo2):=[4]
theorem sj4:FnScope xz2 ["word"] (wa0 un2):=[4]
theorem ui5:FnScope N_q8 ["picture"] (wa0 s_q8):=[4]
theorem vi5:FnScope N_q9 ["stroke"] (wa0 s_q9):=[4]
theorem xk4:FnScope ty3 ["stroke"] (wa0 tn2):=[4]
theorem xi4:FnScope xx3 ["point", "other"] (wa0 tl2):=[4]
theorem sh4:FnScope ty2 ["points"] (wa0 ul2):=[4]
theorem wi4:FnScope wx3 ["strokes"] (wa0 zm2):=[4]
theorem ui4:FnScope ux3 ["word"] (wa0 vm2):=[4]
theorem vh4:FnScope tw3 ["pen", "word"] (wa0 zl2):=[4]
theorem yi4:FnScope yx3 ["word"] (wa0 xm2):=[4]
theorem wh4:FnScope uw3 ["pen", "number"] (wa0 yl2):=[4]
theorem vi4:FnScope vx3 ["picture"] (wa0 wm2):=[4]
theorem th4:FnScope sw3 ["picture"] (wa0 vl2):=[4]
theorem zi4:FnScope zx3 ["stroke", "at", "seen"] (wa0 ym2):=[4]
theorem zh4:FnScope vw3 ["strokes", "seen"] (wa0 xl2):=[4]
theorem yj4:FnScope yy3 ["picture"] (wa0 xn2):=[4]
theorem xh4:FnScope zw3 ["picture"] (wa0 uk2):=[4]
theorem sg4:FnScope yw3 ["piece"] (wa0 vk2):=[4]
theorem tg4:FnScope xw3 ["links", "start"] (wa0 wk2):=[4]
theorem zj4:FnScope zy3 ["links"] (wa0 yn2):=[4]
theorem yh4:FnScope ww3 ["numbers", "used"] (wa0 sk2):=[4]
theorem xj4:FnScope xy3 ["link", "point"] (wa0 sm2):=[4]
theorem si4:FnScope sx3 ["way", "first_bridge"] (wa0 tm2):=[4]
theorem tj4:FnScope sy2 ["trail"] (wa0 vn2):=[4]
theorem si5:FnScope N_q6 ["point", "other"] (wa0 s_q6):=[4]
theorem yk4:FnScope sy3 ["trails"] (wa0 sn2):=[4]
theorem uj4:FnScope uy3 ["far"] (wa0 wn2):=[4]
theorem uj5:FnScope N_q0 ["script", "k"] (wa0 s_q0):=[4]
theorem zj5:FnScope N_q3 ["script", "k"] (wa0 s_q3):=[4]
theorem vj5:FnScope N_q1 ["state", "many"] (wa0 s_q1):=[4]
theorem xj5:FnScope N_q5 ["state", "deep"] (wa0 s_q5):=[4]
theorem wj5:FnScope N_q2 ["script", "k", "deep", "most"] (wa0 s_q2):=[4]
theorem yj5:FnScope N_q4 ["deeds", "pen"] (wa0 s_q4):=[4]
theorem vj4:FnScope vy3 ["script"] (wa0 za1):=[4]
theorem wl0:FnScope ze0 ["self"] (wa0 tc0):=[4]
theorem tm0:FnScope se0 ["self", "heading"] (wa0 yd0):=[4]
theorem sm0:FnScope xf0 ["self", "point"] (wa0 zd0):=[4]
theorem yt0:FnScope uh0 ["self", "heading", "far"] (wa0 yf0):=[4]
theorem zq0:FnScope sg0 ["self", "point"] (wa0 we0):=[4]
local macro_rules | `([9001,$n,$x,$m,$t])=>`(∀ hr:Room k (A.deeper (envOfC $n (wa0 $x) s.heap.objs.size f cdv)),RSs (cxOf CX0 P w K mg base $m $n (wa0 $x) f cdv A outer s H E).nox (vc0 $x) $t)
local macro_rules | `([9002,$n,$x,$t])=>`(Cal P w K mg base k $n $x $t)
local macro_rules | `([9004,$t])=>`(∀ ⦃k:Nat⦄ {f:Addr} {cdv:Value} {A:Around} {outer:List Env} {s:Shared} {H:Hp} {E:XK},$t)
theorem sa0 :
 ([9004,∀ {q11:Sp3} (_:[9002, "checked_count",["word", "depth"],q11]),[9001, "check_word",xp2,uz2,(vh3 q11)]] ∧
 [9004,∀ {q12:Sp3} (_:[9002, "checked_deed_count",["deed", "depth"],q12]) (z_isinstance:mg "isinstance" = none) (z_tuple:mg "tuple" = none) (g_MOST_DEEDS:Gd K mg "MOST_DEEDS" si0) (g_MOST_DEEP:Gd K mg "MOST_DEEP" yk0),[9001, "checked_count",to2,vz2,(wh3 q12)]] ∧
 [9004,∀ {q7:Sp3} (_:[9002, "check_number",["kind", "number"],q7]) {q11:Sp3} (_:[9002, "checked_count",["word", "depth"],q11]) (z_isinstance:mg "isinstance" = none) (z_len:mg "len" = none) (z_tuple:mg "tuple" = none) (g_PLAIN_KINDS:Gd K mg "PLAIN_KINDS" wh0),[9001, "checked_deed_count",uo2,zz3,(sd4 q7 q11)]] ∧
 [9004,∀ (z_abs:mg "abs" = none) (z_int:mg "int" = none) (z_isinstance:mg "isinstance" = none) (g_GREATEST_NUMBER:Gd K mg "GREATEST_NUMBER" zb0) (g_KINDS_FROM_NOUGHT:Gd K mg "KINDS_FROM_NOUGHT" wd0),[9001, "check_number",s_q7,N_q7,(t_q7)]] ∧
 [9004,∀ (g_AHEAD:Gd K mg "AHEAD" xj0),[9001, "led",zn2,wy3,(xd4)]] ∧
 [9004,[9001, "pen_behind_deed",um2,tx3,(wc4)]] ∧
 [9004,∀ {q10:Sp3} (_:[9002, "check_word",["word"],q10]) {q15:Sp3} (_:[9002, "count_strokes",["word"],q15]),[9001, "strokes_drawn",wl2,uy2,(vg3 q10 q15)]] ∧
 [9004,∀ {q16:Sp3} (_:[9002, "count_strokes_of_deed",["deed"],q16]) (z_sum:mg "sum" = none),[9001, "count_strokes",zo2,zz2,(yh3 q16)]]) /\ ([9004,∀ {q15:Sp3} (_:[9002, "count_strokes",["word"],q15]),[9001, "count_strokes_of_deed",yo2,xz3,(ud4 q15)]] ∧
 [9004,∀ {q10:Sp3} (_:[9002, "check_word",["word"],q10]) {q13:Sp3} (_:[9002, "count_done",["word"],q13]),[9001, "deeds_done",xo2,yz2,(xh3 q10 q13)]] ∧
 [9004,∀ {q14:Sp3} (_:[9002, "count_done_of_deed",["deed"],q14]) (z_sum:mg "sum" = none),[9001, "count_done",vo2,wz2,(zh3 q14)]] ∧
 [9004,∀ {q13:Sp3} (_:[9002, "count_done",["word"],q13]),[9001, "count_done_of_deed",wo2,yz3,(td4 q13)]] ∧
 [9004,∀ {q17:Sp3} (_:[9002, "deeds_done",["word"],q17]) {q40:Sp3} (_:[9002, "strokes_drawn",["word"],q40]) (g_MOST_OF_SMALL:Gd K mg "MOST_OF_SMALL" ye0),[9001, "is_small",un2,xz2,(sg3 q17 q40)]] ∧
 [9004,∀ {q9:Sp3} (_:[9002, "check_stroke",["stroke"],q9]) (z_len:mg "len" = none) (z_range:mg "range" = none),[9001, "check_picture",s_q8,N_q8,(t_q8 q9)]] ∧
 [9004,∀ (z_len:mg "len" = none) (g_WAYS:Gd K mg "WAYS" ub1),[9001, "check_stroke",s_q9,N_q9,(t_q9)]] ∧
 [9004,[9001, "ends_of",tn2,ty3,(wd4)]]) /\ ([9004,∀ (z_min:mg "min" = none),[9001, "stroke_between",tl2,xx3,(vi2)]] ∧
 [9004,∀ {q37:Sp3} (_:[9002, "stroke_between",["point", "other"],q37]) (z_len:mg "len" = none) (z_range:mg "range" = none),[9001, "strokes_along",ul2,ty2,(ug3 q37)]] ∧
 [9004,∀ (z_set:mg "set" = none) (z_sorted:mg "sorted" = none) (z_tuple:mg "tuple" = none),[9001, "picture_with",zm2,wx3,(xc4)]] ∧
 [9004,∀ {q20:Sp3} (_:[9002, "is_small",["word"],q20]) {q34:Sp3} (_:[9002, "picture_with",["strokes"],q34]) {q41:Sp3} (_:[9002, "strokes_from",["pen", "word"],q41]) (g_START:Gd K mg "START" ui0),[9001, "picture_of",vm2,ux3,(zc4 q20 q34 q41)]] ∧
 [9004,∀ {q24:Sp3} (_:[9002, "led",["pen", "part"],q24]) {q30:Sp3} (_:[9002, "pen_behind_deed",["deed"],q30]) {q36:Sp3} (_:[9002, "plain_deeds",["word"],q36]) {q42:Sp3} (_:[9002, "strokes_of_go",["pen", "number"],q42]),[9001, "strokes_from",zl2,tw3,(vb4 q24 q30 q36 q42)]] ∧
 [9004,∀ {q14:Sp3} (_:[9002, "count_done_of_deed",["deed"],q14]) {q36:Sp3} (_:[9002, "plain_deeds",["word"],q36]),[9001, "plain_deeds",xm2,yx3,(tb4 q14 q36)]] ∧
 [9004,∀ {q38:Sp3} (_:[9002, "strokes_along",["points"],q38]) (z_range:mg "range" = none) (g_AHEAD:Gd K mg "AHEAD" xj0),[9001, "strokes_of_go",yl2,uw3,(wb4 q38)]] ∧
 [9004,∀ {q8:Sp3} (_:[9002, "check_picture",["picture"],q8]) {q35:Sp3} (_:[9002, "piece_with",["stroke", "at", "seen"],q35]) {q39:Sp3} (_:[9002, "strokes_at",["picture"],q39]),[9001, "picture_pieces",wm2,vx3,(yc4 q8 q35 q39)]]) /\ ([9004,∀ {q19:Sp3} (_:[9002, "ends_of",["stroke"],q19]),[9001, "strokes_at",vl2,sw3,(ub4 q19)]] ∧
 [9004,∀ {q19:Sp3} (_:[9002, "ends_of",["stroke"],q19]) {q43:Sp3} (_:[9002, "take_unseen",["strokes", "seen"],q43]) (z_len:mg "len" = none) (z_sorted:mg "sorted" = none) (z_tuple:mg "tuple" = none),[9001, "piece_with",ym2,zx3,(sb4 q19 q43)]] ∧
 [9004,[9001, "take_unseen",xl2,vw3,(zb4)]] ∧
 [9004,∀ {q8:Sp3} (_:[9002, "check_picture",["picture"],q8]) {q39:Sp3} (_:[9002, "strokes_at",["picture"],q39]) (z_len:mg "len" = none) (z_sorted:mg "sorted" = none),[9001, "odd_points",xn2,yy3,(tc4 q8 q39)]] ∧
 [9004,∀ {q33:Sp3} (_:[9002, "picture_pieces",["picture"],q33]) {q46:Sp3} (_:[9002, "trails_of_piece",["piece"],q46]),[9001, "trails_of",uk2,zw3,(xb4 q33 q46)]] ∧
 [9004,∀ {q19:Sp3} (_:[9002, "ends_of",["stroke"],q19]) {q26:Sp3} (_:[9002, "odd_points",["picture"],q26]) {q28:Sp3} (_:[9002, "parted_at_bridges",["way", "first_bridge"],q28]) {q47:Sp3} (_:[9002, "way_along",["links", "start"],q47]) (z_len:mg "len" = none) (z_range:mg "range" = none),[9001, "trails_of_piece",vk2,yw3,(sa4 q19 q26 q28 q47)]] ∧
 [9004,∀ {q25:Sp3} (_:[9002, "links_at",["links"],q25]) {q27:Sp3} (_:[9002, "other_end",["link", "point"],q27]) {q44:Sp3} (_:[9002, "take_unused",["numbers", "used"],q44]) (z_len:mg "len" = none),[9001, "way_along",wk2,xw3,(ta4 q25 q27 q44)]] ∧
 [9004,∀ (z_len:mg "len" = none) (z_range:mg "range" = none),[9001, "links_at",yn2,zy3,(sc4)]]) /\ ([9004,∀ (z_len:mg "len" = none),[9001, "take_unused",sk2,ww3,(yb4)]] ∧
 [9004,[9001, "other_end",sm2,xy3,(uc4)]] ∧
 [9004,∀ (z_len:mg "len" = none) (z_range:mg "range" = none),[9001, "parted_at_bridges",tm2,sx3,(vc4)]] ∧
 [9004,∀ {q6:Sp3} (_:[9002, "are_next",["point", "other"],q6]) (z_all:mg "all" = none) (z_len:mg "len" = none) (z_range:mg "range" = none),[9001, "is_trail",vn2,sy2,(tg3 q6)]] ∧
 [9004,∀ (z_abs:mg "abs" = none),[9001, "are_next",s_q6,N_q6,(t_q6)]] ∧
 [9004,∀ {C_Scribe:Addr} {sp_Scribe___init__:Sp3} {k_Scribe___init__:Nat} (c_Scribe___init__:CalT P w K mg base k_Scribe___init__ C_Scribe "__init__" ["self"] sp_Scribe___init__) (l_Scribe___init__:k_Scribe___init__ < k) {sp_Scribe_go_to:Sp3} {k_Scribe_go_to:Nat} (c_Scribe_go_to:CalT P w K mg base k_Scribe_go_to C_Scribe "go_to" ["self", "point"] sp_Scribe_go_to) (l_Scribe_go_to:k_Scribe_go_to<=k) {sp_Scribe_jump_to:Sp3} {k_Scribe_jump_to:Nat} (c_Scribe_jump_to:CalT P w K mg base k_Scribe_jump_to C_Scribe "jump_to" ["self", "point"] sp_Scribe_jump_to) (l_Scribe_jump_to:k_Scribe_jump_to<=k) {q21:Sp3} (_:[9002, "is_trail",["trail"],q21]) (oc_Scribe:ObjC K "Scribe" C_Scribe) (na_Scribe_deeds:NoAttr K C_Scribe "deeds") (mk_Scribe:makesIn K C_Scribe=true) (kp_Scribe:keepIn K (.ref C_Scribe)=true) (m_Scribe:mg "Scribe" = some (.ref C_Scribe)) (z_all:mg "all" = none),[9001, "deeds_of",sn2,sy3,(vd4 sp_Scribe___init__ sp_Scribe_go_to sp_Scribe_jump_to q21)]] ∧
 [9004,∀ (z_abs:mg "abs" = none) (g_GREATEST_NUMBER:Gd K mg "GREATEST_NUMBER" zb0) (g_MOST_PARTS:Gd K mg "MOST_PARTS" ti0),[9001, "jumps_over",wn2,uy3,(zd4)]] ∧
 [9004,∀ (z_len:mg "len" = none),[9001, "_law_cell_at",s_q0,N_q0,(t_q0)]]) /\ ([9004,∀ {q0:Sp3} (_:[9002, "_law_cell_at",["script", "k"],q0]),[9001, "_law_state",s_q3,N_q3,(t_q3 q0)]] ∧
 [9004,[9001, "_law_choice",s_q1,N_q1,(t_q1)]] ∧
 [9004,∀ {q1:Sp3} (_:[9002, "_law_choice",["state", "many"],q1]) {q5:Sp3} (_:[9002, "_law_word",["state", "deep"],q5]) (z_range:mg "range" = none) (z_tuple:mg "tuple" = none),[9001, "_law_word",s_q5,N_q5,(t_q5 q1 q5)]] ∧
 [9004,∀ {q3:Sp3} (_:[9002, "_law_state",["script", "k"],q3]) {q5:Sp3} (_:[9002, "_law_word",["state", "deep"],q5]),[9001, "_law_drawn_word",s_q2,N_q2,(t_q2 q3 q5)]] ∧
 [9004,∀ (z_min:mg "min" = none) (z_range:mg "range" = none),[9001, "_law_walked",s_q4,N_q4,(t_q4)]] ∧
 [9004,∀ {q2:Sp3} (_:[9002, "_law_drawn_word",["script", "k", "deep", "most"],q2]) {q4:Sp3} (_:[9002, "_law_walked",["deeds", "pen"],q4]) {q18:Sp3} (_:[9002, "deeds_of",["trails"],q18]) {q20:Sp3} (_:[9002, "is_small",["word"],q20]) {q32:Sp3} (_:[9002, "picture_of",["word"],q32]) {q45:Sp3} (_:[9002, "trails_of",["picture"],q45]) (z_len:mg "len" = none) (z_list:mg "list" = none) (z_sorted:mg "sorted" = none) (z_tuple:mg "tuple" = none),[9001, "law",za1,vy3,(yd4 q2 q4 q18 q20 q32 q45)]] ∧
 [9004,∀ {C_Scribe:Addr} (oc_Scribe:ObjC K "Scribe" C_Scribe) (na_Scribe_deeds:NoAttr K C_Scribe "deeds") (na_Scribe_pen:NoAttr K C_Scribe "pen") (g_START:Gd K mg "START" ui0),[9001, "Scribe.__init__",tc0,ze0,(xh0)]] ∧
 [9004,∀ {q24:Sp3} (_:[9002, "led",["pen", "part"],q24]) {C_Scribe:Addr} (oc_Scribe:ObjC K "Scribe" C_Scribe) (na_Scribe_deeds:NoAttr K C_Scribe "deeds") (na_Scribe_pen:NoAttr K C_Scribe "pen"),[9001, "Scribe.turn_to",yd0,se0,(th0 q24)]]) /\ ([9004,∀ {C_Scribe:Addr} {sp_Scribe_jump:Sp3} {k_Scribe_jump:Nat} (c_Scribe_jump:CalT P w K mg base k_Scribe_jump C_Scribe "jump" ["self", "heading", "far"] sp_Scribe_jump) (l_Scribe_jump:k_Scribe_jump<=k) (oc_Scribe:ObjC K "Scribe" C_Scribe) (na_Scribe_pen:NoAttr K C_Scribe "pen"),[9001, "Scribe.jump_to",zd0,xf0,(sh0 sp_Scribe_jump)]] ∧
 [9004,∀ {C_Scribe:Addr} {sp_Scribe_turn_to:Sp3} {k_Scribe_turn_to:Nat} (c_Scribe_turn_to:CalT P w K mg base k_Scribe_turn_to C_Scribe "turn_to" ["self", "heading"] sp_Scribe_turn_to) (l_Scribe_turn_to:k_Scribe_turn_to<=k) {q22:Sp3} (_:[9002, "jumps_over",["far"],q22]) {q24:Sp3} (_:[9002, "led",["pen", "part"],q24]) (oc_Scribe:ObjC K "Scribe" C_Scribe) (na_Scribe_deeds:NoAttr K C_Scribe "deeds") (na_Scribe_pen:NoAttr K C_Scribe "pen"),[9001, "Scribe.jump",yf0,uh0,(yl0 sp_Scribe_turn_to q22 q24)]] ∧
 [9004,∀ {C_Scribe:Addr} {sp_Scribe_turn_to:Sp3} {k_Scribe_turn_to:Nat} (c_Scribe_turn_to:CalT P w K mg base k_Scribe_turn_to C_Scribe "turn_to" ["self", "heading"] sp_Scribe_turn_to) (l_Scribe_turn_to:k_Scribe_turn_to<=k) {q24:Sp3} (_:[9002, "led",["pen", "part"],q24]) (oc_Scribe:ObjC K "Scribe" C_Scribe) (na_Scribe_deeds:NoAttr K C_Scribe "deeds") (na_Scribe_pen:NoAttr K C_Scribe "pen") (z_len:mg "len" = none) (gt_AHEAD:GdT K mg "AHEAD" yx0),[9001, "Scribe.go_to",we0,sg0,(uj0 sp_Scribe_turn_to q24)]]):=by
 refine ⟨⟨?_,?_,?_,?_,?_,?_,?_,?_⟩,⟨?_,?_,?_,?_,?_,?_,?_,?_⟩,⟨?_,?_,?_,?_,?_,?_,?_,?_⟩,⟨?_,?_,?_,?_,?_,?_,?_,?_⟩,⟨?_,?_,?_,?_,?_,?_,?_,?_⟩,⟨?_,?_,?_,?_,?_,?_,?_,?_⟩,⟨?_,?_,?_⟩⟩ <;> intros <;> repeat' first
  | (with_reducible show RE _ (.ListComp _ [⟨.Name "deed" _,_,_,_⟩] _ _) _); refine wf1 (NN:=["deed"]) (by decide +kernel) (by decide +kernel) (by decide +kernel) ?_ (λ _ _ _ _ _=>?_) [38] [38]
  | (with_reducible show RE _ (.ListComp _ [⟨.Name "place" _,_,_,_⟩] _ _) _); refine up0 (NN:=["place", "points"]) (js:=[none,some 0]) rfl xo0 ?_ (λ _ _ _ _ _=>?_) [38] [38] (by intro _; rfl)
  | (with_reducible show RS _ _ (set3 _ (te0 [none,some 0,some 2] _ _ _ _))); refine zp0 (by (conv=>(arg 1; whnf)); decide +kernel) (NN:=["far", "pen", "ahead"]) (js:=[none,some 0,some 2]) rfl xo0 ?_ [38] [38] [38] (by intro _; rfl)
  | (with_reducible show RS _ _ (set3 _ (te0 [none,some 1] _ _ _ _))); refine zp0 (by (conv=>(arg 1; whnf)); decide +kernel) (NN:=["stroke", "seen"]) (js:=[none,some 1]) rfl xo0 ?_ [38] [38] [38] (by intro _; rfl)
  | (with_reducible show RE _ (.ListComp _ [⟨.Name "point" _,_,_,_⟩] _ _) _); refine up0 (NN:=["point", "at"]) (js:=[none,some 1]) rfl xo0 ?_ (λ _ _ _ _ _=>?_) [38] [38] (by intro _; rfl)
  | (with_reducible show RS _ _ (set3 _ (te0 _ _ _ _ _))); refine vp2 (by (conv=>(arg 1; whnf)); decide +kernel) (NN:=["stroke"]) (by decide +kernel) (by decide +kernel) (by decide +kernel) ?_ [38] [38] [38]
  | (with_reducible show RS _ _ (set3 _ (te0 [none,some 1] _ _ _ _))); refine zp0 (by (conv=>(arg 1; whnf)); decide +kernel) (NN:=["place", "odd"]) (js:=[none,some 1]) rfl xo0 ?_ [38] [38] [38] (by intro _; rfl)
  | (with_reducible show RE _ (.ListComp _ [⟨.Name "place" _,_,_,_⟩] _ _) _); refine up0 (NN:=["place", "trail"]) (js:=[none,some 0]) rfl xo0 ?_ (λ _ _ _ _ _=>?_) [38] [38] (by intro _; rfl)
  | (with_reducible show RE _ (.ListComp _ [⟨.Name "trail" _,_,_,_⟩] _ _) _); refine wf1 (NN:=["trail"]) (by decide +kernel) (by decide +kernel) (by decide +kernel) ?_ (λ _ _ _ _ _=>?_) [38] [38]
  | (with_reducible show RE _ (.ListComp _ [⟨.Name "part" _,_,_,_⟩] _ _) _); refine wf1 (NN:=["part"]) (by decide +kernel) (by decide +kernel) (by decide +kernel) ?_ (λ _ _ _ _ _=>?_) [38] [38]
  | (with_reducible show RE _ _ (v3 _)); exact zn4 _
  | (with_reducible show RE _ _ (c3 (D.int _))); exact zo4
  | (with_reducible show RA _ _ nil3); exact ua1
  | (with_reducible show RA _ _ (xa0 _ _)); refine vi0 ?_ ?_
  | (with_reducible show RS _ _ (yc0 _)); refine zl3 ?_
  | (with_reducible show RE _ _ (c3 (D.ty "tuple"))); exact wn4 [14] to1
  | (with_reducible show RE _ _ (va0 isiR _)); refine vg0 q_isi [14] wy0 ?_
  | (with_reducible show RT _ _ (not3 _)); refine xm4 ?_
  | (with_reducible show RS _ _ ud0); exact up2
  | (with_reducible show RSs _ _ xc0); exact yl3
  | (with_reducible show RS _ _ (ifs3 _ _ _)); refine rs_if ?_ ?_ ?_
  | (with_reducible show RT _ _ (b3 (o3 gtR _ _))); refine wi0 q_gt ?_ ?_
  | (with_reducible show RI _ _ _ (is3 _)); refine tm4 ?_
  | (with_reducible show RG _ _ (gn3 _)); exact xm3 (by (conv=>(arg 1; whnf)); decide +kernel)
  | (with_reducible show RE _ _ (o3 addR _ _)); refine zq1 q_add ?_ ?_
  | (with_reducible show RSs _ _ (seq3 _ _)); refine zp2 ?_ ?_
  | (with_reducible show RS _ _ (for3 _ _ _)); refine wm4 PassesOwn.never rfl ?_ ?_ ?_
  | (with_reducible show RS _ _ (ret3 _)); refine zm4 ?_
  | (with_reducible show RE _ _ (va0 lenR _)); refine vg0 q_len [14] se5 ?_
  | (with_reducible show RT _ _ (b3 (o3 eqR _ _))); refine wi0 (q_eq (hu64 [14])) ?_ ?_
  | (with_reducible show RE _ _ (o3 ixR _ _)); refine re_ix q_ix ?_ ?_
  | (with_reducible show RT _ _ (b3 (o3 (inR false) _ _))); refine wi0 (q_in (hu65 [14])) ?_ ?_
  | (with_reducible show RW _ _ (and3 _ _)); refine vl4 ?_ ?_
  | (with_reducible show RE _ _ (c3 (D.str _))); exact un4
  | (with_reducible show RE _ _ (c3 (D.ty "int"))); exact wn4 [14] xf5
  | (with_reducible show RE _ _ (va0 absR _)); refine vg0 q_abs [14] zf5 ?_
  | (with_reducible show RT _ _ (b3 (o3 ltR _ _))); refine wi0 q_lt ?_ ?_
  | (with_reducible show RE _ _ (o3 mulR _ _)); refine zq1 q_mul ?_ ?_
  | (with_reducible show RE _ _ (o3 subR _ _)); refine zq1 q_sub ?_ ?_
  | (with_reducible show RE _ _ (o3 modR _ _)); refine zq1 q_mod ?_ ?_
  | (with_reducible show RE _ _ (tup3 _)); refine vn4 ?_
  | (with_reducible show RSs _ _ ud0); exact uw1
  | (with_reducible show RTs _ _ tt3); exact uk3
  | (with_reducible show RE _ _ (va0 sumR _)); refine vg0 q_sum [14] ve5 ?_
  | (with_reducible show RE _ _ (o3 leR _ _)); refine ux1 q_le ?_ ?_
  | (with_reducible show RE _ _ (ws1 _ _)); refine so4 ?_ ?_
  | (with_reducible show RI _ _ _ (ir23 (xa0 _ (xa0 _ nil3)))); refine sw1 [14] ?_ ?_
  | (with_reducible show RT _ _ (b3 (o3 ge3R _ _))); refine wi0 (q_ge3 (hu64 [14])) ?_ ?_
  | (with_reducible show RT _ _ (b3 (o3 neR _ _))); refine wi0 (q_ne (hu64 [14])) ?_ ?_
  | (with_reducible show RT _ _ (b3 (o3 (inR true) _ _))); refine wi0 (sm3 (hu65 [14])) ?_ ?_
  | (with_reducible show RW _ _ (or3 _ _)); refine rw_or ?_ ?_
  | (with_reducible show RE _ _ (va0 minQ _)); refine vg0 (ut4 rfl (hu64 [14])) [14] te5 ?_
  | (with_reducible show RE _ _ (if3 _ _ _)); refine re_if ?_ ?_ ?_
  | (with_reducible show REs _ _ (zi3 (xa0 _ nil3))); refine sk3 ?_ [14] (hu64 [14])
  | (with_reducible show RE _ _ (wi3 _)); refine ym3 ?_ [14]
  | (with_reducible show RE _ _ (va0 tupR _)); refine va1 tm3 [14] to1 ?_
  | (with_reducible show RE _ _ (lst3 _)); refine yo4 ?_
  | (with_reducible show RE _ _ (mt3 extR _ _)); refine vx1 ?_ ?_
  | (with_reducible show RE _ _ (mt3 appR _ _)); refine tx1 ?_ ?_
  | (with_reducible show RI _ _ _ (ir3 (xa0 _ nil3))); refine xx1 [14] ?_
  | (with_reducible show RE _ _ dnl3); exact vo4
  | (with_reducible show RT _ _ (b3 (o3 (dinR true) _ _))); refine wi0 (zu4 (hu64 [14])) ?_ ?_
  | (with_reducible show RE _ _ (sdf3 _ _)); refine re_sd (hu64 [14]) ?_ ?_
  | (with_reducible show RE _ _ (c3 (D.bl _))); exact re_bl
  | (with_reducible show RS _ _ (zf2 _ _ _)); refine wl3 (hu64 [14]) ?_ ?_ ?_
  | (with_reducible show RE _ _ (o3 dgR _ _)); refine re_dg (hu64 [14]) ?_ ?_
  | (with_reducible show RS _ _ (ty0 _ _)); refine wp2 PassesOwn.never ?_ ?_
  | (with_reducible show RE _ _ (va0 srtR _)); refine vg0 xr2 [14] us0 ?_
  | (with_reducible show RI _ _ _ (isd3 _)); refine sm4 ?_
  | (with_reducible show RE _ _ (va0 sp1 _)); refine vg0 yy1 [14] us0 ?_
  | (with_reducible show RI _ _ _ (irS3 (xa0 _ (xa0 _ (xa0 _ nil3))))); refine tw1 [14] ?_ ?_ ?_
  | (with_reducible show RE _ _ dnk3); exact uo4
  | (with_reducible show RE _ _ (c3 D.non)); exact xo4
  | (with_reducible show RE _ _ (un3 negR _)); refine re_un q_neg ?_
  | (with_reducible show RT _ _ (b3 (o3 (isNR false) _ _))); refine wi0 q_isN ?_ ?_
  | (with_reducible show RE _ _ (pop3 _)); refine tn4 ?_
  | (with_reducible show RS _ _ (zo1 _ _ _)); refine tp2 (hu64 [14]) ?_ ?_ ?_
  | (with_reducible show RT _ _ (b3 (o3 (uf2 true) _ _))); refine wi0 (xn3 (hu64 [14])) ?_ ?_
  | (with_reducible show RT _ _ (b3 (o3 geR _ _))); refine wi0 q_ge ?_ ?_
  | (with_reducible show RE _ _ (o3 gtR _ _)); refine ux1 q_gt ?_ ?_
  | (with_reducible show RE _ _ (va0 allR _)); refine vg0 q_all [14] yf5 ?_
  | (with_reducible show RE _ _ (o3 eqR _ _)); refine ux1 (q_eq (hu64 [14])) ?_ ?_
  | (with_reducible show RE _ _ (zr3 _ _ nil3)); exact tq2 [14] [14] [14] [14] [14] (Room.mono [14] [14])
  | (with_reducible show RE _ _ (wb1 _ _ _ _ _)); refine zm3 ?_ [14] [14] (Room.mono [14] [14]) ?_
  | (with_reducible show RP _ _ (pt3 _)); refine vl3 ?_
  | (with_reducible show RP _ _ np3); exact ul3
  | (with_reducible show RE _ _ (sl3 slR _ _ _)); refine uq2 q_sl ?_ ?_ ?_
  | (with_reducible show RE _ _ (fld3 _ _ _)); refine wo4 ?_ [14] [14]
  | (with_reducible show RE _ _ (o3 sr1 _ _)); refine zq1 xu4 ?_ ?_
  | (with_reducible show RE _ _ (o3 powR _ _)); refine zq1 q_pow ?_ ?_
  | (with_reducible show RG _ _ (sub3 _ _)); refine yn4 ?_ ?_
  | (with_reducible show RS _ _ (asg3 _ _)); refine um4 ?_ ?_
  | (with_reducible show RGs _ _ vw2); exact tl3
  | (with_reducible show RGs _ _ (tr0 _ _)); refine wq2 ?_ ?_
  | (with_reducible show RG _ _ (ww2 _ _)); refine xn4 rfl ?_
  | (with_reducible show RE _ _ (va0 xu2 _)); refine va1 tt4 [14] uv3 ?_
  | (with_reducible show RE _ _ (orV3 _ _)); refine re_or ?_ ?_
  | (with_reducible show RS _ _ (yf1 _ _ _ _)); refine vm4 ?_ ?_ [14] [14]
  | (with_reducible show RE _ _ (tix3 (c3 (D.ktp _)) _)); refine sq2 (hu65 [14]) [14] ?_
  | (with_reducible show RE _ _ (va0 _ _)); refine wm3 [14] [14] ?_
  | (with_reducible show RT _ _ (b3 _)); refine sl4 ?_
  | (with_reducible show RE _ _ (c3 _)); exact re_g [14]
  | (with_reducible show RS _ _ (set3 _ _)); refine ym4 (by (conv=>(arg 1; whnf)); decide +kernel) ?_
  | (with_reducible show RSs _ _ _); refine xl3 ?_
  | (with_reducible show RW _ _ _); refine wk3 ?_
  | (with_reducible show RT _ _ _); refine rw_pt ?_
  | (with_reducible show RE _ _ _); refine sn4 ?_
  | (with_reducible show RW _ _ _); refine wl4 ?_
  | (with_reducible show RTs _ _ _); refine vk3 ?_
end
end Pv
namespace Mw
abbrev Pen:=Int × Int × Int
noncomputable def cs (h:Int):Int:=if h=0 then 1 else if h=2 then -1 else 0
noncomputable def sn (h:Int):Int:=if h=1 then 1 else if h=3 then -1 else 0
noncomputable def led (p q:Pen):Pen:=(p.1 + q.1 * cs p.2.2 - q.2.1 * sn p.2.2,p.2.1 + q.1 * sn p.2.2 + q.2.1 * cs p.2.2,(p.2.2 + q.2.2) % 4)
noncomputable def st:Pen:=(0,0,0)
def Hd (p:Pen):Prop:=p.2.2=0 \/ p.2.2=1 \/ p.2.2=2 \/ p.2.2=3
theorem hd_st:Hd st:=.inl rfl
theorem vc1 (p q:Pen):Hd (led p q):=by
 unfold Hd led;have h1:=Int.emod_nonneg (p.2.2 + q.2.2) (show (4:Int) ≠ 0 by decide);have h2:=Int.emod_lt_of_pos (p.2.2 + q.2.2) (show (0:Int) < 4 by decide);dsimp only;omega
inductive Dd where
 | go (n:Int) | jump (n:Int) | turn (n:Int) | times (n:Int) (w:List Dd)
mutual
noncomputable def cnt:Dd->Nat
 | .times _ w=>1 + cnts w
 | _=>1
noncomputable def cnts:List Dd->Nat
 | []=>0
 | d :: r=>cnt d + cnts r
end
mutual
noncomputable def dep:Dd->Nat
 | .times _ w=>1 + deps w
 | _=>0
noncomputable def deps:List Dd->Nat
 | []=>0
 | d :: r=>max (dep d) (deps r)
end
def G:Int:=10000000000
mutual
def okd:Dd->Prop
 | .go n=>0<=n /\ n<=G
 | .jump n=>-G<=n /\ n<=G
 | .turn n=>-G<=n /\ n<=G
 | .times n w=>(0<=n /\ n<=G) /\ oks w
def oks:List Dd->Prop
 | []=>True
 | d :: r=>okd d /\ oks r
end
mutual
noncomputable def sk:Dd->Int
 | .go n=>n
 | .times n w=>n * sks w
 | _=>0
noncomputable def sks:List Dd->Int
 | []=>0
 | d :: r=>sk d + sks r
end
mutual
noncomputable def dn:Dd->Int
 | .times n w=>n * dns w
 | _=>1
noncomputable def dns:List Dd->Int
 | []=>0
 | d :: r=>dn d + dns r
end
noncomputable def pd:Dd->Pen
 | .go n=>(n,0,0)
 | .jump n=>(n,0,0)
 | .turn n=>(0,0,n % 4)
 | .times _ _=>st
theorem ys0:∀ a b,cnts (a ++ b)=cnts a + cnts b
 | [],b=>by simp [cnts]
 | d :: r,b=>by simp only [cons_append,cnts,ys0 r b]; omega
theorem xs0:∀ a b,deps (a ++ b)=max (deps a) (deps b)
 | [],b=>by simp [deps]
 | d :: r,b=>by simp only [cons_append,deps,xs0 r b,Nat.max_assoc]
theorem un0:∀ a b,oks (a ++ b) ↔ oks a /\ oks b
 | [],b=>by simp [oks]
 | d :: r,b=>by simp only [cons_append,oks,un0 r b,and_assoc]
theorem um0:∀ a b,sks (a ++ b)=sks a + sks b
 | [],b=>by simp [sks]
 | d :: r,b=>by simp only [cons_append,sks,um0 r b]; omega
theorem xk0:∀ a,a.length<=cnts a
 | []=>Nat.le_refl _
 | d :: r=>by
  have h:=xk0 r;have h1:1<=cnt d:=by cases d <;> simp only [cnt] <;> omega
  simp only [length_cons,cnts];omega
end Mw
namespace Pv
open PySem Mw
theorem kn_go_jump:((("go" : Str)=("jump" : Str))=False):=eq_false [27]
theorem kn_go_turn:((("go" : Str)=("turn" : Str))=False):=eq_false [27]
theorem kn_go_times:((("go" : Str)=("times" : Str))=False):=eq_false [27]
theorem kn_jump_go:((("jump" : Str)=("go" : Str))=False):=eq_false [27]
theorem kn_jump_turn:((("jump" : Str)=("turn" : Str))=False):=eq_false [27]
theorem kn_jump_times:((("jump" : Str)=("times" : Str))=False):=eq_false [27]
theorem kn_turn_go:((("turn" : Str)=("go" : Str))=False):=eq_false [27]
theorem kn_turn_jump:((("turn" : Str)=("jump" : Str))=False):=eq_false [27]
theorem kn_turn_times:((("turn" : Str)=("times" : Str))=False):=eq_false [27]
theorem kn_times_go:((("times" : Str)=("go" : Str))=False):=eq_false [27]
theorem kn_times_jump:((("times" : Str)=("jump" : Str))=False):=eq_false [27]
theorem kn_times_turn:((("times" : Str)=("turn" : Str))=False):=eq_false [27]
theorem kp_go:(["go", "jump", "turn"]:List Str).contains "go" = true:=by decide
theorem kp_jump:(["go", "jump", "turn"]:List Str).contains "jump" = true:=by decide
theorem kp_turn:(["go", "jump", "turn"]:List Str).contains "turn" = true:=by decide
theorem kp_times:(["go", "jump", "turn"]:List Str).contains "times" = false:=by decide
theorem kz_go:(["go", "times"]:List Str).contains "go" = true:=by decide
theorem kz_jump:(["go", "times"]:List Str).contains "jump" = false:=by decide
theorem kz_turn:(["go", "times"]:List Str).contains "turn" = false:=by decide
theorem kz_times:(["go", "times"]:List Str).contains "times" = true:=by decide
mutual
noncomputable def enc:Dd->D
 | .go n=>.tup [.str "go",.int n]
 | .jump n=>.tup [.str "jump",.int n]
 | .turn n=>.tup [.str "turn",.int n]
 | .times n w=>.tup [.str "times",.int n,.tup (encs w)]
noncomputable def encs:List Dd->List D
 | []=>[]
 | d :: r=>enc d :: encs r
end
def sf4:Sp3:=λ ds μ Q=>∃ (kind:Str) (n:Int),ds=[.str kind,.int n] /\ -G<=n /\ n<=G /\ ((kind = "go" \/ kind = "times")->0<=n) /\ Q .non μ
abbrev RdQ (s:Sp3) (t:TS3) (N:List Str):Prop:=∀ ds μ Q,s ds μ Q->t { nx:=λ _ μ'=>Q .non μ',rt:=Q } (ua0 N ds) μ
theorem rd_q7:RdQ sf4 t_q7 N_q7:=by
 rintro ds μ Q ⟨kind,n,rfl,h1,h2,h3,q⟩;unfold G at h1 h2;simp only [t_q7,seq3,ifs3,not3,b3,va0,xa0,v3,ua0,map_cons,map_nil,N_q7,length_cons,length_nil,Nat.zero_add,Nat.reduceAdd,Nat.reduceSub,List.replicate,cons_append,nil_append,getI,c3,nil3,isiR,Bool.not_true,Bool.false_eq_true,ud0,xc0,o3,absR,gtR,zk0,decide_eq_true_eq,and3,ltR,inR,strs?,if_false,if_true];rw [if_neg [5]];split
 ·split
  ·simp_all;omega
  ·exact q
 ·exact q
def wv1 (j:Nat):Sp3:=λ ds μ Q=>∃ (d:Dd) (k:Int),ds=[enc d,.int k] /\ okd d /\ dep d < j /\ k + dep d<=4 /\ cnt d<=30 /\ Q (.int (cnt d)) μ
noncomputable def xw0 (j:Nat):Sp3:=λ ds μ Q=>∃ (w:List Dd) (k:Int),ds=[.tup (encs w),.int k] /\ oks w /\ deps w < j /\ k + deps w<=4 /\ cnts w<=30 /\ Q (.int (cnts w)) μ
theorem yt4 (j:Nat):RdQ (wv1 (j + 1)) (sd4 sf4 (xw0 j)) zz3:=by
 rintro ds μ Q ⟨d,k,rfl,h1,h2,h3,h4,q⟩;cases d
 case go n=>simp only [okd] at h1; exact ⟨_,n,rfl,by omega,by omega,λ _=>h1.1,q⟩
 case jump n=>simp only [okd] at h1; exact [37]
 case turn n=>simp only [okd] at h1; exact [37]
 case times n w =>
  simp only [okd,dep,cnt] at h1 h2 h3 h4 q;refine ⟨_,n,rfl,by omega,by omega,λ _=>h1.1.1,w,k + 1,rfl,h1.2,by omega,by omega,by omega,?_⟩;assumption
theorem zt4 (j:Nat):RdQ (xw0 j) (wh3 (wv1 j)) vz2:=by
 rintro ds μ Q ⟨w,k,rfl,h1,h2,h3,h4,q⟩;simp only [wh3,seq3,ifs3,not3,b3,va0,xa0,v3,ua0,map_cons,map_nil,vz2,length_cons,length_nil,Nat.zero_add,Nat.reduceAdd,Nat.reduceSub,List.replicate,cons_append,nil_append,getI,c3,nil3,isiR,Bool.not_true,Bool.false_eq_true,ud0,xc0,o3,gtR,zk0,decide_eq_true_eq,set3,for3,is3,set_cons_succ,set_cons_zero,if_false,if_true];rw [if_neg [5]];refine vd0 (λ l ρ μ'=>μ'=μ /\ ∃ (r:List Dd) (c:Nat) (dd:Option D),l=encs r /\ ρ=[some (.tup (encs w)),some (.int k),some (.int c),dd] /\ oks r /\ deps r<=deps w /\ c + cnts r=cnts w) ?_ (λ _ _ _ _=>trivial) ?_ ?_
 ·exact ⟨rfl,w,0,none,rfl,rfl,h1,Nat.le_refl _,by omega⟩
 ·rintro ρ μ' ⟨rfl,r,c,dd,e,rfl,_,_,e2⟩;cases r with
  | nil =>
   simp only [cnts] at e2;simp only [ret3,v3,getI]
   simp_all
  | cons _ _=>simp [encs] at e
 ·rintro x rest ρ μ' ⟨rfl,r,c,dd,e,rfl,o,dp,e2⟩;cases r with
  | nil=>simp [encs] at e
  | cons d r =>
   simp only [encs,List.cons.injEq] at e;obtain ⟨rfl,rfl⟩:=e;simp only [oks,deps,cnts] at o dp e2;refine ⟨d,k,rfl,o.1,by omega,by omega,by omega,?_⟩;simp only [addR,ifs3,b3,o3,v3,set_cons_succ,set_cons_zero,getI,c3,zk0,decide_eq_true_eq,ud0,xc0,true_and];rw [if_neg [5]];exact ⟨r,c + cnt d,some (enc d),rfl,by simp,o.2,by omega,by omega⟩
def Wd (w:List Dd):Prop:=oks w /\ deps w<=4 /\ cnts w<=30
def zj3:Sp3:=λ ds μ Q=>∃ w,ds=[.tup (encs w)] /\ Wd w /\ Q .non μ
theorem wt4:RdQ zj3 (vh3 (xw0 5)) uz2:=by
 rintro ds μ Q ⟨w,rfl,⟨h1,h2,h3⟩,q⟩;simp only [vh3,yc0,va0,xa0,v3,ua0,map_cons,map_nil,uz2,length_cons,length_nil,Nat.zero_add,Nat.reduceSub,List.replicate,cons_append,nil_append,getI,c3,nil3];exact ⟨w,0,rfl,h1,by omega,by omega,h3,q⟩
theorem wc0:∀ a,(encs a).length=a.length
 | []=>by simp [encs]
 | d :: r=>by simp only [encs,length_cons,wc0 r]
theorem sw0:∀ {w:List Dd} {x:D},x ∈ encs w->∃ d,d ∈ w /\ x=enc d
 | [],x,h=>by simp [encs] at h
 | d :: r,x,h=>by
  simp only [encs,mem_cons] at h;rcases h with rfl | h
  ·simp
  ·obtain ⟨e,h1,h2⟩:=sw0 h;exact ⟨e,mem_cons_of_mem _ h1,h2⟩
theorem tn0:∀ {w:List Dd} {d:Dd},d ∈ w->oks w->dep d<=deps w /\ cnt d<=cnts w /\ okd d
 | [],d,h,_=>by simp at h
 | e :: r,d,h,o=>by
  simp only [oks] at o;simp only [deps,cnts];rcases List.mem_cons.mp h with rfl | h
  ·simp_all;omega
  ·obtain ⟨h1,h2,h3⟩:=tn0 h o.2
   simp_all;omega
mutual
noncomputable def dec:D->Dd
 | .tup [.str k,.int n]=>if k = "go" then .go n else if k = "jump" then .jump n else .turn n
 | .tup [.str _,.int n,.tup w]=>.times n (decs w)
 | _=>.go 0
noncomputable def decs:List D->List Dd
 | []=>[]
 | d :: r=>dec d :: decs r
end
mutual
theorem sx0:∀ d,dec (enc d)=d
 | .go n=>by simp [enc,dec]
 | .jump n=>by rfl
 | .turn n=>by rfl
 | .times n w=>by simp only [enc,dec,vd1 w]
theorem vd1:∀ w,decs (encs w)=w
 | []=>by rfl
 | d :: r=>by simp only [encs,decs,sx0 d,vd1 r]
end
theorem vg1 (f:Dd->Int):∀ w,(encs w).map (λ d=>D.int (f (dec d)))=w.map λ d=>D.int (f d)
 | []=>by simp [encs]
 | d :: r=>by simp only [encs,map_cons,sx0,vg1 f r]
mutual
noncomputable def pe:Dd->PyData
 | .go n=>.tuple [.str "go",.int n]
 | .jump n=>.tuple [.str "jump",.int n]
 | .turn n=>.tuple [.str "turn",.int n]
 | .times n w=>.tuple [.str "times",.int n,.tuple (pes w)]
noncomputable def pes:List Dd->List PyData
 | []=>[]
 | d :: r=>pe d :: pes r
end
noncomputable def encP (p:Pen):D:=.tup [.int p.1,.int p.2.1,.int p.2.2]
noncomputable def encK (p:Pen):D:=.ktp [.int p.1,.int p.2.1,.int p.2.2]
def isP (d:D) (p:Pen):Prop:=d=encP p \/ d=encK p
variable {i:Int} {μ:Mu}
theorem sb1 {d:D} {p:Pen} (h:isP d p) {v:D} (e:atI [D.int p.1,D.int p.2.1,D.int p.2.2] i=some v) {K:VK3} (k:K v μ):ixR d (.int i) μ K:=by
 rcases h with rfl | rfl
 ·show (match atI [D.int p.1,D.int p.2.1,D.int p.2.2] i with | some d=>K d μ | none=>False);rw [e]; exact k
 ·show (match atI [D.int p.1,D.int p.2.1,D.int p.2.2] i with | some d=>K d μ | none=>False);rw [e]; exact k
theorem uy0 {h:Int} (hd:h=0 \/ h=1 \/ h=2 \/ h=3):atI [D.ktp [D.int 1,D.int 0],D.ktp [D.int 0,D.int 1],D.ktp [D.int (-1),D.int 0],D.ktp [D.int 0,D.int (-1)]] h=some (.ktp [.int (cs h),.int (sn h)]):=by
 rcases hd with rfl | rfl | rfl | rfl <;> rfl
theorem sl0 (h:Int) : -(2 ^ 64) < cs h /\ cs h < 2 ^ 64:=by unfold cs; omega
theorem zl0 (h:Int) : -(2 ^ 64) < sn h /\ sn h < 2 ^ 64:=by unfold sn; omega
theorem zs3 {l:List D} {d:D} {Q:VK3} (e:atI l i=some d) (h:Q d μ):ixR (.ktp l) (.int i) μ Q:=by
 unfold ixR
 simp_all
def vz0:Sp3:=λ ds μ Q=>∃ d e p q,ds=[d,e] /\ isP d p /\ isP e q /\ Hd p /\ Q (encP (led p q)) μ
theorem ur4:RdQ vz0 xd4 wy3:=by
 rintro ds μ Q ⟨d,e,p,q,rfl,h1,h2,hp,k⟩;have c1:CMul q.1 (cs p.2.2):=.inl (.inr (sl0 _));have c2:CMul q.2.1 (sn p.2.2):=.inl (.inr (zl0 _));have c3:CMul q.1 (sn p.2.2):=.inl (.inr (zl0 _));have c4:CMul q.2.1 (cs p.2.2):=.inl (.inr (sl0 _));have d1:(0:Int) < 4:=by decide
 have d2:3<=sizeLine:=by decide
 rcases h1 with rfl | rfl <;> rcases h2 with rfl | rfl <;>
 ·show ixR xj0 (.int p.2.2) μ (λ d μ1=>_);refine zs3 (uy0 hp) ?_;trivial
def spPd:Sp3:=λ ds μ Q=>∃ d,ds=[enc d] /\ (∃ n,d=.go n \/ d=.jump n \/ d=.turn n) /\ Q (encP (pd d)) μ
theorem xr4:RdQ spPd wc4 tx3:=by
 rintro ds μ Q ⟨d,rfl,⟨n,rfl | rfl | rfl⟩,q⟩
 ·exact And.intro Z0 q
 ·exact And.intro Z0 q
 ·exact And.intro (show (0:Int) < 4 by decide) (And.intro Z0 q)
def spSk (j:Nat):Sp3:=λ ds μ Q=>∃ w,ds=[.tup (encs w)] /\ deps w < j /\ deps w<=5 /\ cnts w<=60 /\ oks w /\ ∀ μ',Ext μ μ'->Q (.int (sks w)) μ'
def xj3 (j:Nat):Sp3:=λ ds μ Q=>∃ d,ds=[enc d] /\ dep d < j /\ dep d<=5 /\ cnt d<=60 /\ okd d /\ ∀ μ',Ext μ μ'->Q (.int (sk d)) μ'
theorem us4 (j:Nat):RdQ (xj3 (j + 1)) (ud4 (spSk j)) xz3:=by
 rintro ds μ Q ⟨d,rfl,h1,h2,h2',h3,q⟩;cases d
 case go n=>exact q _ (Ext.refl _)
 case jump n=>exact q _ (Ext.refl _)
 case turn n=>exact q _ (Ext.refl _)
 case times n w =>
  simp only [okd,dep,cnt,sk] at h1 h2 h2' h3 q;refine ⟨w,rfl,by omega,by omega,by omega,h3.2,λ μ' e=>?_⟩;exact ⟨.inl (.inl (by have:=h3.1; unfold G at this; omega)),q μ' e⟩
theorem vr0:∀ (f:Dd->Int) (r:List Dd),ints? (r.map λ d=>D.int (f d))=some (r.map f)
 | f,[]=>rfl
 | f,d :: r=>by simp only [map_cons,ints?,vr0 f r]
theorem xw1:∀ w,(w.map sk).sum=sks w
 | []=>by simp [sks]
 | d :: r=>by simp only [map_cons,List.sum_cons,sks,xw1 r]
theorem ts4 (j:Nat):RdQ (spSk j) (yh3 (xj3 j)) zz2:=by
 rintro ds μ Q ⟨w,rfl,h1,h2,h2',h3,q⟩;simp only [yh3,ret3,va0,xa0,te0,is3,v3,ua0,map_cons,map_nil,zz2,length_cons,length_nil,Nat.zero_add,Nat.reduceSub,List.replicate,cons_append,nil_append,getI,nil3,sumR,Option.bind_none];intro p hp;have hl:=xk0 w;have hz:(100:Nat) < sizeLine:=by decide
 refine zf0 (rest:=[]) (λ d=>D.int (sk (dec d))) hp (by rw [wc0]; omega) (λ _ _=>trivial) (λ x hx μ' R e k=>?_) λ μ' e e2=>?_
 ·obtain ⟨d,hd,rfl⟩:=sw0 hx;obtain ⟨d1,d2,d3⟩:=tn0 hd h3;simp only [va0,xa0,v3,getI,nil3];refine ⟨d,rfl,by omega,by omega,by omega,d3,λ μ2 e2=>?_⟩;rw [sx0] at k;exact k μ2 e2
 ·simp only [e2,vg1,vr0,xw1];exact q μ' e
def vf4:Sp3:=λ ds μ Q=>∃ w,ds=[.tup (encs w)] /\ Wd w /\ ∀ μ',Ext μ μ'->Q (.int (sks w)) μ'
theorem sp4:RdQ vf4 (vg3 zj3 (spSk 5)) uy2:=by
 rintro ds μ Q ⟨w,rfl,h,q⟩;simp only [vg3,seq3,yc0,va0,xa0,v3,ua0,map_cons,map_nil,uy2,length_cons,length_nil,Nat.zero_add,Nat.reduceSub,List.replicate,cons_append,nil_append,getI,nil3,ret3];exact ⟨w,rfl,h,w,rfl,by have:=h.2.1; omega,by have:=h.2.1; omega,by have:=h.2.2; omega,h.1,q⟩
def spDn (j:Nat):Sp3:=λ ds μ Q=>∃ w,ds=[.tup (encs w)] /\ deps w < j /\ deps w<=5 /\ cnts w<=60 /\ oks w /\ ∀ μ',Ext μ μ'->Q (.int (dns w)) μ'
def tj2 (j:Nat):Sp3:=λ ds μ Q=>∃ d,ds=[enc d] /\ dep d < j /\ dep d<=5 /\ cnt d<=60 /\ okd d /\ ∀ μ',Ext μ μ'->Q (.int (dn d)) μ'
theorem ss4 (j:Nat):RdQ (tj2 (j + 1)) (td4 (spDn j)) yz3:=by
 rintro ds μ Q ⟨d,rfl,h1,h2,h2',h3,q⟩;cases d
 case go n=>exact q _ (Ext.refl _)
 case jump n=>exact q _ (Ext.refl _)
 case turn n=>exact q _ (Ext.refl _)
 case times n w =>
  simp only [okd,dep,cnt,dn] at h1 h2 h2' h3 q;refine ⟨w,rfl,by omega,by omega,by omega,h3.2,λ μ' e=>?_⟩;exact ⟨.inl (.inl (by have:=h3.1; unfold G at this; omega)),q μ' e⟩
theorem wf2:∀ w,(w.map dn).sum=dns w
 | []=>by simp [dns]
 | d :: r=>by simp only [map_cons,List.sum_cons,dns,wf2 r]
theorem xt4 (j:Nat):RdQ (spDn j) (zh3 (tj2 j)) wz2:=by
 rintro ds μ Q ⟨w,rfl,h1,h2,h2',h3,q⟩;simp only [zh3,ret3,va0,xa0,te0,is3,v3,ua0,map_cons,map_nil,wz2,length_cons,length_nil,Nat.zero_add,Nat.reduceSub,List.replicate,cons_append,nil_append,getI,nil3,sumR,Option.bind_none];intro p hp;have hl:=xk0 w;have hz:(100:Nat) < sizeLine:=by decide
 refine zf0 (rest:=[]) (λ d=>D.int (dn (dec d))) hp (by rw [wc0]; omega) (λ _ _=>trivial) (λ x hx μ' R e k=>?_) λ μ' e e2=>?_
 ·obtain ⟨d,hd,rfl⟩:=sw0 hx;obtain ⟨d1,d2,d3⟩:=tn0 hd h3;simp only [va0,xa0,v3,getI,nil3];refine ⟨d,rfl,by omega,by omega,by omega,d3,λ μ2 e2=>?_⟩;rw [sx0] at k;exact k μ2 e2
 ·simp only [e2,vg1,vr0,wf2];exact q μ' e
def yg4:Sp3:=λ ds μ Q=>∃ w,ds=[.tup (encs w)] /\ Wd w /\ ∀ μ',Ext μ μ'->Q (.int (dns w)) μ'
theorem vs4:RdQ yg4 (xh3 zj3 (spDn 5)) yz2:=by
 rintro ds μ Q ⟨w,rfl,h,q⟩;simp only [xh3,seq3,yc0,va0,xa0,v3,ua0,map_cons,map_nil,yz2,length_cons,length_nil,Nat.zero_add,Nat.reduceSub,List.replicate,cons_append,nil_append,getI,nil3,ret3];exact ⟨w,rfl,h,w,rfl,by have:=h.2.1; omega,by have:=h.2.1; omega,by have:=h.2.2; omega,h.1,q⟩
def xf1:Sp3:=λ ds μ Q=>∃ w,ds=[.tup (encs w)] /\ Wd w /\ ∀ μ',Ext μ μ'->Q (.bl (decide (sks w<=400 /\ dns w<=400))) μ'
theorem ys4:RdQ xf1 (sg3 yg4 vf4) xz2:=by
 rintro ds μ Q ⟨w,rfl,h,q⟩;simp only [sg3,ret3,ws1,o3,va0,xa0,v3,ua0,map_cons,map_nil,xz2,length_cons,length_nil,Nat.zero_add,Nat.reduceSub,List.replicate,cons_append,nil_append,getI,nil3,c3,leR,zk0,decide_eq_true_eq];refine ⟨w,rfl,h,λ μ1 e1=>?_⟩;simp only [];split
 ·next h1 =>
  refine ⟨w,rfl,h,λ μ2 e2=>?_⟩;have z:=q μ2 (e1.trans e2)
  simp_all
 simp_all
theorem tf0:∀ a b,encs (a ++ b)=encs a ++ encs b
 | [],b=>by simp [encs]
 | d :: r,b=>by simp only [cons_append,encs,tf0 r b]
mutual
def sm:Dd->Prop
 | .go n=>0<=n /\ n<=3
 | .jump n=>-3<=n /\ n<=3
 | .turn n=>-5<=n /\ n<=3
 | .times n w=>(0<=n /\ n<=4) /\ sms w
def sms:List Dd->Prop
 | []=>True
 | d :: r=>sm d /\ sms r
end
theorem vt0:∀ a b,sms (a ++ b) ↔ sms a /\ sms b
 | [],b=>by simp [sms]
 | d :: r,b=>by simp only [cons_append,sms,vt0 r b,and_assoc]
mutual
theorem zi5:∀ d,sm d->okd d
 | .go n,h=>by simp only [sm] at h; simp only [okd,G]; omega
 | .jump n,h=>by simp only [sm] at h; simp only [okd,G]; omega
 | .turn n,h=>by simp only [sm] at h; simp only [okd,G]; omega
 | .times n w,h=>by simp only [sm] at h; simp only [okd,G]; exact ⟨by omega,tv1 w h.2⟩
theorem tv1:∀ w,sms w->oks w
 | [],_=>by simp only [oks]
 | d :: r,h=>by simp only [sms] at h; simp only [oks]; exact ⟨zi5 d h.1,tv1 r h.2⟩
end
def sb3:Sp3:=λ ds μ Q=>∃ (ns:List Int) (k:Int),ds=[.fls (ns.map D.int),.int k] /\ 0<=k /\ ∀ i,Q (.int i) μ
theorem rd_q0:RdQ sb3 t_q0 N_q0:=by
 rintro ds μ Q ⟨ns,k,rfl,hk,q⟩;simp only [t_q0,seq3,ifs3,b3,o3,v3,ua0,map_cons,map_nil,N_q0,length_cons,length_nil,Nat.zero_add,Nat.reduceAdd,Nat.reduceSub,List.replicate,cons_append,nil_append,getI,va0,xa0,nil3,lenR,ltR,zk0,decide_eq_true_eq,ret3,ixR,xc0,c3];split
 ·next h1 =>
  obtain ⟨d,hd,e⟩:=vf3 (l:=ns.map D.int) hk h1;obtain ⟨i,_,rfl⟩:=List.mem_map.mp hd
  simp_all
 ·exact q 0
def yv1:Sp3:=λ ds μ Q=>∃ (ns:List Int) (k:Int),ds=[.fls (ns.map D.int),.int k] /\ 0<=k /\ ∀ a b p,0<=a->μ p=none->Q (.ref p) (updM μ p (.lst [.int a,.bl b]))
theorem rd_q3:RdQ yv1 (t_q3 sb3) N_q3:=by
 rintro ds μ Q ⟨ns,k,rfl,hk,q⟩;simp only [t_q3,seq3,set3,va0,xa0,v3,ua0,map_cons,map_nil,N_q3,length_cons,length_nil,Nat.zero_add,Nat.reduceAdd,Nat.reduceSub,List.replicate,cons_append,nil_append,getI,nil3,ifs3,b3,o3,set_cons_succ,set_cons_zero,c3,powR,int2,geR,zk0,decide_eq_true_eq,ret3,lst3,subR,xc0,modR];refine ⟨ns,k,rfl,hk,λ i=>?_⟩;simp only [];refine ⟨⟨by decide,by decide,by decide⟩,?_⟩;have e:((10:Int) ^ (18:Int).toNat)=1000000000000000000:=by decide
 simp only [e];split
 ·next h1=>exact ⟨⟨by decide,by decide,by decide⟩,by decide,λ p hp=>q _ _ p [5] hp⟩
 ·exact ⟨by decide,by decide,λ p hp=>q _ _ p (Int.emod_nonneg _ [27]) hp⟩
def zk1:Sp3:=λ ds μ Q=>∃ (p:Addr) (m a:Int) (b:Bool) (rest:List D),ds=[.ref p,.int m] /\ 0 < m /\ m < 2 ^ 120 /\ μ p=some (.lst (.int a :: .bl b :: rest)) /\ 0<=a ∧
 ∀ r a',0<=r->r < m->0<=a'->Q (.int r) (updM μ p (.lst (.int a' :: .bl b :: rest)))
theorem rd_q1:RdQ zk1 t_q1 N_q1:=by
 rintro ds μ Q ⟨p,m,a,b,rest,rfl,h1,h2,h3,h4,q⟩;simp only [t_q1,seq3,ifs3,b3,o3,v3,ua0,map_cons,map_nil,N_q1,length_cons,length_nil,Nat.zero_add,Nat.reduceAdd,Nat.reduceSub,List.replicate,cons_append,nil_append,getI,c3,ixR,h3,atI1,set3,atI0,modR,int2,asg3,set_cons_succ,set_cons_zero,sr1,sub3,ixN0,ret3,xc0,mulR,addR];split
 ·refine ⟨h1,⟨h1,h2⟩,?_⟩;exact q _ _ (Int.emod_nonneg _ [5]) (Int.emod_lt_of_pos _ h1) (Int.ediv_nonneg h4 [5])
 ·refine ⟨.inl (.inr [27]),by decide,?_⟩;simp only [ya0,atI0];have n1:=Int.emod_nonneg (a * 48271 + 29) (show (2147483647:Int) ≠ 0 by decide);have n2:=Int.emod_lt_of_pos (a * 48271 + 29) (show (0:Int) < 2147483647 by decide);generalize (a * 48271 + 29) % 2147483647=c at n1 n2 ⊢;refine ⟨.inl (.inl [5]),.inl (.inl [27]),by decide,?_⟩;have n3:=Int.emod_nonneg (c * c + 39373 * c + 7) (show (2147483629:Int) ≠ 0 by decide);have n4:=Int.emod_lt_of_pos (c * c + 39373 * c + 7) (show (0:Int) < 2147483629 by decide);generalize (c * c + 39373 * c + 7) % 2147483629=e at n3 n4 ⊢;refine ⟨.inl (.inl [5]),.inl (.inl [27]),by decide,⟨by decide,by decide⟩,h1,?_⟩;exact q _ _ (Int.emod_nonneg _ [5]) (Int.emod_lt_of_pos _ h1) n1
def tj1 (j:Nat):Sp3:=λ ds μ Q=>∃ (p:Addr) (deep:Int) (a:Int) (b:Bool) (m:Int),ds=[.ref p,.int deep] /\ 0<=deep /\ deep < j /\ μ p=some (.lst [.int a,.bl b,.int m]) /\ 0<=a /\ 0<=m ∧
 ∀ w a' m' μ',ExtB p μ μ'->μ' p=some (.lst [.int a',.bl b,.int m'])->0<=a'->0<=m'->(cnts w:Int) + m'<=m->(deps w:Int)<=deep->sms w->w.length<=4->Q (.tup (encs w)) μ'
def xg5 (p f:Addr) (b:Bool) (deep m:Int) (μ:Mu) (l:List D) (ρ:St3) (μ':Mu):Prop:=ExtB p μ μ' /\ ∃ w a' m' kk kd,ρ=[some (.ref p),some (.int deep),some (.ref f),kk,kd] /\ μ' f=some (.lst (encs w)) ∧
 μ' p=some (.lst [.int a',.bl b,.int m']) /\ 0<=a' /\ 0<=m' /\ (cnts w:Int) + m'<=m /\ (deps w:Int)<=deep /\ sms w /\ l.length + w.length<=4
theorem uk0 {p f:Addr} {b:Bool} {deep m:Int} {μ2:Mu} {l:List D} {w:List Dd} {d:Dd} {a3 m3:Int} {kk kd:Option D} (hpf:p ≠ f) (hf:μ f=none) (ex:ExtB p μ μ2) (e1:μ2 f=some (.lst (encs w))) (e2:μ2 p=some (.lst [.int a3,.bl b,.int m3]))
    (i1:0<=a3) (i2:0<=m3) (i3:(cnts w:Int) + cnt d + m3<=m) (i4:(deps w:Int)<=deep) (i4':(dep d:Int)<=deep) (i5:sms w) (i5':sm d) (i6:l.length + 1 + w.length<=4) :
    (encs w).length < sizeLine /\ xg5 p f b deep m μ l [some (.ref p),some (.int deep),some (.ref f),kk,kd] (updM μ2 f (.lst (encs w ++ [enc d]))):=by
 have hz:(100:Nat) < sizeLine:=by decide
 refine ⟨by rw [wc0]; omega,λ c o hc hq=>?_,w ++ [d],a3,m3,kk,kd,rfl,?_,?_,i1,i2,?_,?_,?_,?_⟩
 ·rw [za0 (ta0 hq hf)]; exact ex c o hc hq
 ·rw [ya0,tf0]; simp [encs]
 ·rw [za0 hpf]; exact e2
 ·rw [ys0]; assumption
 ·rw [xs0]; simp only [deps]; omega
 ·rw [vt0]; trivial
 simp_all;omega
theorem yv2 {a b T E:Prop} [Decidable a] [Decidable b] (hT:a->b->T) (hE:E):if a then (if b then T else E) else E:=by
 simp_all
theorem rd_q5 (j:Nat):RdQ (tj1 (j + 1)) (t_q5 zk1 (tj1 j)) N_q5:=by
 rintro ds μ Q ⟨p,deep,a,b,m,rfl,h1,h2,h3,h4,h5,q⟩;refine ⟨(by decide:0<=sizeLine),λ f hf=>?_⟩;have hpf:p ≠ f:=ta0 h3 hf;refine ⟨p,5,a,b,[.int m],rfl,by decide,by decide,by rw [za0 hpf]; exact h3,h4,λ r a1 r1 r2 r3=>?_⟩;refine ⟨⟨by omega,by omega⟩,?_⟩;refine vd0 (xg5 p f b deep m μ) ?_ (λ _ _ _ _=>trivial) ?_ ?_
 ·refine ⟨λ c o hc hq=>?_,[],a1,m,none,none,rfl,?_,ya0,r3,h5,by simp [cnts],by assumption,by simp [sms],?_⟩
  ·rw [za0 hc,za0 (ta0 hq hf)]; exact hq
  ·rw [za0 (Ne.symm hpf),ya0]; simp [encs]
  ·simp only [rngD,length_map,length_range,length_nil]; omega
 ·rintro ρ μ' ⟨ex,w,a',m',kk,kd,rfl,e1,e2,i1,i2,i3,i4,i5,i6⟩;simp only [ret3,va0,xa0,v3,getI,nil3,tupR,e1];exact q w a' m' μ' ex e2 i1 i2 i3 i4 i5 (by simpa using i6)
 ·rintro x rest ρ μ' ⟨ex,w,a',m',kk,kd,rfl,e1,e2,i1,i2,i3,i4,i5,i6⟩;rw [length_cons] at i6;refine ⟨p,7,a',b,[.int m'],rfl,by decide,by decide,e2,i1,λ kd2 a2 k1 k2 k3=>?_⟩;have e3:∀ o:MO,updM μ' p o f=some (.lst (encs w)):=λ o=>by rw [za0 (Ne.symm hpf)]; exact e1
  have ex3:∀ o:MO,ExtB p μ (updM μ' p o):=λ o=>ex.trans ExtB.upd;simp only [ifs3,b3,o3,v3,set_cons_succ,set_cons_zero,getI,c3,ixR,ya0,atI2,gtR,zk0,decide_eq_true_eq,seq3,asg3,subR,sub3,length_cons,length_nil,Nat.zero_add,Nat.reduceAdd,ixN2,and3,ltR,yc0,mt3,xl0,e3,xa0,tup3,va0,nil3,appR,lst3,un3,negR,xd5,Bool.false_eq_true,if_false,xc0];have hz:(100:Nat) < sizeLine:=by decide
  split
  ·next h6 =>
   refine yv2 (λ h7 h8=>?_) ?_
   ·refine ⟨p,5,a2,b,[.int (m' - 1)],rfl,by decide,by decide,ya0,k3,λ n a3 n1 n2 n3=>?_⟩;rw [xl0];refine ⟨p,deep - 1,a3,b,m' - 1,rfl,by omega,by omega,ya0,n3,by omega,λ w2 a4 m4 μ4 x1 x2 x3 x4 x5 x6 x7 x8=>⟨by omega,?_⟩⟩;have e4:μ4 f=some (.lst (encs w)):=x1 f _ (Ne.symm hpf) (e3 _);simp only [e4];exact uk0 (d:=.times n w2) hpf hf ((ex3 _).trans x1) e4 x2 x3 x4 (by simp only [cnt]; omega) i4 (by simp only [dep]; omega) i5 (by simp only [sm]; exact ⟨by omega,x7⟩) i6
   ·split
    ·refine ⟨by omega,λ t ht=>?_⟩;have hpt:p ≠ t:=ta0 ya0 ht;have hft:f ≠ t:=ta0 (e3 _) ht;refine ⟨p,8,a2,b,[.int (m' - 1)],rfl,by decide,by decide,by rw [za0 hpt]; exact ya0,k3,λ n a3 n1 n2 n3=>?_⟩;have et:∀ (o o':MO) (ν:Mu),updM (updM ν t o) p o' t=some o:=λ o o' ν=>by rw [za0 (Ne.symm hpt),ya0]
     obtain ⟨dv,hd,e5⟩:=vf3 (l:=([D.int 1,D.int (-1),D.int 2,D.int 3,D.int (-5),D.int 0,D.int 1,D.int (-1)]:List D)) (i:=n) n1 [5]
     have hk:∃ k:Int,dv=.int k /\ -5<=k /\ k<=3:=by
      simp only [mem_cons,List.not_mem_nil,or_false] at hd;rcases hd with rfl | rfl | rfl | rfl | rfl | rfl | rfl | rfl <;> exact ⟨_,rfl,by decide,by decide⟩
     obtain ⟨k,rfl,g1,g2⟩:=hk;simp only [et,e5];have e4:∀ (o o':MO),updM (updM (updM μ' p o) t o') p (.lst [.int a3,.bl b,.int (m' - 1)]) f=some (.lst (encs w)):=λ o o'=>by rw [za0 (Ne.symm hpf),za0 hft]; exact e3 _
     simp only [e4];refine ⟨by omega,uk0 (d:=.turn k) hpf hf (λ c o hc hq=>?_) (e4 _ _) ya0 n3 [5] (by simp only [cnt]; omega) i4 [14] i5 (by trivial) i6⟩;have z:=ex3 (.lst [.int a2,.bl b,.int (m' - 1)]) c o hc hq;rw [za0 hc,za0 (ta0 z ht)];exact z
    ·split
     ·refine ⟨p,7,a2,b,[.int (m' - 1)],rfl,by decide,by decide,ya0,k3,λ n a3 n1 n2 n3=>?_⟩;simp only [xl0,e3];exact ⟨by omega,uk0 (d:=.jump (n - 3)) hpf hf (ex3 _) (e3 _) ya0 n3 [5] (by simp only [cnt]; omega) i4 [14] i5 (by simp only [sm]; omega) i6⟩
     ·refine ⟨p,4,a2,b,[.int (m' - 1)],rfl,by decide,by decide,ya0,k3,λ n a3 n1 n2 n3=>?_⟩;simp only [xl0,e3];exact ⟨by omega,uk0 (d:=.go n) hpf hf (ex3 _) (e3 _) ya0 n3 [5] (by simp only [cnt]; omega) i4 [14] i5 (by simp only [sm]; omega) i6⟩
  ·refine ⟨ex3 _,w,a2,m',_,_,rfl,e3 _,ya0,k3,i2,i3,i4,i5,by omega⟩
def zv1 (j:Nat):Sp3:=λ ds μ Q=>∃ (ns:List Int) (k deep most:Int),ds=[.fls (ns.map D.int),.int k,.int deep,.int most] /\ 0<=k /\ 0<=deep /\ deep < j /\ 0<=most ∧
 ∀ w μ',Ext μ μ'->(cnts w:Int)<=most->(deps w:Int)<=deep->sms w->w.length<=4->Q (.tup (encs w)) μ'
theorem rd_q2 (j:Nat):RdQ (zv1 j) (t_q2 yv1 (tj1 j)) N_q2:=by
 rintro ds μ Q ⟨ns,k,deep,most,rfl,h1,h2,h3,h4,q⟩;simp only [t_q2,seq3,set3,o3,va0,xa0,v3,ua0,map_cons,map_nil,N_q2,length_cons,length_nil,Nat.zero_add,Nat.reduceAdd,Nat.reduceSub,List.replicate,cons_append,nil_append,getI,nil3,lst3,addR,ret3,set_cons_succ,set_cons_zero];refine ⟨ns,k,rfl,h1,λ a b p ha hp=>⟨by decide,λ t ht=>?_⟩⟩;have hpt:p ≠ t:=ta0 ya0 ht;have ept:∀ o o',updM (updM μ p o) t o' p=some o:=λ o o'=>by rw [za0 hpt,ya0]
 simp only [ept,ya0,length_cons,length_nil,Nat.zero_add,Nat.reduceAdd,cons_append,nil_append];refine ⟨by decide,λ s hs=>?_⟩;refine ⟨s,deep,a,b,most,rfl,h2,h3,ya0,ha,h4,λ w a' m' μ' x1 x2 x3 x4 x5 x6 x7 x8=>q w μ' (λ c o hc=>?_) [5] x6 x7 x8⟩;have z1:updM μ p (.lst [.int a,.bl b]) c=some o:=by rw [za0 (ta0 hc hp)]; exact hc
 have z2:updM (updM μ p (.lst [.int a,.bl b])) t (.lst [.int most]) c=some o:=by rw [za0 (ta0 z1 ht)]; exact z1
 have hcs:c ≠ s:=ta0 z2 hs;exact x1 c o hcs (by rw [za0 hcs]; exact z2)
end Pv
namespace Pv
abbrev Pt:=Int × Int
noncomputable def e0 (s:T3):Pt:=(s.1,s.2.1)
noncomputable def e1 (s:T3):Pt:=(s.1 + 1 - s.2.2,s.2.1 + s.2.2)
theorem e_ne (s:T3):e0 s ≠ e1 s:=λ h=>by
 unfold e0 e1 at h
 simp_all;omega
noncomputable def has (p:Pt) (s:T3):Bool:=decide (e0 s=p) || decide (e1 s=p)
theorem un1 (s:T3):has (e0 s) s=true:=by unfold has; simp
theorem zd2 (s:T3):has (e1 s) s=true:=by unfold has; simp
theorem zo0 {p:Pt} {s:T3} (h:has p s=true):p=e0 s \/ p=e1 s:=by
 unfold has at h;rw [Bool.or_eq_true,decide_eq_true_eq,decide_eq_true_eq] at h;exact h.imp Eq.symm Eq.symm
def tch (a b:T3):Prop:=∃ p,has p a=true /\ has p b=true
theorem tch.symm {a b:T3} (h:tch a b):tch b a:=let ⟨p,x,y⟩:=h; ⟨p,y,x⟩
noncomputable def deg (ts:List T3) (p:Pt):Nat:=ts.countP (has p)
inductive Conn (ts:List T3) (a:T3):T3->Prop
 | refl:Conn ts a a
 | step {b c:T3}:Conn ts a b->c ∈ ts->tch b c->Conn ts a c
variable {ts u:List T3}
theorem Conn.cl {a b:T3} (hu:∀ x ∈ u,∀ c ∈ ts,tch x c->c ∈ u) (ha:a ∈ u) (h:Conn ts a b):b ∈ u:=by
 induction h with
 | refl=>exact ha
 | step _ hc ht ih=>exact hu _ ih _ hc ht
theorem Conn.trans {a b c:T3} (h:Conn ts a b) (k:Conn ts b c):Conn ts a c:=by
 induction k with
 | refl=>exact h
 | step _ hc ht ih=>exact .step ih hc ht
theorem Conn.symm {ts:List T3} {a b:T3} (ha:a ∈ ts) (h:Conn ts a b):Conn ts b a:=by
 have key:∀ {b},Conn ts a b->b ∈ ts /\ Conn ts b a:=by
  intro b h
  induction h with
  | refl=>exact ⟨ha,.refl⟩
  | step _ hc ht ih=>exact ⟨hc,(Conn.step .refl ih.1 ht.symm).trans ih.2⟩
 exact (key h).2
theorem Conn.mono {us:List T3} {a b:T3} (hs:∀ x,Conn ts a x->x ∈ ts->x ∈ us) (h:Conn ts a b):Conn us a b:=by
 induction h with
 | refl=>exact .refl
 | step hb hc ht ih=>exact .step ih (hs _ (.step hb hc ht) hc) ht
structure IsP (ts:List T3) (us:List (List T3)):Prop where
 perm:us.flatten.Perm ts
 ne:∀ u ∈ us,u ≠ []
 up:∀ u ∈ us,u.Pairwise le3
 cl:∀ u ∈ us,∀ a ∈ u,∀ c ∈ ts,tch a c->c ∈ u
 co:∀ u ∈ us,∀ a ∈ u,∀ b ∈ u,Conn ts a b
variable {us:List (List T3)}
theorem IsP.mem (h:IsP ts us) (hu:u ∈ us) {a:T3} (ha:a ∈ u):a ∈ ts:=h.perm.mem_iff.mp (List.mem_flatten.mpr ⟨u,hu,ha⟩)
theorem IsP.two (hn:ts.Nodup) (h:IsP ts us):(∀ u ∈ us,u.Nodup) /\ us.Pairwise (λ u v=>∀ x,x ∈ u->∀ y,y ∈ v->x ≠ y):=List.pairwise_flatten.mp (h.perm.nodup_iff.mpr hn)
theorem IsP.self (h:IsP ts us) (hu:u ∈ us):IsP u [u] where
 perm:=by simp
 ne:=λ v hv=>by rw [mem_singleton] at hv; subst hv; exact h.ne v hu
 up:=λ v hv=>by rw [mem_singleton] at hv; subst hv; exact h.up v hu
 cl:=λ v hv a ha c hc _=>by simp_all
 co:=λ v hv a ha b hb=>by
  rw [mem_singleton] at hv; subst hv;exact (h.co v hu a ha b hb).mono λ x hx _=>hx.cl (h.cl v hu) ha
noncomputable def tog (p:Pt) (l:List Pt):List Pt:=if p ∈ l then l.erase p else p :: l
theorem tt1 {p:Pt} {l:List Pt} (h:l.Nodup):(tog p l).Nodup:=by
 unfold tog;split
 ·exact h.erase p
 simp_all
theorem xu1 {p q:Pt} {l:List Pt} (h:l.Nodup):q ∈ tog p l ↔ ¬ (q ∈ l ↔ q=p):=by
 unfold tog;by_cases c:p ∈ l
 ·rw [if_pos c,h.mem_erase_iff];constructor
  ·simp_all
  ·intro z;by_cases e:q=p
   ·simp_all
   simp_all
 ·rw [if_neg c,mem_cons];constructor
  ·rintro (rfl | y) z
   ·exact c (z.mpr rfl)
   simp_all
  ·intro z;by_cases e:q=p
   ·exact .inl e
   simp_all
theorem yu1 {p:Pt} {l:List Pt}:(tog p l).length % 2=(l.length + 1) % 2:=by
 unfold tog;split
 ·next c =>
  have:=List.length_pos_of_mem c
  simp_all;omega
 ·simp
noncomputable def Od:List T3->List Pt
 | []=>[]
 | s :: r=>tog (e1 s) (tog (e0 s) (Od r))
theorem us1:∀ ts:List T3,(Od ts).Nodup
 | []=>nodup_nil
 | s :: r=>tt1 (tt1 (us1 r))
theorem si1:∀ ts:List T3,(Od ts).length % 2=0
 | []=>rfl
 | s :: r=>by
  have:=si1 r;unfold Od;rw [yu1];have:=yu1 (p:=e0 s) (l:=Od r);omega
theorem ue1 (p:Pt):∀ ts:List T3,p ∈ Od ts ↔ deg ts p % 2=1
 | []=>by simp [Od,deg]
 | s :: r=>by
  unfold Od;rw [xu1 (tt1 (us1 r)),xu1 (us1 r),ue1 p r];unfold deg;rw [List.countP_cons];have ne:=e_ne s;by_cases c0:p=e0 s
  ·have c1:¬ p=e1 s:=λ z=>ne (c0.symm.trans z);rw [if_pos (by rw [c0]; exact un1 s)]
   simp_all;omega
  ·by_cases c1:p=e1 s
   ·rw [if_pos (by rw [c1]; exact zd2 s)]
    simp_all;omega
   ·rw [if_neg (λ z=>by rcases zo0 z with z | z; exact c0 z; exact c1 z)]
    simp_all
theorem sh1 {p:Pt} (h:deg ts p % 2=1):∃ a ∈ ts,has p a=true:=by
 have:0 < ts.countP (has p):=by unfold deg at h; omega
 simp_all
end Pv
namespace Pv
open PySem Mw
mutual
noncomputable def unr:Dd->List Dd
 | .times n w=>(List.replicate n.toNat (unrs w)).flatten
 | .go n=>[.go n]
 | .jump n=>[.jump n]
 | .turn n=>[.turn n]
noncomputable def unrs:List Dd->List Dd
 | []=>[]
 | d :: r=>unr d ++ unrs r
end
def plns (w:List Dd):Prop:=∀ d ∈ w,∃ n,d=.go n \/ d=.jump n \/ d=.turn n
theorem zx1 {α:Type} {x:α} {w:List α}:∀ {k:Nat},x ∈ (List.replicate k w).flatten->x ∈ w
 | 0,h=>by simp at h
 | k + 1,h=>by
  simp_all
mutual
theorem yg3:∀ d,plns (unr d)
 | .go n=>by intro e h; simp only [unr,mem_singleton] at h; simp_all
 | .jump n=>by intro e h; simp only [unr,mem_singleton] at h; simp_all
 | .turn n=>by intro e h; simp only [unr,mem_singleton] at h; simp_all
 | .times n w=>by intro e h; simp only [unr] at h; exact yj0 w e (zx1 h)
theorem yj0:∀ w,plns (unrs w)
 | []=>by intro e h; simp [unrs] at h
 | d :: r=>by
  intro e h;simp only [unrs,mem_append] at h;rcases h with h | h
  ·exact yg3 d e h
  ·exact yj0 r e h
end
theorem sl1 (w:List Dd) (h:oks w):∀ k:Nat,oks (List.replicate k w).flatten
 | 0=>by simp [oks]
 | k + 1=>by
  rw [replicate_succ,flatten_cons];exact (un0 _ _).mpr ⟨h,sl1 w h k⟩
mutual
theorem za4:∀ d,okd d->oks (unr d)
 | .go n,h=>by trivial
 | .jump n,h=>by trivial
 | .turn n,h=>by trivial
 | .times n w,h=>by
  simp only [okd] at h;simp only [unr];exact sl1 _ (vv0 w h.2) _
theorem vv0:∀ w,oks w->oks (unrs w)
 | [],h=>by assumption
 | d :: r,h=>by
  simp only [oks] at h;simp only [unrs];exact (un0 _ _).mpr ⟨za4 d h.1,vv0 r h.2⟩
end
theorem yu2 {α:Type} (w:List α):∀ k:Nat,(List.replicate k w).flatten.length=k * w.length
 | 0=>by simp
 | k + 1=>by simp
theorem sr0 (w:List Dd):∀ k:Nat,encs (List.replicate k w).flatten=(List.replicate k (encs w)).flatten
 | 0=>by simp [encs]
 | k + 1=>by rw [replicate_succ,flatten_cons,tf0,sr0 w k,replicate_succ,flatten_cons]
theorem z2:2<=sizeLine:=by decide
theorem z3:3<=sizeLine:=by decide
noncomputable def encQ (p:Int × Int):D:=.tup [.int p.1,.int p.2]
noncomputable def mnP (p q:Int × Int):Int × Int:=if ltP q.1 q.2 p.1 p.2=true then q else p
noncomputable def btw (p q:Int × Int):T3:=((mnP p q).1,(mnP p q).2,if p.2=q.2 then 0 else 1)
def zg4:Sp3:=λ ds μ Q=>∃ p q,ds=[encQ p,encQ q] /\ Q (encT (btw p q)) μ
theorem xd3 (p q:Int × Int) (μ:Mu) (K:VK3):minQ [.tup [.int p.1,.int p.2],.tup [.int q.1,.int q.2]] μ K=K (encQ (mnP p q)) μ:=by
 unfold mnP;show K (if ltP q.1 q.2 p.1 p.2 then .tup [.int q.1,.int q.2] else .tup [.int p.1,.int p.2]) μ=_;split <;> rfl
theorem zq4:RdQ zg4 vi2 xx3:=by
 rintro ds μ Q ⟨p,q,rfl,k⟩;unfold btw at k;show vi2 _ [some (.tup [.int p.1,.int p.2]),some (.tup [.int q.1,.int q.2]),none] μ;dsimp only [vi2,seq3,set3,va0,xa0,v3,nil3,getI];rw [xd3];show if decide (p.2=q.2)=true then _ else _;by_cases c:p.2=q.2
 ·rw [if_pos c] at k; rw [decide_eq_true c,if_pos rfl]; exact ⟨z3,k⟩
 ·rw [if_neg c] at k; rw [decide_eq_false c,if_neg [27]]; exact ⟨z3,k⟩
variable {μ:Mu} {Q:VK3}
theorem va4 {p:Addr} {l:List D} (h:μ p=some (.lst l)) (k:Q (.tup l) μ):tupR [.ref p] μ Q:=by
 unfold tupR
 simp_all
variable {i:Int}
theorem ug0 {p:Addr} {l:List D} {d:D} {K:VK3} (h:μ p=some (.lst l)) (e:atI l i=some d) (k:K d μ):ixR (.ref p) (.int i) μ K:=by
 unfold ixR
 simp_all
noncomputable def gp (t:List Pt) (i:Nat):Pt:=t.getD i (0,0)
theorem at_q {t:List Pt} (h0:0<=i) (h1:i < t.length):atI (t.map encQ) i=some (encQ (gp t i.toNat)):=by
 have h2:i.toNat < t.length:=by omega
 unfold atI ixN gp
 simp_all
theorem wg1 {lo:Int} {n:Nat} {x:D} (h:x ∈ rngD lo n):∃ i:Nat,i < n /\ x=.int (lo + i):=by
 unfold rngD at h;obtain ⟨i,hi,rfl⟩:=List.mem_map.mp h;exact ⟨i,List.mem_range.mp hi,rfl⟩
noncomputable def gI (g:Pt->Pt->D) (t:List Pt) (d:D):D:=match d with
 | .int i=>g (gp t (i - 1).toNat) (gp t i.toNat)
 | _=>.non
theorem zc5 (g:Pt->Pt->D) (t:List Pt) (n:Nat):(rngD 1 n).map (gI g t)=(List.range n).map λ i=>g (gp t i) (gp t (i + 1)):=by
 unfold rngD;rw [map_map];apply map_congr_left;intro i _;show g (gp t (1 + (i:Int) - 1).toNat) (gp t (1 + (i:Int)).toNat)=_;rw [show (1 + (i:Int) - 1).toNat=i by omega,show (1 + (i:Int)).toNat=i + 1 by omega]
theorem uo1 {sp:Sp3} {p q:Addr} {t:List Pt} {o:Option D} (g:Pt->Pt->D) (hq:μ q=some (.lst (t.map encQ))) (hl:t.length < 1000) (hp:μ p=none)
    (hx:∀ a b μ' (R:VK3),R (g a b) μ'->sp [encQ a,encQ b] μ' R) (hQ:∀ μ',Ext μ μ'->μ' p=some (.lst ((List.range (t.length - 1)).map λ i=>g (gp t i) (gp t (i + 1))))->Q (.ref p) μ') :
    vx2 (λ _=>True) p (gn3 0) tt3 (va0 sp (xa0 (o3 ixR (v3 1) (o3 subR (v3 0) [11])) (xa0 (o3 ixR (v3 1) (v3 0)) nil3))) Q (rngD 1 (((t.map encQ).length:Int) - 1).toNat) [o,some (.ref q)] (updM μ p (.lst [])):=by
 have z:(1000:Nat) < sizeLine:=by decide
 have en:(((t.map encQ).length:Int) - 1).toNat=t.length - 1:=by simp
 rw [en];refine zf0 (rest:=[some (.ref q)]) (gI g t) hp (by rw [wp0]; omega) (λ _ _=>trivial) ?_ ?_
 ·intro x hx0 μ2 R ex kk;obtain ⟨i,hi,rfl⟩:=wg1 hx0;show ixR (.ref q) (.int (1 + (i:Int) - 1)) μ2 (λ d μ1=>ixR (.ref q) (.int (1 + (i:Int))) μ1 (λ e μ3=>sp [d,e] μ3 R));refine ug0 (ex _ _ hq) (at_q (i:=1 + (i:Int) - 1) [5] [5]) ?_;refine ug0 (ex _ _ hq) (at_q (i:=1 + (i:Int)) [5] [5]) ?_;exact hx _ _ _ _ (kk μ2 (Ext.refl _))
 ·intro μ2 ex ep;rw [zc5] at ep;exact hQ μ2 ex ep
def yg0 (t:List Pt):List T3:=(List.range (t.length - 1)).map λ i=>btw (gp t i) (gp t (i + 1))
def spAl:Sp3:=λ ds μ Q=>∃ (q:Addr) (t:List Pt),ds=[.ref q] /\ μ q=some (.lst (t.map encQ)) /\ t.length < 1000 /\ ∀ r μ',Ext μ μ'->μ r=none->μ' r=some (.lst ((yg0 t).map encT))->Q (.ref r) μ'
theorem yq4:RdQ spAl (ug3 zg4) ty2:=by
 rintro ds μ Q ⟨q,t,rfl,hq,hl,k⟩;simp only [ug3,ret3,te0,ir23,xa0,c3,va0,v3,ua0,map_cons,map_nil,ty2,length_cons,length_nil,Nat.zero_add,Nat.reduceSub,List.replicate,cons_append,nil_append,getI,nil3,lenR,hq,subR,Option.bind_none,Option.bind_some];refine ⟨⟨by decide,by decide,by omega,by simp_all;omega⟩,λ p hp=>?_⟩;refine uo1 (λ a b=>encT (btw a b)) hq hl hp (λ a b μ' R r=>⟨a,b,rfl,r⟩) λ μ' ex ep=>?_;exact k p μ' ex hp (by rw [ep]; unfold yg0; simp)
theorem zu2 {a b:T3} (h:le3 a b) (k:le3 b a):a=b:=by
 unfold le3 at h k;have g:∀ {a b:T3},lt3 a b=false->¬ (a.1 < b.1 \/ a.1=b.1 /\ (a.2.1 < b.2.1 \/ a.2.1=b.2.1 /\ a.2.2 < b.2.2)):=λ h z=>by rw [lt3_iff.mpr z] at h; cases h
 have h:=g h;have k:=g k;have l:∀ {a b:Int},¬ a < b->¬ b < a->a=b:=λ h k=>Int.le_antisymm (Int.not_lt.mp k) (Int.not_lt.mp h);have e1:=l (λ z=>h (.inl z)) λ z=>k (.inl z);have e2:=l (λ z=>h (.inr ⟨e1,.inl z⟩)) λ z=>k (.inr ⟨e1.symm,.inl z⟩);have e3:=l (λ z=>h (.inr ⟨e1,.inr ⟨e2,z⟩⟩)) λ z=>k (.inr ⟨e1.symm,.inr ⟨e2.symm,z⟩⟩);exact (Prod.ext e1 (Prod.ext e2 e3)).symm
variable {us:List T3}
theorem uniq {vs:List T3} (a1:us.Perm vs) (a2:us.Pairwise le3) (a3:vs.Pairwise le3):us=vs:=List.Perm.eq_of_pairwise (λ a b _ _ h k=>zu2 h k) a2 a3 a1
theorem uc5 {p q:Addr} {l m:List D} (h1:μ p=some (.lst l)) (h2:μ q=some (.lst m)) (hl:l.length + m.length<=sizeLine) (k:Q .non (updM μ p (.lst (l ++ m)))):extR (.ref p) [.ref q] μ Q:=by
 unfold extR
 simp_all
noncomputable def pt (p:Pen) (i:Nat):Pt:=(p.1 + cs p.2.2 * (i:Int),p.2.1 + sn p.2.2 * (i:Int))
noncomputable def ln (p:Pen) (n:Nat):List T3:=(List.range n).map λ i=>btw (pt p i) (pt p (i + 1))
theorem wp1 (p:Pen) (n:Nat):yg0 ((List.range (n + 1)).map (pt p))=ln p n:=by
 unfold yg0 ln;rw [length_map,length_range,Nat.add_sub_cancel];apply map_congr_left;intro i hi;have hi':=List.mem_range.mp hi;unfold gp;rw [getD_eq_getElem?_getD,getD_eq_getElem?_getD,getElem?_map,getElem?_map,List.getElem?_range [5],List.getElem?_range [5]];rfl
theorem xb2 (p:Pen) (n:Nat):(ln p n).length=n:=by simp [ln]
noncomputable def fP (p:Pen) (d:D):D:=match d with
 | .int i=>encQ (p.1 + cs p.2.2 * i,p.2.1 + sn p.2.2 * i)
 | _=>.non
theorem ue3 (p:Pen) (n:Nat):(rngD 0 n).map (fP p)=((List.range n).map (pt p)).map encQ:=by
 unfold rngD;rw [map_map,map_map];apply map_congr_left;intro i _;show encQ (p.1 + cs p.2.2 * (0 + (i:Int)),p.2.1 + sn p.2.2 * (0 + (i:Int)))=encQ (pt p i);rw [Int.zero_add];rfl
def spGo:Sp3:=λ ds μ Q=>∃ (x:D) (p:Pen) (n:Int),ds=[x,.int n] /\ isP x p /\ Hd p /\ 0<=n /\ n<=400 /\ ∀ r μ',Ext μ μ'->μ r=none->μ' r=some (.lst ((ln p n.toNat).map encT))->Q (.ref r) μ'
theorem up4:RdQ spGo (wb4 spAl) uw3:=by
 rintro ds μ Q ⟨x,p,n,rfl,hx,hp,h0,h1,q⟩;have hz:(1000:Nat) < sizeLine:=by decide
 rcases hx with rfl | rfl
 ·show ixR xj0 (.int p.2.2) μ _;refine zs3 (uy0 hp) ?_;refine ⟨⟨by omega,by omega⟩,λ r hr=>?_⟩;refine zf0 (rest:=[some (encP p),some (.ktp [.int (cs p.2.2),.int (sn p.2.2)])]) (fP p) hr (by rw [wp0]; omega) (λ _ _=>trivial) ?_ ?_
  ·intro x hx μ2 R ex kk;obtain ⟨i,hi,rfl⟩:=wg1 hx;exact ⟨.inl (.inl (sl0 _)),.inl (.inl (zl0 _)),z2,kk μ2 (Ext.refl _)⟩
  ·intro μ2 ex ep;rw [ue3,show (n + 1).toNat=n.toNat + 1 by omega] at ep;refine ⟨r,_,rfl,ep,by simp_all;omega,λ g μ3 ex3 hg eg=>?_⟩;rw [wp1] at eg;exact q g μ3 (ex.trans ex3) (ex.free hg) eg
 ·show ixR xj0 (.int p.2.2) μ _;refine zs3 (uy0 hp) ?_;refine ⟨⟨by omega,by omega⟩,λ r hr=>?_⟩;refine zf0 (rest:=[some (encK p),some (.ktp [.int (cs p.2.2),.int (sn p.2.2)])]) (fP p) hr (by rw [wp0]; omega) (λ _ _=>trivial) ?_ ?_
  ·intro x hx μ2 R ex kk;obtain ⟨i,hi,rfl⟩:=wg1 hx;exact ⟨.inl (.inl (sl0 _)),.inl (.inl (zl0 _)),z2,kk μ2 (Ext.refl _)⟩
  ·intro μ2 ex ep;rw [ue3,show (n + 1).toNat=n.toNat + 1 by omega] at ep;refine ⟨r,_,rfl,ep,by simp_all;omega,λ g μ3 ex3 hg eg=>?_⟩;rw [wp1] at eg;exact q g μ3 (ex.trans ex3) (ex.free hg) eg
mutual
theorem ua3:∀ d,okd d->((unr d).length:Int)=dn d
 | .go n,_=>by simp [unr,dn]
 | .jump n,_=>by simp [unr,dn]
 | .turn n,_=>by simp [unr,dn]
 | .times n w,h=>by
  have h':(0<=n /\ n<=G) /\ oks w:=by simpa [okd] using h
  have i:=zj0 w h'.2;simp only [unr,dn,yu2];rw [Int.natCast_mul,i,Int.toNat_of_nonneg h'.1.1]
theorem zj0:∀ w,oks w->((unrs w).length:Int)=dns w
 | [],_=>by simp [unrs,dns]
 | d :: r,h=>by
  have h':okd d /\ oks r:=by simpa [oks] using h
  simp only [unrs,dns,length_append];rw [Int.natCast_add,ua3 d h'.1,zj0 r h'.2]
end
theorem vk1 (w:List Dd):∀ k:Nat,sks (List.replicate k w).flatten=(k:Int) * sks w
 | 0=>by simp [sks]
 | k + 1=>by
  rw [replicate_succ,flatten_cons,um0,vk1 w k,Int.natCast_add,Int.add_mul];omega
mutual
theorem ya4:∀ d,okd d->sks (unr d)=sk d
 | .go n,_=>by simp [unr,sks,sk]
 | .jump n,_=>by simp [unr,sks,sk]
 | .turn n,_=>by simp [unr,sks,sk]
 | .times n w,h=>by
  have h':(0<=n /\ n<=G) /\ oks w:=by simpa [okd] using h
  simp only [unr,sk];rw [vk1,so0 w h'.2,Int.toNat_of_nonneg h'.1.1]
theorem so0:∀ w,oks w->sks (unrs w)=sks w
 | [],_=>by simp [unrs]
 | d :: r,h=>by
  have h':okd d /\ oks r:=by simpa [oks] using h
  simp only [unrs,sks];rw [um0,ya4 d h'.1,so0 r h'.2]
end
def spPl (j:Nat):Sp3:=λ ds μ Q=>∃ (w:List Dd),ds=[.tup (encs w)] /\ deps w < j /\ deps w < 5 /\ cnts w<=60 /\ oks w /\ dns w<=400 /\ ∀ p μ',Ext μ μ'->μ p=none->μ' p=some (.lst (encs (unrs w)))->Q (.ref p) μ'
theorem ti1 {p:Addr} {l:List D} {d:D} (h1:μ p=some (.lst l)) (hl:l.length < sizeLine) (k:Q .non (updM μ p (.lst (l ++ [d])))):appR (.ref p) [d] μ Q:=by
 unfold appR
 simp_all
theorem zd5 (w:List Dd) (h:oks w):0<=dns w:=by rw [<- zj0 w h]; omega
def PdI (w:List Dd) (f:Addr) (μ:Mu) (l:List D) (ρ:St3) (μ':Mu):Prop:=∃ (r acc:List Dd) (o:Option D),l=encs r /\ ρ=[some (.tup (encs w)),some (.ref f),o] /\ Ext μ μ' /\ μ' f=some (.lst (encs acc)) /\ acc ++ unrs r=unrs w /\ deps r<=deps w /\ cnts r<=cnts w /\ oks r
theorem wq4 (j:Nat):RdQ (spPl (j + 1)) (tb4 (tj2 5) (spPl j)) yx3:=by
 rintro ds μ Q ⟨w,rfl,h1,h2,h3,h4,h5,q⟩;have hz:(1000:Nat) < sizeLine:=by decide
 have lw:=zj0 w h4;refine ⟨Nat.zero_le _,λ f hf=>?_⟩;refine vd0 (PdI w f μ) ?_ (λ _ _ _ _=>trivial) ?_ ?_
 ·exact ⟨w,[],none,rfl,rfl,Ext.new hf,by rw [ya0]; simp [encs],by simp,Nat.le_refl _,Nat.le_refl _,h4⟩
 ·rintro ρ μ' ⟨r,acc,o,e,rfl,ex,ef,ea,_⟩;cases r with
  | nil =>
   simp only [unrs,append_nil] at ea;subst ea;exact q f μ' ex hf ef
  | cons _ _=>simp [encs] at e
 ·rintro x rest ρ μ' ⟨r,acc,o,e,rfl,ex,ef,ea,r1,r2,r3⟩;cases r with
  | nil=>simp [encs] at e
  | cons d r =>
   simp only [encs,List.cons.injEq] at e;obtain ⟨rfl,rfl⟩:=e;simp only [deps,cnts,oks,unrs] at r1 r2 r3 ea
   have la:acc.length + (unr d).length<=400:=by
    have:=congrArg List.length ea;simp only [length_append] at this;omega
   have exu:∀ {μ2:Mu} {v:MO},Ext μ μ2->Ext μ (updM μ2 f v):=λ e g o hg=>by
    rw [za0 (ta0 hg hf)]; exact e g o hg
   have plain:unr d=[d]->appR (.ref f) [enc d] μ' (λ _ μ2=>PdI w f μ (encs r) [some (.tup (encs w)),some (.ref f),some (enc d)] μ2):=λ hu=>by
    refine ti1 ef (by rw [wc0]; omega) ⟨r,acc ++ [d],_,rfl,rfl,exu ex,?_,?_,by omega,by omega,r3.2⟩
    ·rw [ya0,tf0]; simp only [encs]
    simp_all
   cases d with
   | go n => conv=>whnf
             rw [ef];exact plain (by simp only [unr])
   | jump n => conv=>whnf
               rw [ef];exact plain (by simp only [unr])
   | turn n => conv=>whnf
               rw [ef];exact plain (by simp only [unr])
   | times n v =>
    have r1':=r1;simp only [okd,dep,cnt] at r1 r2 r3;refine ⟨.times n v,rfl,by omega,by omega,by simp only [cnt]; omega,by simp only [okd]; exact r3.1,λ μ2 ex2=>?_⟩;have ld:=ua3 (.times n v) (by simp only [okd]; exact r3.1);have lv:=zj0 v r3.1.2;by_cases c:0 < dn (.times n v)
    ·show if (decide (0 < dn (.times n v)))=true then _ else _;rw [if_pos (decide_eq_true c)];simp only [dn] at c ld;have vn:=zd5 v r3.1.2
     have n1:1<=n:=by
      rcases Int.lt_or_le 0 n with z | z
      ·omega
      ·exfalso;have:n * dns v<=0:=Int.mul_nonpos_of_nonpos_of_nonneg z vn;omega
     have v1:1<=dns v:=by
      rcases Int.lt_or_le 0 (dns v) with z | z
      ·omega
      ·exfalso;have z0:dns v=0:=by omega
       simp_all
     have nv:n * dns v<=400:=by omega
     have n4:n<=400:=Int.le_trans (by have:=Int.mul_le_mul_of_nonneg_left v1 (show 0<=n by omega); omega) nv;have v4:dns v<=400:=Int.le_trans (by have:=Int.mul_le_mul_of_nonneg_right n1 vn; omega) nv;have ef2:=ex2 _ _ ef
     conv=>whnf
     rw [ef2];refine ⟨v,rfl,by omega,by omega,by omega,r3.1.2,v4,λ g μ3 ex3 hg eg=>?_⟩
     conv=>whnf
     rw [eg];refine ⟨⟨⟨by omega,by omega⟩,?_⟩,λ t ht=>?_⟩
     ·have:(encs (unrs v)).length * n.toNat<=400 * 400:=Nat.mul_le_mul (by rw [wc0]; omega) [5];omega
     have ef3:=ex3 _ _ ef2;have hft:f ≠ t:=ta0 ef3 ht;have e4:updM μ3 t (.lst (List.replicate n.toNat (encs (unrs v))).flatten) f=some (.lst (encs acc)):=by rw [za0 hft]; exact ef3
     have e5:updM μ3 t (.lst (List.replicate n.toNat (encs (unrs v))).flatten) t=some (.lst (List.replicate n.toNat (encs (unrs v))).flatten):=ya0;have x4:Ext μ (updM μ3 t (.lst (List.replicate n.toNat (encs (unrs v))).flatten)):=(ex.trans ex2).trans (ex3.trans (Ext.new ht));generalize updM μ3 t (.lst (List.replicate n.toNat (encs (unrs v))).flatten)=μ4 at e4 e5 x4
     conv=>whnf
     rw [e4,e5];refine ⟨?_,r,acc ++ unr (.times n v),_,rfl,rfl,exu x4,?_,by rw [<- ea]; simp,by omega,by omega,r3.2⟩
     ·rw [<- sr0,wc0,wc0];simp only [unr] at la;omega
     ·rw [ya0,tf0,<- sr0]; simp only [unr]
    ·show if (decide (0 < dn (.times n v)))=true then _ else _;rw [if_neg (λ e=>c (of_decide_eq_true e))];have u0:unr (.times n v)=[]:=List.eq_nil_of_length_eq_zero [5];rw [u0,nil_append] at ea;exact ⟨r,acc,_,rfl,rfl,ex.trans ex2,ex2 _ _ ef,ea,by omega,by omega,r3.2⟩
noncomputable def sg (p:Pen):Dd->List T3
 | .go n=>ln p n.toNat
 | _=>[]
noncomputable def wk:Pen->List Dd->List T3
 | _,[]=>[]
 | p,d :: r=>sg p d ++ wk (led p (pd d)) r
theorem xj1:∀ (w:List Dd) (p:Pen),plns w->oks w->((wk p w).length:Int)=sks w
 | [],p,_,_=>by simp [wk,sks]
 | d :: r,p,h,o=>by
  have o':okd d /\ oks r:=by simpa [oks] using o
  have i:=xj1 r (led p (pd d)) (λ x hx=>h x (mem_cons_of_mem _ hx)) o'.2;simp only [wk,sks,length_append];rw [Int.natCast_add,i];obtain ⟨n,e⟩:=h d (mem_cons_self ..);rcases e with rfl | rfl | rfl
  ·have:0<=n:=by have:=o'.1; simp only [okd] at this; exact this.1
   simp only [sg,sk,xb2];omega
  ·simp [sg,sk]
  ·simp [sg,sk]
def spSf:Sp3:=λ ds μ Q=>∃ (x0:D) (p:Pen) (w:List Dd),ds=[x0,.tup (encs w)] /\ isP x0 p /\ Hd p /\ Wd w /\ dns w<=400 /\ sks w<=400 /\ ∀ g μ',Ext μ μ'->μ g=none->μ' g=some (.lst ((wk p (unrs w)).map encT))->Q (.ref g) μ'
def SfI (x0:D) (w:List Dd) (g f:Addr) (p:Pen) (μ:Mu) (l:List D) (ρ:St3) (μ':Mu):Prop:=∃ (r:List Dd) (c:Pen) (y:D) (L:List T3) (o:Option D),l=encs r /\ isP y c /\ ρ=[some x0,some (.tup (encs w)),some (.ref g),some y,o] /\ Ext μ μ' /\ μ' f=some (.lst (encs (unrs w))) /\ μ' g=some (.lst (L.map encT)) /\ L ++ wk c r=wk p (unrs w) /\ plns r /\ oks r /\ Hd c
theorem tp4:RdQ spSf (vb4 vz0 spPd (spPl 5) spGo) tw3:=by
 rintro ds μ Q ⟨x0,p,w,rfl,hx0,hp0,hw,hd,hs,q⟩;have hz:(1000:Nat) < sizeLine:=by decide
 refine ⟨Nat.zero_le _,λ g hg=>?_⟩;refine ⟨w,rfl,by have:=hw.2.1; omega,by have:=hw.2.1; omega,by have:=hw.2.2; omega,hw.1,hd,λ f μ1 ex1 hf ef=>?_⟩;have gf:f ≠ g:=λ z=>by subst z; rw [ya0] at hf; cases hf
 have ou:=vv0 w hw.1;have pu:=yj0 w;have tot:((wk p (unrs w)).length:Int)<=400:=by rw [xj1 _ _ pu ou,so0 w hw.1]; exact hs
 conv=>whnf
 rw [ef];refine vd0 (SfI x0 w g f p μ) ?_ ?_ ?_ ?_
 ·exact ⟨unrs w,p,x0,[],none,rfl,hx0,rfl,(Ext.new hg).trans ex1,ef,ex1 _ _ ya0,by simp,pu,ou,hp0⟩
 ·rintro l ρ μ' ⟨r,c,y,L,o,_,_,_,_,ef',_⟩;exact ef'
 ·rintro ρ μ' ⟨r,c,y,L,o,e,hy,rfl,ex,ef',eg,ea,_⟩;cases r with
  | nil =>
   simp only [wk,append_nil] at ea;subst ea;exact q g μ' ex hg eg
  | cons _ _=>simp [encs] at e
 ·rintro x rest ρ μ' ⟨r,c,y,L,o,e,hy,rfl,ex,ef',eg,ea,pr,oo,hc⟩;cases r with
  | nil=>simp [encs] at e
  | cons d r =>
   simp only [encs,List.cons.injEq] at e;obtain ⟨rfl,rfl⟩:=e;simp only [oks] at oo;have pr':plns r:=λ x hx=>pr x (mem_cons_of_mem _ hx)
   have ll:L.length + (sg c d).length<=400:=by
    have:=congrArg List.length ea;simp only [wk,length_append] at this;omega
   have nxt:∀ (L':List T3) μ2,L'=L ++ sg c d->Ext μ μ2->μ2 f=some (.lst (encs (unrs w)))->μ2 g=some (.lst (L'.map encT))->SfI x0 w g f p μ (encs r) [some x0,some (.tup (encs w)),some (.ref g),some (encP (led c (pd d))),some (enc d)] μ2:=by
    intro L' μ2 eL e1 e2 e3;exact ⟨r,led c (pd d),_,L',_,rfl,.inl rfl,rfl,e1,e2,e3,by rw [eL,<- ea]; simp only [wk,append_assoc],pr',oo.2,vc1 _ _⟩
   obtain ⟨n,hn⟩:=pr d (mem_cons_self ..);rcases hn with rfl | rfl | rfl
   ·have n0:0<=n:=by have:=oo.1; simp only [okd] at this; exact this.1
    simp only [sg,xb2] at ll
    conv=>whnf
    rw [eg];refine ⟨y,c,n,rfl,hy,hc,n0,by omega,λ t μ2 ex2 ht et=>?_⟩;have eg2:=ex2 _ _ eg;have ef2:=ex2 _ _ ef'
    conv=>whnf
    rw [eg2,et];refine ⟨by rw [length_map,length_map,xb2]; omega,?_⟩;refine ⟨.go n,rfl,⟨n,.inl rfl⟩,?_⟩;refine ⟨y,_,c,_,rfl,hy,.inl rfl,hc,nxt (L ++ ln c n.toNat) _ rfl ?_ ?_ ?_⟩
    ·intro a b hab;rw [za0 (ta0 hab hg)];exact ex2 _ _ (ex _ _ hab)
    ·rw [za0 gf]; exact ef2
    ·rw [ya0,map_append]
   ·refine ⟨.jump n,rfl,⟨n,.inr (.inl rfl)⟩,⟨y,_,c,_,rfl,hy,.inl rfl,hc,nxt L _ (by simp [sg]) ex ef' eg⟩⟩
   ·refine ⟨.turn n,rfl,⟨n,.inr (.inr rfl)⟩,⟨y,_,c,_,rfl,hy,.inl rfl,hc,nxt L _ (by simp [sg]) ex ef' eg⟩⟩
def IsPic (L us:List T3):Prop:=us.Nodup /\ us.Pairwise le3 /\ ∀ x,x ∈ us ↔ x ∈ L
theorem IsPic.one {L vs:List T3} (h:IsPic L us) (k:IsPic L vs):us=vs :=
 uniq ((List.perm_ext_iff_of_nodup h.1 k.1).mpr λ x=>(h.2.2 x).trans (k.2.2 x).symm) h.2.1 k.2.1
theorem xw4 {ks L:List T3} (nd:ks.Nodup) (mk:∀ x,x ∈ ks ↔ x ∈ L) (pm:us.Perm ks) (up:us.Pairwise le3):IsPic L us :=
 ⟨pm.nodup_iff.mpr nd,up,λ x=>(pm.mem_iff).trans (mk x)⟩
def spPw:Sp3:=λ ds μ Q=>∃ (g:Addr) (L:List T3),ds=[.ref g] /\ μ g=some (.lst (L.map encT)) /\ SB L /\ ∀ (us:List T3) μ',Ext μ μ'->IsPic L us->Q (.tup (us.map encT)) μ'
theorem uq4:RdQ spPw xc4 wx3:=by
 rintro ds μ Q ⟨g,L,rfl,hg,hl,q⟩;refine ⟨L,hg,hl,λ ks nd mk us pm up r hr=>?_⟩;exact va4 ya0 (q us _ (Ext.new hr) (xw4 nd mk pm up))
end Pv
namespace Pv
open PySem
abbrev Lk2:=Pt × Pt
abbrev Wt:=Pt × Option Nat
def jn (l:Lk2) (p q:Pt):Prop:=(l.1=p /\ l.2=q) \/ (l.1=q /\ l.2=p)
def ic (l:Lk2) (p:Pt):Prop:=l.1=p \/ l.2=p
noncomputable def oth (l:Lk2) (p:Pt):Pt:=if l.1=p then l.2 else l.1
theorem ud3 {l:Lk2} {p:Pt} (h:ic l p):jn l p (oth l p):=by
 unfold oth;split
 ·next e=>exact .inl ⟨e,rfl⟩
 ·next e=>exact .inr ⟨rfl,h.resolve_left e⟩
noncomputable def upF (rem:Pt->List Nat) (p:Pt) (l:List Nat):Pt->List Nat:=λ q=>if q=p then l else rem q
inductive Rch (L:List Lk2) (s:Pt) (r0:Pt->List Nat):(Pt->List Nat)->List Nat->List Wt->List Wt->Prop
 | init:Rch L s r0 r0 [] [(s,none)] []
 | pop {rem:Pt->List Nat} {U:List Nat} {st way:List Wt} {w:Wt} (h:Rch L s r0 rem U (st ++ [w]) way) (ha:∀ n ∈ rem w.1,n ∈ U):Rch L s r0 (upF rem w.1 []) U st (way ++ [w])
 | push {rem:Pt->List Nat} {U r z:List Nat} {n:Nat} {l:Lk2} {st way:List Wt} {w:Wt} (h:Rch L s r0 rem U (st ++ [w]) way) (e:rem w.1=r ++ n :: z) (hn:n ∉ U) (hz:∀ m ∈ z,m ∈ U) (hl:L[n]?=some l) :
     Rch L s r0 (upF rem w.1 r) (U ++ [n]) (st ++ [w] ++ [(oth l w.1,some n)]) way
structure Wk (L:List Lk2) (s:Pt) (rem:Pt->List Nat) (U:List Nat) (st way:List Wt):Prop where
 nd:U.Nodup
 us:∀ n ∈ U,n < L.length
 rm:∀ p n,n ∈ rem p->∃ l,L[n]?=some l /\ ic l p
 pt:∀ w ∈ st ++ way,∃ l ∈ L,ic l w.1
 ln:st.length + way.length=U.length + 1
 bt:(st=[] /\ ∃ ws,way=ws ++ [(s,none)] /\ ∀ w ∈ ws,∃ n,w.2=some n) \/ (∃ rs,st=(s,none) :: rs /\ (∀ w ∈ rs,∃ n,w.2=some n) /\ ∀ w ∈ way,∃ n,w.2=some n)
variable {L:List Lk2} {s:Pt} {rem:Pt->List Nat} {U:List Nat}
theorem Wk.small {st way:List Wt} (h:Wk L s rem U st way):U.length<=L.length:=by
 have:=List.Nodup.length_le_of_subset (l₂:=List.range L.length) h.nd λ n hn=>List.mem_range.mpr (h.us n hn);simpa using this
variable {n:Nat}
theorem zt1 {p q:Pt} {l:List Nat} (h:n ∈ upF rem p l q) (k:∀ m ∈ l,m ∈ rem p):n ∈ rem q:=by
 unfold upF at h;split at h
 ·simp_all
 ·exact h
theorem Rch.wk {r0:Pt->List Nat} {st way:List Wt} (h:Rch L s r0 rem U st way) (hs:∃ l ∈ L,ic l s) (h0:∀ p n,n ∈ r0 p->∃ l,L[n]?=some l /\ ic l p):Wk L s rem U st way:=by
 induction h with
 | init=>exact ⟨nodup_nil,λ _ h=>(nomatch h),h0,λ w hw=>by simp_all,rfl,.inr ⟨[],rfl,λ _ h=>(nomatch h),λ _ h=>(nomatch h)⟩⟩
 | @pop rem U st way w h ha ih =>
  refine ⟨ih.nd,ih.us,λ p n hn=>ih.rm p n (zt1 hn λ _ h=>(nomatch h)),λ x hx=>ih.pt x ?_,?_,?_⟩
  ·simp only [mem_append,mem_singleton] at hx ⊢;rcases hx with h | h | h
   ·exact .inl (.inl h)
   ·exact .inr h
   simp_all
  ·have:=ih.ln; simp_all;omega
  ·rcases ih.bt with ⟨e,_⟩ | ⟨rs,e,a,b⟩
   ·simp at e
   ·cases st with
    | nil =>
     simp_all;omega
    | cons x st =>
     simp only [cons_append,List.cons.injEq] at e;obtain ⟨rfl,rfl⟩:=e;refine .inr ⟨st,rfl,λ y hy=>a y (mem_append_left _ hy),λ y hy=>?_⟩;rcases List.mem_append.mp hy with z | z
     ·exact b y z
     simp [*]
 | @push rem U r z n l st way w h e hn hz hl ih =>
  have hnl:n < L.length:=(List.getElem?_eq_some_iff.mp hl).1;obtain ⟨l',e',hi⟩:=ih.rm w.1 n (by rw [e]; simp);rw [hl] at e'; cases e';refine ⟨?_,λ m hm=>?_,λ p m hm=>ih.rm p m (zt1 hm λ k hk=>by simp_all),λ x hx=>?_,?_,?_⟩
  ·rw [nodup_append];exact ⟨ih.nd,by simp,λ a ha b hb z=>by simp_all⟩
  ·rcases List.mem_append.mp hm with z | z
   ·exact ih.us m z
   simp_all
  ·simp only [mem_append,mem_singleton] at hx;rcases hx with ((h | h) | h) | h
   ·exact ih.pt x (by simp [h])
   ·exact ih.pt x (by simp [h])
   ·subst h;refine ⟨l,mem_of_getElem? hl,?_⟩;rcases ud3 hi with ⟨_,b⟩ | ⟨a,_⟩
    ·exact .inr b
    ·exact .inl a
   ·exact ih.pt x (by simp [h])
  ·have:=ih.ln; simp_all;omega
  ·rcases ih.bt with ⟨e,_⟩ | ⟨rs,e,a,b⟩
   ·simp at e
   ·refine .inr ⟨rs ++ [(oth l w.1,some n)],by rw [e]; rfl,λ y hy=>?_,b⟩;rcases List.mem_append.mp hy with z | z
    ·exact a y z
    simp_all
def ChG (L:List Lk2) (g:Pt):List Wt->Prop
 | []=>True
 | [w]=>∃ n l,w.2=some n /\ L[n]?=some l /\ jn l w.1 g
 | w :: w' :: r=>(∃ n l,w.2=some n /\ L[n]?=some l /\ jn l w.1 w'.1) /\ ChG L g (w' :: r)
theorem ChG.snoc {L:List Lk2} {g g':Pt} {w:Wt} {n:Nat} {l:Lk2} (e:w.2=some n) (hl:L[n]?=some l) (hj:jn l w.1 g'):∀ {ws:List Wt},ChG L g ws->(ws ≠ []->w.1=g)->ChG L g' (ws ++ [w])
 | [],_,_=>⟨n,l,e,hl,hj⟩
 | [x],h,hg=>by
  obtain ⟨m,k,e1,e2,e3⟩:=h;refine ⟨⟨m,k,e1,e2,?_⟩,n,l,e,hl,hj⟩
  simp_all
 | x :: y :: r,h,hg=>⟨h.1,ChG.snoc e hl hj (ws:=y :: r) h.2 λ _=>hg [17]⟩
inductive StC (L:List Lk2) (s:Pt):List Wt->Prop
 | one:StC L s [(s,none)]
 | snoc {st:List Wt} {w:Wt} {q:Pt} {n:Nat} {l:Lk2} (h:StC L s (st ++ [w])) (hl:L[n]?=some l) (hj:jn l w.1 q):StC L s (st ++ [w] ++ [(q,some n)])
theorem StC.inv {st:List Wt} {w:Wt} (h:StC L s (st ++ [w])):(st=[] /\ w=(s,none)) \/ ∃ st' w' n l,st=st' ++ [w'] /\ w.2=some n /\ L[n]?=some l /\ jn l w'.1 w.1 /\ StC L s st:=by
 generalize e:st ++ [w]=x at h;cases h with
 | one =>
  have e2:st ++ [w]=[] ++ [(s,none)]:=e;obtain ⟨a,b⟩:=append_inj' e2 rfl
  simp_all
 | @snoc st1 w1 q n l h hl hj =>
  obtain ⟨a,b⟩:=append_inj' e rfl;simp only [List.cons.injEq,and_true] at b;subst a b;exact .inr ⟨st1,w1,n,l,rfl,rfl,hl,hj,h⟩
noncomputable def isc (L:List Lk2) (v:Pt) (n:Nat):Bool:=match L[n]? with
 | some l=>decide (l.1=v \/ l.2=v)
 | none=>false
variable {x:Nat}
theorem par1 {P:Prop} (h:(x + 1) % 2=1 ↔ ¬ P):x % 2=1 ↔ P:=by
 rcases Classical.em P with c | c
 ·simp_all;omega
 simp_all;omega
theorem par2 {P:Prop} (h:(x + 1) % 2=1 ↔ P):x % 2=1 ↔ ¬ P:=by
 rcases Classical.em P with c | c
 ·simp_all;omega
 simp_all;omega
noncomputable def unu (L:List Lk2) (U:List Nat):List Nat:=(List.range L.length).filter λ n=>decide (n ∉ U)
noncomputable def cU (L:List Lk2) (U:List Nat) (v:Pt):Nat:=(unu L U).countP (isc L v)
theorem unu_mem:n ∈ unu L U ↔ n < L.length /\ n ∉ U:=by
 unfold unu; simp
theorem va3 (L:List Lk2) (U:List Nat):(unu L U).Nodup:=List.nodup_range.filter _
variable {v:Pt}
theorem wc2 {l:Lk2} (h:L[n]?=some l):isc L v n=true ↔ Pv.ic l v:=by
 unfold isc Pv.ic
 simp_all
theorem vv3 (hn:n < L.length) (hU:n ∉ U) (v:Pt):cU L U v=cU L (U ++ [n]) v + if isc L v n=true then 1 else 0:=by
 have hp:(unu L U).Perm (n :: unu L (U ++ [n])):=by
  refine (List.perm_ext_iff_of_nodup (va3 _ _) ?_).mpr λ m=>?_
  ·rw [nodup_cons];exact ⟨λ h=>(unu_mem.mp h).2 [17],va3 _ _⟩
  ·rw [mem_cons,unu_mem,unu_mem];simp only [mem_append,mem_singleton,not_or];constructor
   ·simp_all;omega
   ·rintro (rfl | ⟨a,b,_⟩)
    ·exact ⟨hn,hU⟩
    ·exact ⟨a,b⟩
 unfold cU;rw [hp.countP_eq,List.countP_cons]
theorem wv3 (h:∀ n l,L[n]?=some l->Pv.ic l v->n ∈ U):cU L U v=0:=by
 unfold cU;rw [List.countP_eq_zero];intro n hn c;obtain ⟨a,b⟩:=unu_mem.mp hn;have e:L[n]?=some (L[n]'a):=getElem?_eq_getElem a;exact b (h n _ e ((wc2 e).mp c))
def Odd (L:List Lk2) (U:List Nat) (a g:Pt):Prop:=∀ v,cU L U v % 2=1 ↔ ¬ (v=a ↔ v=g)
structure Hz (L:List Lk2) (s g0:Pt) (rem:Pt->List Nat) (U:List Nat) (st way:List Wt):Prop where
 fl:∀ n l,L[n]?=some l->n ∉ U->∀ p,ic l p->n ∈ rem p
 num:((st ++ way).filterMap (·.2)).Perm U
 dn:∀ w ∈ way,∀ n l,L[n]?=some l->ic l w.1->n ∈ U
 hd:∀ w,way.head?=some w->w.1=g0
 go:∀ st' w,st=st' ++ [w]->StC L s st /\ ∃ g,ChG L g way /\ (way=[]->g=g0) /\ Odd L U w.1 g
 en:st=[]->∃ ws,way=ws ++ [(s,none)] /\ ChG L s ws
theorem Rch.hz {L:List Lk2} {s g0:Pt} {r0 rem:Pt->List Nat} {U:List Nat} {st way:List Wt} (hL:∀ l ∈ L,l.1 ≠ l.2) (hs:∃ l ∈ L,ic l s) (h0:∀ p n,n ∈ r0 p->∃ l,L[n]?=some l /\ ic l p) (h1:∀ n l p,L[n]?=some l->ic l p->n ∈ r0 p) (ho:Odd L [] s g0) (h:Rch L s r0 rem U st way):Hz L s g0 rem U st way:=by
 induction h with
 | init =>
  refine ⟨λ n l e _ p hp=>h1 n l p e hp,by simp,λ _ h=>(nomatch h),λ _ h=>(nomatch h),λ st' w e=>?_,λ e=>(nomatch e)⟩;have e2:[] ++ [(s,none)]=st' ++ [w]:=e;obtain ⟨a,b⟩:=append_inj' e2 rfl;simp only [List.cons.injEq,and_true] at b;subst b;exact ⟨.one,g0,trivial,λ _=>rfl,ho⟩
 | @pop rem U st way w h ha ih =>
  obtain ⟨sc,g,cg,cg0,od⟩:=ih.go st w rfl
  have al:∀ n l,L[n]?=some l->ic l w.1->n ∈ U:=λ n l e hi=>by
   rcases Classical.em (n ∈ U) with c | c
   ·exact c
   ·exact ha n (ih.fl n l e c w.1 hi)
  have wg:w.1=g:=by
   have z:=od w.1;rw [wv3 al] at z
   simp_all
  refine ⟨λ n l e c p hp=>?_,?_,λ x hx=>?_,λ x hx=>?_,λ st' w' e=>?_,λ e=>?_⟩
  ·unfold upF;split
   ·next z=>subst z; exact absurd (al n l e hp) c
   ·exact ih.fl n l e c p hp
  ·refine List.Perm.trans (List.Perm.filterMap _ ?_) ih.num;rw [append_assoc];exact List.Perm.append_left st perm_append_comm
  ·rcases List.mem_append.mp hx with z | z
   ·exact ih.dn x z
   simp_all;omega
  ·cases way with
   | nil=>simp_all
   | cons y r=>exact ih.hd x (by simpa using hx)
  ·subst e;rcases sc.inv with ⟨e,_⟩ | ⟨st2,w2,n,l,e,en,el,hj,sc2⟩
   ·simp at e
   ·obtain ⟨_,b⟩:=append_inj' e rfl;simp only [List.cons.injEq,and_true] at b;subst b;have hj2:jn l w.1 w'.1:=hj.elim (λ ⟨a,b⟩=>.inr ⟨a,b⟩) (λ ⟨a,b⟩=>.inl ⟨a,b⟩);refine ⟨sc2,w'.1,cg.snoc en el hj2 (λ _=>wg),λ z=>by simp at z,λ v=>?_⟩;have z:=od v
    simp_all
  ·subst e;rcases sc.inv with ⟨_,e⟩ | ⟨st2,w2,n,l,e,_⟩
   ·simp_all
   ·simp at e
 | @push rem U r z n l st way w h e hn hz hl ih =>
  obtain ⟨sc,g,cg,cg0,od⟩:=ih.go st w rfl;obtain ⟨l',e',hi⟩:=(h.wk hs h0).rm w.1 n (by rw [e]; simp);rw [hl] at e'; cases e';have hnl:n < L.length:=(List.getElem?_eq_some_iff.mp hl).1;have hj:=ud3 hi;have hne:=hL l (mem_of_getElem? hl);refine ⟨λ m k em c p hp=>?_,?_,λ x hx m k em hk=>mem_append_left _ (ih.dn x hx m k em hk),ih.hd,λ st' w' e2=>?_,λ e2=>by simp at e2⟩
  ·have c1:m ∉ U:=λ z=>c (mem_append_left _ z);have c2:m ≠ n:=λ z=>c (by rw [z]; simp);have hm:=ih.fl m k em c1 p hp;unfold upF;split
   ·next z =>
    subst z;rw [e] at hm;rcases List.mem_append.mp hm with y | y
    ·exact y
    simp_all
   ·exact hm
  ·have p1:((st ++ [w] ++ [(oth l w.1,some n)]) ++ way).Perm ([(oth l w.1,some n)] ++ ((st ++ [w]) ++ way)):=by
     rw [<- append_assoc];exact List.Perm.append_right way perm_append_comm
   refine List.Perm.trans (List.Perm.filterMap _ p1) ?_;rw [List.filterMap_append];exact (List.Perm.append_left _ ih.num).trans perm_append_comm
  ·obtain ⟨_,b⟩:=append_inj' e2 rfl;simp only [List.cons.injEq,and_true] at b;subst b;refine ⟨.snoc sc hl hj,g,cg,cg0,λ v=>?_⟩;have z:=od v;rw [vv3 hnl hn v] at z;have iv:=wc2 (v:=v) hl
   have hwq:w.1 ≠ oth l w.1:=by
    rcases hj with ⟨a,b⟩ | ⟨a,b⟩
    ·simp_all
    ·rw [<- b,show oth l l.2=l.1 by simp_all]; exact Ne.symm hne
   have ivq:ic l v ↔ v=w.1 \/ v=oth l w.1:=by
    unfold ic;rcases hj with ⟨a,b⟩ | ⟨a,b⟩
    ·rw [a,b]; exact ⟨λ h=>h.imp Eq.symm Eq.symm,λ h=>h.imp Eq.symm Eq.symm⟩
    ·rw [a,b]; exact ⟨λ h=>(h.imp Eq.symm Eq.symm).symm,λ h=>(h.imp Eq.symm Eq.symm).symm⟩
   show cU L (U ++ [n]) v % 2=1 ↔ ¬ (v=oth l w.1 ↔ v=g);rcases Classical.em (isc L v n=true) with c | c
   ·rw [if_pos c] at z;rcases ivq.mp (iv.mp c) with c1 | c1
    ·have c2:¬ v=oth l w.1:=λ y=>hwq (c1.symm.trans y);simp only [c1,true_iff] at z;rw [<- c1] at z;simp only [c2,false_iff,Classical.not_not];exact par1 z
    ·have c2:¬ v=w.1:=λ y=>hwq (y.symm.trans c1);simp only [c2,false_iff,Classical.not_not] at z;rw [<- c1];simp only [true_iff];exact par2 z
   simp_all
end Pv
namespace Pv
open PySem Mw
variable {μ:Mu} {Q:VK3}
theorem sg1 {l:List D} {i:Int} {d:D} (e:atI l i=some d) (h:Q d μ):ixR (.tup l) (.int i) μ Q:=by
 unfold ixR
 simp_all
def wy (s:T3):Prop:=s.2.2=0 \/ s.2.2=1
noncomputable def gx (s:T3):Int:=s.1 + 1 - s.2.2
noncomputable def gy (s:T3):Int:=s.2.1 + s.2.2
noncomputable def decT (d:D):T3:=(t3? d).getD (0,0,0)
def yk1:Sp3:=λ ds μ Q=>∃ s,ds=[encT s] /\ wy s /\ Q (.tup [encQ (s.1,s.2.1),encQ (gx s,gy s)]) μ
theorem zs4:RdQ yk1 wd4 ty3:=by
 rintro ds μ Q ⟨⟨x,y,w⟩,rfl,hw,q⟩;rcases hw with e | e
 ·dsimp only at e; subst e;simp only [gx,gy,Int.sub_zero,Int.add_zero] at q;exact ⟨z2,z2,z2,q⟩
 ·dsimp only at e; subst e;simp only [gx,gy,Int.add_sub_cancel] at q;exact ⟨z2,z2,z2,q⟩
def tb3:Sp3:=λ ds μ Q=>∃ s,ds=[encT s] /\ wy s /\ Q .non μ
theorem in_w {w:Int} (h:w=0 \/ w=1) (μ:Mu) (K:VK3) (k:K (.bl false) μ):inR true (.int w) ub1 μ K:=by
 show ((PyData.int w).depth<=64 /\ (PyData.tuple [.int 0,.int 1]).depth<=64) /\ K (.bl (!([.int 0,.int 1]:List PyData).any λ e=>PyData.eqv e (.int w))) μ;refine ⟨⟨by simp [PyData.depth],by trivial⟩,?_⟩;have e:(([.int 0,.int 1]:List PyData).any λ e=>PyData.eqv e (.int w))=true:=by rcases h with rfl | rfl <;> simp [PyData.eqv]
 rw [e];exact k
theorem rd_q9:RdQ tb3 t_q9 N_q9:=by
 rintro ds μ Q ⟨⟨x,y,w⟩,rfl,hw,q⟩
 show inR true (.int w) ub1 μ (λ d μ1=>match d with
  | .bl c=>(if c=true then _ else _)
  | _=>False)
 exact in_w hw μ _ q
def Lt (a b:T3):Prop:=lt3 a b=true
def Pc (ts:List T3):Prop:=ts.Pairwise Lt /\ (∀ t ∈ ts,wy t) /\ ts.length < 61
variable {ts:List T3}
theorem ui1 {i:Int} (h0:0<=i) (h1:i < ts.length):∃ h:i.toNat < ts.length,atI (ts.map encT) i=some (encT ts[i.toNat]):=by
 have h2:i.toNat < ts.length:=by omega
 refine ⟨h2,?_⟩;unfold atI ixN
 simp_all
def vv1:Sp3:=λ ds μ Q=>∃ ts,ds=[.tup (ts.map encT)] /\ Pc ts /\ Q .non μ
theorem rd_q8:RdQ vv1 (t_q8 tb3) N_q8:=by
 rintro ds μ Q ⟨ts,rfl,⟨h1,h2,h3⟩,q⟩;refine ze3 (λ l ρ μ'=>μ'=μ /\ ∃ (us:List T3) (dd:Option D),l=us.map encT /\ (∀ t ∈ us,wy t) /\ ρ=[some (.tup (ts.map encT)),dd,none]) ?_ (λ _ _ _ _=>trivial) ?_ ?_
 ·exact ⟨rfl,ts,none,rfl,h2,rfl⟩
 ·rintro ρ μ' ⟨rfl,us,dd,e,_,rfl⟩;refine ⟨⟨by decide,by decide,by omega,by simp_all;omega⟩,?_⟩;refine ze3 (λ l ρ ν=>ν=μ' /\ ∃ (k:Nat) (pp:Option D),l=rngD (1 + (k:Int)) (ts.length - 1 - k) /\ ρ=[some (.tup (ts.map encT)),dd,pp]) ?_ (λ _ _ _ _=>trivial) ?_ ?_
  ·refine ⟨rfl,0,none,?_,rfl⟩;simp
  ·simp_all
  ·rintro GG hG x rest ρ μ2 ⟨rfl,k,pp,e,rfl⟩;cases n:ts.length - 1 - k with
   | zero=>rw [n] at e; simp [rngD] at e
   | succ m =>
    rw [n,vf0] at e;injection e with e1 e2
    subst e1 e2;subst hG;obtain ⟨b1,e1⟩:=ui1 (ts:=ts) (i:=1 + (k:Int) - 1) [5] [5];obtain ⟨b2,e2⟩:=ui1 (ts:=ts) (i:=1 + (k:Int)) [5] [5];have lt:lt3 ts[(1 + (k:Int) - 1).toNat] ts[(1 + (k:Int)).toNat]=true:=List.pairwise_iff_getElem.mp h1 _ _ b1 b2 [5];show ixR (.tup (ts.map encT)) (.int (1 + (k:Int) - 1)) μ2 (λ x μ1=>_);refine sg1 e1 ?_;show ixR (.tup (ts.map encT)) (.int (1 + (k:Int))) μ2 (λ x μ1=>_);refine sg1 e2 ?_;show if (!lt3 ts[(1 + (k:Int) - 1).toNat] ts[(1 + (k:Int)).toNat])=true then _ else _;rw [lt,if_neg [27]];refine ⟨rfl,k + 1,_,?_,rfl⟩;rw [show ts.length - 1 - (k + 1)=m by omega];congr 1
 ·rintro GG hG x rest ρ μ' ⟨rfl,us,dd,e,hw,rfl⟩;cases us with
  | nil=>cases e
  | cons t us =>
   rw [map_cons] at e;injection e with e1 e2
   subst e1 e2;subst hG;exact ⟨t,rfl,hw t (mem_cons_self ..),rfl,us,_,rfl,λ s hs=>hw s (mem_cons_of_mem _ hs),rfl⟩
theorem ux4 {ks us:List T3} (hn:ks.Nodup) (hw:∀ t ∈ ks,wy t) (hl:ks.length < 61) (a1:us.Perm ks) (a2:us.Pairwise le3):Pc us:=by
 have hn':us.Nodup:=a1.nodup_iff.mpr hn;refine ⟨?_,λ t ht=>hw t (a1.mem_iff.mp ht),by rw [a1.length_eq]; exact hl⟩;have both:us.Pairwise λ a b=>le3 a b /\ a ≠ b:=List.Pairwise.and a2 hn';refine both.imp λ {a b} h=>?_;obtain ⟨x1,x2,x3⟩:=a;obtain ⟨y1,y2,y3⟩:=b;obtain ⟨h1,h2⟩:=h;unfold le3 at h1;unfold Lt;simp only [ne_eq,Prod.mk.injEq] at h2;simp only [lt3,Bool.or_eq_false_iff,Bool.and_eq_false_iff,decide_eq_false_iff_not,beq_eq_false_iff_ne,ne_eq] at h1;simp only [lt3,Bool.or_eq_true,Bool.and_eq_true,decide_eq_true_eq,beq_iff_eq];omega
noncomputable def pT (s:T3):PyData:=.tuple [.int s.1,.int s.2.1,.int s.2.2]
theorem yg2:∀ L:List T3,dats (L.map encT)=some (L.map pT)
 | []=>rfl
 | t :: r=>by simp only [map_cons,dats,encT,dat,yg2 r,pT]
theorem th1:∀ L:List T3,PyData.depthAll (L.map pT)<=2
 | []=>by trivial
 | t :: r=>by
  have:=th1 r;simp only [map_cons,PyData.depthAll,pT,PyData.depth];omega
theorem wo1 (L:List T3):(PyData.tuple (L.map pT)).depth<=64:=by
 have:=th1 L;simp only [PyData.depth];omega
theorem lt_le {a b:T3} (h:Lt a b):le3 a b:=by
 obtain ⟨x1,x2,x3⟩:=a;obtain ⟨y1,y2,y3⟩:=b;simp only [Lt,lt3,Bool.or_eq_true,Bool.and_eq_true,decide_eq_true_eq,beq_iff_eq] at h;simp only [le3,lt3,Bool.or_eq_false_iff,Bool.and_eq_false_iff,decide_eq_false_iff_not,beq_eq_false_iff_ne,ne_eq];omega
theorem xt2 (h:Pc ts):ts.Nodup:=h.1.imp λ {a b} h e=>by
 subst e;simp [Lt,lt3] at h
theorem tc5 (s t:T3):PyData.eqv (pT s) (pT t)=decide (s=t):=by
 obtain ⟨a,b,c⟩:=s;obtain ⟨d,e,f⟩:=t;have q:∀ x y:Int,(x == y)=decide (x=y):=λ x y=>by rfl
 simp [pT,PyData.eqv,PyData.eqvAll,Bool.and_assoc,q]
theorem se2:∀ L M:List T3,PyData.eqvAll (L.map pT) (M.map pT)=decide (L=M)
 | [],[]=>by rfl
 | [],_ :: _=>by rfl
 | _ :: _,[]=>by rfl
 | s :: L,t :: M=>by
  simp only [map_cons,PyData.eqvAll,se2 L M,tc5];simp
theorem eq_TT (L M:List T3) (μ:Mu) (K:VK3):eqR (.tup (L.map encT)) (.tup (M.map encT)) μ K=K (.bl (decide (L=M))) μ:=by
 have dd:∀ us:List T3,datM μ (.tup (us.map encT))=some (.tuple (us.map pT)):=λ us=>by simp only [datM,dat,yg2]
 rw [xf2 rfl (dd L) (dd M) (wo1 L) (wo1 M),show PyData.eqv (.tuple (L.map pT)) (.tuple (M.map pT))=decide (L=M) from by simp only [PyData.eqv,se2]]
theorem vo1 {S:Mu->Prop} {p:Addr} {tc:TT3} {l:List D} {o:Option D} {rest:St3} (f:D->Bool) (hp:μ p=none) (hl:l.length<=sizeLine) (hS:∀ μ',Ext μ μ'->S μ')
    (hx:∀ x ∈ l,∀ μ' R,Ext μ μ'->R (f x) μ'->tc (some x :: rest) μ' R) (hQ:∀ μ',Ext μ μ'->μ' p=some (.lst (l.filter f))->Q (.ref p) μ'):vx2 S p (gn3 0) tc (v3 0) Q l (o :: rest) (updM μ p (.lst [])):=by
 refine ⟨λ r ys ρ μ'=>Ext μ μ' /\ μ' p=some (.lst ys) /\ (∃ o',ρ=o' :: rest) /\ ∃ a,a ++ r=l /\ ys=a.filter f,?_,?_,?_,?_⟩
 ·exact ⟨Ext.new hp,ya0,⟨o,rfl⟩,[],rfl,rfl⟩
 ·simp_all
 ·simp_all
 ·rintro x r ys ρ μ' ⟨h1,h2,⟨o',rfl⟩,a,e,rfl⟩;refine ⟨?_,?_⟩
  ·have h3:=congrArg List.length e;rw [length_append,length_cons] at h3;have:=length_filter_le f a;omega
  ·refine hx x (by rw [<- e]; simp) μ' _ h1 ?_;have e2:(a ++ [x]) ++ r=l:=by rw [<- e]; simp
   cases c:f x with
   | true =>
    refine ⟨h2,λ b v hb=>?_,ya0,⟨_,rfl⟩,a ++ [x],e2,?_⟩
    ·rw [za0 (ta0 hb hp)];exact h1 b v hb
    simp_all
   | false =>
    refine ⟨h1,h2,⟨_,rfl⟩,a ++ [x],e2,?_⟩
    simp_all
theorem wt3 (g:T3->Bool) (A:List T3):(A.map encT).filter (λ d=>g (decT d))=(A.filter g).map encT:=by
 rw [List.filter_map];rfl
theorem uf3 {p q:Addr} {l m:List D} (h1:μ p=some (.lst l)) (h2:μ q=some (.lst m)) (hz:l.length + m.length<=sizeLine) (k:∀ r,μ r=none->Q (.ref r) (updM μ r (.lst (l ++ m)))):addR (.ref p) (.ref q) μ Q:=by
 unfold addR
 simp_all
noncomputable def tk3 (t:T3):List Int:=[t.1,t.2.1,t.2.2]
theorem yf4 {p:Addr} (h:μ p=some (.lst (ts.map encT))) (h64:ts.length < 64) (k:∀ us:List T3,us.Perm ts->us.Pairwise le3->∀ r,μ r=none->Q (.ref r) (updM μ r (.lst (us.map encT)))):srtR [.ref p] μ Q:=by
 have hz:(100:Nat) < sizeLine:=by decide
 have e:t3s? (ts.map encT)=some ts:=vu1 ts;simp only [srtR,h,e];exact ⟨by omega,k⟩
variable {D':Ends3} {x:D} {ρ:St3}
theorem vh1 {g:TG3} {tb:TS3} {y:D} (N1 N2:St3->Mu->Prop) (h1:g x ρ μ λ ρ1 μ1=>tb { D' with nx:=N1,ct:=N1,bk:=D'.nx } ρ1 μ1)
    (h2:∀ ρ μ,N1 ρ μ->g y ρ μ λ ρ1 μ1=>tb { D' with nx:=N2,ct:=N2,bk:=D'.nx } ρ1 μ1) (h3:∀ ρ μ,N2 ρ μ->D'.nx ρ μ):tr1 (λ _=>True) g tb D' [x,y] ρ μ :=
 ⟨trivial,N1,λ ρ' μ' n=>⟨trivial,N2,λ ρ2 μ2 n2=>⟨trivial,h3 ρ2 μ2 n2⟩,h2 ρ' μ' n⟩,h1⟩
noncomputable def ptk (p:Pt):List Int:=[p.1,p.2]
theorem yb5 (p:Pt):keyI (encQ p)=some (ptk p):=rfl
noncomputable def atk (A:List (Pt × Addr)):List (List Int × D):=A.map λ x=>(ptk x.1,.ref x.2)
theorem uf1 {p q:Pt} (h:ptk p=ptk q):p=q:=by
 unfold ptk at h;injection h with h1 h2
 injection h2 with h2 _
 exact Prod.ext h1 h2
theorem zj1:∀ {A:List (Pt × Addr)} {p:Pt} {q:Addr},(A.map (·.1)).Nodup->(p,q) ∈ A->valL (atk A) (ptk p)=some (.ref q)
 | (p',q') :: A,p,q,hn,hm=>by
  rw [map_cons,nodup_cons] at hn;by_cases c:p'=p
  ·subst c;rcases List.mem_cons.mp hm with e | e
   ·cases e; simp [valL,atk]
   simp_all
  ·rcases List.mem_cons.mp hm with e | e
   ·simp_all
   ·have c':¬ ptk p'=ptk p:=λ z=>c (uf1 z);have:=zj1 hn.2 e;simp only [valL,atk,map_cons,find?_cons,c',decide_false] at this ⊢;exact this
theorem ya3:∀ {A:List (Pt × Addr)} {p:Pt},p ∉ A.map (·.1)->valL (atk A) (ptk p)=none
 | [],p,_=>rfl
 | (p',q') :: A,p,hm=>by
  rw [map_cons,mem_cons,not_or] at hm;have c':¬ ptk p'=ptk p:=λ z=>hm.1 (uf1 z).symm;have:=ya3 hm.2;simp only [valL,atk,map_cons,find?_cons,c',decide_false] at this ⊢;exact this
variable {A:List (Pt × Addr)}
theorem su4 {p:Pt} {y:D} (h:p ∉ A.map (·.1)):putL (atk A) (ptk p) y=atk A ++ [(ptk p,y)]:=by
 unfold putL;rw [if_neg];intro z;obtain ⟨kv,h1,h2⟩:=List.any_eq_true.mp z;obtain ⟨x,hx,rfl⟩:=List.mem_map.mp h1;exact h (List.mem_map.mpr ⟨x,hx,uf1 (of_decide_eq_true h2)⟩)
variable {kvs:List (List Int × D)} {o0:Option D}
theorem vg4 {d:Addr} {p:Pt} {v:D} {o2:Option D} (h:μ d=some (.dcl false kvs)) (hl:kvs.length < 90000) (hv:valL kvs (ptk p)=some v) (k:∀ r,μ r=none->Q v (updM μ r (.lst []))) :
    sdf3 (v3 1) (xa0 (v3 3) (xa0 (lst3 nil3) nil3)) [o0,some (.ref d),o2,some (encQ p)] μ Q:=by
 conv=>whnf
 rw [h];refine ⟨Nat.zero_le _,λ r hr=>?_⟩;have hd:updM μ r (.lst []) d=some (.dcl false kvs):=by rw [za0 (ta0 h hr)]; exact h
 conv=>whnf
 rw [hd];refine ⟨hl,?_⟩;have hv':valL kvs [p.1,p.2]=some v:=hv
 simp_all
theorem ug4 {d:Addr} {p:Pt} {o2:Option D} (h:μ d=some (.dcl false kvs)) (hl:kvs.length < 90000) (hv:valL kvs (ptk p)=none) (k:∀ r,μ r=none->Q (.ref r) (updM (updM μ r (.lst [])) d (.dcl false (putL kvs (ptk p) (.ref r))))) :
    sdf3 (v3 1) (xa0 (v3 3) (xa0 (lst3 nil3) nil3)) [o0,some (.ref d),o2,some (encQ p)] μ Q:=by
 conv=>whnf
 rw [h];refine ⟨Nat.zero_le _,λ r hr=>?_⟩;have hd:updM μ r (.lst []) d=some (.dcl false kvs):=by rw [za0 (ta0 h hr)]; exact h
 conv=>whnf
 rw [hd];refine ⟨hl,?_⟩;have hv':valL kvs [p.1,p.2]=none:=hv;rw [hv'];exact k r hr
noncomputable def here {α:Type} (L:List (Pt × α)) (p:Pt):List α:=(L.filter λ y=>decide (y.1=p)).map (·.2)
theorem zc1 {α:Type} (L:List (Pt × α)) (p:Pt) (t:α):here (L ++ [(p,t)]) p=here L p ++ [t]:=by
 unfold here; simp
theorem yd2 {α:Type} (L:List (Pt × α)) {p q:Pt} (t:α) (h:q ≠ p):here (L ++ [(p,t)]) q=here L q:=by
 unfold here; rw [filter_append];have:¬ p=q:=λ z=>h z.symm;simp [this]
theorem vs3 {α:Type} {L:List (Pt × α)} {p:Pt} (h:p ∉ L.map (·.1)):here L p=[]:=by
 unfold here;rw [List.filter_eq_nil_iff.mpr]; rfl;intro y hy z;exact h (List.mem_map.mpr ⟨y,hy,of_decide_eq_true z⟩)
theorem zw2 {α:Type} (L:List (Pt × α)) (p:Pt):(here L p).length<=L.length:=by
 unfold here; rw [length_map]; exact length_filter_le _ _
structure AtI {α:Type} (en:α->D) (μ0 μ:Mu) (d:Addr) (L:List (Pt × α)) (A:List (Pt × Addr)):Prop where
 ex:Ext μ0 μ
 fr:μ0 d=none
 dc:μ d=some (.dcl false (atk A))
 nd:(A.map (·.1)).Nodup
 me:∀ p,p ∈ A.map (·.1) ↔ p ∈ L.map (·.1)
 le:A.length<=L.length
 n2:(A.map (·.2)).Nodup
 fr2:∀ x ∈ A,μ0 x.2=none
 ls:∀ x ∈ A,μ x.2=some (.lst ((here L x.1).map en))
variable {o:MO} {μ0:Mu}
theorem Ext.upd {p:Addr} (e:Ext μ0 μ) (h:μ0 p=none):Ext μ0 (updM μ p o):=λ a u q=>by
 rw [za0 (ta0 q h)]; exact e a u q
theorem vq0 {α β γ:Type} {l:List γ} {f:γ->α} (h:(l.map f).Nodup):∀ {x y:γ},x ∈ l->y ∈ l->f x=f y->x=y:=by
 induction l with
 | nil=>simp
 | cons z r ih =>
  intro x y hx hy e;rw [map_cons,nodup_cons] at h;rcases List.mem_cons.mp hx with x1 | x1
  ·rcases List.mem_cons.mp hy with y1 | y1
   ·rw [x1,y1]
   ·rw [x1] at e; exact absurd (List.mem_map.mpr ⟨y,y1,e.symm⟩) h.1
  ·rcases List.mem_cons.mp hy with y1 | y1
   ·simp_all
   ·exact ih h.2 x1 y1 e
theorem ya2 {p q:Pt} {a:Addr} (h:(A.map (·.2)).Nodup) (x:(p,a) ∈ A) (y:(q,a) ∈ A):p=q:=congrArg Prod.fst (vq0 (β:=Nat) h x y rfl)
theorem yb1 {p:Pt} {a b:Addr} (h:(A.map (·.1)).Nodup) (x:(p,a) ∈ A) (y:(p,b) ∈ A):a=b:=congrArg Prod.snd (vq0 (β:=Nat) h x y rfl)
theorem vy0 {α:Type} {en:α->D} {d:Addr} {L:List (Pt × α)} {p:Pt} {t:α} (I:AtI en μ0 μ d L A) (hL:L.length < 500) (q:∀ μ' A',AtI en μ0 μ' d (L ++ [(p,t)]) A'->Q .non μ') :
    mt3 appR (sdf3 (v3 1) (xa0 (v3 3) (xa0 (lst3 nil3) nil3))) (xa0 (v3 2) nil3) [o0,some (.ref d),some (en t),some (encQ p)] μ Q:=by
 have hz:(1000:Nat) < sizeLine:=by decide
 have hA:(atk A).length < 90000:=by unfold atk; rw [length_map]; have:=I.le; omega
 by_cases c:p ∈ A.map (·.1)
 ·obtain ⟨⟨p',a⟩,ha,e⟩:=List.mem_map.mp c;dsimp only at e; subst e;refine vg4 I.dc hA (zj1 I.nd ha) λ r hr=>?_;have hl:=I.ls _ ha;have hla:updM μ r (.lst []) a=some (.lst ((here L p').map en)):=by rw [za0 (ta0 hl hr)]; exact hl
  conv=>whnf
  rw [hla];refine ti1 hla (by rw [length_map]; have:=zw2 L p'; omega) (q _ A ⟨?_,I.fr,?_,I.nd,?_,?_,I.n2,I.fr2,?_⟩)
  ·exact (I.ex.trans (Ext.new hr)).upd (I.fr2 _ ha)
  ·rw [za0 (λ z=>by subst z; rw [I.dc] at hl; cases hl),za0 (ta0 I.dc hr)]; exact I.dc
  ·intro p;rw [I.me,map_append,mem_append];refine ⟨.inl,?_⟩;rintro (h | h)
   ·exact h
   ·have e:p=p':=by simpa using h
    subst e;exact (I.me _).mp c
  ·rw [length_append]; have:=I.le; omega
  ·rintro ⟨p2,a2⟩ h2;dsimp only;by_cases c2:a2=a
   ·subst c2
    have e:p2=p':=by
     exact ya2 I.n2 h2 ha
    subst e;rw [ya0,zc1,map_append]; rfl
   ·have c3:p2 ≠ p':=λ z=>by subst z; exact c2 (yb1 I.nd h2 ha)
    rw [za0 c2,za0 (ta0 (I.ls _ h2) hr),yd2 _ _ c3];exact I.ls _ h2
 ·refine ug4 I.dc hA (ya3 c) λ r hr=>?_;have hrd:r ≠ d:=λ z=>by subst z; rw [I.dc] at hr; cases hr
  have hla:updM (updM μ r (.lst [])) d (.dcl false (putL (atk A) (ptk p) (.ref r))) r=some (.lst []):=by rw [za0 hrd,ya0]
  conv=>whnf
  rw [hla];have hL':here L p=[]:=vs3 λ z=>c ((I.me p).mpr z);refine ti1 hla (Nat.lt_of_lt_of_le (by decide:0 < 1000) (Nat.le_of_lt hz)) (q _ (A ++ [(p,r)]) ⟨?_,I.fr,?_,?_,?_,?_,?_,?_,?_⟩)
  ·exact ((I.ex.trans (Ext.new hr)).upd I.fr).upd (I.ex.free hr)
  ·rw [za0 (Ne.symm hrd),ya0,su4 c];unfold atk; simp
  ·rw [map_append,nodup_append];refine ⟨I.nd,by simp,λ a ha b hb e=>?_⟩
   simp_all
  ·intro p2;rw [map_append,map_append,mem_append,mem_append,I.me]; rfl
  ·rw [length_append,length_append]; have:=I.le; simp_all
  ·rw [map_append,nodup_append];refine ⟨I.n2,by simp,λ a ha b hb e=>?_⟩;have:b=r:=by simpa using hb
   subst this; subst e;obtain ⟨x,hx,rfl⟩:=List.mem_map.mp ha;have:=I.ls x hx
   simp_all
  ·intro x hx;rcases List.mem_append.mp hx with h | h
   ·exact I.fr2 x h
   ·have:x=(p,r):=by simpa using h
    subst this;exact I.ex.free hr
  ·intro x hx;rcases List.mem_append.mp hx with h | h
   ·have hl:=I.ls x h;have c3:x.1 ≠ p:=λ z=>c (List.mem_map.mpr ⟨x,h,z⟩);have c4:x.2 ≠ d:=λ z=>by rw [z,I.dc] at hl; cases hl
    rw [za0 (ta0 hl hr),za0 c4,za0 (ta0 hl hr),yd2 _ _ c3];exact hl
   ·have:x=(p,r):=by simpa using h
    subst this;dsimp only;rw [ya0,zc1,hL']; rfl
noncomputable def incs (ts:List T3):List (Pt × T3):=ts.flatMap λ t=>[(e0 t,t),(e1 t,t)]
theorem tc2 (ts:List T3) (s:T3):incs (ts ++ [s])=incs ts ++ [(e0 s,s)] ++ [(e1 s,s)]:=by
 unfold incs; simp
theorem zn1 (ts:List T3):(incs ts).length=2 * ts.length:=by
 induction ts with
 | nil=>rfl
 | cons s r ih=>unfold incs at ih ⊢; simp_all;omega
theorem wc1 (p:Pt):∀ ts:List T3,here (incs ts) p=ts.filter (has p)
 | []=>rfl
 | s :: r=>by
  have ih:=wc1 p r;have e:incs (s :: r)=(e0 s,s) :: (e1 s,s) :: incs r:=rfl;rw [e,List.filter_cons];unfold here at ih ⊢;rw [List.filter_cons,List.filter_cons];dsimp only;have ne:=e_ne s;have hh:has p s=(decide (e0 s=p) || decide (e1 s=p)):=rfl;rw [hh];by_cases c0:e0 s=p
  ·have c1:¬ e1 s=p:=λ z=>ne (c0.trans z.symm)
   simp_all
  ·by_cases c1:e1 s=p
   ·simp_all
   simp_all
theorem wv2 {p:Pt}:p ∈ (incs ts).map (·.1) ↔ ∃ s ∈ ts,has p s=true:=by
 constructor
 ·intro h;obtain ⟨⟨p',t⟩,h1,rfl⟩:=List.mem_map.mp h;obtain ⟨s,hs,h2⟩:=List.mem_flatMap.mp h1;rcases List.mem_cons.mp h2 with e | h2
  ·cases e; exact ⟨_,hs,un1 _⟩
  ·have e:=List.mem_singleton.mp h2;cases e; exact ⟨_,hs,zd2 _⟩
 ·rintro ⟨s,hs,h⟩;rcases zo0 h with rfl | rfl
  ·exact List.mem_map.mpr ⟨(e0 s,s),List.mem_flatMap.mpr ⟨s,hs,by simp⟩,rfl⟩
  ·exact List.mem_map.mpr ⟨(e1 s,s),List.mem_flatMap.mpr ⟨s,hs,by simp⟩,rfl⟩
def spAt:Sp3:=λ ds μ Q=>∃ ts:List T3,ds=[.tup (ts.map encT)] /\ (∀ t ∈ ts,wy t) /\ ts.length < 61 /\ ∀ d A μ',AtI encT μ μ' d (incs ts) A->Q (.ref d) μ'
theorem xq4:RdQ spAt (ub4 yk1) sw3:=by
 rintro ds μ Q ⟨ts,rfl,hw,hl,q⟩;intro d hd;refine vd0 (λ l ρ μ'=>∃ (us vs:List T3) (A:List (Pt × Addr)) (o2 o3:Option D),l=us.map encT /\ vs ++ us=ts /\ ρ=[some (.tup (ts.map encT)),some (.ref d),o2,o3] /\ AtI encT μ μ' d (incs vs) A) ?_ (λ _ _ _ _=>trivial) ?_ ?_
 ·exact ⟨ts,[],[],none,none,rfl,rfl,rfl,Ext.new hd,hd,ya0,nodup_nil,λ p=>Iff.rfl,Nat.le_refl _,nodup_nil,λ _ h=>(nomatch h),λ _ h=>(nomatch h)⟩
 ·rintro ρ μ' ⟨us,vs,A,o2,o3',e,ev,rfl,I⟩;cases us with
  | cons _ _=>cases e
  | nil =>
   rw [append_nil] at ev;subst ev;exact q d A μ' I
 ·rintro x rest ρ μ' ⟨us,vs,A,o2,o3',e,ev,rfl,I⟩;cases us with
  | nil=>cases e
  | cons s us =>
   rw [map_cons] at e;injection e with e1 e2
   subst e1 e2;have hs:s ∈ ts:=by rw [<- ev]; simp
   have hl2:vs.length < 61:=by rw [<- ev,length_append] at hl; omega
   have ln:(incs vs).length < 400:=by rw [zn1]; omega
   refine ⟨s,rfl,hw s hs,?_⟩;refine vh1 (λ ρ μ'=>∃ A o3,ρ=[some (.tup (ts.map encT)),some (.ref d),some (encT s),o3] /\ AtI encT μ μ' d (incs vs ++ [(e0 s,s)]) A) (λ ρ μ'=>∃ A o3,ρ=[some (.tup (ts.map encT)),some (.ref d),some (encT s),o3] /\ AtI encT μ μ' d (incs vs ++ [(e0 s,s)] ++ [(e1 s,s)]) A) ?_ ?_ ?_
   ·exact vy0 (p:=e0 s) I [5] λ μ2 A2 I2=>⟨A2,_,rfl,I2⟩
   ·rintro ρ μ1 ⟨A1,o3'',rfl,I1⟩;exact vy0 (p:=e1 s) I1 [20] λ μ2 A2 I2=>⟨A2,_,rfl,I2⟩
   ·rintro ρ μ1 ⟨A1,o3'',rfl,I1⟩;rw [<- tc2] at I1;exact ⟨us,vs ++ [s],A1,_,_,rfl,by rw [<- ev]; simp,rfl,I1⟩
theorem ta5 (t:T3):keyI (encT t)=some (tk3 t):=rfl
noncomputable def snk (S:List T3):List (List Int × D):=S.map λ t=>(tk3 t,.bl true)
theorem zu1 {a b:T3} (h:tk3 a=tk3 b):a=b:=by
 unfold tk3 at h;injection h with h1 h2
 injection h2 with h2 h3
 injection h3 with h3 _
 exact Prod.ext h1 (Prod.ext h2 h3)
theorem yt1:∀ (S:List T3) (t:T3),(valL (snk S) (tk3 t)).isSome=decide (t ∈ S)
 | [],t=>by simp [valL,snk]
 | s :: S,t=>by
  have ih:=yt1 S t;by_cases c:s=t
  ·subst c; simp [valL,snk]
  ·have c':¬ tk3 s=tk3 t:=λ z=>c (zu1 z);have c2:¬ t=s:=λ z=>c z.symm;simp only [valL,snk,map_cons,find?_cons,c',decide_false,mem_cons,c2,false_or] at ih ⊢;exact ih
variable {S:List T3}
theorem tu4 {t:T3} (h:t ∉ S):putL (snk S) (tk3 t) (.bl true)=snk (S ++ [t]):=by
 unfold putL;rw [if_neg]
 ·unfold snk; simp
 ·intro z;obtain ⟨kv,h1,h2⟩:=List.any_eq_true.mp z;obtain ⟨x,hx,rfl⟩:=List.mem_map.mp h1;have e:=zu1 (of_decide_eq_true h2);exact h (e ▸ hx)
variable {s:Addr}
theorem ud5 {t:T3} (h:μ s=some (.dcl false (snk S))) (k:Q (.bl (!decide (t ∈ S))) μ):dinR true (encT t) (.ref s) μ Q:=by
 unfold dinR;simp only [ta5,h,yt1];exact k
variable {to:TE3}
theorem xv4 {t:T3} {ti:TE3} (h:μ s=some (.dcl false (snk S))) (hl:S.length < 90000) (ht:t ∉ S) (h1:∀ R,R (.ref s) μ->to ρ μ R) (h2:∀ R,R (encT t) μ->ti ρ μ R) (k:D'.nx ρ (updM μ s (.dcl false (snk (S ++ [t]))))):zf2 to ti (c3 (.bl true)) D' ρ μ:=by
 refine h1 _ (h2 _ ?_);simp only [ta5,h];refine ⟨by unfold snk; simp_all,?_⟩;rw [tu4 ht];exact k
def xv1:Sp3:=λ ds μ Q=>∃ (q s:Addr) (l S:List T3),ds=[.ref q,.ref s] /\ μ q=some (.lst (l.map encT)) /\ μ s=some (.dcl false (snk S)) /\ l.Nodup /\ S.length + l.length < 500 ∧
 ∀ r μ',ExtB s μ μ'->μ r=none->μ' r=some (.lst ((l.filter λ t=>!decide (t ∈ S)).map encT))->μ' s=some (.dcl false (snk (S ++ l.filter λ t=>!decide (t ∈ S))))->Q (.ref r) μ'
theorem vp4:RdQ xv1 zb4 vw3:=by
 rintro ds μ Q ⟨q,s,l,S,rfl,hq,hs,hn,hl,k⟩;have hz:(1000:Nat) < sizeLine:=by decide
 have hqs:q ≠ s:=λ z=>by simp_all
 conv=>whnf
 rw [hq];intro p hp;refine vo1 (rest:=[some (.ref s)]) (λ d=>!decide (decT d ∈ S)) hp [20] (λ μ' ex=>ex _ _ hq) ?_ ?_
 ·intro x hx μ' R ex kk;obtain ⟨t,ht,rfl⟩:=List.mem_map.mp hx;exact ud5 (Q:=λ d μ1=>match d with | .bl c=>R c μ1 | _=>False) (ex _ _ hs) kk
 ·intro μ1 ex e1;rw [wt3 (λ t=>!decide (t ∈ S))] at e1;have hs1:=ex _ _ hs;have hps:p ≠ s:=λ z=>by simp_all
  generalize hL:(l.filter λ t=>!decide (t ∈ S))=L at e1 k
  have LS:∀ t ∈ L,t ∉ S:=λ t ht=>by
   rw [<- hL,mem_filter] at ht;simpa using ht.2
  have Ln:L.Nodup:=by rw [<- hL]; exact hn.filter _
  have Ll:L.length<=l.length:=by rw [<- hL]; exact length_filter_le _ _
  conv=>whnf
  rw [e1];refine vd0 (λ l' ρ μ'=>∃ (us vs:List T3) (o:Option D),l'=us.map encT /\ vs ++ us=L /\ ρ=[some (.ref q),some (.ref s),some (.ref p),o] /\ ExtB s μ1 μ' /\ μ' s=some (.dcl false (snk (S ++ vs)))) ?_ ?_ ?_ ?_
  ·exact ⟨L,[],none,rfl,rfl,rfl,ExtB.refl _ _,by simp_all⟩
  ·rintro l' ρ μ' ⟨us,vs,o,_,_,_,eb,_⟩;exact eb _ _ hps e1
  ·rintro ρ μ' ⟨us,vs,o,e,ev,rfl,eb,hs'⟩;cases us with
   | cons _ _=>cases e
   | nil =>
    rw [append_nil] at ev;subst ev;exact k p μ' ((ex.b s).trans eb) hp (eb _ _ hps e1) hs'
  ·rintro x rest ρ μ' ⟨us,vs,o,e,ev,rfl,eb,hs'⟩;cases us with
   | nil=>cases e
   | cons t us =>
    rw [map_cons] at e;injection e with e2 e3
    subst e2 e3
    have ht:t ∉ S ++ vs:=λ z=>by
     rcases List.mem_append.mp z with z | z
     ·exact LS t (by rw [<- ev]; simp) z
     ·rw [<- ev] at Ln;exact (List.nodup_append.mp Ln).2.2 t z t [17] rfl
    have ll:(S ++ vs).length < 90000:=by rw [length_append]; rw [<- ev,length_append] at Ll; omega
    refine xv4 (to:=v3 1) (ti:=v3 3) hs' ll ht (λ R r=>r) (λ R r=>r) ⟨us,vs ++ [t],_,rfl,by rw [<- ev]; simp,rfl,eb.trans ExtB.upd,?_⟩;rw [ya0,append_assoc]
structure AtD (μ:Mu) (d:Addr) (ts:List T3) (A:List (Pt × Addr)):Prop where
 dc:μ d=some (.dcl false (atk A))
 nd:(A.map (·.1)).Nodup
 me:∀ p,p ∈ A.map (·.1) ↔ ∃ s ∈ ts,has p s=true
 le:A.length<=2 * ts.length
 ls:∀ x ∈ A,μ x.2=some (.lst ((ts.filter (has x.1)).map encT))
theorem AtI.d {μ0 μ:Mu} {d:Addr} {ts:List T3} {A:List (Pt × Addr)} (I:AtI encT μ0 μ d (incs ts) A):AtD μ d ts A :=
 ⟨I.dc,I.nd,λ p=>(I.me p).trans wv2,by rw [<- zn1]; exact I.le,λ x hx=>by rw [I.ls x hx,wc1]⟩
variable {μ':Mu}
theorem AtD.ext {d:Addr} {S:List (List Int × D)} (a:AtD μ d ts A) (hs:μ s=some (.dcl false S)) (ne:d ≠ s) (e:ExtB s μ μ'):AtD μ' d ts A :=
 ⟨e _ _ ne a.dc,a.nd,a.me,a.le,λ x hx=>e _ _ (λ z=>by have:=a.ls x hx; simp_all) (a.ls x hx)⟩
theorem AtD.mono {d:Addr} (a:AtD μ d ts A) (e:Ext μ μ'):AtD μ' d ts A:=⟨e _ _ a.dc,a.nd,a.me,a.le,λ x hx=>e _ _ (a.ls x hx)⟩
theorem sd5 {d:Addr} {p:Pt} (a:AtD μ d ts A) (h:∃ s ∈ ts,has p s=true) (k:∀ q,μ q=some (.lst ((ts.filter (has p)).map encT))->Q (.ref q) μ):dgR (.ref d) (encQ p) μ Q:=by
 obtain ⟨⟨p',q⟩,hx,e⟩:=List.mem_map.mp ((a.me p).mpr h);dsimp only at e; subst e;unfold dgR;simp only [yb5,a.dc,zj1 a.nd hx];exact k q (a.ls _ hx)
structure Mk (ts S:List T3) (a:T3) (P:List T3):Prop where
 nd:P.Nodup
 sub:∀ x ∈ P,x ∈ ts /\ x ∉ S
 hd:a ∈ P
 co:∀ x ∈ P,Conn ts a x
variable {P:List T3}
theorem Mk.len {a:T3} (m:Mk ts S a P):P.length<=ts.length:=List.Nodup.length_le_of_subset m.nd λ x hx=>(m.sub x hx).1
theorem Mk.add {a h:T3} {p:Pt} (hn:ts.Nodup) (m:Mk ts S a P) (hh:h ∈ P) (hp:has p h=true):Mk ts S a (P ++ (ts.filter (has p)).filter λ t=>!decide (t ∈ S ++ P)):=by
 refine ⟨?_,λ x hx=>?_,mem_append_left _ m.hd,λ x hx=>?_⟩
 ·rw [nodup_append];refine ⟨m.nd,(hn.filter _).filter _,λ x hx y hy e=>?_⟩
  simp_all
 ·rcases List.mem_append.mp hx with hx | hx
  ·exact m.sub x hx
  simp_all
 ·rcases List.mem_append.mp hx with hx | hx
  ·exact m.co x hx
  ·rw [mem_filter,mem_filter] at hx;exact .step (m.co h hh) hx.1.1 ⟨p,hp,hx.1.2⟩
structure Wp (μ μ':Mu) (ts S:List T3) (a:T3) (s pc:Addr) (P:List T3):Prop where
 eb:ExtB s μ μ'
 fr:μ pc=none
 pl:μ' pc=some (.lst (P.map encT))
 sn:μ' s=some (.dcl false (snk (S ++ P)))
 mkk:Mk ts S a P
theorem ExtB.updn {p:Addr} (e:ExtB s μ0 μ) (h:μ0 p=none):ExtB s μ0 (updM μ p o):=λ a u n q=>by
 rw [za0 (ta0 q h)]; exact e a u n q
theorem wy1 {a h:T3} {d pc:Addr} {p:Pt} {o4 o5:Option D} (hn:ts.Nodup) (hl:ts.length < 61) (hS:S.length < 61) (hs:∃ S,μ s=some (.dcl false S)) (hd:AtD μ d ts A) (ne:d ≠ s) (W:Wp μ μ' ts S a s pc P) (hh:h ∈ P) (hp:has p h=true)
    (k:∀ μ2 N,Wp μ μ2 ts S a s pc (P ++ N)->(∀ c ∈ ts,has p c=true->c ∈ S ++ (P ++ N))->Q .non μ2) :
    mt3 extR (v3 3) (xa0 (va0 xv1 (xa0 (o3 dgR (v3 1) (v3 6)) (xa0 (v3 2) nil3))) nil3) [o0,some (.ref d),some (.ref s),some (.ref pc),o4,o5,some (encQ p)] μ' Q:=by
 have hz:(1000:Nat) < sizeLine:=by decide
 obtain ⟨S0,hs0⟩:=hs;have a':=hd.ext hs0 ne W.eb;have lP:=W.mkk.len
 conv=>whnf
 rw [W.pl];show dgR (.ref d) (encQ p) μ' (λ x μ1=>_);refine sd5 a' ⟨h,(W.mkk.sub h hh).1,hp⟩ λ q hq=>?_;have lf:(ts.filter (has p)).length<=ts.length:=length_filter_le _ _;refine ⟨q,s,ts.filter (has p),S ++ P,rfl,hq,W.sn,hn.filter _,by simp_all;omega,λ r μ2 eb hr er es=>?_⟩;have hps:pc ≠ s:=λ z=>by have:=W.pl; rw [z,W.sn] at this; cases this
 have hpr:pc ≠ r:=ta0 W.pl hr;refine uc5 (eb _ _ hps W.pl) er ?_ ?_
 ·rw [length_map,length_map];have:=length_filter_le (λ t=>!decide (t ∈ S ++ P)) (ts.filter (has p));omega
 ·rw [<- map_append];refine k _ _ ⟨(W.eb.trans eb).updn W.fr,W.fr,ya0,?_,W.mkk.add hn hh hp⟩ λ c hc hpc=>?_
  ·rw [za0 (Ne.symm hps),es,append_assoc]
  ·by_cases z:c ∈ S ++ P
   ·rw [<- append_assoc]; exact mem_append_left _ z
   simp_all
def uf4:Sp3:=λ ds μ Q=>∃ (ts S:List T3) (a:T3) (d s:Addr) (A:List (Pt × Addr)),ds=[encT a,.ref d,.ref s] /\ Pc ts /\ AtD μ d ts A /\ μ s=some (.dcl false (snk S)) /\ d ≠ s /\ a ∈ ts /\ a ∉ S /\ S.length < 61 ∧
 ∀ (P us:List T3) μ',ExtB s μ μ'->μ' s=some (.dcl false (snk (S ++ P)))->Mk ts S a P->(∀ x ∈ P,∀ c ∈ ts,tch x c->c ∈ S ++ P)->us.Perm P->us.Pairwise le3->Q (.tup (us.map encT)) μ'
theorem vq4:RdQ uf4 (sb4 yk1 xv1) zx3:=by
 rintro ds μ Q ⟨ts,S,a,d,s,A,rfl,hP,hd,hs,ne,ha,haS,hS,q⟩;have hn:=xt2 hP;have hl:=hP.2.2;refine xv4 (t:=a) (to:=v3 2) (ti:=v3 0) (ρ:=[some (encT a),some (.ref d),some (.ref s),none,none,none,none]) hs [5] haS (λ R r=>r) (λ R r=>r) ?_;refine ⟨Z1,λ pc hpc=>?_⟩;have hps:pc ≠ s:=λ z=>by subst z; rw [ya0] at hpc; cases hpc
 have hpf:μ pc=none:=by rw [za0 hps] at hpc; exact hpc
 have m0:Mk ts S a [a]:=⟨by simp,λ x hx=>by simp_all,by simp,λ x hx=>by rw [mem_singleton] at hx; subst hx; exact .refl⟩;refine ⟨λ m ρ μ'=>∃ (n:Nat) (P:List T3) (o5 o6:Option D),m=ts.length - n /\ n<=P.length /\ ρ=[some (encT a),some (.ref d),some (.ref s),some (.ref pc),some (.int n),o5,o6] /\ Wp μ μ' ts S a s pc P /\ ∀ j x,j < n->P[j]?=some x->∀ c ∈ ts,tch x c->c ∈ S ++ P,⟨ts.length - 0,0,[a],none,none,rfl,Nat.zero_le _,rfl,⟨ExtB.upd.updn hpf,hpf,ya0,?_,m0⟩,λ j x hj=>absurd hj (Nat.not_lt_zero _)⟩,?_⟩
 ·rw [za0 (Ne.symm hps),ya0]
 ·rintro m ρ μ' ⟨n,P,o5,o6,rfl,hnP,rfl,W,cv⟩;have lP:=W.mkk.len
  conv=>whnf
  rw [W.pl];show if decide ((n:Int) < ((P.map encT).length:Int))=true then _ else _;by_cases cn:n < P.length
  ·rw [if_pos (decide_eq_true [26])];refine ⟨λ ρ1 μ1=>∃ (P1:List T3) (o5 o6:Option D),n + 1<=P1.length /\ ρ1=[some (encT a),some (.ref d),some (.ref s),some (.ref pc),some (.int ((n:Int) + 1)),o5,o6] /\ Wp μ μ1 ts S a s pc P1 /\ ∀ j x,j < n + 1->P1[j]?=some x->∀ c ∈ ts,tch x c->c ∈ S ++ P1,?_,?_⟩
   ·rintro ρ1 μ1 ⟨P1,o5',o6',hn1,rfl,W1,cv1⟩;exact ⟨ts.length - (n + 1),by omega,n + 1,P1,o5',o6',rfl,hn1,rfl,W1,cv1⟩
   ·obtain ⟨b1,ea⟩:=ui1 (ts:=P) (i:=(n:Int)) [5] [5];refine ug0 W.pl ea ?_;have ei:((n:Int)).toNat=n:=by omega
    have hg:P[n]?=some (P[n]'cn):=getElem?_eq_getElem cn;have eh:P[((n:Int)).toNat]=P[n]'cn:=by congr 1
    rw [eh];generalize P[n]'cn=h at hg;have hh:h ∈ P:=mem_of_getElem? hg;have hw:wy h:=hP.2.1 h (W.mkk.sub h hh).1;refine ⟨h,rfl,hw,?_⟩
    refine vh1 (λ ρ1 μ1=>∃ N o6,ρ1=[some (encT a),some (.ref d),some (.ref s),some (.ref pc),some (.int n),some (encT h),o6] /\ Wp μ μ1 ts S a s pc (P ++ N) /\ ∀ c ∈ ts,has (e0 h) c=true->c ∈ S ++ (P ++ N))
     (λ ρ1 μ1=>∃ N o6,ρ1=[some (encT a),some (.ref d),some (.ref s),some (.ref pc),some (.int n),some (encT h),o6] /\ Wp μ μ1 ts S a s pc (P ++ N) /\ (∀ c ∈ ts,has (e0 h) c=true->c ∈ S ++ (P ++ N)) /\ ∀ c ∈ ts,has (e1 h) c=true->c ∈ S ++ (P ++ N)) ?_ ?_ ?_
    ·exact wy1 (p:=e0 h) hn hl hS ⟨_,hs⟩ hd ne W hh (un1 h) λ μ2 N W2 cv2=>⟨N,_,rfl,W2,cv2⟩
    ·rintro ρ1 μ1 ⟨N,o6',rfl,W1,cv1⟩;refine wy1 (p:=e1 h) hn hl hS ⟨_,hs⟩ hd ne W1 (mem_append_left _ hh) (zd2 h) λ μ2 N2 W2 cv2=>⟨N ++ N2,_,rfl,by simp_all,λ c hc hp=>?_,λ c hc hp=>by simp_all⟩;rw [<- append_assoc,<- append_assoc];refine mem_append_left _ ?_
     simp_all
    ·rintro ρ1 μ1 ⟨N,o6',rfl,W1,cv0,cv1⟩;refine ⟨P ++ N,_,_,by simp_all;omega,rfl,W1,λ j x hj ex c hc ht=>?_⟩;by_cases cj:j < n
     ·rw [getElem?_append_left [5]] at ex;rcases List.mem_append.mp (cv j x cj ex c hc ht) with z | z
      ·simp_all
      simp_all
     ·have ej:j=n:=by omega
      subst ej;rw [getElem?_append_left [5],hg] at ex;cases ex;obtain ⟨p,p1,p2⟩:=ht;rcases zo0 p1 with rfl | rfl
      ·exact cv0 c hc p2
      simp_all
  ·rw [if_neg (λ z=>cn [26])];refine yf4 (Q:=λ d μ1=>tupR [d] μ1 Q) W.pl [5] λ us a1 a2 r hr=>va4 ya0 (q P us _ (W.eb.trans (Ext.b s (Ext.new hr))) ?_ W.mkk ?_ a1 a2)
   ·rw [za0 (ta0 W.sn hr)]; exact W.sn
   ·intro x hx c hc ht;obtain ⟨j,hj,ej⟩:=getElem_of_mem hx;exact cv j x [5] [26] c hc ht
noncomputable def encU (u:List T3):D:=.tup (u.map encT)
structure Wq (ts S:List T3) (us:List (List T3)):Prop where
 perm:us.flatten.Perm S
 nd:S.Nodup
 sub:∀ x ∈ S,x ∈ ts
 ne:∀ u ∈ us,u ≠ []
 up:∀ u ∈ us,u.Pairwise le3
 cl:∀ u ∈ us,∀ a ∈ u,∀ c ∈ ts,tch a c->c ∈ u
 co:∀ u ∈ us,∀ a ∈ u,∀ b ∈ u,Conn ts a b
variable {us:List (List T3)}
theorem Wq.scl (w:Wq ts S us) {x c:T3} (hx:x ∈ S) (hc:c ∈ ts) (ht:tch x c):c ∈ S:=by
 obtain ⟨u,hu,xu⟩:=List.mem_flatten.mp (w.perm.mem_iff.mpr hx);exact w.perm.mem_iff.mp (List.mem_flatten.mpr ⟨u,hu,w.cl u hu x xu c hc ht⟩)
variable {u:List T3}
theorem Wq.add {a:T3} (ha:a ∈ ts) (w:Wq ts S us) (m:Mk ts S a P) (cv:∀ x ∈ P,∀ c ∈ ts,tch x c->c ∈ S ++ P) (hu:u.Perm P) (hs:u.Pairwise le3):Wq ts (S ++ P) (us ++ [u]):=by
 have clP:∀ x ∈ P,∀ c ∈ ts,tch x c->c ∈ P:=λ x hx c hc ht=>by
  rcases List.mem_append.mp (cv x hx c hc ht) with z | z
  ·exact absurd (w.scl z (m.sub x hx).1 ht.symm) (m.sub x hx).2
  ·exact z
 have each:∀ {C:List T3->Prop},(∀ v ∈ us,C v)->C u->∀ v ∈ us ++ [u],C v:=λ h k v hv=>by
  rcases List.mem_append.mp hv with hv | hv
  ·exact h v hv
  simp_all
 refine ⟨?_,?_,λ x hx=>?_,each w.ne ?_,each w.up hs,each w.cl ?_,each w.co ?_⟩
 ·rw [List.flatten_append];exact List.Perm.append w.perm (by simpa using hu)
 ·rw [nodup_append];exact ⟨w.nd,m.nd,λ x hx y hy e=>(m.sub y hy).2 (e ▸ hx)⟩
 ·rcases List.mem_append.mp hx with z | z
  ·exact w.sub x z
  ·exact (m.sub x z).1
 ·intro z; subst z; exact absurd (hu.symm.mem_iff.mp m.hd) [17]
 ·intro x hx c hc ht;exact hu.mem_iff.mpr (clP x (hu.mem_iff.mp hx) c hc ht)
 ·intro x hx y hy;exact ((m.co x (hu.mem_iff.mp hx)).symm ha).trans (m.co y (hu.mem_iff.mp hy))
def sj1:Sp3:=λ ds μ Q=>∃ ts:List T3,ds=[.tup (ts.map encT)] /\ Pc ts /\ ∀ r (us:List (List T3)) μ',Ext μ μ'->μ r=none->μ' r=some (.lst (us.map encU))->IsP ts us->Q (.ref r) μ'
theorem tq4:RdQ sj1 (yc4 vv1 uf4 spAt) vx3:=by
 rintro ds μ Q ⟨ts,rfl,hP,q⟩;have hn:=xt2 hP;have hl:=hP.2.2;have hz:(1000:Nat) < sizeLine:=by decide
 refine ⟨ts,rfl,hP,ts,rfl,hP.2.1,hl,λ d A μ1 I=>?_⟩;intro s hs;refine ⟨Nat.zero_le _,λ pl hpl=>?_⟩;have hds:d ≠ s:=ta0 I.dc hs;have hpls:pl ≠ s:=λ z=>by subst z; rw [ya0] at hpl; cases hpl
 have hpl1:μ1 pl=none:=by rw [za0 hpls] at hpl; exact hpl
 refine vd0 (λ l ρ μ'=>∃ (ks js S:List T3) (us:List (List T3)) (o:Option D),l=ks.map encT /\ js ++ ks=ts /\ ρ=[some (.tup (ts.map encT)),some (.ref d),some (.ref s),some (.ref pl),o] /\ Ext μ1 μ' /\ μ' s=some (.dcl false (snk S)) /\ μ' pl=some (.lst (us.map encU)) /\ Wq ts S us /\ us.length<=S.length /\ ∀ x ∈ js,x ∈ S) ?_ (λ _ _ _ _=>trivial) ?_ ?_
 ·refine ⟨ts,[],[],[],none,rfl,rfl,rfl,(Ext.new hs).trans (Ext.new hpl),?_,ya0,⟨by simp,nodup_nil,λ _ h=>(nomatch h),λ _ h=>(nomatch h),λ _ h=>(nomatch h),λ _ h=>(nomatch h),λ _ h=>(nomatch h)⟩,Nat.le_refl _,λ _ h=>(nomatch h)⟩;rw [za0 (Ne.symm hpls),ya0]; rfl
 ·rintro ρ μ' ⟨ks,js,S,us,o,e,ej,rfl,ex,es,ep,w,lu,hj⟩;cases ks with
  | cons _ _=>cases e
  | nil =>
   rw [append_nil] at ej;subst ej;refine q pl us μ' (I.ex.trans ex) (I.ex.free hpl1) ep ⟨w.perm.trans ((List.perm_ext_iff_of_nodup w.nd hn).mpr λ x=>⟨w.sub x,hj x⟩),w.ne,w.up,w.cl,w.co⟩
 ·rintro x rest ρ μ' ⟨ks,js,S,us,o,e,ej,rfl,ex,es,ep,w,lu,hj⟩;cases ks with
  | nil=>cases e
  | cons a ks =>
   rw [map_cons] at e;injection e with e2 e3
   subst e2 e3;have ha:a ∈ ts:=by rw [<- ej]; simp
   have lS:S.length<=ts.length:=List.Nodup.length_le_of_subset w.nd w.sub
   conv=>whnf
   rw [es];show if (!(valL (snk S) (tk3 a)).isSome)=true then _ else _;rw [yt1];by_cases c:a ∈ S
   ·rw [decide_eq_true c];refine ⟨ks,js ++ [a],S,us,_,rfl,by rw [<- ej]; simp,rfl,ex,es,ep,w,lu,λ x hx=>?_⟩;rcases List.mem_append.mp hx with z | z
    ·exact hj x z
    simp_all
   ·rw [decide_eq_false c]
    conv=>whnf
    rw [ep];refine ⟨ts,S,a,d,s,A,rfl,hP,I.d.mono ex,es,hds,ha,c,by omega,λ P v μ2 eb es2 m cv v1 v2=>?_⟩;have ep2:=eb pl _ hpls ep;have lP:=m.len;have w2:=w.add ha m cv v1 v2;have lS2:(S ++ P).length<=ts.length:=List.Nodup.length_le_of_subset w2.nd w2.sub;have hP1:1<=P.length:=List.length_pos_of_mem m.hd
    conv=>whnf
    rw [ep2];refine ⟨by simp_all;omega,?_⟩;refine ⟨ks,js ++ [a],S ++ P,us ++ [v],_,rfl,by rw [<- ej]; simp,rfl,?_,?_,?_,w2,?_,λ x hx=>?_⟩
    ·intro b o' hb;have n1:b ≠ s:=ta0 hb hs;have n2:b ≠ pl:=ta0 hb hpl1;rw [za0 n2];exact eb b o' n1 (ex b o' hb)
    ·rw [za0 (Ne.symm hpls)]; exact es2
    ·rw [ya0,map_append]; rfl
    ·simp_all;omega
    ·rcases List.mem_append.mp hx with z | z
     ·simp_all
     ·rw [mem_singleton] at z; subst z; exact mem_append_right _ m.hd
noncomputable def decQ (d:D):Pt:=match d with
 | .tup [.int a,.int b]=>(a,b)
 | _=>(0,0)
theorem wx2 (p:Pt):decQ (encQ p)=p:=rfl
theorem flt_q (g:Pt->Bool) (A:List Pt):(A.map encQ).filter (λ d=>g (decQ d))=(A.filter g).map encQ:=by
 rw [List.filter_map]; rfl
variable {ps:List Pt}
theorem zf4 {p:Addr} (h:μ p=some (.lst (ps.map encQ))) (h64:ps.length < 100000) (k:∀ us:List Pt,us.Perm ps->us.Pairwise le2->∀ r,μ r=none->Q (.ref r) (updM μ r (.lst (us.map encQ)))):sp1 [.ref p] μ Q:=by
 have e:t2s? (ps.map encQ)=some ps:=uu1 ps;unfold sp1;simp only [h,e]
 exact ⟨by have:(100000:Nat) < sizeLine:=by decide
           omega,k⟩
def tf4:Sp3:=λ ds μ Q=>∃ ts:List T3,ds=[.tup (ts.map encT)] /\ Pc ts /\ ts.length < 61 /\ ∀ r (ps:List Pt) μ',Ext μ μ'->μ r=none->μ' r=some (.lst (ps.map encQ))->ps.Perm (Od ts)->Q (.ref r) μ'
theorem wr4:RdQ tf4 (tc4 vv1 spAt) yy3:=by
 rintro ds μ Q ⟨ts,rfl,hP,h31,q⟩;have hz:(1000:Nat) < sizeLine:=by decide
 refine ⟨ts,rfl,hP,ts,rfl,hP.2.1,hP.2.2,λ d A μ1 I=>?_⟩;have a:=I.d;have lA:=a.le
 conv=>whnf
 rw [I.dc];intro p hp
 have el:((atk A).map λ kv=>tupI kv.1)=(A.map (·.1)).map encQ:=by
  unfold atk; rw [map_map,map_map]; rfl
 rw [el];refine vo1 (rest:=[some (.ref d)]) (λ x=>decide (deg ts (decQ x) % 2=1)) hp [20] (λ μ' ex=>ex _ _ I.dc) ?_ ?_
 ·intro x hx μ' R ex kk;obtain ⟨p',hp',rfl⟩:=List.mem_map.mp hx;show dgR (.ref d) (encQ p') μ' (λ x μ1=>_);refine sd5 (a.mono ex) ((a.me p').mp hp') λ r hr=>?_
  conv=>whnf
  rw [hr];refine ⟨(show (0:Int) < 2 by decide),?_⟩
  have e:decide ((((ts.filter (has p')).map encT).length:Int) % 2=1)=decide (deg ts (decQ (encQ p')) % 2=1):=by
   rw [wx2,length_map];unfold deg;rw [List.countP_eq_length_filter]
   simp_all;omega
  show R (decide ((((ts.filter (has p')).map encT).length:Int) % 2=1)) μ';rw [e];exact kk
 ·intro μ2 ex e2;rw [flt_q (λ p=>decide (deg ts p % 2=1))] at e2;have lF:=length_filter_le (λ p=>decide (deg ts p % 2=1)) (A.map (·.1));rw [length_map] at lF;refine zf4 e2 [5] λ us u1 u2 r hr=>q r us _ (I.ex.trans (ex.trans (Ext.new hr))) ((I.ex.trans ex).free hr) ya0 (u1.trans ?_);refine (List.perm_ext_iff_of_nodup (a.nd.filter _) (us1 _)).mpr λ p=>?_;rw [mem_filter,ue1,decide_eq_true_eq];refine ⟨λ z=>z.2,λ z=>⟨(a.me p).mpr (sh1 z),z⟩⟩
noncomputable def nx (p q:Pt):Bool:=decide ((if p.1 - q.1 < 0 then -(p.1 - q.1) else p.1 - q.1) + (if p.2 - q.2 < 0 then -(p.2 - q.2) else p.2 - q.2)=1)
def spNx:Sp3:=λ ds μ Q=>∃ p q,ds=[encQ p,encQ q] /\ Q (.bl (nx p q)) μ
theorem rd_q6:RdQ spNx t_q6 N_q6:=by
 rintro ds μ Q ⟨p,q,rfl,k⟩;exact k
noncomputable def isT (t:List Pt):Bool:=decide (1 < t.length) && (List.range (t.length - 1)).all λ i=>nx (gp t i) (gp t (i + 1))
theorem uh2:∀ bs:List Bool,bls? (bs.map D.bl)=some bs
 | []=>rfl
 | b :: r=>by simp only [map_cons,bls?,uh2 r]
theorem tf5 {p:Addr} {bs:List Bool} (h:μ p=some (.lst (bs.map D.bl))) (k:Q (.bl (bs.all id)) μ):allR [.ref p] μ Q:=by
 unfold allR;simp only [h,uh2];exact k
def spTr:Sp3:=λ ds μ Q=>∃ (q:Addr) (t:List Pt),ds=[.ref q] /\ μ q=some (.lst (t.map encQ)) /\ t.length < 100 /\ ∀ μ',Ext μ μ'->Q (.bl (isT t)) μ'
theorem xs4:RdQ spTr (tg3 spNx) sy2:=by
 rintro ds μ Q ⟨q,t,rfl,hq,hl,k⟩;simp only [tg3,ret3,ws1,o3,va0,xa0,v3,ua0,map_cons,map_nil,sy2,length_cons,length_nil,Nat.zero_add,Nat.reduceSub,List.replicate,cons_append,nil_append,getI,nil3,lenR,hq,c3,gtR,zk0,decide_eq_true_eq,te0,ir23,subR,Option.bind_none,Option.bind_some];by_cases c:1 < t.length
 ·rw [if_pos [20]];refine ⟨⟨by decide,by decide,by omega,by simp_all;omega⟩,λ p hp=>?_⟩;refine uo1 (λ a b=>.bl (nx a b)) hq [5] hp (λ a b μ' R r=>⟨a,b,rfl,r⟩) λ μ' ex ep=>?_;refine tf5 (bs:=(List.range (t.length - 1)).map λ i=>nx (gp t i) (gp t (i + 1))) [26] ?_;have e:=k μ' ex;unfold isT at e
  simp_all
 ·rw [if_neg [20]];have e:=k μ (Ext.refl _);unfold isT at e;rw [decide_eq_false c,Bool.false_and] at e;exact e
abbrev Tr:=Addr × List Pt
noncomputable def rf (x:Tr):D:=.ref x.1
def TRm (μ:Mu) (A:List Tr):Prop:=∀ x ∈ A,μ x.1=some (.lst (x.2.map encQ))
noncomputable def sz (A:List Tr):Nat:=(A.map λ x=>x.2.length).sum
noncomputable def flat (A:List Tr):List T3:=A.flatMap λ x=>yg0 x.2
def HasT (ts:List T3) (A:List Tr):Prop:=(∀ x ∈ A,isT x.2=true) /\ (flat A).Perm ts
theorem xv3 (t:List Pt):(t.map encQ).map decQ=t:=by
 rw [map_map];exact (map_congr_left (λ p _=>rfl)).trans (List.map_id t)
def AN (t:List Pt):Prop:=∀ i,i < t.length - 1->nx (gp t i) (gp t (i + 1))=true
theorem zr0 (t:List Pt):isT t=true ↔ 1 < t.length /\ AN t:=by
 unfold isT AN;simp
noncomputable def mxP (p q:Int × Int):Int × Int:=if ltP p.1 p.2 q.1 q.2=true then q else p
theorem mn_r (x y:Int):mnP (x,y) (x + 1,y)=(x,y) /\ mxP (x,y) (x + 1,y)=(x + 1,y) /\ mnP (x + 1,y) (x,y)=(x,y) /\ mxP (x + 1,y) (x,y)=(x + 1,y):=by
 refine ⟨?_,?_,?_,?_⟩ <;> simp [mnP,mxP,ltP] <;> omega
theorem mn_u (x y:Int):mnP (x,y) (x,y + 1)=(x,y) /\ mxP (x,y) (x,y + 1)=(x,y + 1) /\ mnP (x,y + 1) (x,y)=(x,y) /\ mxP (x,y + 1) (x,y)=(x,y + 1):=by
 refine ⟨?_,?_,?_,?_⟩ <;> simp [mnP,mxP,ltP] <;> omega
theorem btw_r (x y:Int):btw (x,y) (x + 1,y)=(x,y,0) /\ btw (x + 1,y) (x,y)=(x,y,0) /\ btw (x,y) (x,y + 1)=(x,y,1) /\ btw (x,y + 1) (x,y)=(x,y,1):=by
 obtain ⟨a1,_,a3,_⟩:=mn_r x y;obtain ⟨b1,_,b3,_⟩:=mn_u x y;unfold btw
 simp_all;omega
noncomputable def lfe (p q:Int × Int):T3:=((mnP p q).1,(mnP p q).2,(mxP p q).2 - (mnP p q).2)
inductive Kd where
 | go
 | jump
 | turn
abbrev Kn:=Kd × Int
noncomputable def kS:Kd->Str
 | .go => "go"
 | .jump => "jump"
 | .turn => "turn"
noncomputable def encD (d:Kn):D:=.tup [.str (kS d.1),.int d.2]
abbrev WS:=Pen × List T3
noncomputable def stk (p:Pen):T3:=((mnP (p.1,p.2.1) (p.1 + cs p.2.2,p.2.1 + sn p.2.2)).1,(mnP (p.1,p.2.1) (p.1 + cs p.2.2,p.2.1 + sn p.2.2)).2,p.2.2 % 2)
noncomputable def go1 (s:WS):WS:=((s.1.1 + cs s.1.2.2,s.1.2.1 + sn s.1.2.2,s.1.2.2),s.2 ++ [stk s.1])
noncomputable def goN:Nat->WS->WS
 | 0,s=>s
 | n + 1,s=>go1 (goN n s)
noncomputable def wq (s:WS) (d:Kn):WS:=match d.1 with
 | .go=>goN d.2.toNat s
 | .jump=>((s.1.1 + cs s.1.2.2 * d.2,s.1.2.1 + sn s.1.2.2 * d.2,s.1.2.2),s.2)
 | .turn=>((s.1.1,s.1.2.1,(s.1.2.2 + d.2) % 4),s.2)
noncomputable def wqA (ds:List Kn):WS:=ds.foldl wq (st,[])
theorem zh0 (ds:List Kn) (d:Kn):wqA (ds ++ [d])=wq (wqA ds) d:=by unfold wqA; simp
theorem ye2 (n:Nat) (s:WS):(goN n s).1.2.2=s.1.2.2:=by
 induction n with
 | zero=>rfl
 | succ n ih=>assumption
theorem zh1 (n:Nat) (s:WS):(goN n s).2.length=s.2.length + n:=by
 induction n with
 | zero=>rfl
 | succ n ih=>show ((goN n s).2 ++ [_]).length=_; simp_all;omega
theorem uz3 (s:WS) (d:Kn):s.2.length<=(wq s d).2.length:=by
 obtain ⟨k,n⟩:=d;cases k with
 | go=>show _<=(goN n.toNat s).2.length; rw [zh1]; omega
 | jump=>exact Nat.le_refl _
 | turn=>exact Nat.le_refl _
def OKd (b:Nat) (ds:List Kn):Prop:=∀ (k:Kd) (m:Int),(k,m) ∈ ds->(k=.go->0<=m /\ m<=b) /\ (k ≠ .go -> -(10 ^ 9) < m /\ m < 10 ^ 9)
variable {ds:List Kn}
theorem OKd.mono {b c:Nat} (h:OKd b ds) (k:b<=c):OKd c ds:=λ x m hm=>⟨λ e=>by have:=(h x m hm).1 e; omega,(h x m hm).2⟩
theorem xi3 {p:Pen} {q:Pt} (h:Hd p) (e1:q.1=p.1 + cs p.2.2) (e2:q.2=p.2.1 + sn p.2.2):stk p=lfe (p.1,p.2.1) q:=by
 obtain ⟨x,y,hd⟩:=p;obtain ⟨a,b⟩:=q;dsimp only at e1 e2;subst e1 e2;unfold Hd at h;dsimp only at h;unfold stk lfe mnP mxP ltP;rcases h with rfl | rfl | rfl | rfl
 ·simp [cs,sn,show ¬ (x + 1 < x) by omega,show ¬ (x + 1=x) by omega,show ¬ (x=x + 1) by omega,show x < x + 1 by omega]
 ·simp [cs,sn,show ¬ (y + 1 < y) by omega,show y < y + 1 by omega] <;> omega
 ·simp [cs,sn,show (x + -1 < x) by omega,show ¬ (x + -1=x) by omega,show ¬ (x=x + -1) by omega,show ¬ (x < x + -1) by omega]
 ·simp [cs,sn,show (y + -1 < y) by omega,show ¬ (y < y + -1) by omega] <;> omega
theorem nx_h {p q:Pt} (h:nx p q=true):(p.1=q.1 /\ (p.2=q.2 + 1 \/ q.2=p.2 + 1)) \/ (p.2=q.2 /\ (p.1=q.1 + 1 \/ q.1=p.1 + 1)):=by
 unfold nx at h;rw [decide_eq_true_eq] at h;by_cases a:p.1=q.1
 ·by_cases b:p.2 < q.2
  ·exact .inl ⟨a,.inr [5]⟩
  ·exact .inl ⟨a,.inl [5]⟩
 ·by_cases b:p.1 < q.1
  ·exact .inr ⟨by omega,.inr [5]⟩
  ·exact .inr ⟨by omega,.inl [5]⟩
theorem nx_hd {p q:Pt} (h:nx p q=true):∃ d:Int,(d=0 \/ d=1 \/ d=2 \/ d=3) /\ q.1 - p.1=cs d /\ q.2 - p.2=sn d:=by
 rcases nx_h h with ⟨a,b | b⟩ | ⟨a,b | b⟩
 ·exact ⟨3,by simp,by simp [cs]; omega,by simp [sn]; omega⟩
 ·exact ⟨1,by simp,by simp [cs]; omega,by simp [sn]; omega⟩
 ·exact ⟨2,by simp,by simp [cs]; omega,by simp [sn]; omega⟩
 ·exact ⟨0,by simp,by simp [cs]; omega,by simp [sn]; omega⟩
noncomputable def scF (d:D) (q:Addr):List (Str × D):=[("pen",d),("deeds",.ref q)]
def Sc (μ:Mu) (p q:Addr) (pen:Pen) (ds:List Kn):Prop:=∃ d,isP d pen /\ μ p=some (.ins "Scribe" (scF d q)) /\ μ q=some (.lst (ds.map encD))
variable {pen:Pen}
theorem Sc.ne {p q:Addr} (h:Sc μ p q pen ds):p ≠ q:=by
 obtain ⟨d,_,h1,h2⟩:=h;rintro rfl
 simp_all
def ScI (μ:Mu) (p q:Addr) (pen:Pen) (S:List T3) (n:Nat):Prop:=∃ ds,Sc μ p q pen ds /\ wqA ds=(pen,S) /\ Hd pen /\ OKd S.length ds /\ ds.length<=n
variable {n:Nat}
theorem ScI.mono {p q:Addr} {m:Nat} (h:ScI μ p q pen S n) (k:n<=m):ScI μ p q pen S m:=by
 obtain ⟨ds,h1,h2,h3,h4,h5⟩:=h;exact ⟨ds,h1,h2,h3,h4,Nat.le_trans h5 k⟩
def FrB (p q:Addr) (μ μ':Mu):Prop:=∀ a o,a ≠ p->a ≠ q->μ a=some o->μ' a=some o
theorem FrB.trans {p q:Addr} {a b c:Mu} (h:FrB p q a b) (k:FrB p q b c):FrB p q a c:=λ x o n1 n2 e=>k x o n1 n2 (h x o n1 n2 e)
theorem FrB.refl (p q:Addr) (μ:Mu):FrB p q μ μ:=λ _ _ _ _ e=>e
theorem FrB.p {p q:Addr} {μ:Mu} {o:MO}:FrB p q μ (updM μ p o):=λ a u n1 _ e=>by rw [za0 n1]; exact e
theorem FrB.q {p q:Addr} {μ:Mu} {o:MO}:FrB p q μ (updM μ q o):=λ a u _ n2 e=>by rw [za0 n2]; exact e
theorem FrB.ext {p q:Addr} (e:Ext μ μ'):FrB p q μ μ':=λ a o _ _ h=>e a o h
def ub3:Sp3:=λ ds μ Q=>∃ p,ds=[.ref p] /\ μ p=some (.ins "Scribe" []) /\ ∀ q μ',μ q=none->ScI μ' p q st [] 0->FrB p q μ μ'->Q .non μ'
theorem vl0:RdQ ub3 xh0 ze0:=by
 rintro ds μ Q ⟨p,rfl,hp,k⟩
 conv=>whnf
 rw [hp];refine ⟨⟨rfl,(show 0 < 1000 by decide)⟩,?_⟩;refine ⟨(show 0<=sizeLine by decide),λ q hq=>?_⟩;have hpq:p ≠ q:=ta0 ya0 hq;have h2:updM (updM μ p (.ins "Scribe" (putD "pen" ui0 []))) q (.lst []) p=some (.ins "Scribe" (putD "pen" ui0 [])):=by rw [za0 hpq,ya0]
 conv=>whnf
 rw [h2];refine ⟨⟨rfl,(show 1 < 1000 by decide)⟩,?_⟩;refine k q _ ?_ ⟨[],⟨ui0,.inr rfl,ya0,?_⟩,rfl,.inl rfl,(λ _ m hm=>nomatch hm),Nat.le_refl _⟩ λ a o n1 n2 e=>?_
 ·rw [za0 (Ne.symm hpq)] at hq; exact hq
 ·rw [za0 (Ne.symm hpq),ya0]; rfl
 ·rw [za0 n1,za0 n2,za0 n1]; exact e
def wt0:Sp3:=λ ds μ Q=>∃ (p q:Addr) (pen:Pen) (S:List T3) (n:Nat) (h:Int),ds=[.ref p,.int h] /\ ScI μ p q pen S n /\ (h=0 \/ h=1 \/ h=2 \/ h=3) /\ n < 90000 /\ ∀ μ',ScI μ' p q (pen.1,pen.2.1,h) S (n + 1)->FrB p q μ μ'->Q .non μ'
theorem zn0:RdQ wt0 (th0 vz0) se0:=by
 rintro ds μ Q ⟨p,q,⟨x,y,hd⟩,S,n,h,rfl,⟨ds,sc,wa,hh,ok,hl⟩,h4,hn,k⟩;have z:(100000:Nat) < sizeLine:=by decide
 obtain ⟨pd,ip,hp,hq⟩:=id sc;have hpq:=sc.ne;unfold Hd at hh;dsimp only at hh;have b1:0<=hd /\ hd < 4:=by clear h4; omega
 have b2:0<=h /\ h < 4:=by clear hh; omega
 have em:(hd + (h - hd) % 4) % 4=h:=by clear h4 hh; omega
 conv=>whnf
 rw [hp];refine ⟨rfl,?_⟩;show ixR pd (.int 2) _ (λ _ _=>_);refine sb1 ip rfl ?_;refine ⟨(show (0:Int) < 4 by decide),?_⟩;show ite ((!decide ((h - hd) % 4=0))=true) _ _;by_cases c:(h - hd) % 4=0
 ·rw [decide_eq_true c];have e:h=hd:=by clear h4 hh; omega
  subst e;exact k μ ⟨ds,sc,wa,hh,ok,by omega⟩ (FrB.refl p q μ)
 ·rw [decide_eq_false c]
  conv=>whnf
  rw [hp];refine ⟨rfl,?_⟩
  conv=>whnf
  rw [hq];refine ⟨z2,?_⟩
  conv=>whnf
  rw [hq];refine ⟨by simp_all;omega,?_⟩;have hp1:updM μ q (.lst (ds.map encD ++ [.tup [.str "turn",.int ((h - hd) % 4)]])) p=some (.ins "Scribe" (scF pd q)):=by rw [za0 hpq]; exact hp
  conv=>whnf
  rw [hp1];refine ⟨rfl,?_⟩;refine ⟨z3,pd,_,(x,y,hd),(0,0,(h - hd) % 4),rfl,ip,.inl rfl,hh,?_⟩
  conv=>whnf
  rw [hp1];refine ⟨⟨rfl,(show 2 < 1000 by decide)⟩,?_⟩
  have e1:led (x,y,hd) (0,0,(h - hd) % 4)=(x,y,h):=by
   unfold led
   simp_all
  rw [e1];refine k _ ⟨ds ++ [(.turn,(h - hd) % 4)],⟨_,.inl rfl,ya0,?_⟩,?_,h4,λ x m hm=>?_,by simp_all⟩ (FrB.q.trans FrB.p)
  ·rw [za0 (Ne.symm hpq),ya0,map_append]; rfl
  ·rw [zh0,wa];show ((x,y,(hd + (h - hd) % 4) % 4),S)=_;rw [em]
  ·rcases List.mem_append.mp hm with hm | hm
   ·exact ok x m hm
   simp_all;omega
noncomputable def encL (l:Lk2):D:=.tup [encQ l.1,encQ l.2]
noncomputable def enN (n:Nat):D:=.int (n:Int)
noncomputable def oD:Option Nat->D
 | none=>.non
 | some n=>.int (n:Int)
noncomputable def encW (w:Wt):D:=.tup [encQ w.1,oD w.2]
noncomputable def lkD (L:List Lk2) (n:Nat):Lk2:=L.getD n ((0,0),(0,0))
noncomputable def incN (L:List Lk2) (k:Nat):List (Pt × Nat):=(List.range k).flatMap λ n=>[((lkD L n).1,n),((lkD L n).2,n)]
theorem yc1 (L:List Lk2) (k:Nat):incN L (k + 1)=incN L k ++ [((lkD L k).1,k)] ++ [((lkD L k).2,k)]:=by
 unfold incN; rw [range_succ,List.flatMap_append]; simp
theorem uv2 (L:List Lk2) (k:Nat):(incN L k).length=2 * k:=by
 induction k with
 | zero=>rfl
 | succ k ih=>rw [yc1,length_append,length_append,ih]; rfl
variable {L:List Lk2}
theorem zb2 {l:Lk2} (h:L[n]?=some l):lkD L n=l:=by
 unfold lkD; simp_all
theorem sq0 (h:n < L.length):L[n]?=some (lkD L n):=by
 unfold lkD; simp_all
theorem vn1 {p:Pt} (h:n ∈ here (incN L L.length) p):∃ l,L[n]?=some l /\ ic l p:=by
 unfold here at h;obtain ⟨⟨q,m⟩,h1,rfl⟩:=List.mem_map.mp h;obtain ⟨h2,h3⟩:=List.mem_filter.mp h1;have e:=of_decide_eq_true h3;dsimp only at e ⊢;subst e;obtain ⟨k,hk,h4⟩:=List.mem_flatMap.mp h2;have hk':=List.mem_range.mp hk;rcases List.mem_cons.mp h4 with e | h4
 ·cases e; exact ⟨_,sq0 hk',.inl rfl⟩
 ·have e:=List.mem_singleton.mp h4;cases e; exact ⟨_,sq0 hk',.inr rfl⟩
theorem vv2 {p:Pt} {l:Lk2} (h:L[n]?=some l) (hp:ic l p):n ∈ here (incN L L.length) p:=by
 have hn:n < L.length:=(List.getElem?_eq_some_iff.mp h).1;have e:=zb2 h;unfold here;refine List.mem_map.mpr ⟨(p,n),List.mem_filter.mpr ⟨List.mem_flatMap.mpr ⟨n,List.mem_range.mpr hn,?_⟩,decide_eq_true rfl⟩,rfl⟩;rw [e];rcases hp with rfl | rfl <;> simp
theorem ws3 {p:Pt} (h:∃ l ∈ L,ic l p):p ∈ (incN L L.length).map (·.1):=by
 obtain ⟨l,hl,hp⟩:=h;obtain ⟨n,hn,e⟩:=getElem_of_mem hl;have e1:L[n]?=some l:=by simp_all
 have e2:=zb2 e1;refine List.mem_map.mpr ⟨(p,n),List.mem_flatMap.mpr ⟨n,List.mem_range.mpr hn,?_⟩,rfl⟩;rw [e2];rcases hp with rfl | rfl <;> simp
theorem at_L (h:n < L.length):atI (L.map encL) (n:Int)=some (encL (lkD L n)):=by
 unfold atI ixN;rw [if_pos [5],if_pos [26]];show (L.map encL)[((n:Int)).toNat]?=_;rw [show ((n:Int)).toNat=n by omega,getElem?_map,sq0 h]; rfl
def xg4:Sp3:=λ ds μ Q=>∃ (lr:Addr) (L:List Lk2),ds=[.ref lr] /\ μ lr=some (.lst (L.map encL)) /\ L.length < 200 /\ ∀ d A μ',AtI enN μ μ' d (incN L L.length) A->Q (.ref d) μ'
theorem vr4:RdQ xg4 sc4 zy3:=by
 rintro ds μ Q ⟨lr,L,rfl,hL,hl,q⟩;intro d hd;have hL1:updM μ d (.dcl false []) lr=some (.lst (L.map encL)):=by rw [za0 (ta0 hL hd)]; exact hL
 conv=>whnf
 rw [hL1];refine ⟨⟨by omega,by simp_all;omega⟩,?_⟩;refine vd0 (λ l ρ μ'=>∃ (k:Nat) (A:List (Pt × Addr)) (o2 o3:Option D),l=rngD (k:Int) (L.length - k) /\ k<=L.length /\ ρ=[some (.ref lr),some (.ref d),o2,o3] /\ AtI enN μ μ' d (incN L k) A) ?_ (λ _ _ _ _=>trivial) ?_ ?_
 ·refine ⟨0,[],none,none,?_,Nat.zero_le _,rfl,Ext.new hd,hd,ya0,nodup_nil,λ p=>Iff.rfl,Nat.le_refl _,nodup_nil,λ _ h=>(nomatch h),λ _ h=>(nomatch h)⟩;simp
 ·rintro ρ μ' ⟨k,A,o2,o3',e,hk,rfl,I⟩
  have e0:L.length - k=0:=by
   cases c:L.length - k with
   | zero=>rfl
   | succ c'=>rw [c,vf0] at e; cases e
  have ek:k=L.length:=by omega
  subst ek;exact q d A μ' I
 ·rintro x rest ρ μ' ⟨k,A,o2,o3',e,hk,rfl,I⟩;cases n:L.length - k with
  | zero=>rw [n] at e; simp [rngD] at e
  | succ m =>
   rw [n,vf0] at e;simp only [List.cons.injEq] at e;obtain ⟨rfl,rfl⟩:=e;have hk1:k < L.length:=by omega
   have ln:=uv2 L k;show ixR (.ref lr) (.int (k:Int)) μ' (λ x μ1=>_);refine ug0 (I.ex _ _ hL) (at_L hk1) ?_;refine vh1 (λ ρ μ'=>∃ A o3,ρ=[some (.ref lr),some (.ref d),some (enN k),o3] /\ AtI enN μ μ' d (incN L k ++ [((lkD L k).1,k)]) A) (λ ρ μ'=>∃ A o3,ρ=[some (.ref lr),some (.ref d),some (enN k),o3] /\ AtI enN μ μ' d (incN L k ++ [((lkD L k).1,k)] ++ [((lkD L k).2,k)]) A) ?_ ?_ ?_
   ·exact vy0 (en:=enN) (p:=(lkD L k).1) (t:=k) I [5] λ μ2 A2 I2=>⟨A2,_,rfl,I2⟩
   ·rintro ρ μ1 ⟨A1,o3'',rfl,I1⟩;exact vy0 (en:=enN) (p:=(lkD L k).2) (t:=k) I1 [20] λ μ2 A2 I2=>⟨A2,_,rfl,I2⟩
   ·rintro ρ μ1 ⟨A1,o3'',rfl,I1⟩;rw [<- yc1] at I1;exact ⟨k + 1,A1,_,_,by rw [show L.length - (k + 1)=m by omega]; congr 1,by omega,rfl,I1⟩
noncomputable def usd (U:List Nat):List (L2.Key × D):=U.map λ n:Nat=>(.inl (n:Int),.bl true)
theorem xa3 (n:Nat):∀ U:List Nat,(valK (usd U) (.inl (n:Int))).isSome=decide (n ∈ U)
 | []=>rfl
 | m :: r=>by
  have ih:=xa3 n r;unfold valK usd at ih ⊢;rw [map_cons,find?_cons];by_cases c:m=n
  ·subst c; simp
  ·have c1:¬ ((Sum.inl (m:Int):L2.Key)=.inl (n:Int)):=λ z=>c (by injection z with z; omega)
   simp_all;omega
variable {U:List Nat}
theorem uu4 (h:n ∉ U):putY (usd U) (.inl (n:Int)) (.bl true)=usd (U ++ [n]):=by
 unfold putY;rw [if_neg]
 ·unfold usd; simp
 ·intro z;obtain ⟨x,hx,e⟩:=List.any_eq_true.mp z;obtain ⟨m,hm,rfl⟩:=List.mem_map.mp hx;have e:=of_decide_eq_true e;dsimp only at e;injection e with e
  have:m=n:=by omega
  simp_all
theorem sv4 {p:Addr} {l:List D} (h1:∀ R:VK3,R (.ref p) μ->to ρ μ R) (h:μ p=some (.lst (l ++ [x]))) (k:Q x (updM μ p (.lst l))):pop3 to ρ μ Q:=by
 refine h1 _ ?_
 simp_all
def si3:Sp3:=λ ds μ Q=>∃ (q s:Addr) (l U:List Nat),ds=[.ref q,.ref s] /\ μ q=some (.lst (l.map enN)) /\ μ s=some (.dck (usd U)) ∧
 ((∀ n ∈ l,n ∈ U)->∀ μ',(∀ a,a ≠ q->μ' a=μ a)->μ' q=some (.lst [])->Q .non μ') ∧
 (∀ r n z,l=r ++ n :: z->n ∉ U->(∀ m ∈ z,m ∈ U)->∀ μ',(∀ a,a ≠ q->μ' a=μ a)->μ' q=some (.lst (r.map enN))->Q (enN n) μ')
theorem wp4:RdQ si3 yb4 ww3:=by
 rintro ds μ Q ⟨q,s,l,U,rfl,hq,hs,k1,k2⟩;have ne:s ≠ q:=λ z=>by simp_all
 refine ⟨λ m ρ μ'=>∃ (r z:List Nat) (o:Option D),m=r.length /\ l=r ++ z /\ (∀ m ∈ z,m ∈ U) /\ ρ=[some (.ref q),some (.ref s),o] /\ (∀ a,a ≠ q->μ' a=μ a) /\ μ' q=some (.lst (r.map enN)),⟨l.length,l,[],none,rfl,by simp,λ _ h=>(nomatch h),rfl,λ _ _=>rfl,hq⟩,?_⟩;rintro m ρ μ' ⟨r,z,o,rfl,el,hz,rfl,eq,hr⟩
 conv=>whnf
 rw [hr];show if decide ((0:Int) < ((r.map enN).length:Int))=true then _ else _;rcases List.eq_nil_or_concat r with rfl | ⟨r',n,rfl⟩
 ·rw [if_neg [17]];rw [nil_append] at el;subst el;exact k1 hz μ' eq hr
 ·rw [List.concat_eq_append] at *;rw [if_pos (decide_eq_true [17])];refine ⟨λ ρ1 μ1=>∃ o,n ∈ U /\ ρ1=[some (.ref q),some (.ref s),o] /\ (∀ a,a ≠ q->μ1 a=μ a) /\ μ1 q=some (.lst (r'.map enN)),?_,?_⟩
  ·rintro ρ1 μ1 ⟨o',hn,rfl,eq1,hr1⟩;refine ⟨r'.length,by simp,r',n :: z,o',rfl,by rw [el]; simp,λ m hm=>?_,rfl,eq1,hr1⟩;rcases List.mem_cons.mp hm with rfl | h
   ·exact hn
   ·exact hz m h
  ·show pop3 (v3 0) [some (.ref q),some (.ref s),o] μ' (λ d μ1=>_);refine sv4 (l:=r'.map enN) (x:=enN n) (λ R r=>r) [26] ?_;have hs1:updM μ' q (.lst (r'.map enN)) s=some (.dck (usd U)):=by rw [za0 ne,eq s ne]; exact hs
   have eo:∀ a,a ≠ q->updM μ' q (.lst (r'.map enN)) a=μ a:=λ a ha=>by rw [za0 ha]; exact eq a ha
   have hq1:updM μ' q (.lst (r'.map enN)) q=some (.lst (r'.map enN)):=ya0
   conv=>whnf
   rw [hs1];show if (!(valK (usd U) (.inl (n:Int))).isSome)=true then _ else _;rw [xa3];by_cases c:n ∈ U
   ·rw [decide_eq_true c];exact ⟨_,c,rfl,eo,hq1⟩
   ·rw [decide_eq_false c];exact k2 r' n z (by rw [el]; simp) c hz _ eo hq1
noncomputable def pQt (p:Pt):PyData:=.tuple [.int p.1,.int p.2]
theorem zu3 (p q:Pt):PyData.eqv (pQt p) (pQt q)=decide (p=q):=by
 obtain ⟨a,b⟩:=p;obtain ⟨c,d⟩:=q;simp [pQt,PyData.eqv,PyData.eqvAll];rfl
theorem eq_QQ (p q:Pt) (μ:Mu) (K:VK3):eqR (encQ p) (encQ q) μ K=K (.bl (decide (p=q))) μ:=by
 have hd:∀ p:Pt,(pQt p).depth<=64:=λ p=>by simp [pQt,PyData.depth,PyData.depthAll]
 rw [xf2 rfl (show datM μ (encQ p)=some (pQt p) from rfl) (show datM μ (encQ q)=some (pQt q) from rfl) (hd p) (hd q),zu3]
def yj3:Sp3:=λ ds μ Q=>∃ (l:Lk2) (p:Pt),ds=[encL l,encQ p] /\ Q (encQ (oth l p)) μ
theorem zr4:RdQ yj3 uc4 xy3:=by
 rintro ds μ Q ⟨l,p,rfl,k⟩
 show eqR (encQ l.1) (encQ p) μ (λ d μ1=>match d with
  | .bl c=>(if c=true then _ else _)
  | _=>False)
 rw [eq_QQ];dsimp only;unfold oth at k;by_cases c:l.1=p
 ·rw [decide_eq_true c]; rw [if_pos c] at k; exact k
 ·rw [decide_eq_false c]; rw [if_neg c] at k; exact k
theorem z1':1<=sizeLine:=by decide
theorem vi1 {α:Type} (l:List α) (x:α):atI (l ++ [x]) (-1)=some x:=by
 unfold atI ixN;rw [if_neg [27],if_pos [20]];show (l ++ [x])[((((l ++ [x]).length:Nat):Int) + -1).toNat]?=some x;rw [show ((((l ++ [x]).length:Nat):Int) + -1).toNat=l.length by simp_all;omega];simp
theorem dg_a {d:Addr} {p:Pt} {a:Addr} (h:μ d=some (.dcl false (atk A))) (nd:(A.map (·.1)).Nodup) (ha:(p,a) ∈ A) (k:Q (.ref a) μ):dgR (.ref d) (encQ p) μ Q:=by
 have hv:=zj1 nd ha;unfold dgR;simp only [yb5,h,hv];exact k
structure WF (μ:Mu) (lr d u wt wy:Addr) (L:List Lk2) (A:List (Pt × Addr)):Prop where
 nd:(A.map (·.1)).Nodup
 n2:(A.map (·.2)).Nodup
 me:∀ p,(∃ l ∈ L,ic l p)->p ∈ A.map (·.1)
 hL:μ lr=some (.lst (L.map encL))
 fd:μ d=none
 fu:μ u=none
 fw:μ wt=none
 fy:μ wy=none
 fa:∀ x ∈ A,μ x.2=none
 n1:wt ≠ wy
 n3:∀ x ∈ A,x.2 ≠ wt /\ x.2 ≠ wy
structure WI (μ μ':Mu) (d u wt wy:Addr) (A:List (Pt × Addr)) (rem:Pt->List Nat) (U:List Nat) (st way:List Wt):Prop where
 ex:Ext μ μ'
 dc:μ' d=some (.dcl false (atk A))
 ls:∀ x ∈ A,μ' x.2=some (.lst ((rem x.1).map enN))
 us:μ' u=some (.dck (usd U))
 st:μ' wt=some (.lst (st.map encW))
 wy:μ' wy=some (.lst (way.map encW))
variable {μ2:Mu} {rem:Pt->List Nat}
theorem WI.cut {lr d u wt wy a:Addr} {r:List Nat} {st way:List Wt} {p:Pt} (F:WF μ lr d u wt wy L A) (I:WI μ μ' d u wt wy A rem U st way) (ha:(p,a) ∈ A) (eo:∀ b,b ≠ a->μ2 b=μ' b) (ea:μ2 a=some (.lst (r.map enN))):WI μ μ2 d u wt wy A (upF rem p r) U st way:=by
 have hla:=I.ls _ ha;refine ⟨λ b o hb=>?_,?_,λ x hx=>?_,?_,?_,?_⟩
 ·rw [eo b (ta0 hb (F.fa _ ha))]; exact I.ex b o hb
 ·rw [eo d (λ z=>by subst z; rw [I.dc] at hla; cases hla)]; exact I.dc
 ·by_cases c:x.2=a
  ·have e:x=(p,a):=vq0 (β:=Nat) F.n2 hx ha c;subst e;unfold upF
   simp_all
  ·have c1:x.1 ≠ p:=λ z=>c (yb1 F.nd (show (p,x.2) ∈ A by rw [<- z]; exact hx) ha);unfold upF;rw [eo _ c,if_neg c1];exact I.ls x hx
 ·rw [eo u (λ z=>by subst z; rw [I.us] at hla; cases hla)]; exact I.us
 ·rw [eo wt (Ne.symm (F.n3 _ ha).1)]; exact I.st
 ·rw [eo wy (Ne.symm (F.n3 _ ha).2)]; exact I.wy
def ui3:Sp3:=λ ds μ Q=>∃ (lr:Addr) (L:List Lk2) (s:Pt),ds=[.ref lr,encQ s] /\ μ lr=some (.lst (L.map encL)) /\ L.length < 200 /\ (∃ l ∈ L,ic l s) ∧
 ∀ r rem U way μ',Ext μ μ'->μ r=none->μ' r=some (.lst (way.map encW))->Rch L s (here (incN L L.length)) rem U [] way->Wk L s rem U [] way->Q (.ref r) μ'
variable {N:St3->Mu->Prop} {E:Ends3}
theorem zi2 {lr d u wt wy:Addr} {st way:List Wt} {w:Wt} {s:Pt} {o6 o7:Option D} (hE:E.nx=N)
    (hl:L.length < 200) (F:WF μ lr d u wt wy L A) (I:WI μ μ' d u wt wy A rem U (st ++ [w]) way) (R:Rch L s (here (incN L L.length)) rem U (st ++ [w]) way) (K:Wk L s rem U (st ++ [w]) way)
    (k1:∀ μ2 o6 o7,WI μ μ2 d u wt wy A (upF rem w.1 []) U st (way ++ [w])->Rch L s (here (incN L L.length)) (upF rem w.1 []) U st (way ++ [w])->N [some (.ref lr),some (encQ s),some (.ref d),some (.ref u),some (.ref wt),some (.ref wy),o6,o7] μ2)
    (k2:∀ μ2 r n l o6 o7,n ∉ U->L[n]?=some l->WI μ μ2 d u wt wy A (upF rem w.1 r) (U ++ [n]) (st ++ [w] ++ [(oth l w.1,some n)]) way->Rch L s (here (incN L L.length)) (upF rem w.1 r) (U ++ [n]) (st ++ [w] ++ [(oth l w.1,some n)]) way->N [some (.ref lr),some (encQ s),some (.ref d),some (.ref u),some (.ref wt),some (.ref wy),o6,o7] μ2) :
    (seq3 (set3 6 (o3 ixR (o3 ixR (v3 4) (un3 negR [11])) [9])) (seq3 (set3 7 (va0 si3 (xa0 (o3 dgR (v3 2) (v3 6)) (xa0 (v3 3) nil3)))) (ifs3 (b3 (o3 (isNR false) (v3 7) (c3 .non))) (yc0 (mt3 appR (v3 5) (xa0 (pop3 (v3 4)) nil3))) (seq3 (zo1 (v3 3) (v3 7) (c3 (.bl true))) (yc0 (mt3 appR (v3 4) (xa0 (tup3 (xa0 (va0 yj3 (xa0 (o3 ixR (v3 0) (v3 7)) (xa0 (v3 6) nil3))) (xa0 (v3 7) nil3))) nil3)))))))
    E [some (.ref lr),some (encQ s),some (.ref d),some (.ref u),some (.ref wt),some (.ref wy),o6,o7] μ':=by
 have hz:(1000:Nat) < sizeLine:=by decide
 have hU:=K.small;have hln:=K.ln;rw [length_append] at hln;simp only [length_cons,length_nil] at hln;have est:(st ++ [w]).map encW=st.map encW ++ [encW w]:=by simp
 have hst:=I.st;rw [est] at hst;show ixR (.ref wt) (.int (-1)) μ' (λ d μ1=>_);refine ug0 hst (vi1 _ _) ?_;obtain ⟨⟨p,a⟩,ha,ep⟩:=List.mem_map.mp (F.me w.1 (K.pt w [17]));dsimp only at ep;subst ep;show dgR (.ref d) (encQ w.1) μ' (λ x μ1=>_);refine dg_a I.dc F.nd ha ?_;refine ⟨a,u,rem w.1,U,rfl,I.ls _ ha,I.us,λ al μ2 eo ea=>?_,λ r n z el hn hzz μ2 eo ea=>?_⟩
 ·have I2:=I.cut F ha eo (r:=[]) ea
  conv=>whnf
  rw [I2.wy];show pop3 (v3 4) [some (.ref lr),some (encQ s),some (.ref d),some (.ref u),some (.ref wt),some (.ref wy),some (encQ w.1),some .non] μ2 (λ d μ1=>_);refine sv4 (l:=st.map encW) (x:=encW w) (λ R r=>r) (by rw [I2.st,est]) ?_;have hw1:updM μ2 wt (.lst (st.map encW)) wy=some (.lst (way.map encW)):=by rw [za0 (Ne.symm F.n1)]; exact I2.wy
  dsimp only [nil3];refine ti1 hw1 [20] ?_;rw [hE];refine k1 _ _ _ ⟨(I2.ex.upd F.fw).upd F.fy,?_,λ x hx=>?_,?_,?_,?_⟩ (R.pop al)
  ·rw [za0 (λ z=>by have h:=I2.wy; subst z; rw [I2.dc] at h; cases h),za0 (λ z=>by have h:=I2.st; subst z; rw [I2.dc] at h; cases h)]; exact I2.dc
  ·rw [za0 (F.n3 x hx).2,za0 (F.n3 x hx).1]; exact I2.ls x hx
  ·rw [za0 (λ z=>by have h:=I2.wy; subst z; rw [I2.us] at h; cases h),za0 (λ z=>by have h:=I2.st; subst z; rw [I2.us] at h; cases h)]; exact I2.us
  ·rw [za0 F.n1,ya0]
  ·rw [ya0,map_append]; rfl
 ·have I2:=I.cut F ha eo (r:=r) ea;obtain ⟨l,hln2,hic⟩:=K.rm w.1 n (by rw [el]; simp);have hnl:n < L.length:=(List.getElem?_eq_some_iff.mp hln2).1;have elk:=zb2 hln2;have nu1:u ≠ wt:=λ z=>by have h:=I2.st; subst z; rw [I2.us] at h; cases h
  have nu2:u ≠ wy:=λ z=>by have h:=I2.wy; subst z; rw [I2.us] at h; cases h
  have nd1:d ≠ wt:=λ z=>by have h:=I2.st; subst z; rw [I2.dc] at h; cases h
  have nd2:d ≠ u:=λ z=>by have h:=I2.us; subst z; rw [I2.dc] at h; cases h
  conv=>whnf
  rw [I2.us];refine ⟨by unfold usd; simp_all;omega,?_⟩;rw [uu4 hn];have hw1:updM μ2 u (.dck (usd (U ++ [n]))) wt=some (.lst ((st ++ [w]).map encW)):=by rw [za0 (Ne.symm nu1)]; exact I2.st
  have hlr:updM μ2 u (.dck (usd (U ++ [n]))) lr=some (.lst (L.map encL)):=(I2.ex.upd F.fu) _ _ F.hL
  conv=>whnf
  rw [hw1];show ixR (.ref lr) (.int (n:Int)) _ (λ d μ1=>_);refine ug0 hlr (at_L hnl) ?_;rw [elk];refine ⟨l,w.1,rfl,Z2,?_⟩;dsimp only [nil3];refine ti1 hw1 [20] ?_;rw [hE];refine k2 _ r n l _ _ hn hln2 ⟨(I2.ex.upd F.fu).upd F.fw,?_,λ x hx=>?_,?_,?_,?_⟩ (R.push el hn hzz hln2)
  ·rw [za0 nd1,za0 nd2]; exact I2.dc
  ·rw [za0 (F.n3 x hx).1,za0 (λ z=>by have h:=I2.ls x hx; rw [z,I2.us] at h; cases h)]; exact I2.ls x hx
  ·rw [za0 nu1,ya0]
  ·rw [ya0,map_append (l₁:=st ++ [w])]; rfl
  ·rw [za0 (Ne.symm F.n1),za0 (Ne.symm nu2)]; exact I2.wy
theorem xp4:RdQ ui3 (ta4 xg4 yj3 si3) xw3:=by
 rintro ds μ Q ⟨lr,L,s,rfl,hL,hl,hs,q⟩;have hz:(1000:Nat) < sizeLine:=by decide
 refine ⟨lr,L,rfl,hL,hl,λ d A μ1 I=>?_⟩;intro u hu;refine ⟨z2,z1',λ wt hwt=>?_⟩;refine ⟨Nat.zero_le _,λ wy hwy=>?_⟩;have nuw:wt ≠ u:=λ z=>by subst z; rw [ya0] at hwt; cases hwt
 have hwt1:μ1 wt=none:=by rw [za0 nuw] at hwt; exact hwt
 have nyw:wy ≠ wt:=λ z=>by subst z; rw [ya0] at hwy; cases hwy
 have hwy0:updM μ1 u (.dck []) wy=none:=by rw [za0 nyw] at hwy; exact hwy
 have nyu:wy ≠ u:=λ z=>by subst z; rw [ya0] at hwy0; cases hwy0
 have hwy1:μ1 wy=none:=by rw [za0 nyu] at hwy0; exact hwy0
 have F:WF μ lr d u wt wy L A:=⟨I.nd,I.n2,λ p hp=>(I.me p).mpr (ws3 hp),hL,I.fr,I.ex.free hu,I.ex.free hwt1,I.ex.free hwy1,I.fr2,Ne.symm nyw,λ x hx=>⟨(λ z=>by have h:=I.ls x hx; simp_all),(λ z=>by have h:=I.ls x hx; simp_all)⟩⟩;have h0:∀ p n,n ∈ here (incN L L.length) p->∃ l,L[n]?=some l /\ ic l p:=λ p n h=>vn1 h
 have e3:∀ {a:Addr} {o:MO},μ1 a=some o->updM (updM (updM μ1 u (.dck [])) wt (.lst [encW (s,none)])) wy (.lst []) a=some o:=λ {a o} h=>by
  rw [za0 (ta0 h hwy1),za0 (ta0 h hwt1),za0 (ta0 h hu)]; exact h
 have I0:WI μ (updM (updM (updM μ1 u (.dck [])) wt (.lst [encW (s,none)])) wy (.lst [])) d u wt wy A (here (incN L L.length)) [] [(s,none)] []:=by
  refine ⟨λ b o hb=>e3 (I.ex b o hb),e3 I.dc,λ x hx=>e3 (I.ls x hx),?_,?_,ya0⟩
  ·rw [za0 (Ne.symm nyu),za0 (Ne.symm nuw),ya0]; rfl
  ·rw [za0 (Ne.symm nyw),ya0]; rfl
 refine ⟨λ m ρ μ'=>∃ rem U st way o6 o7,m=2 * (L.length - U.length) + st.length /\ ρ=[some (.ref lr),some (encQ s),some (.ref d),some (.ref u),some (.ref wt),some (.ref wy),o6,o7] /\ WI μ μ' d u wt wy A rem U st way /\ Rch L s (here (incN L L.length)) rem U st way,⟨_,_,[],[(s,none)],[],none,none,rfl,rfl,I0,.init⟩,?_⟩;rintro m ρ μ' ⟨rem,U,st,way,o6,o7,rfl,rfl,I,R⟩;have K:=R.wk hs h0;have hU:=K.small
 conv=>whnf
 rw [I.st];show if decide ((0:Int) < ((st.map encW).length:Int))=true then _ else _;rcases List.eq_nil_or_concat st with rfl | ⟨st',w,rfl⟩
 ·rw [if_neg [17]];exact q wy rem U way μ' I.ex F.fy I.wy R K
 ·rw [List.concat_eq_append] at *;rw [if_pos (decide_eq_true [17])];refine ⟨λ ρ1 μ2=>∃ rem1 U1 st1 way1 o6 o7,2 * (L.length - U1.length) + st1.length < 2 * (L.length - U.length) + (st' ++ [w]).length /\ ρ1=[some (.ref lr),some (encQ s),some (.ref d),some (.ref u),some (.ref wt),some (.ref wy),o6,o7] /\ WI μ μ2 d u wt wy A rem1 U1 st1 way1 /\ Rch L s (here (incN L L.length)) rem1 U1 st1 way1,?_,?_⟩
  ·rintro ρ1 μ2 ⟨rem1,U1,st1,way1,o6',o7',lt,rfl,I1,R1⟩;exact ⟨_,lt,rem1,U1,st1,way1,o6',o7',rfl,rfl,I1,R1⟩
  ·refine zi2 rfl hl F I R K (λ μ2 o6 o7 I2 R2=>?_) (λ μ2 r n l o6 o7 hn hl2 I2 R2=>?_)
   ·exact ⟨_,U,st',_,o6,o7,by simp,rfl,I2,R2⟩
   ·have K2:=(R2.wk hs h0).small;refine ⟨_,U ++ [n],_,way,o6,o7,?_,rfl,I2,R2⟩
    simp_all;omega
theorem snoc {α:Type} (l:List α):l=[] \/ ∃ L b,l=L ++ [b]:=by
 rcases List.eq_nil_or_concat l with h | ⟨L,b,h⟩
 ·exact .inl h
 simp_all
def spJo:Sp3:=λ ds μ Q=>∃ f:Int,ds=[.int f] /\ f ≠ 0 /\ (-(10 ^ 9) < f /\ f < 10 ^ 9) /\ ∀ r μ',μ r=none->Ext μ μ'->μ' r=some (.lst [.int f])->Q (.ref r) μ'
theorem sr4:RdQ spJo zd4 uy3:=by
 rintro ds μ Q ⟨f,rfl,c,⟨f0,f1⟩,k⟩;refine ⟨⟨(show (0:Int) < 99999999999999999999 by decide),(show (99999999999999999999:Int) < 2 ^ 120 by decide)⟩,?_⟩;show zi0 { nx:=λ _ μ'=>Q .non μ',rt:=Q } [some (.int f),some (.int ((if f < 0 then -f else f) / 99999999999999999999)),none,none] μ;rw [show (if f < 0 then -f else f) / 99999999999999999999=0 by split <;> omega];show ite (decide (0 < f)=true) _ _
 have main:∀ s:Int,(s=1 \/ s = -1)->yi0 { nx:=λ _ μ'=>Q .non μ',rt:=Q } [some (.int f),some (.int 0),some (.int s),none] μ:=by
  intro s hs;have ss : -(2 ^ 64) < s /\ s < 2 ^ 64:=by omega
  have s0:s * 0 * 99999999999999999999=0:=by simp
  refine ⟨.inl (.inl ss),.inl (.inl ⟨by omega,by omega⟩),?_⟩;rw [s0];show xi0 { nx:=λ _ μ'=>Q .non μ',rt:=Q } [some (.int f),some (.int 0),some (.int s),some (.int (f - 0))] μ;rw [Int.sub_zero];refine ⟨.inl (.inl ss),Z1,λ r1 h1=>?_⟩;have g1:updM μ r1 (.lst [.int (s * 99999999999999999999)]) r1=some (.lst [.int (s * 99999999999999999999)]):=ya0
  conv=>whnf
  rw [g1];refine ⟨⟨⟨by decide,by decide⟩,Nat.zero_le _⟩,λ r2 h2=>?_⟩;rw [show (List.replicate (Int.toNat 0) [D.int (s * 99999999999999999999)]).flatten=[] from rfl];have ex2:=(Ext.new (o:=.lst [.int (s * 99999999999999999999)]) h1).trans (Ext.new (o:=.lst []) h2);have g2:updM (updM μ r1 (.lst [.int (s * 99999999999999999999)])) r2 (.lst []) r2=some (.lst []):=ya0;change Ext μ _ at ex2;show ite ((!decide (f=0))=true) _ _;generalize updM (updM μ r1 (.lst [.int (s * 99999999999999999999)])) r2 (.lst [])=ν at g2 ex2;rw [decide_eq_false c];refine ⟨Z1,λ r3 h3=>?_⟩;have g3:=(Ext.new (o:=.lst [.int f]) h3) _ _ g2;have g4:updM ν r3 (.lst [.int f]) r3=some (.lst [.int f]):=ya0;refine uf3 g3 g4 (show 0 + 1<=sizeLine by decide) λ r4 h4=>?_;exact k r4 _ ((ex2.trans (Ext.new h3)).free h4) ((ex2.trans (Ext.new h3)).trans (Ext.new h4)) ya0
 by_cases c2:0 < f
 ·rw [decide_eq_true c2];exact main 1 (.inl rfl)
 ·rw [decide_eq_false c2];exact main (-1) (.inr rfl)
def vb3:Sp3:=λ ds μ Q=>∃ (p q:Addr) (pen:Pen) (S:List T3) (n:Nat) (h f:Int),ds=[.ref p,.int h,.int f] /\ ScI μ p q pen S n /\ (h=0 \/ h=1) /\ (-(10 ^ 9) < f /\ f < 10 ^ 9) /\ n < 80000 /\ ∀ μ' h',ScI μ' p q (pen.1 + f * cs h,pen.2.1 + f * sn h,h') S (n + 200)->FrB p q μ μ'->Q .non μ'
theorem zt0:RdQ vb3 (yl0 wt0 spJo vz0) uh0:=by
 rintro ds μ Q ⟨p,q,⟨x,y,hd⟩,S,n,h,f,rfl,hI,h2,hf,hn,k⟩;have z:(100000:Nat) < sizeLine:=by decide
 show ite ((!decide (f=0))=true) _ _;by_cases c:f=0
 ·rw [decide_eq_true c];subst c;refine k μ hd ?_ (FrB.refl p q μ);rw [Int.zero_mul,Int.zero_mul,Int.add_zero,Int.add_zero];exact hI.mono [5]
 ·rw [decide_eq_false c];obtain ⟨ds0,sc0,_⟩:=id hI;obtain ⟨_,_,hp0,_⟩:=id sc0
  conv=>whnf
  rw [hp0];refine ⟨⟨rfl,rfl⟩,?_⟩;refine ⟨p,q,(x,y,hd),S,n,h,rfl,hI,by omega,by omega,λ μ1 hI1 fr1=>?_⟩;obtain ⟨ds1,sc1,wa1,hh1,ok1,hl1⟩:=hI1;obtain ⟨pd,ip,hp1,hq1⟩:=id sc1;have hpq:=sc1.ne
  conv=>whnf
  rw [hp1];refine ⟨rfl,?_⟩
  conv=>whnf
  rw [hq1];refine ⟨f,rfl,c,hf,λ r μ2 hr ex2 er=>?_⟩
  conv=>whnf
  rw [er];intro c0 hc0;refine zf0 (rest:=[]) (λ d=>.tup [.str "jump",d]) hc0 Z1 (λ μ' ex=>ex _ _ er) ?_ ?_
  ·intro d hd0 μ' R ex kk;exact ⟨z2,kk _ (Ext.refl _)⟩
  ·intro μ3 ex3 ec3;have hq3:=ex3 _ _ (ex2 _ _ hq1);have hp3:=ex3 _ _ (ex2 _ _ hp1)
   conv=>whnf
   rw [hq3,ec3];refine ⟨by simp_all;omega,?_⟩;have ej:ds1.map encD ++ [D.int f].map (λ d=>D.tup [.str "jump",d])=(ds1 ++ [(Kd.jump,f)]).map encD:=by rw [map_append]; rfl
   rw [ej];have hp4:updM μ3 q (.lst ((ds1 ++ [(Kd.jump,f)]).map encD)) p=some (.ins "Scribe" (scF pd q)):=by rw [za0 hpq]; exact hp3
   conv=>whnf
   rw [hp4];refine ⟨rfl,?_⟩;refine ⟨z3,pd,_,(x,y,h),(f,0,0),rfl,ip,.inl rfl,hh1,?_⟩
   conv=>whnf
   rw [hp4];refine ⟨⟨rfl,(show 2 < 1000 by decide)⟩,?_⟩
   have e1:led (x,y,h) (f,0,0)=(x + f * cs h,y + f * sn h,h):=by
    unfold led
    simp_all;omega
   rw [e1];refine k _ h ⟨ds1 ++ [(Kd.jump,f)],⟨_,.inl rfl,ya0,?_⟩,?_,hh1,λ x m hm=>?_,by simp_all;omega⟩ (((fr1.trans (FrB.ext ex2)).trans (FrB.ext ex3)).trans (FrB.q.trans FrB.p))
   ·rw [za0 (Ne.symm hpq),ya0]
   ·rw [zh0,wa1];show ((x + cs h * f,y + sn h * f,h),S)=_;rw [Int.mul_comm (cs h),Int.mul_comm (sn h)]
   ·rcases List.mem_append.mp hm with hm | hm
    ·exact ok1 _ m hm
    simp_all
def spJt:Sp3:=λ ds μ Q=>∃ (p q:Addr) (pen:Pen) (S:List T3) (n:Nat) (pt:Pt),ds=[.ref p,encQ pt] /\ ScI μ p q pen S n /\ (-(10 ^ 8) < pt.1 /\ pt.1 < 10 ^ 8 /\ -(10 ^ 8) < pt.2 /\ pt.2 < 10 ^ 8) /\ (-(10 ^ 8) < pen.1 /\ pen.1 < 10 ^ 8 /\ -(10 ^ 8) < pen.2.1 /\ pen.2.1 < 10 ^ 8) /\ n < 70000 /\ ∀ μ' h',ScI μ' p q (pt.1,pt.2,h') S (n + 400)->FrB p q μ μ'->Q .non μ'
theorem wn0:RdQ spJt (sh0 vb3) xf0:=by
 rintro ds μ Q ⟨p,q,⟨x,y,hd⟩,S,n,⟨a,b⟩,rfl,hI,b1,b2,hn,k⟩;dsimp only at b1 b2;obtain ⟨ds0,⟨d0,i0,hp0,_⟩,_⟩:=id hI
 conv=>whnf
 rw [hp0];refine ⟨⟨rfl,rfl⟩,?_⟩
 conv=>whnf
 rw [hp0];refine ⟨rfl,?_⟩;show ixR d0 (.int 0) _ (λ _ _=>_);refine sb1 i0 rfl ?_;refine ⟨p,q,(x,y,hd),S,n,0,a - x,rfl,hI,.inl rfl,by omega,by omega,λ μ1 h1 hI1 fr1=>?_⟩;have e1:((x,y,hd).1 + (a - x) * cs 0,(x,y,hd).2.1 + (a - x) * sn 0,h1)=((a,y,h1):Pen):=by simp [cs,sn]; omega
 rw [e1] at hI1;obtain ⟨ds1,⟨d1,i1,hp1,_⟩,_⟩:=id hI1
 conv=>whnf
 rw [hp1];refine ⟨⟨rfl,rfl⟩,?_⟩
 conv=>whnf
 rw [hp1];refine ⟨rfl,?_⟩;show ixR d1 (.int 1) _ (λ _ _=>_);refine sb1 i1 rfl ?_;refine ⟨p,q,(a,y,h1),S,n + 200,1,b - y,rfl,hI1,.inr rfl,by omega,by omega,λ μ2 h2 hI2 fr2=>?_⟩;have e2:((a,y,h1).1 + (b - y) * cs 1,(a,y,h1).2.1 + (b - y) * sn 1,h2)=((a,b,h2):Pen):=by simp [cs,sn]; omega
 rw [e2] at hI2;exact k μ2 h2 hI2 (fr1.trans fr2)
theorem ix_ok {d:Int} (h:d=0 \/ d=1 \/ d=2 \/ d=3):∃ j:Nat,(j:Int)=d /\ ixD [.tuple [.int 1,.int 0],.tuple [.int 0,.int 1],.tuple [.int (-1),.int 0],.tuple [.int 0,.int (-1)]] (.tuple [.int (cs d),.int (sn d)]) j:=by
 rcases h with rfl | rfl | rfl | rfl
 ·exact ⟨0,rfl,_,_,_,_,rfl,.inl ⟨rfl,by decide⟩⟩
 ·exact ⟨1,rfl,_,_,_,_,rfl,.inr (.inl ⟨rfl,by decide,by decide⟩)⟩
 ·exact ⟨2,rfl,_,_,_,_,rfl,.inr (.inr (.inl ⟨rfl,by decide,by decide,by decide⟩))⟩
 ·exact ⟨3,rfl,_,_,_,_,rfl,.inr (.inr (.inr ⟨rfl,by decide,by decide,by decide,by decide⟩))⟩
def spGt:Sp3:=λ ds μ Q=>∃ (p q:Addr) (pen:Pen) (S:List T3) (n:Nat) (pt:Pt),ds=[.ref p,encQ pt] /\ ScI μ p q pen S n /\ nx (pen.1,pen.2.1) pt=true /\ n < 70000 /\ ∀ μ' h',ScI μ' p q (pt.1,pt.2,h') (S ++ [lfe (pen.1,pen.2.1) pt]) (n + 2)->FrB p q μ μ'->Q .non μ'
variable {o1:Option D}
theorem sb5 {p q:Addr} {x y h:Int} {pt:Pt} {m:Int} {ν:Mu} {pd:D} (ip:isP pd (x,y,h)) (hp:ν p=some (.ins "Scribe" (scF pd q))) (hq:ν q=some (.lst (ds.map encD))) (hpq:p ≠ q) (hh:h=0 \/ h=1 \/ h=2 \/ h=3)
    (e1:pt.1=x + cs h) (e2:pt.2=y + sn h) (wa:wqA (ds ++ [(.go,m)])=go1 ((x,y,h),S)) (ok:OKd S.length ds) (m0:0<=m) (m1:m<=S.length + 1) (hl:ds.length<=n + 1) (hn:n < 70000)
    (k:∀ μ' h',ScI μ' p q (pt.1,pt.2,h') (S ++ [lfe (x,y) pt]) (n + 2)->FrB p q ν μ'->Q .non μ') :
    uc0 wt0 vz0 { nx:=λ _ μ'=>Q .non μ',rt:=Q } [some (.ref p),o1,some (.int m)] ν:=by
 have z:(100000:Nat) < sizeLine:=by decide
 conv=>whnf
 rw [hp];refine ⟨rfl,?_⟩
 conv=>whnf
 rw [hq];refine ⟨z2,?_⟩
 conv=>whnf
 rw [hq];refine ⟨by simp_all;omega,?_⟩;have hp1:updM ν q (.lst (ds.map encD ++ [.tup [.str "go",.int m]])) p=some (.ins "Scribe" (scF pd q)):=by rw [za0 hpq]; exact hp
 conv=>whnf
 rw [hp1];refine ⟨rfl,?_⟩;refine ⟨z3,pd,_,(x,y,h),(1,0,0),rfl,ip,.inl rfl,hh,?_⟩
 conv=>whnf
 rw [hp1];refine ⟨⟨rfl,(show 2 < 1000 by decide)⟩,?_⟩
 have e3:led (x,y,h) (1,0,0)=(pt.1,pt.2,h):=by
  unfold led
  simp_all;omega
 rw [e3]
 have ws:wqA (ds ++ [(.go,m)])=((pt.1,pt.2,h),S ++ [lfe (x,y) pt]):=by
  rw [wa];unfold go1;rw [xi3 (p:=(x,y,h)) (q:=pt) hh e1 e2]
  simp_all
 refine k _ h ⟨ds ++ [(.go,m)],⟨_,.inl rfl,ya0,?_⟩,ws,hh,λ x' m' hm=>?_,by simp_all⟩ (FrB.q.trans FrB.p)
 ·rw [za0 (Ne.symm hpq),ya0,map_append]; rfl
 ·rw [length_append,List.length_singleton];rcases List.mem_append.mp hm with hm | hm
  ·exact ⟨λ e=>(by have:=(ok x' m' hm).1 e; omega),(ok x' m' hm).2⟩
  simp_all
theorem kS_go (k:Kd):decide (kS k = "go")=(match k with | .go=>true | _=>false):=by cases k <;> decide
theorem wq0:RdQ spGt (uj0 wt0 vz0) sg0:=by
 rintro ds μ Q ⟨p,q,⟨x,y,hd⟩,S,n,⟨a,b⟩,rfl,hI,hx,hn,k⟩;obtain ⟨h,h4,c1,c2⟩:=nx_hd hx;dsimp only at c1 c2;obtain ⟨ds0,⟨d0,i0,hp0,_⟩,_⟩:=id hI
 conv=>whnf
 rw [hp0];refine ⟨⟨rfl,rfl⟩,?_⟩
 conv=>whnf
 rw [hp0];refine ⟨rfl,?_⟩;show ixR d0 (.int 0) _ (λ _ _=>_);refine sb1 i0 rfl ?_
 conv=>whnf
 rw [hp0];refine ⟨rfl,?_⟩;show ixR d0 (.int 1) _ (λ _ _=>_);refine sb1 i0 rfl ?_;refine ⟨z2,?_⟩;obtain ⟨j,ej,hj⟩:=ix_ok h4;rw [<- c1,<- c2] at hj;refine ⟨⟨[27],(by simp [PyData.depth,PyData.depthAll])⟩,j,hj,?_⟩;rw [ej];refine ⟨p,q,(x,y,hd),S,n,h,rfl,hI,h4,by omega,λ μ1 hI1 fr1=>?_⟩;obtain ⟨ds1,sc1,wa1,hh1,ok1,hl1⟩:=hI1;obtain ⟨pd,ip,hp1,hq1⟩:=id sc1;have hpq:=sc1.ne;have e1:a=x + cs h:=by omega
 have e2:b=y + sn h:=by omega
 have fin:∀ (ds2:List Kn) (m:Int) (ν:Mu),ν p=some (.ins "Scribe" (scF pd q))->ν q=some (.lst (ds2.map encD))->FrB p q μ ν->wqA (ds2 ++ [(.go,m)])=go1 ((x,y,h),S)->OKd S.length ds2->0<=m->m<=S.length + 1->ds2.length<=n + 1 ->
     uc0 wt0 vz0 { nx:=λ _ μ'=>Q .non μ',rt:=Q } [some (.ref p),some (encQ (a,b)),some (.int m)] ν:=λ ds2 m ν g1 g2 fr g3 g4 g5 g6 g7=>sb5 (pt:=(a,b)) ip g1 g2 hpq h4 e1 e2 g3 g4 g5 g6 g7 hn λ μ' h' i f=>k μ' h' i (fr.trans f)
 have one:uc0 wt0 vz0 { nx:=λ _ μ'=>Q .non μ',rt:=Q } [some (.ref p),some (encQ (a,b)),some (.int 1)] μ1:=fin ds1 1 μ1 hp1 hq1 fr1 (by rw [zh0,wa1]; rfl) ok1 [27] [5] hl1
 conv=>whnf
 rw [hp1];refine ⟨rfl,?_⟩
 conv=>whnf
 rw [hq1];rcases snoc ds1 with rfl | ⟨d0,d,rfl⟩
 ·exact one
 ·have hln:((d0 ++ [d]).map encD).length=d0.length + 1:=by simp
  show ite (decide ((0:Int) < (((d0 ++ [d]).map encD).length:Int))=true) _ _;rw [decide_eq_true (by rw [hln]; omega)];have el:atI ((d0 ++ [d]).map encD) (-1)=some (encD d):=by rw [map_append]; exact vi1 _ _
  conv=>whnf
  rw [hp1];refine ⟨rfl,?_⟩
  conv=>whnf
  rw [hq1];dsimp only;rw [el];dsimp only;obtain ⟨kd,m⟩:=d;show ite (decide (kS kd = "go")=true) _ _;rw [kS_go];cases kd with
  | jump=>exact one
  | turn=>exact one
  | go =>
   conv=>whnf
   rw [hp1];refine ⟨rfl,?_⟩
   conv=>whnf
   rw [hq1];have er:((d0 ++ [(Kd.go,m)]).map encD).reverse=encD (.go,m) :: (d0.map encD).reverse:=by simp
   conv=>whnf
   rw [er];dsimp only;rw [List.reverse_reverse];have om:=(ok1 .go m (List.mem_append.mpr (.inr (List.mem_singleton.mpr rfl)))).1 rfl;have l0:d0.length<=n:=by simp_all
   refine fin d0 (m + 1) _ (by rw [za0 hpq]; exact hp1) ya0 (fr1.trans FrB.q) ?_ (λ x' m' hm=>ok1 x' m' (List.mem_append.mpr (.inl hm))) [5] [5] [5];rw [zh0] at wa1 ⊢;show goN (m + 1).toNat (wqA d0)=_;rw [show (m + 1).toNat=m.toNat + 1 by omega];show go1 (goN m.toNat (wqA d0))=_;have wa2:goN m.toNat (wqA d0)=((x,y,h),S):=wa1;rw [wa2]
noncomputable def isD (μ:Mu) (d:D):D:=match d with
 | .ref q=>match μ q with
  | some (.lst l)=>.bl (isT (l.map decQ))
  | _=>.non
 | _=>.non
theorem td3 {x:Tr} (h:μ x.1=some (.lst (x.2.map encQ))):isD μ (rf x)=.bl (isT x.2):=by
 unfold isD rf;simp only [h,xv3]
theorem vc5 {p q:Pt} (h:nx p q=true):lfe p q=btw p q:=by
 obtain ⟨a,b⟩:=p;obtain ⟨c,d⟩:=q;have h':=nx_h h;unfold lfe btw mnP mxP ltP;dsimp only at h' ⊢;rcases h' with ⟨rfl,rfl | rfl⟩ | ⟨rfl,rfl | rfl⟩
 ·simp [show d < d + 1 by omega,show ¬ (d + 1 < d) by omega,show ¬ (d + 1=d) by omega] <;> omega
 ·simp [show b < b + 1 by omega,show ¬ (b + 1 < b) by omega,show ¬ (b=b + 1) by omega] <;> omega
 ·simp [show c < c + 1 by omega,show ¬ (c + 1 < c) by omega,show ¬ (c + 1=c) by omega,show ¬ (c=c + 1) by omega]
 ·simp [show a < a + 1 by omega,show ¬ (a + 1 < a) by omega,show ¬ (a + 1=a) by omega,show ¬ (a=a + 1) by omega]
noncomputable def alI (t:List Pt) (i:Nat):List T3:=(List.range i).map λ j=>btw (gp t j) (gp t (j + 1))
def Bd (t:List Pt):Prop:=∀ q ∈ t,-(10 ^ 8) < q.1 /\ q.1 < 10 ^ 8 /\ -(10 ^ 8) < q.2 /\ q.2 < 10 ^ 8
variable {i:Nat}
theorem sd3 {t:List Pt} (h:i < t.length):gp t i ∈ t:=by
 unfold gp
 simp_all
def spDo:Sp3:=λ ds μ Q=>∃ (p:Addr) (A:List Tr),ds=[.ref p] /\ μ p=some (.lst (A.map rf)) /\ TRm μ A /\ A.length<=60 /\ (∀ x ∈ A,x.2.length < 100) /\ (∀ x ∈ A,Bd x.2) /\ (∀ x ∈ A,isT x.2=true) ∧
 ∀ q ds μ',Ext μ μ'->μ' q=some (.lst (ds.map encD))->(wqA ds).2=flat A->OKd (flat A).length ds->ds.length<=70000->Q (.ref q) μ'
def PB (pen:Pen):Prop:=-(10 ^ 8) < pen.1 /\ pen.1 < 10 ^ 8 /\ -(10 ^ 8) < pen.2.1 /\ pen.2.1 < 10 ^ 8
def WDo (p s q:Addr) (A:List Tr) (μ:Mu):List D->St3->Mu->Prop:=λ l ρ μ'=>∃ (B:List Tr) (S:List T3) (pen:Pen) (n:Nat) (d2 d3:Option D),l=B.map rf /\ ρ=[some (.ref p),some (.ref s),d2,d3] /\ FrB s q μ μ' /\ ScI μ' s q pen S n /\ S ++ flat B=flat A /\ (∀ x ∈ B,x ∈ A) /\ PB pen /\ n + 600 * B.length<=36000
def WIn (p s q r:Addr) (S:List T3) (y:Tr) (n:Nat) (μ:Mu):List D->St3->Mu->Prop:=λ l ρ μ'=>∃ (i:Nat) (h:Int) (d3:Option D),l=(y.2.drop (i + 1)).map encQ /\ i < y.2.length /\ ρ=[some (.ref p),some (.ref s),some (rf y),d3] /\ FrB s q μ μ' /\ ScI μ' s q ((gp y.2 i).1,(gp y.2 i).2,h) (S ++ alI y.2 i) (n + 400 + 2 * i)
theorem cut1 {t:List Pt} (h:0 < t.length):cut3 (t.map encQ) (some 1) none=(t.drop 1).map encQ:=by
 unfold cut3 sIx3;dsimp only;rw [if_neg [27],length_map,show min (1:Int).toNat t.length=1 by simp; omega,List.map_drop];exact take_of_length_le [17]
theorem uu3 {t:List Pt} (h:i < t.length):t.drop i=gp t i :: t.drop (i + 1):=by
 unfold gp
 simp_all
theorem ws4:RdQ spDo (vd4 ub3 spGt spJt spTr) sy3:=by
 rintro ds μ Q ⟨p,A,rfl,hp,hA,hn,hz,hb,al,kT⟩;have z:(100:Nat) < sizeLine:=by decide
 conv=>whnf
 rw [hp];intro c hc;refine zf0 (rest:=[]) (isD μ) hc [20] (λ μ' ex=>ex _ _ hp) ?_ ?_
 ·intro x hx μ2 R ex kk;obtain ⟨y,hy,rfl⟩:=List.mem_map.mp hx;rw [td3 (hA y hy)] at kk;exact ⟨y.1,y.2,rfl,ex _ _ (hA y hy),hz y hy,kk⟩
 ·intro μ1 ex ec
  have e:(A.map rf).map (isD μ)=(A.map λ x=>isT x.2).map D.bl:=by
   rw [map_map,map_map];exact map_congr_left λ x hx=>td3 (hA x hx)
  rw [e] at ec;dsimp only [nil3];refine tf5 ec ?_;have ea:(A.map λ x=>isT x.2).all id=true ↔ ∀ x ∈ A,isT x.2=true:=by simp
  generalize (A.map λ x=>isT x.2).all id=b at ea;cases b with
  | false=>exact nomatch (ea.mpr al)
  | true =>
   intro s hs;refine ⟨s,rfl,ya0,λ q μ2 hq hI fr=>⟨rfl,?_⟩⟩;have hsq:s ≠ q:=λ e=>by rw [e,ya0] at hq; cases hq
   have hq1:μ1 q=none:=by rw [za0 (Ne.symm hsq)] at hq; exact hq
   have ext:∀ {μ'},FrB s q μ2 μ'->Ext μ1 μ':=λ f a o h=>f a o (ta0 h hs) (ta0 h hq1) (fr a o (ta0 h hs) (ta0 h hq1) (by rw [za0 (ta0 h hs)]; exact h));have hp2:=ext (FrB.refl s q μ2) _ _ (ex _ _ hp)
   conv=>whnf
   rw [hp2];refine vd0 (WDo p s q A μ2) ?_ ?_ ?_ ?_
   ·exact ⟨A,[],st,0,none,none,rfl,rfl,FrB.refl s q μ2,hI,rfl,λ _ h=>h,⟨by decide,by decide,by decide,by decide⟩,by omega⟩
   ·rintro l ρ μ3 ⟨B,S,pen,n,d2,d3,rfl,rfl,fr3,_⟩;exact ext fr3 _ _ (ex _ _ hp)
   ·rintro ρ μ3 ⟨B,S,pen,n,d2,d3,el,rfl,fr3,hI3,fl,_,_,hm⟩;cases B with
    | cons _ _=>cases el
    | nil =>
     have fl2:S=flat A:=by rw [<- fl]; exact (append_nil S).symm
     obtain ⟨ds,⟨_,_,hs3,hq3⟩,wa,_,ok,hl⟩:=hI3
     conv=>whnf
     rw [hs3];refine ⟨rfl,?_⟩;subst fl2;exact kT q ds μ3 (ex.trans (ext fr3)) hq3 (by rw [wa]) ok [5]
   ·rintro d rest ρ μ3 ⟨B,S,pen,n,d2,d3,el,rfl,fr3,hI3,fl,hB,hpb,hm⟩;cases B with
    | nil=>cases el
    | cons y B =>
     rw [map_cons] at el;injection el with e1 e2
     subst e1 e2;rw [length_cons] at hm;have hy:=hB y (mem_cons_self ..);have hy3:=ext fr3 _ _ (ex _ _ (hA y hy));obtain ⟨l1,an⟩:=(zr0 _).mp (al y hy);have ly:=hz y hy;obtain ⟨ds0,⟨_,_,hs3,hq3⟩,_⟩:=id hI3;have a0:=at_q (t:=y.2) (i:=0) [27] [5]
     conv=>whnf
     rw [hs3];refine ⟨⟨rfl,rfl⟩,?_⟩
     conv=>whnf
     rw [hy3];dsimp only;rw [a0];dsimp only;refine ⟨s,q,pen,S,n,gp y.2 0,rfl,hI3,hb y hy _ (sd3 [5]),hpb,by omega,λ μ4 h4 hI4 fr4=>?_⟩;have hys:y.1 ≠ s:=ta0 (ex _ _ (hA y hy)) hs;have hyq:y.1 ≠ q:=ta0 (ex _ _ (hA y hy)) hq1;have hy4:=fr4 _ _ hys hyq hy3
     conv=>whnf
     rw [hy4];intro r hr;obtain ⟨ds4,⟨_,_,hs4,hq4⟩,_⟩:=id hI4;have hrs:r ≠ s:=Ne.symm (ta0 hs4 hr);have hrq:r ≠ q:=Ne.symm (ta0 hq4 hr);rw [cut1 [5]];have hr5:updM μ4 r (.lst ((y.2.drop 1).map encQ)) r=some (.lst ((y.2.drop 1).map encQ)):=ya0
     conv=>whnf
     rw [hr5];refine vd0 (WIn p s q r S y n (updM μ4 r (.lst ((y.2.drop 1).map encQ)))) ?_ ?_ ?_ ?_
     ·refine ⟨0,h4,d3,rfl,by omega,rfl,FrB.refl s q _,?_⟩;have e0:S ++ alI y.2 0=S:=append_nil S;rw [e0];obtain ⟨ds5,⟨x5,i5,g1,g2⟩,g3⟩:=hI4;exact ⟨ds5,⟨x5,i5,(Ext.new hr) _ _ g1,(Ext.new hr) _ _ g2⟩,g3⟩
     ·rintro l ρ μ5 ⟨i,h5,d5,_,_,rfl,fr5,_⟩;exact fr5 _ _ hrs hrq ya0
     ·rintro ρ μ5 ⟨i,h5,d5,el,hi,rfl,fr5,hI5⟩
      have ei:i + 1=y.2.length:=by
       simp_all;omega
      have ea:alI y.2 i=yg0 y.2:=by unfold alI yg0; rw [show y.2.length - 1=i by omega]
      rw [ea] at hI5;exact ⟨B,S ++ yg0 y.2,((gp y.2 i).1,(gp y.2 i).2,h5),n + 400 + 2 * i,_,_,rfl,rfl,((fr3.trans fr4).trans (FrB.ext (Ext.new hr))).trans fr5,hI5,by rw [append_assoc]; exact fl,λ x hx=>hB x (mem_cons_of_mem _ hx),hb y hy _ (sd3 hi),by omega⟩
     ·rintro d rest ρ μ5 ⟨i,h5,d5,el,hi,rfl,fr5,hI5⟩;by_cases hi2:i + 1 < y.2.length
      ·rw [uu3 hi2,map_cons] at el;injection el with e1 e2
       subst e1 e2;obtain ⟨ds5,⟨_,_,hs5,hq5⟩,_⟩:=id hI5
       conv=>whnf
       rw [hs5];refine ⟨⟨rfl,rfl⟩,?_⟩;have nxi:=an i [5];refine ⟨s,q,_,_,_,gp y.2 (i + 1),rfl,hI5,nxi,by omega,λ μ6 h6 hI6 fr6=>?_⟩;refine ⟨i + 1,h6,_,rfl,hi2,rfl,fr5.trans fr6,?_⟩
       have ea:S ++ alI y.2 (i + 1)=S ++ alI y.2 i ++ [lfe ((gp y.2 i).1,(gp y.2 i).2) (gp y.2 (i + 1))]:=by
        have:lfe ((gp y.2 i).1,(gp y.2 i).2) (gp y.2 (i + 1))=btw (gp y.2 i) (gp y.2 (i + 1)):=vc5 nxi;rw [this];unfold alI;rw [range_succ,map_append,<- append_assoc];rfl
       simp_all;omega
      ·rw [drop_eq_nil_of_le [5]] at el;cases el
noncomputable abbrev kl4:List D:=[.tup [.int 1,.int 0],.tup [.int 0,.int 1],.tup [.int (-1),.int 0],.tup [.int 0,.int (-1)]]
theorem at4 {h:Int} (hd:h=0 \/ h=1 \/ h=2 \/ h=3):atI kl4 h=some (.tup [.int (cs h),.int (sn h)]):=by rcases hd with rfl | rfl | rfl | rfl <;> rfl
def wf4:Sp3:=λ ds μ Q=>∃ (q:Addr) (ds0:List Kn),ds=[.ref q,encP st] /\ μ q=some (.lst (ds0.map encD)) /\ OKd 98 ds0 /\ (wqA ds0).2.length < 64 /\ ∀ r μ',Ext μ μ'->μ' r=some (.lst ((wqA ds0).2.map encT))->Q (.tup [encP (wqA ds0).1,.ref r]) μ'
def WWk (q f:Addr) (ds0:List Kn) (μ:Mu):List D->St3->Mu->Prop:=λ l ρ μ'=>∃ (d1 d2:List Kn) (o6 o7 o8 o9 o10:Option D),l=d2.map encD /\ d1 ++ d2=ds0 /\ Hd (wqA d1).1 ∧
 ρ=[some (.ref q),some (encP st),some (.int (wqA d1).1.1),some (.int (wqA d1).1.2.1),some (.int (wqA d1).1.2.2),some (.ref f),o6,o7,o8,o9,o10] /\ Ext μ μ' /\ μ' f=some (.lst ((wqA d1).2.map encT))
def WGo (q f:Addr) (w:WS) (n:Nat) (o6 o7:Option D) (μ:Mu):List D->St3->Mu->Prop:=λ l ρ μ'=>∃ (i:Nat) (o9 o10:Option D),l=rngD (i:Int) (n - i) /\ i<=n ∧
 ρ=[some (.ref q),some (encP st),some (.int (goN i w).1.1),some (.int (goN i w).1.2.1),some (.int w.1.2.2),some (.ref f),o6,o7,some (.tup [.int (cs w.1.2.2),.int (sn w.1.2.2)]),o9,o10] /\ Ext μ μ' /\ μ' f=some (.lst ((goN i w).2.map encT))
theorem tf3 (d1 d2:List Kn):(wqA d1).2.length<=(wqA (d1 ++ d2)).2.length:=by
 induction d2 generalizing d1 with
 | nil=>simp
 | cons d d2 ih =>
  have e:d1 ++ d :: d2=(d1 ++ [d]) ++ d2:=by simp
  rw [e];refine Nat.le_trans ?_ (ih (d1 ++ [d]));rw [zh0];exact uz3 _ _
theorem tz2 (ds:List Kn):Hd (wqA ds).1:=by
 suffices h:∀ (s:WS),Hd s.1->Hd (ds.foldl wq s).1 from h _ (.inl rfl)
 induction ds with
 | nil=>exact λ s h=>h
 | cons d ds ih =>
  intro s h;refine ih _ ?_;obtain ⟨k,n⟩:=d;unfold Hd at h ⊢;cases k with
  | go=>show (goN n.toNat s).1.2.2=0 \/ (goN n.toNat s).1.2.2=1 \/ (goN n.toNat s).1.2.2=2 \/ (goN n.toNat s).1.2.2=3; rw [ye2]; exact h
  | jump=>exact h
  | turn=>show (s.1.2.2 + n) % 4=0 \/ (s.1.2.2 + n) % 4=1 \/ (s.1.2.2 + n) % 4=2 \/ (s.1.2.2 + n) % 4=3; omega
theorem rd_q4:RdQ wf4 t_q4 N_q4:=by
 rintro ds μ Q ⟨q,ds0,rfl,hq,ok,hS,k⟩;have z:(100:Nat) < sizeLine:=by decide
 refine ⟨rfl,?_⟩;refine ⟨(show 0<=sizeLine by decide),λ f hf=>?_⟩;have hq1:updM μ f (.lst []) q=some (.lst (ds0.map encD)):=Ext.new hf _ _ hq
 conv=>whnf
 rw [hq1];refine vd0 (WWk q f ds0 μ) ?_ ?_ ?_ ?_
 ·exact ⟨[],ds0,none,none,none,none,none,rfl,rfl,tz2 [],rfl,Ext.new hf,ya0⟩
 ·rintro l ρ μ2 ⟨d1,d2,o6,o7,o8,o9,o10,_,_,_,rfl,ex,_⟩;exact ex _ _ hq
 ·rintro ρ μ2 ⟨d1,d2,o6,o7,o8,o9,o10,el,e,hd,rfl,ex,ef⟩;cases d2 with
  | cons _ _=>cases el
  | nil =>
   rw [append_nil] at e;subst e;exact ⟨z3,z2,k f μ2 ex ef⟩
 ·rintro d rest ρ μ2 ⟨d1,d2,o6,o7,o8,o9,o10,el,e,hd,rfl,ex,ef⟩;cases d2 with
  | nil=>cases el
  | cons d d2 =>
   rw [map_cons] at el;injection el with e1 e2
   subst e1 e2;obtain ⟨kd,n⟩:=d;have hlen:=tf3 (d1 ++ [(kd,n)]) d2;rw [append_assoc] at hlen;have e':d1 ++ ([(kd,n)] ++ d2)=ds0:=e;rw [e',zh0] at hlen;refine ⟨rfl,?_⟩;refine ⟨z2,z2,z2,z2,(show 4<=sizeLine by decide),λ r hr=>?_⟩;have ex3:Ext μ (updM μ2 r (.lst kl4)):=ex.trans (Ext.new hr);have ef3:updM μ2 r (.lst kl4) f=some (.lst ((wqA d1).2.map encT)):=Ext.new hr _ _ ef;have k3:updM μ2 r (.lst kl4) r=some (.lst kl4):=ya0;have a3:=at4 hd
   conv=>whnf
   rw [k3];dsimp only;rw [a3];dsimp only;generalize updM μ2 r (.lst kl4)=ν at ex3 ef3;have cl:CMul (cs (wqA d1).1.2.2) n:=.inl (.inl (sl0 _));have sl:CMul (sn (wqA d1).1.2.2) n:=.inl (.inl (zl0 _));have e5:(d1 ++ [(kd,n)]) ++ d2=ds0:=by simp_all
   have hd5:=tz2 (d1 ++ [(kd,n)]);have rw5:=zh0 d1 (kd,n);cases kd with
   | turn =>
    refine ⟨(show (0:Int) < 4 by decide),?_⟩;refine ⟨d1 ++ [(.turn,n)],d2,some (.str (kS .turn)),some (.int n),some (.tup [.int (cs (wqA d1).1.2.2),.int (sn (wqA d1).1.2.2)]),o9,o10,rfl,e5,hd5,?_,ex3,?_⟩
    ·rw [rw5]; rfl
    ·rw [rw5]; exact ef3
   | jump =>
    refine ⟨cl,sl,?_⟩;refine ⟨d1 ++ [(.jump,n)],d2,some (.str (kS .jump)),some (.int n),some (.tup [.int (cs (wqA d1).1.2.2),.int (sn (wqA d1).1.2.2)]),o9,o10,rfl,e5,hd5,?_,ex3,?_⟩
    ·rw [rw5]; rfl
    ·rw [rw5]; exact ef3
   | go =>
    have okn:=(ok .go n (by rw [<- e]; simp)).1 rfl;refine ⟨⟨by omega,by omega⟩,?_⟩;refine vd0 (WGo q f (wqA d1) n.toNat (some (.str "go")) (some (.int n)) μ) ?_ (λ _ _ _ _=>trivial) ?_ ?_
    ·exact ⟨0,o9,o10,rfl,Nat.zero_le _,rfl,ex3,ef3⟩
    ·rintro ρ μ4 ⟨i,p9,p10,el,hi,rfl,ex4,ef4⟩
     have ei:i=n.toNat:=by
      cases c:n.toNat - i with
      | zero=>omega
      | succ c'=>rw [c,vf0] at el; cases el
     subst ei;refine ⟨d1 ++ [(.go,n)],d2,some (.str "go"),some (.int n),some (.tup [.int (cs (wqA d1).1.2.2),.int (sn (wqA d1).1.2.2)]),p9,p10,rfl,e5,hd5,?_,ex4,?_⟩
     ·rw [rw5];show _=[some (D.ref q),some (encP st),some (.int (goN n.toNat (wqA d1)).1.1),some (.int (goN n.toNat (wqA d1)).1.2.1),some (.int (goN n.toNat (wqA d1)).1.2.2),_,_,_,_,_,_];rw [ye2]
     ·rw [rw5]; exact ef4
    ·rintro d rest ρ μ4 ⟨i,p9,p10,el,hi,rfl,ex4,ef4⟩;cases c:n.toNat - i with
     | zero=>rw [c] at el; simp [rngD] at el
     | succ c' =>
      rw [c,vf0] at el;injection el with e1 e2
      subst e1 e2;have hgl:=zh1 i (wqA d1);have hw:(wq (wqA d1) (.go,n)).2.length=(wqA d1).2.length + n.toNat:=zh1 n.toNat (wqA d1);have hgd:=ye2 i (wqA d1);refine ⟨z2,z2,?_⟩;dsimp only [nil3];rw [xd3 ((goN i (wqA d1)).1.1,(goN i (wqA d1)).1.2.1) ((goN i (wqA d1)).1.1 + cs (wqA d1).1.2.2,(goN i (wqA d1)).1.2.1 + sn (wqA d1).1.2.2)]
      conv=>whnf
      rw [ef4];refine ⟨(show (0:Int) < 2 by decide),z3,?_⟩
      conv=>whnf
      rw [ef4];refine ⟨by simp_all;omega,?_⟩;refine ⟨i + 1,some (.int (i:Int)),some (encQ (mnP ((goN i (wqA d1)).1.1,(goN i (wqA d1)).1.2.1) ((goN i (wqA d1)).1.1 + cs (wqA d1).1.2.2,(goN i (wqA d1)).1.2.1 + sn (wqA d1).1.2.2))),?_,by omega,?_,λ a o ha=>?_,?_⟩
      ·rw [show n.toNat - (i + 1)=c' by omega];congr 1
      ·show _=[some (D.ref q),some (encP st),some (.int ((goN i (wqA d1)).1.1 + cs (goN i (wqA d1)).1.2.2)),some (.int ((goN i (wqA d1)).1.2.1 + sn (goN i (wqA d1)).1.2.2)),_,_,_,_,_,_,_]
       simp_all
      ·rw [za0 (ta0 ha hf)]; exact ex4 _ _ ha
      ·rw [ya0];show _=some (MO.lst (((goN i (wqA d1)).2 ++ [stk (goN i (wqA d1)).1]).map encT));rw [map_append];unfold stk;rw [hgd];rfl
noncomputable def brg (fb:Nat):Option Nat->Bool
 | some n=>decide (fb<=n)
 | none=>false
noncomputable def go2 (fb:Nat):List (List Pt)->List Pt->Option Nat->List Wt->List (List Pt)
 | dn,cur,_,[]=>dn ++ [cur]
 | dn,cur,o,w :: r=>if brg fb o=true then go2 fb (dn ++ [cur]) [w.1] w.2 r else go2 fb dn (cur ++ [w.1]) w.2 r
def sf1 (fb:Nat):List Wt->List (List Pt)
 | []=>[]
 | w :: r=>go2 fb [] [w.1] w.2 r
noncomputable def wtD (W:List Wt) (k:Nat):Wt:=W.getD k ((0,0),none)
variable {W:List Wt}
theorem te1 {k:Nat} (h:k < W.length):W[k]?=some (wtD W k):=by
 unfold wtD; simp_all
theorem at_W {i:Int} {k:Nat} (e:i=k) (h:k < W.length):atI (W.map encW) i=some (encW (wtD W k)):=by
 subst e;unfold atI ixN;rw [if_pos [5],if_pos [26]];show (W.map encW)[((k:Int)).toNat]?=_;rw [show ((k:Int)).toNat=k by omega,getElem?_map,te1 h]; rfl
theorem ts1 {k:Nat} (h:k < W.length):W.drop k=wtD W k :: W.drop (k + 1):=by
 rw [List.drop_eq_getElem_cons h];congr 1;have:=te1 h
 simp_all
structure PI (μ μ':Mu) (tr:Addr) (A:List Tr):Prop where
 ex:Ext μ μ'
 fr:μ tr=none
 lt:μ' tr=some (.lst (A.map rf))
 ls:TRm μ' A
 nd:(A.map (·.1)).Nodup
 fa:∀ x ∈ A,μ x.1=none
 nt:∀ x ∈ A,x.1 ≠ tr
theorem PI.new {μ μ':Mu} {tr r:Addr} {A:List Tr} (I:PI μ μ' tr A) (hr:μ' r=none):PI μ (updM (updM μ' r (.lst [])) tr (.lst (A.map rf ++ [.ref r]))) tr (A ++ [(r,[])]):=by
 have nr:r ≠ tr:=λ z=>by subst z; rw [I.lt] at hr; cases hr
 refine ⟨(I.ex.trans (Ext.new hr)).upd I.fr,I.fr,by rw [ya0,map_append]; rfl,λ x hx=>?_,?_,λ x hx=>?_,λ x hx=>?_⟩
 ·rcases List.mem_append.mp hx with h | h
  ·rw [za0 (I.nt x h),za0 (ta0 (I.ls x h) hr)]; exact I.ls x h
  ·rw [mem_singleton] at h; subst h; rw [za0 nr,ya0]; rfl
 ·rw [map_append,nodup_append];refine ⟨I.nd,by simp,λ a ha b hb e=>?_⟩;have:b=r:=by simpa using hb
  subst this; subst e;obtain ⟨x,hx,rfl⟩:=List.mem_map.mp ha;have:=I.ls x hx
  simp_all
 ·rcases List.mem_append.mp hx with h | h
  ·exact I.fa x h
  ·rw [mem_singleton] at h; subst h; exact I.ex.free hr
 ·rcases List.mem_append.mp hx with h | h
  ·exact I.nt x h
  simp_all
variable {cur:List Pt}
theorem PI.app {tr c:Addr} {A:List Tr} {p:Pt} (I:PI μ μ' tr (A ++ [(c,cur)])):PI μ (updM μ' c (.lst (cur.map encQ ++ [encQ p]))) tr (A ++ [(c,cur ++ [p])]):=by
 have hc:(c,cur) ∈ A ++ [(c,cur)]:=by simp
 have e1:(A ++ [(c,cur ++ [p])]).map (·.1)=(A ++ [(c,cur)]).map (·.1):=by simp
 have e2:(A ++ [(c,cur ++ [p])]).map rf=(A ++ [(c,cur)]).map rf:=by simp [rf]
 have old:∀ x ∈ A ++ [(c,cur ++ [p])],∃ y ∈ A ++ [(c,cur)],y.1=x.1:=λ x hx=>by
  rcases List.mem_append.mp hx with h | h
  ·exact ⟨x,mem_append_left _ h,rfl⟩
  simp_all
 refine ⟨I.ex.upd (I.fa _ hc),I.fr,by rw [za0 (Ne.symm (I.nt _ hc)),e2]; exact I.lt,λ x hx=>?_,by rw [e1]; exact I.nd,λ x hx=>?_,λ x hx=>?_⟩
 ·rcases List.mem_append.mp hx with h | h
  ·have ne:x.1 ≠ c:=λ z=>by
     have nd:=I.nd;rw [map_append,nodup_append] at nd;exact nd.2.2 x.1 (List.mem_map.mpr ⟨x,h,rfl⟩) c [17] z
   rw [za0 ne]; exact I.ls x (mem_append_left _ h)
  ·rw [mem_singleton] at h; subst h; rw [ya0,map_append]; rfl
 ·obtain ⟨y,hy,e⟩:=old x hx; rw [<- e]; exact I.fa y hy
 ·obtain ⟨y,hy,e⟩:=old x hx; rw [<- e]; exact I.nt y hy
theorem ixW0 (w:Wt) (μ:Mu) (K:VK3):ixR (encW w) (.int 0) μ K=K (encQ w.1) μ:=rfl
theorem ixW1 (w:Wt) (μ:Mu) (K:VK3):ixR (encW w) (.int 1) μ K=K (oD w.2) μ:=rfl
theorem vl1 {wy tr c:Addr} {A:List Tr} {k:Nat} (hE:E.nx=N) (I:PI μ μ2 tr (A ++ [(c,cur)])) (hW:μ wy=some (.lst (W.map encW))) (hk1:k + 1 < W.length) (hc:cur.length < 1000)
    (kk:∀ μ3,PI μ μ3 tr (A ++ [(c,cur ++ [(wtD W (k + 1)).1])])->N [some (.ref wy),o1,some (.ref tr),some (.int (1 + (k:Int)))] μ3) :
    (yc0 (mt3 appR (o3 ixR (v3 2) (un3 negR [11])) (xa0 (o3 ixR (o3 ixR (v3 0) (v3 3)) [9]) nil3))) E [some (.ref wy),o1,some (.ref tr),some (.int (1 + (k:Int)))] μ2:=by
 have hz:(1000:Nat) < sizeLine:=by decide
 have hA:(A ++ [(c,cur)]).map rf=A.map rf ++ [.ref c]:=by rw [map_append]; rfl
 have ht:=I.lt;rw [hA] at ht;have hcur:=I.ls (c,cur) [17];show ixR (.ref tr) (.int (-1)) μ2 (λ d μ1=>_);refine ug0 ht (vi1 _ _) ?_
 conv=>whnf
 rw [hcur];show ixR (.ref wy) (.int (1 + (k:Int))) μ2 (λ d μ1=>_);refine ug0 (I.ex _ _ hW) (at_W (k:=k + 1) [5] hk1) ?_;dsimp only [c3];rw [ixW0];dsimp only [nil3];refine ti1 hcur [20] ?_;rw [hE];exact kk _ I.app
def xk1:Sp3:=λ ds μ Q=>∃ (wy:Addr) (ws:List Wt) (s:Pt) (fb:Nat),ds=[.ref wy,.int (fb:Int)] /\ μ wy=some (.lst ((ws ++ [(s,none)]).map encW)) /\ (∀ w ∈ ws,∃ n,w.2=some n) /\ ws.length < 300 ∧
 ∀ r A μ',PI μ μ' r A->A.map (·.2)=sf1 fb (ws ++ [(s,none)])->A.length<=ws.length + 1->Q (.ref r) μ'
theorem yr4:RdQ xk1 vc4 sx3:=by
 rintro ds μ Q ⟨wy,ws,s,fb,rfl,hW,hw,hl,q⟩;have hz:(1000:Nat) < sizeLine:=by decide
 have hn:∀ k,k < ws.length->∃ n,(wtD (ws ++ [(s,none)]) k).2=some n:=λ k hk=>by
  have e:(ws ++ [(s,none)])[k]?=some (ws[k]'hk):=by rw [getElem?_append_left hk,getElem?_eq_getElem hk]
  have e2:=te1 (W:=ws ++ [(s,none)]) (k:=k) [20];rw [e] at e2;have e3:ws[k]'hk=wtD (ws ++ [(s,none)]) k:=Option.some.inj e2;rw [<- e3];exact hw _ (getElem_mem hk)
 have hlen:(ws ++ [(s,none)]).length=ws.length + 1:=by simp
 generalize hWW:ws ++ [(s,none)]=W at *;have h0:0 < W.length:=by omega
 show ixR (.ref wy) (.int 0) μ (λ d μ1=>_);refine ug0 hW (at_W rfl h0) ?_;refine ⟨z1',λ c hc=>⟨z1',λ tr ht=>?_⟩⟩;have ntc:c ≠ tr:=λ z=>by subst z; rw [ya0] at ht; cases ht
 have ht0:μ tr=none:=by rw [za0 (Ne.symm ntc)] at ht; exact ht
 have I0:PI μ (updM (updM μ c (.lst [encQ (wtD W 0).1])) tr (.lst [.ref c])) tr [(c,[(wtD W 0).1])]:=by
  refine ⟨(Ext.new hc).trans (Ext.new ht),ht0,ya0,λ x hx=>?_,by simp,λ x hx=>?_,λ x hx=>?_⟩
  ·rw [mem_singleton] at hx; subst hx; rw [za0 ntc,ya0]; rfl
  ·simp_all
  simp_all
 have hW1:=I0.ex _ _ hW
 conv=>whnf
 rw [hW1];refine ⟨⟨by decide,by decide,by omega,by simp_all;omega⟩,?_⟩;refine vd0 (λ l ρ μ'=>∃ (k:Nat) (A:List Tr) (c:Addr) (cur:List Pt) (o3:Option D),l=rngD (1 + (k:Int)) (W.length - 1 - k) /\ k<=W.length - 1 /\ ρ=[some (.ref wy),some (.int (fb:Int)),some (.ref tr),o3] /\ PI μ μ' tr (A ++ [(c,cur)]) /\ go2 fb (A.map (·.2)) cur (wtD W k).2 (W.drop (k + 1))=sf1 fb W /\ A.length<=k /\ cur.length<=k + 1) ?_ (λ _ _ _ _=>trivial) ?_ ?_
 ·refine ⟨0,[],c,[(wtD W 0).1],none,?_,Nat.zero_le _,rfl,I0,?_,Nat.le_refl _,Nat.le_refl _⟩
  ·simp
  ·have e:=ts1 h0;rw [List.drop_zero] at e
   conv=>rhs; rw [e]
   rfl
 ·rintro ρ μ' ⟨k,A,c,cur,o3',e,hk,rfl,I,eg,hs,hcu⟩
  have e0:W.length - 1 - k=0:=by
   cases c:W.length - 1 - k with
   | zero=>rfl
   | succ c'=>rw [c,vf0] at e; cases e
  have ed:W.drop (k + 1)=[]:=List.drop_eq_nil_iff.mpr [5];rw [ed] at eg;refine q tr _ μ' I ?_ ?_
  ·rw [map_append,<- eg]; rfl
  simp_all;omega
 ·rintro x rest ρ μ' ⟨k,A,c,cur,o3',e,hk,rfl,I,eg,hs,hcu⟩;cases n:W.length - 1 - k with
  | zero=>rw [n] at e; simp [rngD] at e
  | succ m =>
   rw [n,vf0] at e;simp only [List.cons.injEq] at e;obtain ⟨rfl,rfl⟩:=e;obtain ⟨b,eb⟩:=hn k [5];have hWy:=I.ex _ _ hW;have hk1:k + 1 < W.length:=by omega
   rw [ts1 hk1] at eg;show ixR (.ref wy) (.int (1 + (k:Int) - 1)) μ' (λ d μ1=>_);refine ug0 hWy (at_W (k:=k) [5] [5]) ?_;dsimp only [c3];rw [ixW1];rw [eb] at eg ⊢;show if decide ((fb:Int)<=(b:Int))=true then _ else _;by_cases cb:fb<=b
   ·rw [if_pos (decide_eq_true [5])]
    have eg2:go2 fb (A.map (·.2) ++ [cur]) [(wtD W (k + 1)).1] (wtD W (k + 1)).2 (W.drop (k + 1 + 1))=sf1 fb W:=by
     rw [<- eg,go2,if_pos (show brg fb (some b)=true from decide_eq_true cb)]
    conv=>whnf
    rw [I.lt];refine ⟨Nat.zero_le _,λ r hr=>?_⟩;have hlt:updM μ' r (.lst []) tr=some (.lst ((A ++ [(c,cur)]).map rf)):=by rw [za0 (ta0 I.lt hr)]; exact I.lt
    dsimp only [nil3];refine ti1 hlt [20] ?_;have I2:=I.new hr;refine vl1 rfl I2 hW hk1 (show 0 < 1000 by decide) λ μ3 I3=>?_;refine ⟨k + 1,A ++ [(c,cur)],r,_,_,by rw [show W.length - 1 - (k + 1)=m by omega]; congr 1,by omega,rfl,I3,?_,?_,?_⟩
    ·simp_all
    ·simp_all
    simp
   ·rw [if_neg (λ z=>cb [26])]
    have eg2:go2 fb (A.map (·.2)) (cur ++ [(wtD W (k + 1)).1]) (wtD W (k + 1)).2 (W.drop (k + 1 + 1))=sf1 fb W:=by
     rw [<- eg,go2,if_neg (show ¬ brg fb (some b)=true from λ z=>cb (of_decide_eq_true z))]
    refine vl1 rfl I hW hk1 [5] λ μ3 I3=>?_;refine ⟨k + 1,A,c,_,_,by rw [show W.length - 1 - (k + 1)=m by omega]; congr 1,by omega,rfl,I3,eg2,by omega,?_⟩
    simp_all
noncomputable def brs (ps:List Pt):List Lk2:=(List.range ((ps.length - 1) / 2)).map λ i=>(gp ps (1 + i * 2),gp ps (1 + i * 2 + 1))
noncomputable def stks (u:List T3):List Lk2:=u.map λ s=>(e0 s,e1 s)
noncomputable def lks (u:List T3) (ps:List Pt):List Lk2:=stks u ++ brs ps
noncomputable def srt0 (u:List T3) (ps:List Pt):Pt:=match ps with
 | []=>(match u with
  | []=>(0,0)
  | s :: _=>e0 s)
 | p :: _=>p
noncomputable def endD (d:D):D:=encL (e0 (decT d),e1 (decT d))
noncomputable def brD (ps:List Pt) (d:D):D:=match d with
 | .int i=>encL (gp ps i.toNat,gp ps (i + 1).toNat)
 | _=>.non
theorem wu3 (u:List T3):(u.map encT).map endD=(stks u).map encL:=by
 unfold stks;rw [map_map,map_map];rfl
theorem wf5 (ps:List Pt) (n:Nat):(rng2 1 n).map (brD ps)=((List.range n).map λ i=>(gp ps (1 + i * 2),gp ps (1 + i * 2 + 1))).map encL:=by
 unfold rng2;rw [map_map,map_map];rfl
theorem vt2 {lo:Int} (h:x ∈ rng2 lo n):∃ i:Nat,i < n /\ x=.int (lo + i * 2):=by
 unfold rng2 at h;obtain ⟨i,hi,rfl⟩:=List.mem_map.mp h;exact ⟨i,List.mem_range.mp hi,rfl⟩
theorem yg5:∀ ts:List T3,(Od ts).length<=2 * ts.length
 | []=>Nat.le_refl _
 | s :: r=>by
  have ih:=yg5 r
  have t:∀ (p:Pt) (l:List Pt),(tog p l).length<=l.length + 1:=λ p l=>by
   unfold tog;split
   ·simp_all;omega
   ·simp
  have h1:=t (e1 s) (tog (e0 s) (Od r));have h2:=t (e0 s) (Od r);show (tog (e1 s) (tog (e0 s) (Od r))).length<=2 * (s :: r).length;rw [length_cons];omega
theorem wb3 {p:Pt} (h:∃ s ∈ u,has p s=true) (B:List Lk2):∃ l ∈ stks u ++ B,ic l p:=by
 obtain ⟨s,hs,hp⟩:=h;refine ⟨(e0 s,e1 s),mem_append_left _ (List.mem_map.mpr ⟨s,hs,rfl⟩),?_⟩;rcases zo0 hp with rfl | rfl
 ·exact .inl rfl
 ·exact .inr rfl
theorem su1 (hu:u ≠ []) (hp:ps.Perm (Od u)):∃ l ∈ lks u ps,ic l (srt0 u ps):=by
 cases ps with
 | cons p r =>
  have h:p ∈ Od u:=hp.mem_iff.mp (mem_cons_self ..);exact wb3 (sh1 ((ue1 p u).mp h)) _
 | nil =>
  cases u with
  | nil=>exact absurd rfl hu
  | cons s r=>exact wb3 ⟨s,mem_cons_self ..,un1 s⟩ _
theorem PI.mono {r:Addr} {A:List Tr} (e:Ext μ0 μ) (I:PI μ μ' r A):PI μ0 μ' r A:=⟨e.trans I.ex,e.free I.fr,I.lt,I.ls,I.nd,λ x hx=>e.free (I.fa x hx),I.nt⟩
noncomputable def xg1:List Pt->List Lk2
 | a :: b :: r=>(a,b) :: xg1 r
 | _=>[]
theorem sn0 (p:Pt) (r:List Pt) (k:Nat):gp (p :: r) (k + 1)=gp r k:=rfl
theorem ul1:∀ r:List Pt,(List.range (r.length / 2)).map (λ i=>(gp r (i * 2),gp r (i * 2 + 1)))=xg1 r
 | []=>rfl
 | [x]=>by
  have e:[x].length / 2=0:=by simp
  rw [e]; rfl
 | a :: b :: r=>by
  have e:(a :: b :: r).length / 2=r.length / 2 + 1:=by simp_all;omega
  rw [e,List.range_succ_eq_map,map_cons,map_map,xg1,<- ul1 r];congr 1;apply map_congr_left;intro i _;show (gp (a :: b :: r) ((i + 1) * 2),gp (a :: b :: r) ((i + 1) * 2 + 1))=_;rw [show (i + 1) * 2=i * 2 + 1 + 1 by omega,sn0,sn0,sn0,sn0]
theorem zh2 (p:Pt) (r:List Pt):brs (p :: r)=xg1 r:=by
 unfold brs;rw [<- ul1 r,length_cons,Nat.add_sub_cancel];apply map_congr_left;intro i _;rw [show 1 + i * 2=i * 2 + 1 by omega,sn0,sn0]
theorem va5 (L:List Lk2):L=(List.range L.length).map (lkD L):=by
 apply ext_getElem
 ·simp
 ·intro i h1 h2;rw [List.getElem_map,List.getElem_range];have:=sq0 h1
  simp_all
noncomputable def incb (v:Pt) (l:Lk2):Bool:=decide (l.1=v \/ l.2=v)
theorem we5 (L:List Lk2) (v:Pt):cU L [] v=L.countP (incb v):=by
 have e:unu L []=List.range L.length:=by
  unfold unu;simp
 unfold cU;rw [e]
 conv=>rhs; rw [va5 L]
 rw [List.countP_map];apply List.countP_congr;intro n hn;have:=sq0 (List.mem_range.mp hn);unfold isc incb;rw [this];simp
theorem vj2 (u:List T3) (v:Pt):(stks u).countP (incb v)=deg u v:=by
 unfold stks deg;rw [List.countP_map];apply List.countP_congr;intro s _;unfold has incb;simp
theorem xb1 (v:Pt):∀ r:List Pt,r.Nodup->r.length % 2=1->(xg1 r).countP (incb v) + (if r.getLast?=some v then 1 else 0)=if v ∈ r then 1 else 0
 | [],_,h=>by simp at h
 | [g],_,_=>by
  simp only [xg1,List.countP_nil,List.getLast?_singleton,Option.some.injEq,mem_singleton,Nat.zero_add];by_cases c:g=v
  ·subst c; simp
  ·rw [if_neg c,if_neg (Ne.symm c)]
 | a :: b :: r,hn,hl=>by
  have hr:r.length % 2=1:=by simp_all;omega
  rw [nodup_cons,nodup_cons] at hn;obtain ⟨h1,h2,h3⟩:=hn;have ih:=xb1 v r h3 hr;have ne:r ≠ []:=λ z=>by subst z; simp at hr
  have gl:(a :: b :: r).getLast?=r.getLast?:=by
   cases r with
   | nil=>exact absurd rfl ne
   | cons c r=>rfl
  rw [gl,xg1,List.countP_cons];have hab:a ≠ b:=λ z=>h1 [26];have har:a ∉ r:=λ z=>h1 (mem_cons_of_mem _ z)
  have hib:incb v (a,b)=true ↔ v=a \/ v=b:=by
   unfold incb;rw [decide_eq_true_eq];exact ⟨λ h=>h.imp Eq.symm Eq.symm,λ h=>h.imp Eq.symm Eq.symm⟩
  by_cases c1:v=a
  ·simp_all
  ·by_cases c2:v=b
   ·simp_all
   simp_all
noncomputable def gl0 (u:List T3) (ps:List Pt):Pt:=(ps.getLast?).getD (srt0 u ps)
theorem xz4 (hp:ps.Perm (Od u)):Odd (lks u ps) [] (srt0 u ps) (gl0 u ps):=by
 intro v;have hn:ps.Nodup:=hp.nodup_iff.mpr (us1 u);have he:ps.length % 2=0:=by rw [hp.length_eq]; exact si1 u
 rw [we5];unfold lks;rw [List.countP_append,vj2];have hd:deg u v % 2=1 ↔ v ∈ ps:=by rw [<- ue1,hp.mem_iff]
 cases ps with
 | nil =>
  have e:brs []=[]:=rfl;rw [e,List.countP_nil,Nat.add_zero,hd];simp [gl0]
 | cons p r =>
  rw [zh2];rw [nodup_cons] at hn;have hr:r.length % 2=1:=by simp_all;omega
  have pp:=xb1 v r hn.2 hr;have ne:r ≠ []:=λ z=>by subst z; simp at hr
  obtain ⟨g,hg⟩:∃ g,r.getLast?=some g:=by
   cases c:r.getLast? with
   | none=>simp_all
   | some g=>exact ⟨g,rfl⟩
  have hgr:g ∈ r:=List.mem_of_getLast? hg
  have eg:gl0 u (p :: r)=g:=by
   unfold gl0
   have:(p :: r).getLast?=some g:=by
    cases r with
    | nil=>exact absurd rfl ne
    | cons c r=>assumption
   rw [this]; rfl
  have es:srt0 u (p :: r)=p:=rfl;rw [eg,es];rw [hg] at pp;simp only [Option.some.injEq] at pp;rw [mem_cons] at hd;by_cases c1:v=p
  ·subst c1;have hvr:=hn.1;have hvg:¬ v=g:=λ z=>hvr (by rw [z]; exact hgr);rw [if_neg hvr,if_neg (Ne.symm hvg)] at pp;have:=hd.mpr (.inl rfl);simp only [true_iff,hvg,not_false_iff,iff_true];omega
  ·simp only [c1,false_or] at hd;simp only [c1,false_iff,Classical.not_not];by_cases c2:v=g
   ·subst c2;rw [if_pos rfl,if_pos hgr] at pp;have:=hd.mpr hgr;simp only [iff_true];omega
   ·rw [if_neg (Ne.symm c2)] at pp;simp only [c2,iff_false];by_cases c3:v ∈ r
    ·simp_all;omega
    ·rw [if_neg c3] at pp;have:¬ deg u v % 2=1:=λ z=>c3 (hd.mp z);omega
theorem sn1 (hn:ps.Nodup) {j:Nat} (hi:i < ps.length) (hj:j < ps.length) (e:gp ps i=gp ps j):i=j:=by
 unfold gp at e;rw [getD_eq_getElem?_getD,getD_eq_getElem?_getD,getElem?_eq_getElem hi,getElem?_eq_getElem hj] at e;have e:ps[i]=ps[j]:=e;rcases Nat.lt_trichotomy i j with c | c | c
 ·exact absurd e (List.pairwise_iff_getElem.mp hn i j hi hj c)
 ·exact c
 ·exact absurd e.symm (List.pairwise_iff_getElem.mp hn j i hj hi c)
theorem yb2 (h:n < u.length):(lks u ps)[n]?=some (e0 (u[n]'h),e1 (u[n]'h)):=by
 unfold lks stks;rw [getElem?_append_left [26],getElem?_map,getElem?_eq_getElem h]; rfl
theorem tq0 {l:Lk2} (h:u.length<=n) (hl:(lks u ps)[n]?=some l):∃ i,n=u.length + i /\ i < (ps.length - 1) / 2 /\ l=(gp ps (1 + i * 2),gp ps (1 + i * 2 + 1)):=by
 unfold lks stks brs at hl;rw [getElem?_append_right [26],length_map,getElem?_map] at hl;obtain ⟨i,hi,e⟩:=Option.map_eq_some_iff.mp hl;obtain ⟨h1,h2⟩:=List.getElem?_eq_some_iff.mp hi;rw [List.getElem_range] at h2;rw [length_range] at h1;exact ⟨i,by omega,by omega,e.symm⟩
theorem wa5 (hn:ps.Nodup):∀ l ∈ lks u ps,l.1 ≠ l.2:=by
 intro l hl;obtain ⟨n,hn2,e⟩:=getElem_of_mem hl;have e1:(lks u ps)[n]?=some l:=by simp_all
 rcases Nat.lt_or_ge n u.length with c | c
 ·rw [yb2 c] at e1;cases e1;exact e_ne _
 ·obtain ⟨i,_,hi,rfl⟩:=tq0 c e1;intro z;have:=sn1 hn [5] [5] z;omega
theorem wh2 (hn:ps.Nodup) {m:Nat} {l k:Lk2} {p:Pt} (h1:u.length<=n) (h2:u.length<=m) (hl:(lks u ps)[n]?=some l) (hk:(lks u ps)[m]?=some k) (i1:ic l p) (i2:ic k p):n=m:=by
 obtain ⟨i,e1,hi,rfl⟩:=tq0 h1 hl;obtain ⟨j,e2,hj,rfl⟩:=tq0 h2 hk;have key:∀ a b,a < ps.length->b < ps.length->gp ps a=p->gp ps b=p->a=b:=λ a b ha hb x y=>sn1 hn ha hb (x.trans y.symm);rcases i1 with x | x <;> rcases i2 with y | y <;> (have:=key _ _ [5] [5] x y; omega)
theorem vi3 (h:0 < ps.length):srt0 u ps=gp ps 0:=by
 cases ps with
 | nil=>simp at h
 | cons p r=>rfl
theorem xc5 (h:0 < ps.length):gl0 u ps=gp ps (ps.length - 1):=by
 unfold gl0 gp;rw [List.getLast?_eq_getElem?,getD_eq_getElem?_getD,getElem?_eq_getElem [5]];rfl
theorem brg_s (hn:ps.Nodup) {l:Lk2} (h1:u.length<=n) (hl:(lks u ps)[n]?=some l):¬ ic l (srt0 u ps):=by
 obtain ⟨i,e1,hi,rfl⟩:=tq0 h1 hl;rw [vi3 [5]];rintro (x | x) <;> (have:=sn1 hn [5] [5] x; omega)
theorem brg_g (hn:ps.Nodup) (he:ps.length % 2=0) {l:Lk2} (h1:u.length<=n) (hl:(lks u ps)[n]?=some l):¬ ic l (gl0 u ps):=by
 obtain ⟨i,e1,hi,rfl⟩:=tq0 h1 hl;rw [xc5 [5]];rintro (x | x) <;> (have:=sn1 hn [5] [5] x; omega)
theorem ChG.ends {L:List Lk2} {g:Pt}:∀ {ws:List Wt},ChG L g ws->∀ x ∈ ws,∀ n,x.2=some n->∃ l q,L[n]?=some l /\ jn l x.1 q /\ (q=g \/ ∃ y ∈ ws,y.1=q)
 | [],_,x,hx,_,_=>(nomatch hx)
 | [w],h,x,hx,n,e=>by
  rw [mem_singleton] at hx; subst hx;obtain ⟨m,l,e1,e2,e3⟩:=h;rw [e] at e1; cases e1;exact ⟨l,g,e2,e3,.inl rfl⟩
 | w :: w' :: r,h,x,hx,n,e=>by
  rcases List.mem_cons.mp hx with rfl | hx
  ·obtain ⟨m,l,e1,e2,e3⟩:=h.1;rw [e] at e1; cases e1;exact ⟨l,w'.1,e2,e3,.inr ⟨w',by simp,rfl⟩⟩
  ·obtain ⟨l,q,a,b,c⟩:=ChG.ends (ws:=w' :: r) h.2 x hx n e;refine ⟨l,q,a,b,c.imp id λ ⟨y,hy,ey⟩=>⟨y,mem_cons_of_mem _ hy,ey⟩⟩
variable {ws:List Wt}
theorem vy2 {s g0:Pt} (H:Hz L s g0 rem U [] (ws ++ [(s,none)])) (cg:ChG L s ws)
    (hC:∀ V:Pt->Prop,V s->(∀ l ∈ L,(V l.1->V l.2) /\ (V l.2->V l.1))->∀ l ∈ L,V l.1):∀ n,n < L.length->n ∈ U:=by
 have V:=hC (λ p=>∃ w ∈ ws ++ [(s,none)],w.1=p) ⟨(s,none),by simp,rfl⟩ (λ l hl=>?_)
 ·intro n hn;have e:L[n]?=some (L[n]'hn):=getElem?_eq_getElem hn;obtain ⟨w,hw,ew⟩:=V _ (getElem_mem hn);exact H.dn w hw n _ e (.inl ew.symm)
 ·obtain ⟨n,hn,e⟩:=getElem_of_mem hl;have e1:L[n]?=some l:=by simp_all
  have key:n ∈ U->(∃ w ∈ ws ++ [(s,none)],w.1=l.1) /\ ∃ w ∈ ws ++ [(s,none)],w.1=l.2:=λ hU=>by
   have hm:=H.num.mem_iff.mpr hU;rw [nil_append,List.mem_filterMap] at hm;obtain ⟨x,hx,ex⟩:=hm;rcases List.mem_append.mp hx with hx | hx
   ·obtain ⟨l',q,a,b,c⟩:=cg.ends x hx n ex;rw [e1] at a; cases a
    have hq:∃ w ∈ ws ++ [(s,none)],w.1=q:=by
     rcases c with rfl | ⟨y,hy,ey⟩
     ·simp
     ·exact ⟨y,mem_append_left _ hy,ey⟩
    have hx':∃ w ∈ ws ++ [(s,none)],w.1=x.1:=⟨x,mem_append_left _ hx,rfl⟩;rcases b with ⟨b1,b2⟩ | ⟨b1,b2⟩
    ·rw [b1,b2]; exact ⟨hx',hq⟩
    ·rw [b1,b2]; exact ⟨hq,hx'⟩
   ·rw [mem_singleton] at hx; subst hx; cases ex
  refine ⟨λ ⟨w,hw,ew⟩=>(key (H.dn w hw n l e1 (.inl ew.symm))).2,λ ⟨w,hw,ew⟩=>(key (H.dn w hw n l e1 (.inr ew.symm))).1⟩
theorem tt2 {a:T3} (ha:a ∈ u) (hs:srt0 u ps=e0 a \/ srt0 u ps=e1 a) (hco:∀ b ∈ u,Conn u a b) (hp:∀ p ∈ ps,∃ s ∈ u,has p s=true) (V:Pt->Prop) (hV:V (srt0 u ps)) (cl:∀ l ∈ lks u ps,(V l.1->V l.2) /\ (V l.2->V l.1)):∀ l ∈ lks u ps,V l.1:=by
 have stk:∀ s ∈ u,(V (e0 s)->V (e1 s)) /\ (V (e1 s)->V (e0 s)):=λ s hs=>cl (e0 s,e1 s) (mem_append_left _ (List.mem_map.mpr ⟨s,hs,rfl⟩))
 have both:∀ b,Conn u a b->b ∈ u /\ V (e0 b) /\ V (e1 b):=by
  intro b h
  induction h with
  | refl =>
   rcases hs with h | h
   ·simp_all
   simp_all
  | step _ hc ht ih =>
   rename_i b c _;obtain ⟨hb,v0,v1⟩:=ih;obtain ⟨p,p1,p2⟩:=ht;have vp:V p:=by rcases zo0 p1 with rfl | rfl; exact v0; exact v1
   rcases zo0 p2 with rfl | rfl
   ·simp_all
   simp_all
 have pt:∀ p,(∃ s ∈ u,has p s=true)->V p:=λ p ⟨s,hs,h⟩=>by
  obtain ⟨_,v0,v1⟩:=both s (hco s hs);rcases zo0 h with rfl | rfl
  ·exact v0
  ·exact v1
 intro l hl;rcases List.mem_append.mp hl with h | h
 ·obtain ⟨s,hs,rfl⟩:=List.mem_map.mp h
  simp_all
 ·obtain ⟨i,hi,rfl⟩:=List.mem_map.mp h;refine pt _ (hp _ ?_);have hi':=List.mem_range.mp hi;unfold gp;rw [getD_eq_getElem?_getD,getElem?_eq_getElem [5]];simp
theorem tu0 {t:List Pt} {q:Pt} (h:i < t.length):gp (t ++ [q]) i=gp t i:=by
 unfold gp; rw [getD_eq_getElem?_getD,getD_eq_getElem?_getD,getElem?_append_left h]
theorem xe3 (t:List Pt) (q:Pt):gp (t ++ [q]) t.length=q:=by
 unfold gp; simp
theorem sd2 {t:List Pt} {p:Pt} (h:t.getLast?=some p):gp t (t.length - 1)=p:=by
 unfold gp; rw [getD_eq_getElem?_getD,<- List.getLast?_eq_getElem?,h]; rfl
theorem vs1 {t:List Pt} {p q:Pt} (h:t.getLast?=some p):yg0 (t ++ [q])=yg0 t ++ [btw p q]:=by
 have hl:0 < t.length:=by cases t with
  | nil=>simp at h
  | cons _ _=>simp
 unfold yg0;rw [length_append,show t.length + [q].length - 1=(t.length - 1) + 1 by simp_all;omega,range_succ,map_append];congr 1
 ·apply map_congr_left;intro i hi;have:=List.mem_range.mp hi;rw [tu0 [5],tu0 [5]]
 ·show [btw (gp (t ++ [q]) (t.length - 1)) (gp (t ++ [q]) (t.length - 1 + 1))]=_;rw [tu0 [5],sd2 h,show t.length - 1 + 1=t.length by omega,xe3]
theorem wz3 {t:List Pt} {p q:Pt} (h:t.getLast?=some p) (a:AN t) (hx:nx p q=true):AN (t ++ [q]):=by
 have hl:0 < t.length:=by cases t with
  | nil=>simp at h
  | cons _ _=>simp
 intro i hi;rw [length_append] at hi;simp only [length_cons,length_nil] at hi;by_cases c:i < t.length - 1
 ·rw [tu0 [5],tu0 [5]]; exact a i c
 ·have e:i=t.length - 1:=by omega
  subst e;rw [tu0 [5],sd2 h,show t.length - 1 + 1=t.length by omega,xe3];exact hx
theorem se4 {s:T3} (hw:wy s) {p q:Pt} (h:jn (e0 s,e1 s) p q):btw p q=s /\ nx p q=true:=by
 obtain ⟨x,y,w⟩:=s;obtain ⟨b1,b2,b3,b4⟩:=btw_r x y;have hw:w=0 \/ w=1:=hw;rcases hw with rfl | rfl
 ·have e1':e1 (x,y,(0:Int))=(x + 1,y):=by unfold e1; simp
  rw [e1'] at h;rcases h with ⟨rfl,rfl⟩ | ⟨rfl,rfl⟩
  ·exact ⟨b1,by unfold nx e0; simp_all;omega⟩
  ·exact ⟨b2,by unfold nx e0; simp_all;omega⟩
 ·have e1':e1 (x,y,(1:Int))=(x,y + 1):=by unfold e1; simp
  rw [e1'] at h;rcases h with ⟨rfl,rfl⟩ | ⟨rfl,rfl⟩
  ·exact ⟨b3,by unfold nx e0; simp_all;omega⟩
  ·exact ⟨b4,by unfold nx e0; simp_all;omega⟩
noncomputable def stD (u:List T3) (n:Nat):T3:=u.getD n (0,0,0)
theorem tu1 (h:n < u.length):stD u n=u[n]'h:=by
 unfold stD; simp_all
noncomputable def lo (k:Nat) (ns:List Nat):List Nat:=ns.filter λ n=>decide (n < k)
structure TrI (u:List T3) (dn:List (List Pt)) (cur:List Pt) (o:Option Nat) (ns:List Nat):Prop where
 g1:∀ t ∈ dn,isT t=true
 g2:AN cur
 g3:1 < cur.length \/ ∃ n,o=some n /\ n < u.length
 g4:(dn ++ [cur]).flatMap yg0=(lo u.length ns).map (stD u)
structure Res (u:List T3) (T:List (List Pt)) (ns:List Nat):Prop where
 r1:∀ t ∈ T,isT t=true
 r2:T.flatMap yg0=(lo u.length ns).map (stD u)
theorem ss3 {u:List T3} {ps:List Pt} (hw:∀ s ∈ u,wy s) (hn:ps.Nodup):∀ (ws:List Wt) (dn:List (List Pt)) (cur:List Pt) (ns:List Nat) (w:Wt) (rest:List Wt),ws ++ [(srt0 u ps,none)]=w :: rest->ChG (lks u ps) (srt0 u ps) ws->(ws.filterMap (·.2)).Nodup->cur.getLast?=some w.1->TrI u dn cur w.2 ns ->
    Res u (go2 u.length dn cur w.2 rest) (ns ++ ws.filterMap (·.2))
 | [],dn,cur,ns,w,rest,e,_,_,hc,I=>by
  simp only [nil_append,List.cons.injEq] at e;obtain ⟨rfl,rfl⟩:=e;have h1:1 < cur.length:=I.g3.resolve_right λ ⟨n,e,_⟩=>by cases e
  refine ⟨λ t ht=>?_,?_⟩
  ·rcases List.mem_append.mp ht with h | h
   ·exact I.g1 t h
   ·rw [mem_singleton] at h; subst h; exact (zr0 _).mpr ⟨h1,I.g2⟩
  ·rw [List.filterMap_nil,append_nil]; exact I.g4
 | x :: ws,dn,cur,ns,w,rest,e,cg,nd,hc,I=>by
  simp only [cons_append,List.cons.injEq] at e;obtain ⟨rfl,rfl⟩:=e
  obtain ⟨w',rest',er⟩:∃ w' rest',ws ++ [(srt0 u ps,none)]=w' :: rest':=by
   cases ws with
   | nil=>simp
   | cons y r=>simp
  obtain ⟨n,l,en,el,hj,cg2⟩:∃ n l,x.2=some n /\ (lks u ps)[n]?=some l /\ jn l x.1 w'.1 /\ ChG (lks u ps) (srt0 u ps) ws:=by
   cases ws with
   | nil =>
    simp only [nil_append,List.cons.injEq] at er;obtain ⟨rfl,rfl⟩:=er;obtain ⟨n,l,a,b,c⟩:=cg;exact ⟨n,l,a,b,c,trivial⟩
   | cons y r =>
    simp only [cons_append,List.cons.injEq] at er;obtain ⟨rfl,rfl⟩:=er;obtain ⟨⟨n,l,a,b,c⟩,d⟩:=cg;exact ⟨n,l,a,b,c,d⟩
  have efm:(x :: ws).filterMap (·.2)=n :: ws.filterMap (·.2):=by simp_all
  rw [efm,nodup_cons] at nd;rw [efm,show ns ++ n :: ws.filterMap (·.2)=(ns ++ [n]) ++ ws.filterMap (·.2) by simp,er,en];rw [en] at I
  have icl:ic l x.1 /\ ic l w'.1:=by
   rcases hj with ⟨a,b⟩ | ⟨a,b⟩
   ·exact ⟨.inl a,.inr b⟩
   ·exact ⟨.inr b,.inl a⟩
  by_cases cb:u.length<=n
  ·rw [go2,if_pos (show brg u.length (some n)=true from decide_eq_true cb)];have h1:1 < cur.length:=I.g3.resolve_right λ ⟨m,e,h⟩=>by cases e; omega
   refine ss3 hw hn ws (dn ++ [cur]) [w'.1] (ns ++ [n]) w' rest' er cg2 nd.2 rfl ⟨λ t ht=>?_,λ i hi=>absurd hi [17],.inr ?_,?_⟩
   ·rcases List.mem_append.mp ht with h | h
    ·exact I.g1 t h
    ·rw [mem_singleton] at h; subst h; exact (zr0 _).mpr ⟨h1,I.g2⟩
   ·cases ws with
    | nil =>
     simp only [nil_append,List.cons.injEq] at er;obtain ⟨rfl,rfl⟩:=er;exact absurd icl.2 (brg_s hn cb el)
    | cons y r =>
     simp only [cons_append,List.cons.injEq] at er;obtain ⟨rfl,rfl⟩:=er
     obtain ⟨m,k,em,ek,ik⟩:∃ m k,y.2=some m /\ (lks u ps)[m]?=some k /\ ic k y.1:=by
      obtain ⟨k,q,a,b,_⟩:∃ k q,∃ m,y.2=some m /\ (lks u ps)[m]?=some k /\ jn k y.1 q:=by
       cases r with
       | nil=>obtain ⟨m,k,a,b,c⟩:=cg2; exact ⟨k,_,m,a,b,c⟩
       | cons z r=>obtain ⟨⟨m,k,a,b,c⟩,_⟩:=cg2; exact ⟨k,_,m,a,b,c⟩
      rename_i c;refine ⟨a,k,b,c.1,?_⟩;rcases c.2 with ⟨x1,_⟩ | ⟨_,x2⟩
      ·exact .inl x1
      ·exact .inr x2
     refine ⟨m,em,?_⟩;rcases Nat.lt_or_ge m u.length with c | c
     ·exact c
     ·have:=wh2 hn cb c el ek icl.2 ik
      simp_all
   ·rw [List.flatMap_append,I.g4];unfold lo;rw [filter_append];have:¬ n < u.length:=by omega
    simp [this,yg0]
  ·rw [go2,if_neg (show ¬ brg u.length (some n)=true from λ z=>cb (of_decide_eq_true z))];have cn:n < u.length:=by omega
   rw [yb2 cn] at el;cases el;obtain ⟨eb,en2⟩:=se4 (hw _ (getElem_mem cn)) hj;refine ss3 hw hn ws dn (cur ++ [w'.1]) (ns ++ [n]) w' rest' er cg2 nd.2 [17] ⟨I.g1,wz3 hc I.g2 en2,.inl ?_,?_⟩
   ·cases cur with
    | nil=>simp at hc
    | cons _ _=>simp
   ·have g4:=I.g4;rw [List.flatMap_append] at g4 ⊢;rw [show [cur ++ [w'.1]].flatMap yg0=[cur].flatMap yg0 ++ [u[n]'cn] by simp [vs1 hc,eb],<- append_assoc,g4];unfold lo;rw [filter_append,map_append];simp [cn,tu1 cn]
structure TrsOk (u:List T3) (T:List (List Pt)):Prop where
 al:∀ t ∈ T,isT t=true
 pm:(T.flatMap yg0).Perm u
theorem za5 (k m:Nat):lo k (List.range (k + m))=List.range k:=by
 unfold lo;rw [show List.range (k + m)=List.range k ++ (List.range m).map (k + ·) from List.range_add,filter_append,List.filter_eq_self.mpr,List.filter_eq_nil_iff.mpr,append_nil]
 ·simp
 simp
theorem yi3 (u:List T3):(List.range u.length).map (stD u)=u:=by
 apply ext_getElem
 ·simp
 ·intro i h1 h2;rw [List.getElem_map,List.getElem_range,tu1 h2]
theorem ur2 (hw:∀ s ∈ u,wy s) (hu:u ≠ []) (hco:∀ a ∈ u,∀ b ∈ u,Conn u a b) (hp:ps.Perm (Od u))
    (R:Rch (lks u ps) (srt0 u ps) (here (incN (lks u ps) (lks u ps).length)) rem U [] (ws ++ [(srt0 u ps,none)])):TrsOk u (sf1 u.length (ws ++ [(srt0 u ps,none)])):=by
 have hn:ps.Nodup:=hp.nodup_iff.mpr (us1 u);have he:ps.length % 2=0:=by rw [hp.length_eq]; exact si1 u
 have h0:∀ p n,n ∈ here (incN (lks u ps) (lks u ps).length) p->∃ l,(lks u ps)[n]?=some l /\ ic l p:=λ p n h=>vn1 h;have hsi:=su1 hu hp;have K:=R.wk hsi h0;have H:=R.hz (g0:=gl0 u ps) (wa5 hn) hsi h0 (λ n l p e h=>vv2 e h) (xz4 hp);obtain ⟨ws',e',cg⟩:=H.en rfl;obtain ⟨rfl,_⟩:=append_inj' e' rfl;have hpp:∀ p ∈ ps,∃ s ∈ u,has p s=true:=λ p h=>sh1 ((ue1 p u).mp (hp.mem_iff.mp h))
 obtain ⟨a,ha,hs⟩:∃ a ∈ u,srt0 u ps=e0 a \/ srt0 u ps=e1 a:=by
  cases ps with
  | nil =>
   cases u with
   | nil=>exact absurd rfl hu
   | cons s r=>exact ⟨s,mem_cons_self ..,.inl rfl⟩
  | cons p r =>
   obtain ⟨s,hs,h⟩:=hpp p (mem_cons_self ..);exact ⟨s,hs,zo0 h⟩
 have al:=vy2 H cg (tt2 ha hs (hco a ha) hpp);have pU:U.Perm (List.range (lks u ps).length):=(List.perm_ext_iff_of_nodup K.nd List.nodup_range).mpr λ n=>⟨λ h=>List.mem_range.mpr (K.us n h),λ h=>al n (List.mem_range.mp h)⟩;have efm:List.filterMap (λ w:Wt=>w.2) ([] ++ (ws ++ [(srt0 u ps,none)]))=List.filterMap (λ w:Wt=>w.2) ws:=by simp
 have pN:(ws.filterMap (·.2)).Perm (List.range (lks u ps).length):=by
  have:=H.num;rw [efm] at this;exact this.trans pU
 have nd:=pN.nodup_iff.mpr List.nodup_range;have lL:(lks u ps).length=u.length + (ps.length - 1) / 2:=by unfold lks stks brs; simp
 obtain ⟨w,rest,er⟩:∃ w rest,ws ++ [(srt0 u ps,none)]=w :: rest:=by
  cases ws with
  | nil=>simp
  | cons y r=>simp
 have hu1:0 < u.length:=List.length_pos_iff.mpr hu
 have fst:∃ n,w.2=some n /\ n < u.length:=by
  cases ws with
  | nil =>
   simp_all
  | cons y r =>
   simp only [cons_append,List.cons.injEq] at er;obtain ⟨rfl,_⟩:=er;have hg:y.1=gl0 u ps:=H.hd y rfl
   obtain ⟨n,l,en,el,hi⟩:∃ n l,y.2=some n /\ (lks u ps)[n]?=some l /\ ic l y.1:=by
    obtain ⟨n,e⟩:∃ n,y.2=some n:=by
     cases r with
     | nil=>obtain ⟨n,_,e,_⟩:=cg; exact ⟨n,e⟩
     | cons z r=>obtain ⟨⟨n,_,e,_⟩,_⟩:=cg; exact ⟨n,e⟩
    obtain ⟨l,q,a,b,_⟩:=cg.ends y (mem_cons_self ..) n e;refine ⟨n,l,e,a,?_⟩;rcases b with ⟨x1,_⟩ | ⟨_,x2⟩
    ·exact .inl x1
    ·exact .inr x2
   refine ⟨n,en,?_⟩;rcases Nat.lt_or_ge n u.length with c | c
   ·exact c
   ·rw [hg] at hi;exact absurd hi (brg_g hn he c el)
 have G:=ss3 hw hn ws [] [w.1] [] w rest er cg nd rfl ⟨λ _ h=>(nomatch h),λ i hi=>absurd hi [17],.inr fst,by simp [yg0,lo]⟩;rw [nil_append] at G;rw [er];refine ⟨G.r1,?_⟩
 ·show (go2 u.length [] [w.1] w.2 rest).flatMap yg0 |>.Perm u;rw [G.r2];have p1:(lo u.length (ws.filterMap (·.2))).Perm (lo u.length (List.range (lks u ps).length)):=pN.filter _;rw [lL,za5] at p1;have p2:=p1.map (stD u);rw [yi3] at p2;exact p2
theorem IsP.pc (hP:Pc ts) (h:IsP ts us) (hu:u ∈ us):Pc u /\ u.length<=ts.length:=by
 have hn:=xt2 hP;have nu:=(h.two hn).1 u hu;have lu:u.length<=ts.length:=List.Nodup.length_le_of_subset nu λ x hx=>h.mem hu hx;exact ⟨ux4 nu (λ t ht=>hP.2.1 t (h.mem hu ht)) (by have:=hP.2.2; omega) (List.Perm.refl _) (h.up u hu),lu⟩
theorem IsP.len (hn:ts.Nodup) (h:IsP ts us):us.length<=ts.length:=by
 rw [<- h.perm.length_eq,List.length_flatten]
 have key:∀ us:List (List T3),(∀ u ∈ us,u ≠ [])->us.length<=(us.map List.length).sum:=by
  intro us
  induction us with
  | nil=>trivial
  | cons u r ih =>
   intro hne;have h1:=ih λ v hv=>hne v (mem_cons_of_mem _ hv);have h2:1<=u.length:=List.length_pos_iff.mpr (hne u (mem_cons_self ..))
   simp_all;omega
 exact key us h.ne
def spTp:Sp3:=λ ds μ Q=>∃ u:List T3,ds=[encU u] /\ Pc u /\ u ≠ [] /\ u.length < 61 ∧
 ∀ r A μ' (ps:List Pt) rem U ws,PI μ μ' r A->ps.Perm (Od u)->Rch (lks u ps) (srt0 u ps) (here (incN (lks u ps) (lks u ps).length)) rem U [] (ws ++ [(srt0 u ps,none)])->A.map (·.2)=sf1 u.length (ws ++ [(srt0 u ps,none)])->A.length<=200->Q (.ref r) μ'
theorem yp4:RdQ spTp (sa4 yk1 tf4 xk1 ui3) yw3:=by
 rintro ds μ Q ⟨u,rfl,hP,hu,h31,q⟩;have hz:(1000:Nat) < sizeLine:=by decide
 refine ⟨u,rfl,hP,h31,λ od ps μ1 ex1 _ eo p1=>?_⟩;have lo:=yg5 u;have lp:=p1.length_eq;intro sr hsr;refine zf0 (rest:=[]) endD hsr [20] (λ _ _=>trivial) ?_ ?_
 ·intro x hx μ2 R e2 kk;obtain ⟨s,hs,rfl⟩:=List.mem_map.mp hx;exact ⟨s,rfl,hP.2.1 s hs,kk μ2 (Ext.refl _)⟩
 intro μ2 e2 es;rw [wu3] at es;have eo2:=e2 _ _ eo
 conv=>whnf
 rw [eo2];refine ⟨rfl,⟨by decide,by decide,by omega,by simp_all;omega⟩,λ br hbr=>?_⟩;have en:((((ps.map encQ).length:Int) - 1 - 1 + 1) / 2).toNat=(ps.length - 1) / 2:=by simp_all;omega
 rw [en];refine zf0 (rest:=[some (.ref od)]) (brD ps) hbr (by rw [xl1]; omega) (λ _ _=>trivial) ?_ ?_
 ·intro x hx μ3 R e3 kk;obtain ⟨i,hi,rfl⟩:=vt2 hx;have eo3:=e3 _ _ eo2;show ixR (.ref od) (.int (1 + (i:Int) * 2)) μ3 (λ d μ1=>_);refine ug0 eo3 (at_q (i:=1 + (i:Int) * 2) [5] [5]) ?_;show ixR (.ref od) (.int (1 + (i:Int) * 2 + 1)) μ3 (λ d μ1=>_);refine ug0 eo3 (at_q (i:=1 + (i:Int) * 2 + 1) [5] [5]) ?_;exact ⟨z2,kk μ3 (Ext.refl _)⟩
 intro μ3 e3 eb;rw [wf5] at eb;have eo3:=e3 _ _ eo2;have es3:=e3 _ _ es
 have fin:∀ d:D,d=encQ (srt0 u ps)->(ret3 (va0 xk1 (xa0 (va0 ui3 (xa0 (o3 addR (v3 2) (v3 3)) (xa0 (v3 4) nil3))) (xa0 (va0 lenR (xa0 (v3 2) nil3)) nil3)))) { nx:=λ _ μ'=>Q .non μ',rt:=Q } [some (encU u),some (.ref od),some (.ref sr),some (.ref br),some d] μ3:=by
  rintro d rfl;dsimp only [ret3,va0,xa0,o3,v3,getI,nil3];refine uf3 es3 eb (by rw [length_map,length_map]; unfold stks; simp_all;omega) λ lr hlr=>?_;rw [<- map_append];have ll:(lks u ps).length < 200:=by unfold lks stks brs; simp_all;omega
  refine ⟨lr,lks u ps,srt0 u ps,rfl,ya0,ll,su1 hu p1,λ wy rem U way μ4 ex4 _ ew R K=>?_⟩;obtain ⟨_,ws,rfl,hw⟩:=K.bt.resolve_right (λ ⟨rs,e,_⟩=>by cases e);have kl:=K.ln;have ks:=K.small;rw [length_append] at kl;simp only [length_cons,length_nil] at kl;have es4:=ex4 _ _ ((Ext.new hlr) _ _ es3)
  conv=>whnf
  rw [es4];have e5:(((stks u).map encL).length:Int)=((u.length:Nat):Int):=by unfold stks; simp
  show xk1 [.ref wy,.int (((stks u).map encL).length:Int)] μ4 Q;rw [e5];refine ⟨wy,ws,srt0 u ps,u.length,rfl,ew,hw,by omega,λ r A μ5 I ea la=>?_⟩;exact q r A μ5 ps rem U ws (I.mono ((((ex1.trans e2).trans e3).trans (Ext.new hlr)).trans ex4)) p1 R ea [5]
 conv=>whnf
 rw [eo3];show if decide ((0:Int) < ((ps.map encQ).length:Int))=true then _ else _;cases ps with
 | nil =>
  rw [if_neg [17]];cases u with
  | nil=>exact absurd rfl hu
  | cons s r =>
   show ixR (.ref sr) (.int 0) μ3 (λ d μ1=>_);refine ug0 (d:=encL (e0 s,e1 s)) es3 atI0 ?_;exact fin _ rfl
 | cons p r =>
  rw [if_pos (decide_eq_true [17])];show ixR (.ref od) (.int 0) μ3 (λ d μ1=>_);refine ug0 (d:=encQ p) eo3 atI0 ?_;exact fin _ rfl
theorem sw2 (A:List Tr):flat A=(A.map (·.2)).flatMap yg0:=by
 unfold flat; rw [List.flatMap_map]
theorem PI.add {tr r2:Addr} {A B:List Tr} (I:PI μ μ' tr A) (J:PI μ' μ2 r2 B):PI μ (updM μ2 tr (.lst (A.map rf ++ B.map rf))) tr (A ++ B):=by
 have nb:∀ x ∈ B,x.1 ≠ tr:=λ x hx z=>by have:=J.fa x hx; rw [z,I.lt] at this; cases this
 refine ⟨(I.ex.trans J.ex).upd I.fr,I.fr,by rw [ya0,map_append],λ x hx=>?_,?_,λ x hx=>?_,λ x hx=>?_⟩
 ·rcases List.mem_append.mp hx with h | h
  ·rw [za0 (I.nt x h)]; exact J.ex _ _ (I.ls x h)
  ·rw [za0 (nb x h)]; exact J.ls x h
 ·rw [map_append,nodup_append];refine ⟨I.nd,J.nd,λ a ha b hb e=>?_⟩;obtain ⟨x,hx,rfl⟩:=List.mem_map.mp ha;obtain ⟨y,hy,rfl⟩:=List.mem_map.mp hb;have h1:=I.ls x hx;have h2:=J.fa y hy
  simp_all
 ·rcases List.mem_append.mp hx with h | h
  ·exact I.fa x h
  ·exact I.ex.free (J.fa x h)
 ·rcases List.mem_append.mp hx with h | h
  ·exact I.nt x h
  ·exact nb x h
def spTs:Sp3:=λ ds μ Q=>∃ ts:List T3,ds=[.tup (ts.map encT)] /\ Pc ts /\ ts.length < 61 ∧
 ∀ r A μ',PI μ μ' r A->HasT ts A->Q (.ref r) μ'
theorem zp4:RdQ spTs (xb4 sj1 spTp) zw3:=by
 rintro ds μ Q ⟨ts,rfl,hP,h31,q⟩;have hz:(100000:Nat) < sizeLine:=by decide
 refine ⟨Nat.zero_le _,λ tr htr=>?_⟩;refine ⟨ts,rfl,hP,λ r us μ1 ex1 hr er ip=>?_⟩;have lu:=ip.len (xt2 hP);have et1:=ex1 _ _ ya0;have nrt:r ≠ tr:=λ z=>by subst z; rw [ya0] at hr; cases hr
 have I0:PI μ μ1 tr []:=⟨(Ext.new htr).trans ex1,htr,et1,λ _ h=>(nomatch h),nodup_nil,λ _ h=>(nomatch h),λ _ h=>(nomatch h)⟩
 conv=>whnf
 rw [er];refine vd0 (λ l ρ μ'=>∃ (vs ws:List (List T3)) (A:List Tr) (o:Option D),l=vs.map encU /\ ws ++ vs=us /\ ρ=[some (.tup (ts.map encT)),some (.ref tr),o] /\ μ' r=some (.lst (us.map encU)) /\ PI μ μ' tr A /\ (∀ x ∈ A,isT x.2=true) /\ (flat A).Perm ws.flatten /\ A.length<=200 * ws.length) ?_ ?_ ?_ ?_
 ·exact ⟨us,[],[],none,rfl,rfl,rfl,er,I0,λ _ h=>(nomatch h),List.Perm.refl _,Nat.le_refl _⟩
 ·simp_all
 ·rintro ρ μ' ⟨vs,ws,A,o,e,ev,rfl,e2,I,al,pm,lx⟩;cases vs with
  | cons _ _=>cases e
  | nil =>
   rw [append_nil] at ev;subst ev;exact q tr A μ' I ⟨al,pm.trans ip.perm⟩
 ·rintro y rest ρ μ' ⟨vs,ws,A,o,e,ev,rfl,e2,I,al,pm,lx⟩;cases vs with
  | nil=>cases e
  | cons v vs =>
   rw [map_cons] at e;injection e with e4 e5
   subst e4 e5;have hv:v ∈ us:=by rw [<- ev]; simp
   have lw:ws.length + (v :: vs).length=us.length:=by rw [<- ev,length_append]
   rw [length_cons] at lw;obtain ⟨p1,p2⟩:=ip.pc hP hv
   conv=>whnf
   rw [I.lt];refine ⟨v,rfl,p1,ip.ne v hv,by omega,λ r2 B μ2 ps rem U ws2 J pp1 R ea la=>?_⟩;have ok:=ur2 p1.2.1 (ip.ne v hv) (λ a ha b hb=>(ip.self hv).co v [17] a ha b hb) pp1 R;rw [<- ea] at ok;dsimp only [nil3];refine uc5 (J.ex _ _ I.lt) J.lt [20] ?_;refine ⟨vs,ws ++ [v],A ++ B,_,rfl,by rw [<- ev]; simp,rfl,?_,I.add J,λ x hx=>?_,?_,?_⟩
   ·rw [za0 nrt]; exact J.ex _ _ e2
   ·rcases List.mem_append.mp hx with h | h
    ·exact al x h
    ·exact ok.al x.2 (List.mem_map.mpr ⟨x,h,rfl⟩)
   ·have e1:flat (A ++ B)=flat A ++ flat B:=by unfold flat; simp
    rw [e1,List.flatten_append,sw2 B];refine List.Perm.append pm (ok.pm.trans ?_);simp
   simp_all;omega
theorem zl4 (h:ts.length<=400):SB ts:=λ l nd hl=>by
 have:=List.Nodup.length_le_of_subset nd hl;omega
def spPo:Sp3:=λ ds μ Q=>∃ w,ds=[.tup (encs w)] /\ Wd w /\ (sks w<=400 /\ dns w<=400) /\ ∀ (us:List T3) μ',Ext μ μ'->IsPic (wk st (unrs w)) us->Q (.tup (us.map encT)) μ'
theorem sq4:RdQ spPo (zc4 xf1 spPw spSf) ux3:=by
 rintro ds μ Q ⟨w,rfl,hw,n,q⟩;refine ⟨w,rfl,hw,λ μ1 ex1=>?_⟩;show if (!decide (sks w<=400 /\ dns w<=400))=true then _ else _;rw [decide_eq_true n];refine ⟨_,st,w,rfl,.inr rfl,hd_st,hw,n.2,n.1,λ g μ2 ex2 hg eg=>?_⟩;refine ⟨g,_,rfl,eg,zl4 ?_,λ us μ3 ex3 ip=>q us μ3 (ex1.trans (ex2.trans ex3)) ip⟩;have:=xj1 _ st (yj0 w) (vv0 w hw.1);rw [so0 w hw.1] at this;omega
mutual
theorem xa4:∀ d,sm d->∀ e ∈ unr d,sm e
 | .go n,h,e,he=>by simp only [unr,mem_singleton] at he; rw [he]; exact h
 | .jump n,h,e,he=>by simp only [unr,mem_singleton] at he; rw [he]; exact h
 | .turn n,h,e,he=>by simp only [unr,mem_singleton] at he; rw [he]; exact h
 | .times n w,h,e,he=>by simp only [unr] at he; simp only [sm] at h; exact se1 w h.2 e (zx1 he)
theorem se1:∀ w,sms w->∀ e ∈ unrs w,sm e
 | [],_,e,he=>by simp [unrs] at he
 | d :: r,h,e,he=>by
  simp only [unrs,mem_append] at he;simp only [sms] at h;exact he.elim (xa4 d h.1 e) (se1 r h.2 e)
end
def Nr (b:Int) (p:Pt):Prop:=(-b<=p.1 /\ p.1<=b) /\ -b<=p.2 /\ p.2<=b
theorem cs_b {p:Pen} {n b:Int} (hd:Hd p) (h1 : -b<=n) (h2:n<=b):Nr b (cs p.2.2 * n,sn p.2.2 * n):=by
 unfold Nr;rcases hd with h | h | h | h <;> rw [h] <;> simp [cs,sn] <;> omega
theorem wz4 (p q:Pt):mnP p q=p \/ mnP p q=q:=by
 unfold mnP;split
 ·exact .inr rfl
 ·exact .inl rfl
theorem pt_b {p:Pen} {b:Int} (hd:Hd p) (h:Nr b (p.1,p.2.1)) (hi:i<=3):Nr (b + 3) (pt p i):=by
 have:=cs_b (n:=(i:Int)) (b:=3) hd [5] [5];unfold Nr pt at *;omega
theorem tz3:∀ (w:List Dd) (p:Pen) (b:Int),plns w->(∀ d ∈ w,sm d)->Hd p->Nr b (p.1,p.2.1)->∀ x ∈ wk p w,wy x /\ Nr (b + 3 * w.length) (x.1,x.2.1)
 | [],p,b,_,_,_,_,x,hx=>nomatch hx
 | d :: r,p,b,hp,hs,hh,hn,x,hx=>by
  simp only [wk,mem_append] at hx;obtain ⟨n,ed⟩:=hp d (mem_cons_self ..);have hm:=hs d (mem_cons_self ..);rw [length_cons];rcases hx with hx | hx
  ·rcases ed with rfl | rfl | rfl
   ·simp only [sm] at hm;simp only [sg,ln,List.mem_map,List.mem_range] at hx;obtain ⟨i,hi,rfl⟩:=hx;have a:=pt_b (i:=i) hh hn [5];have c:=pt_b (i:=i + 1) hh hn [5];refine ⟨?_,?_⟩
    ·unfold wy btw
     simp_all;omega
    ·unfold btw;have:Nr (b + 3) (mnP (pt p i) (pt p (i + 1))):=by rcases wz4 (pt p i) (pt p (i + 1)) with e | e <;> rw [e] <;> assumption
     unfold Nr at *
     simp_all;omega
   ·exact nomatch hx
   ·exact nomatch hx
  ·have i:=tz3 r (led p (pd d)) (b + 3) (λ y hy=>hp y (mem_cons_of_mem _ hy)) (λ y hy=>hs y (mem_cons_of_mem _ hy)) (vc1 _ _) ?_ x hx
   ·refine ⟨i.1,?_⟩;have:=i.2;unfold Nr at *;omega
   ·have e:∃ m:Int,(-3<=m /\ m<=3) /\ (led p (pd d)).1=p.1 + cs p.2.2 * m /\ (led p (pd d)).2.1=p.2.1 + sn p.2.2 * m:=by
      rcases ed with rfl | rfl | rfl <;> simp only [sm] at hm
      ·exact ⟨n,by omega,by simp [led,pd,Int.mul_comm],by simp [led,pd,Int.mul_comm]⟩
      ·exact ⟨n,hm,by simp [led,pd,Int.mul_comm],by simp [led,pd,Int.mul_comm]⟩
      ·exact ⟨0,by omega,by simp [led,pd],by simp [led,pd]⟩
    obtain ⟨m,hm,e1,e2⟩:=e;have:=cs_b (n:=m) (b:=3) hh hm.1 hm.2;rw [e1,e2];unfold Nr at *;omega
theorem nx_mn {p q:Pt} (h:nx p q=true) {b:Int} (k:Nr b (mnP p q)):Nr (b + 1) p /\ Nr (b + 1) q:=by
 unfold Nr at *;rcases wz4 p q with e | e <;> rw [e] at k <;> rcases nx_h h with ⟨_,_ | _⟩ | ⟨_,_ | _⟩ <;> omega
theorem vg5 {us:List T3} {A:List Tr} (h:HasT us A) {b:Int} (hb:∀ x ∈ us,Nr b (x.1,x.2.1)) (h8:b + 1 < 10 ^ 8):∀ y ∈ A,Bd y.2:=by
 intro y hy q hq;obtain ⟨l1,an⟩:=(zr0 y.2).mp (h.1 y hy)
 have key:∀ j,j < y.2.length - 1->Nr (b + 1) (gp y.2 j) /\ Nr (b + 1) (gp y.2 (j + 1)):=λ j hj=>by
  refine nx_mn (an j hj) (hb (btw (gp y.2 j) (gp y.2 (j + 1))) (h.2.subset ?_));exact List.mem_flatMap.mpr ⟨y,hy,List.mem_map.mpr ⟨j,List.mem_range.mpr hj,rfl⟩⟩
 have z:Nr (b + 1) q:=by
  obtain ⟨i,hi,e⟩:=getElem_of_mem hq;have e':gp y.2 i=q:=by unfold gp; simp_all
  rw [<- e'];by_cases c:i < y.2.length - 1
  ·exact (key i c).1
  ·have:=(key (i - 1) [5]).2
   rwa [show i - 1 + 1=i by omega] at this
 unfold Nr at z;omega
theorem wc5 {A:List Tr} (h:∀ x ∈ A,isT x.2=true):A.length<=(flat A).length /\ ∀ x ∈ A,x.2.length<=(flat A).length + 1:=by
 induction A with
 | nil=>trivial
 | cons y r ih =>
  have i:=ih λ x hx=>h x (mem_cons_of_mem _ hx);have l1:=((zr0 y.2).mp (h y (mem_cons_self ..))).1;have e:flat (y :: r)=yg0 y.2 ++ flat r:=rfl;have la:(yg0 y.2).length=y.2.length - 1:=by simp [yg0]
  rw [e,length_append,length_cons,la];refine ⟨by omega,λ x hx=>?_⟩;rcases List.mem_cons.mp hx with rfl | hx
  ·omega
  ·have:=i.2 x hx;omega
noncomputable def dK (d:Kn):Dd:=match d.1 with
 | .go=>.go d.2
 | .jump=>.jump d.2
 | .turn=>.turn d.2
theorem yf3:∀ ds:List Kn,ds.map encD=encs (ds.map dK)
 | []=>by rfl
 | (k,n) :: r=>by
  simp only [map_cons,encs,yf3 r];cases k <;> simp only [dK,enc,encD,kS]
theorem dK_w {b:Nat} (h30:b < 99):∀ {ds:List Kn},OKd b ds->oks (ds.map dK) /\ deps (ds.map dK)=0 /\ cnts (ds.map dK)=ds.length /\ dns (ds.map dK)=ds.length /\ unrs (ds.map dK)=ds.map dK
 | [],_=>by trivial
 | (k,n) :: r,h=>by
  obtain ⟨a1,a2,a3,a4,a5⟩:=dK_w h30 (ds:=r) λ k m hm=>h k m (mem_cons_of_mem _ hm);have hk:=h k n (mem_cons_self ..);simp only [map_cons,oks,deps,cnts,dns,unrs,a2,a3,a4,a5,length_cons];cases k with
  | go =>
   have:=hk.1 rfl;simp only [dK,okd,dep,cnt,dn,unr,G]
   simp_all;omega
  | jump =>
   have:=hk.2 (nofun);simp only [dK,okd,dep,cnt,dn,unr,G]
   simp_all;omega
  | turn =>
   have:=hk.2 (nofun);simp only [dK,okd,dep,cnt,dn,unr,G]
   simp_all;omega
theorem te4 {p:Pen} (h:Hd p) (n:Nat):stk ((pt p n).1,(pt p n).2,p.2.2)=btw (pt p n) (pt p (n + 1)):=by
 have e:pt p (n + 1)=((pt p n).1 + cs p.2.2,(pt p n).2 + sn p.2.2):=by
  unfold pt;dsimp only;rw [Int.natCast_add,Int.mul_add,Int.mul_add];simp [Int.add_assoc]
 rw [e];generalize pt p n=q;unfold stk btw;dsimp only;rcases h with h | h | h | h <;> rw [h] <;> simp [cs,sn] <;> omega
theorem ye3 {p:Pen} (S:List T3) (h:Hd p):∀ n,goN n (p,S)=(((pt p n).1,(pt p n).2,p.2.2),S ++ ln p n)
 | 0=>by simp [goN,ln,pt]
 | n + 1=>by
  rw [goN,ye3 S h n,go1];dsimp only;rw [te4 h n];simp only [ln,range_succ,map_append,map_cons,map_nil,append_assoc,Prod.mk.injEq,and_true];unfold pt;dsimp only;rw [Int.natCast_add,Int.mul_add,Int.mul_add];omega
theorem vz3:∀ (ds:List Kn) (p:Pen) (S:List T3),Hd p->(∀ m,(Kd.go,m) ∈ ds->0<=m)->(ds.foldl wq (p,S)).2=S ++ wk p (ds.map dK)
 | [],p,S,_,_=>by simp [wk]
 | (k,n) :: r,p,S,h,hg=>by
  have ih:=λ q S' hq=>vz3 r q S' hq λ m hm=>hg m (mem_cons_of_mem _ hm);have h0:p.2.2 % 4=p.2.2:=by rcases h with h | h | h | h <;> rw [h] <;> rfl
  rw [foldl_cons,map_cons,wk];cases k with
  | go =>
   have n0:=hg n (mem_cons_self ..)
   have e:wq (p,S) (.go,n)=(led p (n,0,0),S ++ ln p n.toNat):=by
    show goN n.toNat (p,S)=_;rw [ye3 S h];simp only [pt,led,h0,Int.toNat_of_nonneg n0,Int.mul_zero,Int.sub_zero,Int.add_zero,Int.mul_comm]
   rw [e,ih _ _ (vc1 _ _)];simp only [dK,sg,pd,append_assoc]
  | jump =>
   have e:wq (p,S) (.jump,n)=(led p (n,0,0),S):=by
    simp only [wq,led,h0,Int.mul_zero,Int.sub_zero,Int.add_zero,Int.mul_comm]
   rw [e,ih _ _ (vc1 _ _)];rfl
  | turn =>
   have e:wq (p,S) (.turn,n)=(led p (0,0,n % 4),S):=by
    simp only [wq,led,Int.zero_mul,Int.sub_zero,Int.add_zero,Int.add_emod_emod]
   rw [e,ih _ _ (vc1 _ _)];rfl
variable {K:VK3}
theorem ne_LT {L:List T3} {p q:Addr} (h1:μ p=some (.lst (L.map encT))) (h2:μ q=some (.lst (L.map encT))) (k:K (.bl false) μ):neR (.ref p) (.ref q) μ K:=by
 have dd:∀ p,μ p=some (.lst (L.map encT))->datM μ (.ref p)=some (.list (L.map pT)):=λ p h=>by simp only [datM,h,yg2]
 have hd:(PyData.list (L.map pT)).depth<=64:=by
  have:=th1 L;simp only [PyData.depth];omega
 rw [sq3 rfl (dd p h1) (dd q h2) hd hd,show PyData.eqv (.list (L.map pT)) (.list (L.map pT))=true from by simp only [PyData.eqv,se2,decide_true]];exact k
theorem len_l (K:VK3) {p:Addr} {l:List D} (h:μ p=some (.lst l)) (k:K (.int l.length) μ):lenR [.ref p] μ K:=by
 unfold lenR
 simp_all
theorem c_c {d:D} (k:K d μ):c3 d ρ μ K:=k
noncomputable abbrev EL (Q:VK3):Ends3:={ nx:=λ _ μ'=>Q .non μ',rt:=Q }
def uj2:Sp3:=λ ds μ Q=>∃ ns:List Int,ds=[.fls (ns.map D.int)] /\ ns.length<=63 /\ ∀ μ',Q (.bl true) μ'
theorem tr4 (j:Nat) (hj:2 < j) (ds:List D) (μ:Mu) (Q:VK3) (h:uj2 ds μ Q):yd4 (zv1 j) wf4 spDo xf1 spPo spTs (EL Q) (ua0 vy3 ds) μ:=by
 obtain ⟨ns,rfl,hl,k⟩:=h;refine ⟨ns,0,2,10,rfl,by decide,by decide,by omega,by decide,λ w μ1 _ hc hd hs _=>?_⟩;have hw:Wd w:=⟨tv1 w hs,by omega,by omega⟩;refine ⟨w,rfl,hw,λ μ2 _=>?_⟩;show if (!decide (sks w<=400 /\ dns w<=400))=true then _ else _;by_cases sm:sks w<=400 /\ dns w<=400
 ·rw [decide_eq_true sm];refine ⟨w,rfl,hw,sm,λ us μ3 _ ip=>?_⟩;show if decide (60 < (((us.map encT).length:Nat):Int))=true then _ else _;rw [length_map];by_cases l60:60 < (us.length:Int)
  ·rw [decide_eq_true l60];exact k _
  ·rw [decide_eq_false l60];have hb:=tz3 (unrs w) st 0 (yj0 w) (se1 w hs) (.inl rfl) (by simp [Nr,st]);have pc:Pc us:=ux4 ip.1 (λ t ht=>(hb t ((ip.2.2 t).mp ht)).1) [5] (List.Perm.refl _) ip.2.1;have ldn:=zj0 w hw.1;refine ⟨us,rfl,pc,by omega,λ r A μ4 pi ht=>?_⟩;have fl:=wc5 ht.1;have pl:=ht.2.length_eq;refine ⟨r,A,rfl,pi.lt,pi.ls,by omega,λ x hx=>by have:=fl.2 x hx; omega,vg5 ht (b:=1200) (λ x hx=>?_) [27],ht.1,λ q ds μ5 x5 hq wds ok dl=>?_⟩
   ·have:=(hb x ((ip.2.2 x).mp hx)).2;unfold Nr at *;omega
   have ok60:OKd 60 ds:=ok.mono [5];obtain ⟨w1,w2,w3,w4,w5⟩:=dK_w [27] ok60;refine ⟨show 3<=sizeLine by decide,q,ds,rfl,hq,ok60.mono [27],by rw [wds]; omega,λ r6 μ6 x6 h6=>?_⟩;rw [wds] at h6;refine c_c ?_;dsimp only;refine sg1 atI1 ?_;dsimp only [nil3];refine yf4 h6 [5] λ vs p1 p2 r7 f7=>?_;have ev:vs=us:=uniq (p1.trans ht.2) p2 ip.2.1;subst ev;refine λ r8 f8=>?_;dsimp only;refine ne_LT (p:=r7) (q:=r8) (L:=vs) ?_ ya0 ?_
   ·rw [za0 (ta0 ya0 f8)]; exact ya0
   have hq8:updM (updM μ6 r7 (.lst (vs.map encT))) r8 (.lst (vs.map encT)) q=some (.lst (ds.map encD)):=by
    have e6:=x6 _ _ hq;rw [za0 (ta0 (show updM μ6 r7 (.lst (vs.map encT)) q=_ by rw [za0 (ta0 e6 f7)]; exact e6) f8),za0 (ta0 e6 f7)];exact e6
   generalize updM (updM μ6 r7 (.lst (vs.map encT))) r8 (.lst (vs.map encT))=μ8 at hq8;refine len_l (λ d μ1=>gtR d (.int 30) μ1 λ d μ1=>match d with | .bl c=>if c=true then Q (.bl true) μ1 else _ | _=>False) hq8 ?_;by_cases l30:30 < (ds.length:Int)
   ·show if decide (30 < (((ds.map encD).length:Nat):Int))=true then _ else _
    simp_all
   ·show if decide (30 < (((ds.map encD).length:Nat):Int))=true then _ else _;rw [length_map,decide_eq_false l30];rw [if_neg [27]]
    conv=>whnf
    rw [hq8];dsimp only;rw [yf3 ds]
    have wk':wk st (ds.map dK)=flat A:=by
     have:=vz3 ds st [] (.inl rfl) λ m hm=>((ok60 _ m hm).1 rfl).1;rw [nil_append] at this;rw [<- this];exact wds
    have hk:sks (ds.map dK)=(flat A).length:=by
     rw [<- wk',<- xj1 _ st (w5 ▸ yj0 _) w1]
    refine ⟨ds.map dK,rfl,⟨w1,by omega,by omega⟩,by omega,λ xs μ9 _ ip9=>?_⟩;rw [w5,wk'] at ip9;have e9:xs=vs:=ip9.one ⟨ip.1,ip.2.1,λ x=>ht.2.mem_iff.symm⟩;subst e9;show eqR (.tup (xs.map encT)) (.tup (xs.map encT)) μ9 Q;rw [eq_TT,decide_eq_true rfl];exact k _
 ·rw [decide_eq_false sm];exact k _
end Pv
namespace Pv
open PySem PySem.Spec PyProof.Rows L2
theorem bnS {n:Nat} {P:List Value->Prop} (h:∀ a us,us.length=n->P (a :: us)) (us:[24]) (e:us.length=n + 1):P us:=by
 cases us with
 | nil=>cases e
 | cons a us=>exact h a us (Nat.succ.inj e)
theorem bn1 {P:List Value->Prop} (h:∀ a0,P [a0]) (us:[24]) (e:us.length=1):P us:=bnS (λ a us e=>List.eq_nil_of_length_eq_zero e ▸ h a) us e
theorem bn2 {P:List Value->Prop} (h:∀ a0 a1,P [a0,a1]) (us:[24]) (e:us.length=2):P us:=bnS (λ a us e=>bn1 (P:=λ us=>P (a :: us)) (h a) us e) us e
theorem bn3 {P:List Value->Prop} (h:∀ a0 a1 a2,P [a0,a1,a2]) (us:[24]) (e:us.length=3):P us:=bnS (λ a us e=>bn2 (P:=λ us=>P (a :: us)) (h a) us e) us e
theorem bn4 {P:List Value->Prop} (h:∀ a0 a1 a2 a3,P [a0,a1,a2,a3]) (us:[24]) (e:us.length=4):P us:=bnS (λ a us e=>bn3 (P:=λ us=>P (a :: us)) (h a) us e) us e
abbrev NsR (K:Fg) (x:Str) (p:Addr):Prop:=nsIn K mainGlobals x=some (some (.ref p))
def FnA (K:Fg) (x:Str) (st:Stmt) (p:Addr):Prop:=∃ oc od sl kV dc pm an cd ct,K.lookup p=some ⟨oc,od,.func (fnOf x x (tg0 st) (vc0 st) (wa0 st) .none kV dc pm an cd ct),sl⟩ /\ codeIn K cd x=true /\ keepIn K (.ref p)=true
variable {K:Fg} {od an:Option Addr} {sl:Array (Option Value)}
theorem fnA_mk {x:Str} {st:Stmt} {p:Addr} {oc kV dc pm cd ct:Value} (l:K.lookup p=some ⟨oc,od,.func (fnOf x x (tg0 st) (vc0 st) (wa0 st) .none kV dc pm an cd ct),sl⟩) (c:codeIn K cd x=true) (k:keepIn K (.ref p)=true):FnA K x st p:=⟨_,_,_,_,_,_,_,_,_,l,c,k⟩
theorem FnA.fn {x:Str} {st:Stmt} {p:Addr} (h:FnA K x st p):∃ fd,Fun K x x st p fd:=by
 obtain ⟨_,_,_,_,_,_,_,_,_,l,c,k⟩:=h;exact ⟨_,ze2 (st:=st) l c k⟩
def FnM (K:Fg) (C:Addr) (m q:Str) (st:Stmt):Prop:=∃ p fd,Fun K m q st p fd /\ findIn K (.ref C) m=some (some (.ref p)) /\ isFn K (.ref p)=true
theorem fnM_mk {m q:Str} {st:Stmt} {p C:Addr} {oc kV dc pm cd ct:Value} (a:findIn K (.ref C) m=some (some (.ref p))) (i:isFn K (.ref p)=true) (l:K.lookup p=some ⟨oc,od,.func (fnOf m q (tg0 st) (vc0 st) (wa0 st) .none kV dc pm an cd ct),sl⟩) (c:codeIn K cd q=true) (k:keepIn K (.ref p)=true):FnM K C m q st:=⟨p,_,ze2 (st:=st) l c k,a,i⟩
theorem wi1 {P:Program} {w:World} {K:Fg} {mg:[28]} {base:Heap} {C:Addr} {x q:Str} {st:Stmt} {N ps:List Str} {k:Nat} {sp:Sp3} {t:TS3} (A:FnM K C x q st) (S:FnScope N ps (wa0 st))
    (rs:∀ (f:Addr) (cdv:Value) (A:Around) (outer:List Env) (s:Shared) (H:Hp) (E:XK),Room k (A.deeper (envOfC q (wa0 st) s.heap.objs.size f cdv))->RSs (cxOf CX0 P w K mg base N q (wa0 st) f cdv A outer s H E).nox (vc0 st) t)
    (rd:∀ (ds:List D) (μ:Mu) (Q:VK3),sp ds μ Q->t { nx:=λ _ μ'=>Q .non μ',rt:=Q } (ua0 N ds) μ)
    (hb:∀ f fd,Fun K x q st f fd->Binds K fd ps []:=by trivial)
    (len:∀ (ds:List D) (μ:Mu) (Q:VK3),sp ds μ Q->ds.length=ps.length:=by trivial):CalT P w K mg base (k + 1) C x ps sp:=by
 obtain ⟨p,fd,F,a,i⟩:=A;exact zv3 F a i (hb _ _ F) S len (rs p) rd
local macro_rules | `(tactic| trivial)=>`(tactic| first | (intro _ _ F; exact F.binds λ _ _ _ _ _ _=>by first | exact bn1 λ _=>rfl | exact bn2 λ _ _=>rfl | exact bn3 λ _ _ _=>rfl | exact bn4 λ _ _ _ _=>rfl) | (intros; rename_i h; (first | exact h.elim | exact h.1 | repeat first | omega | (obtain ⟨e,_⟩:=h; subst e; rfl) | obtain ⟨_,h⟩:=h); done))
local macro_rules | `(tactic| trivial)=>`(tactic| first | with_reducible assumption | decide | exact Cal.mono (by with_reducible assumption) (by omega) | exact CalT.mono (by with_reducible assumption) (by omega))
def FnB (K:Fg) (x:Str) (st:Stmt):Prop:=∃ p,NsR K x p /\ FnA K x st p
theorem fnB_mk {x:Str} {st:Stmt} {p:Addr} {oc kV dc pm cd ct:Value} (a:NsR K x p) (l:K.lookup p=some ⟨oc,od,.func (fnOf x x (tg0 st) (vc0 st) (wa0 st) .none kV dc pm an cd ct),sl⟩) (c:codeIn K cd x=true) (k:keepIn K (.ref p)=true):FnB K x st:=⟨p,a,fnA_mk l c k⟩
theorem calZ {P:Program} {w:World} {K:Fg} {mg:[28]} {base h:Heap} {x:Str} {st:Stmt} {ps:List Str} {c:Nat} {sp:Sp3} (X:K.In h) (G:h.Ns mainGlobals mg) (A:FnB K x st)
    (hb:∀ f fd,Fun K x x st f fd->Binds K fd ps []:=by trivial)
    (hz:∀ (ds:List D) (μ:Mu) (Q:VK3),sp ds μ Q->False:=by trivial):Cal P w K mg base (c) x ps (sp):=by
 obtain ⟨p,a,A⟩:=A;obtain ⟨_,F⟩:=A.fn;exact (xy2 F (mg_of X G a) (hb _ _ F) hz).mono (Nat.zero_le _)
variable {w:World} {mg:[28]} {base:Heap} {ps:List Str} {sd:Nat->Sp3} {c:Nat}
theorem pr {P:Program} {x y:Str} {qs:List Str} {sw:Nat->Sp3} (h0:Cal P w K mg base (c) x ps (sd 0)) (h1:∀ j,Cal P w K mg base (2 * j + c) x ps (sd j)->Cal P w K mg base (2 * j + c + 1) y qs (sw j)) (h2:∀ j,Cal P w K mg base (2 * j + c + 1) y qs (sw j)->Cal P w K mg base (2 * j + c + 2) x ps (sd (j + 1))) (J:Nat):Cal P w K mg base (2 * J + c) x ps (sd J) /\ Cal P w K mg base (2 * J + c + 1) y qs (sw J):=by
 have h:∀ j,Cal P w K mg base (2 * j + c) x ps (sd j):=λ j=>by
  induction j with
  | zero=>exact h0.mono [5]
  | succ j ih=>exact (h2 j (h1 j ih)).mono [5]
 exact ⟨h J,h1 J (h J)⟩
theorem se {P:Program} {x:Str} (h0:Cal P w K mg base (c) x ps (sd 0)) (h1:∀ j,Cal P w K mg base (j + c) x ps (sd j)->Cal P w K mg base (j + c + 1) x ps (sd (j + 1))) (J:Nat):Cal P w K mg base (J + c) x ps (sd J):=by
 induction J with
 | zero=>exact h0.mono [5]
 | succ j ih=>exact (h1 j ih).mono [5]
theorem calB {P:Program} {w:World} {K:Fg} {mg:[28]} {base h:Heap} {x:Str} {st:Stmt} {N ps:List Str} {k:Nat} {sp:Sp3} {t:TS3} (X:K.In h) (G:h.Ns mainGlobals mg) (A:FnB K x st) (S:FnScope N ps (wa0 st))
    (rs:∀ (f:Addr) (cdv:Value) (A:Around) (outer:List Env) (s:Shared) (H:Hp) (E:XK),Room k (A.deeper (envOfC x (wa0 st) s.heap.objs.size f cdv))->RSs (cxOf CX0 P w K mg base N x (wa0 st) f cdv A outer s H E).nox (vc0 st) t)
    (rd:∀ (ds:List D) (μ:Mu) (Q:VK3),sp ds μ Q->t { nx:=λ _ μ'=>Q .non μ',rt:=Q } (ua0 N ds) μ)
    (hb:∀ f fd,Fun K x x st f fd->Binds K fd ps []:=by trivial)
    (len:∀ (ds:List D) (μ:Mu) (Q:VK3),sp ds μ Q->ds.length=ps.length:=by trivial):Cal P w K mg base (k + 1) x ps sp:=by
 obtain ⟨p,a,A⟩:=A;obtain ⟨_,F⟩:=A.fn;exact ze5 F (mg_of X G a) (hb _ _ F) S len (rs p) rd
section
variable {P:Program} 
def rx_0:=[10].1.2.2.2.1
def rx_1:=[10].1.2.1
def rx_2:=[10].1.2.2.1
def rx_3:=[10].1.1
def rx_4:=[10].1.2.2.2.2.1
def rx_5:=[10].1.2.2.2.2.2.1
def rx_6:=[10].1.2.2.2.2.2.2.2
def rx_7:=[10].2.1.1
def rx_8:=[10].1.2.2.2.2.2.2.1
def rx_9:=[10].2.1.2.2.1
def rx_10:=[10].2.1.2.2.2.1
def rx_11:=[10].2.1.2.1
def rx_12:=[10].2.1.2.2.2.2.1
def rx_13:=[10].2.2.1.1
def rx_14:=[10].2.2.1.2.1
def rx_15:=[10].2.2.1.2.2.2.2.2.2.1
def rx_16:=[10].2.2.1.2.2.2.2.2.1
def rx_17:=[10].2.2.1.2.2.2.2.1
def rx_18:=[10].2.2.1.2.2.1
def rx_19:=[10].2.2.1.2.2.2.1
def rx_20:=[10].2.1.2.2.2.2.2.2.1
def rx_21:=[10].2.1.2.2.2.2.2.2.2
def rx_22:=[10].2.1.2.2.2.2.2.1
def rx_23:=[10].2.2.2.1.1
def rx_24:=[10].2.2.2.1.2.2.1
def rx_25:=[10].2.2.2.1.2.1
def rx_26:=[10].2.2.1.2.2.2.2.2.2.2
def rx_27:=[10].2.2.2.1.2.2.2.1
def rx_28:=[10].2.2.2.1.2.2.2.2.2.2.2
def rx_29:=[10].2.2.2.2.1.1
def rx_30:=[10].2.2.2.2.1.2.1
def rx_31:=[10].2.2.2.1.2.2.2.2.2.2.1
def rx_32:=[10].2.2.2.2.1.2.2.1
def rx_33:=[10].2.2.2.1.2.2.2.2.2.1
def rx_34:=[10].2.2.2.1.2.2.2.2.1
def rx_35:=[10].2.2.2.2.1.2.2.2.2.1
def rx_36:=[10].2.2.2.2.1.2.2.2.1
def rx_37:=[10].2.2.2.2.1.2.2.2.2.2.2.1
def rx_38:=[10].2.2.2.2.2.1.2.2.2.2.2.2.1
def rx_39:=[10].2.2.2.2.2.1.2.2.2.2.2.2.2
def rx_40:=[10].2.2.2.2.2.2.2.1
def xl5:=[10].2.2.2.2.2.2.1
def sk5:=[10].2.2.2.2.2.2.2.2
def tk5:=[10].2.2.2.2.1.2.2.2.2.2.1
def uk5:=[10].2.2.2.2.1.2.2.2.2.2.2.2
def vk5:=[10].2.2.2.2.2.1.1
def wk5:=[10].2.2.2.2.2.1.2.1
def zk5:=[10].2.2.2.2.2.1.2.2.1
def yk5:=[10].2.2.2.2.2.1.2.2.2.1
def xk5:=[10].2.2.2.2.2.1.2.2.2.2.1
def sj5:=[10].2.2.2.2.2.1.2.2.2.2.2.1
end
local macro_rules | `([9003,$x])=>`(λ _ _ _ _ _ _ _ r=>by apply $x (hr:=r) <;> trivial)
theorem all_mk {l:PySem.W.OpenLaw} {h:Heap} {fa:Addr} (X:K.In h) (G:h.Ns mainGlobals mg) (hfa:mg "law" = some (.ref fa)) {jcj C_Scribe:Addr} {t_1:Tok} {t_2:Tok} {t_3:Tok} {t_4:Tok} {t_6:Tok} {t_7:Tok} {t_8:Tok} {q_5:Addr} {qo_5:Option Addr} {qn_5:Nat} {qs_5:Array (Option Value)} {t_10:Tok} {t_11:Tok} {q_9:Addr} {qo_9:Option Addr} {qn_9:Nat} {qs_9:Array (Option Value)} {t_13:Tok} {t_14:Tok} {t_15:Tok} {q_12:Addr} {jcr:Option Addr} {jcs:Nat} {jct:Array (Option Value)} {t_18:Tok} {t_19:Tok} {q_17:Addr} {jcu:Option Addr} {jcv:Nat} {jcw:Array (Option Value)} {t_21:Tok} {t_22:Tok} {q_20:Addr} {jcx:Option Addr} {jcy:Nat} {jcz:Array (Option Value)} {t_24:Tok} {t_25:Tok} {q_23:Addr} {jc0:Option Addr} {jc1:Nat} {jc2:Array (Option Value)} {t_27:Tok} {t_28:Tok} {q_26:Addr} {jc3:Option Addr} {jc4:Nat} {jc5:Array (Option Value)} {q_16:Addr} {jc6:Nat} {jc7:Array (Option Value)} {t_30:Tok} {t_31:Tok} {q_29:Addr} {jc8:Option Addr} {jc9:Nat} {jda:Array (Option Value)} {t_32:Tok} (jbl:FnB K "check_word" xp2) (jbm:FnB K "checked_count" to2) (jbb:FnB K "checked_deed_count" uo2) (A_q7:FnB K "check_number" s_q7) (jbn:FnB K "led" zn2) (jbo:FnB K "pen_behind_deed" um2) (jbp:FnB K "strokes_drawn" wl2) (jbq:FnB K "count_strokes" zo2) (jbc:FnB K "count_strokes_of_deed" yo2) (jbr:FnB K "deeds_done" xo2) (jbs:FnB K "count_done" vo2) (jbd:FnB K "count_done_of_deed" wo2) (jbt:FnB K "is_small" un2) (A_q8:FnB K "check_picture" s_q8) (A_q9:FnB K "check_stroke" s_q9) (jbu:FnB K "ends_of" tn2) (jbv:FnB K "stroke_between" tl2) (jbw:FnB K "strokes_along" ul2) (jbx:FnB K "picture_with" zm2) (jby:FnB K "picture_of" vm2) (jbz:FnB K "strokes_from" zl2) (jbe:FnB K "plain_deeds" xm2) (jb0:FnB K "strokes_of_go" yl2) (jb1:FnB K "picture_pieces" wm2) (jb2:FnB K "strokes_at" vl2) (jb3:FnB K "piece_with" ym2) (jb4:FnB K "take_unseen" xl2) (jb5:FnB K "odd_points" xn2) (jb6:FnB K "trails_of" uk2) (jb7:FnB K "trails_of_piece" vk2) (jb8:FnB K "way_along" wk2) (jb9:FnB K "links_at" yn2) (jca:FnB K "take_unused" sk2) (jcb:FnB K "other_end" sm2) (jcc:FnB K "parted_at_bridges" tm2) (jcd:FnB K "is_trail" vn2) (A_q6:FnB K "are_next" s_q6) (jce:FnB K "deeds_of" sn2) (jcf:FnB K "jumps_over" wn2) (A_q0:FnB K "_law_cell_at" s_q0) (A_q3:FnB K "_law_state" s_q3) (A_q1:FnB K "_law_choice" s_q1) (A_q5:FnB K "_law_word" s_q5) (A_q2:FnB K "_law_drawn_word" s_q2) (A_q4:FnB K "_law_walked" s_q4) (jbf:NsR K "law" jcj) (jcg:FnA K "law" za1 jcj) (jan:nsIn K mainGlobals "Scribe" = some (some (.ref C_Scribe))) (jao:plainGet K C_Scribe Str.empty=true) (jap:hasDictIn K C_Scribe=true) (jaq:plainOver K C_Scribe=true) (jar:findIn K (.ref C_Scribe) "__setattr__" = some (some (.builtin "object.__setattr__"))) (mk_Scribe:makesIn K C_Scribe=true) (kp_Scribe:keepIn K (.ref C_Scribe)=true) (na_Scribe_deeds:findIn K (.ref C_Scribe) "deeds" = some none) (na_Scribe_pen:findIn K (.ref C_Scribe) "pen" = some none) (jab:FnM K C_Scribe "__init__" "Scribe.__init__" tc0) (jad:FnM K C_Scribe "turn_to" "Scribe.turn_to" yd0) (jae:FnM K C_Scribe "jump_to" "Scribe.jump_to" zd0) (jah:FnM K C_Scribe "jump" "Scribe.jump" yf0) (jag:FnM K C_Scribe "go_to" "Scribe.go_to" we0) (jak:nsIn K mainGlobals "MOST_DEEDS" = some (some (.int (30) t_1))) (jam:nsIn K mainGlobals "MOST_DEEP" = some (some (.int (4) t_2))) (jac:nsIn K mainGlobals "GREATEST_NUMBER" = some (some (.int (99999999999999999999) t_3))) (jaf:nsIn K mainGlobals "MOST_OF_SMALL" = some (some (.int (400) t_4))) (jai:nsIn K mainGlobals "PLAIN_KINDS" = some (some (.ref q_5))) (ql_5:K.lookup q_5=some ⟨.type "tuple",qo_5,.seq #[.str "go" t_6,.str "jump" t_7,.str "turn" t_8] qn_5,qs_5⟩) (jaa:nsIn K mainGlobals "KINDS_FROM_NOUGHT" = some (some (.ref q_9))) (ql_9:K.lookup q_9=some ⟨.type "tuple",qo_9,.seq #[.str "go" t_10,.str "times" t_11] qn_9,qs_9⟩) (jaw:nsIn K mainGlobals "START" = some (some (.ref q_12))) (jch:K.lookup q_12=some ⟨.type "tuple",jcr,.seq #[.int (0) t_13,.int (0) t_14,.int (0) t_15] jcs,jct⟩) (jat:nsIn K mainGlobals "AHEAD" = some (some (.ref q_16))) (ja1:K.lookup q_16=some ⟨.type "tuple",none,.seq #[.ref q_17,.ref q_20,.ref q_23,.ref q_26] jc6,jc7⟩) (jbg:K.lookup q_26=some ⟨.type "tuple",jc3,.seq #[.int (0) t_27,.int (-1) t_28] jc4,jc5⟩) (jbh:K.lookup q_23=some ⟨.type "tuple",jc0,.seq #[.int (-1) t_24,.int (0) t_25] jc1,jc2⟩) (jbi:K.lookup q_20=some ⟨.type "tuple",jcx,.seq #[.int (0) t_21,.int (1) t_22] jcy,jcz⟩) (jbj:K.lookup q_17=some ⟨.type "tuple",jcu,.seq #[.int (1) t_18,.int (0) t_19] jcv,jcw⟩) (ja2:nsIn K mainGlobals "WAYS" = some (some (.ref q_29))) (jci:K.lookup q_29=some ⟨.type "tuple",jc8,.seq #[.int (0) t_30,.int (1) t_31] jc9,jda⟩) (jal:nsIn K mainGlobals "MOST_PARTS" = some (some (.int (1000) t_32))) (ja3:nsIn K mainGlobals "abs" = some none) (ja4:nsIn K mainGlobals "all" = some none) (ja5:nsIn K mainGlobals "int" = some none) (jaj:nsIn K mainGlobals "isinstance" = some none) (ja6:nsIn K mainGlobals "len" = some none) (jax:nsIn K mainGlobals "list" = some none) (ja7:nsIn K mainGlobals "min" = some none) (jau:nsIn K mainGlobals "range" = some none) (ja8:nsIn K mainGlobals "set" = some none) (jas:nsIn K mainGlobals "sorted" = some none) (ja9:nsIn K mainGlobals "sum" = some none) (jav:nsIn K mainGlobals "tuple" = some none) :
    ∃ fd:FuncData,(∀ (s:Shared) (v:Value),BindsTo s fd ⟨[v],[]⟩ [("script",v)]) /\ ∀ base:Heap,K.In base->base.Ns mainGlobals mg->FnOk l.prog w K mg base CX0 18 fa fd ["script"] (lift K uj2):=by
 have e:=hfa.symm.trans (mg_of X G jbf);cases e;have m_Scribe:=mg_of X G jan;have oc_Scribe:ObjC K "Scribe" C_Scribe:=⟨jan,⟨jao,jap,jaq,jar⟩⟩;have g_MOST_DEEDS:Gd K mg "MOST_DEEDS" si0:=tc1 X G jak;have g_MOST_DEEP:Gd K mg "MOST_DEEP" yk0:=tc1 X G jam;have g_GREATEST_NUMBER:Gd K mg "GREATEST_NUMBER" zb0:=tc1 X G jac;have g_MOST_OF_SMALL:Gd K mg "MOST_OF_SMALL" ye0:=tc1 X G jaf;have g_PLAIN_KINDS:Gd K mg "PLAIN_KINDS" wh0:=uc1 X G jai (TupK.mk ql_5 Z0 (.str (.str (.str .nil))));have g_KINDS_FROM_NOUGHT:Gd K mg "KINDS_FROM_NOUGHT" wd0:=uc1 X G jaa (TupK.mk ql_9 Z2 (.str (.str .nil)));have g_START:Gd K mg "START" ui0:=uc1 X G jaw (TupK.mk jch Z0 (.int (.int (.int .nil))));have g_AHEAD:Gd K mg "AHEAD" xj0:=uc1 X G jat (TupK.mk ja1 (show 4<=sizeLine by decide) (.tup (TupK.mk jbj Z2 (.int (.int .nil))) (.tup (TupK.mk jbi Z2 (.int (.int .nil))) (.tup (TupK.mk jbh Z2 (.int (.int .nil))) (.tup (TupK.mk jbg Z2 (.int (.int .nil))) .nil)))));have gt_AHEAD:GdT K mg "AHEAD" yx0:=yc5 X G jat ja1 (TupK.mk ja1 (show 4<=sizeLine by decide) (.tup (TupK.mk jbj Z2 (.int (.int .nil))) (.tup (TupK.mk jbi Z2 (.int (.int .nil))) (.tup (TupK.mk jbh Z2 (.int (.int .nil))) (.tup (TupK.mk jbg Z2 (.int (.int .nil))) .nil)))));have g_WAYS:Gd K mg "WAYS" ub1:=uc1 X G ja2 (TupK.mk jci Z2 (.int (.int .nil)));have g_MOST_PARTS:Gd K mg "MOST_PARTS" ti0:=tc1 X G jal;have z_abs:=mg_none_of X G ja3;have z_all:=mg_none_of X G ja4;have z_int:=mg_none_of X G ja5;have z_isinstance:=mg_none_of X G jaj;have z_len:=mg_none_of X G ja6;have z_list:=mg_none_of X G jax;have z_min:=mg_none_of X G ja7;have z_range:=mg_none_of X G jau;have z_set:=mg_none_of X G ja8;have z_sorted:=mg_none_of X G jas;have z_sum:=mg_none_of X G ja9;have z_tuple:=mg_none_of X G jav;obtain ⟨_,_,_,jck,jcl,jcm,jcn,jco,jcp,jdb,jdc,jdd⟩:=jcg;have jcq:=ze2 (st:=za1) jdb jdc jdd;have jdi:=jcq.binds (ps:=["script"]) λ _ _ _ _ _ _=>bn1 λ _=>rfl;have jdj:=mg_of X G jbf;refine ⟨fnOf "law" "law" (tg0 za1) (vc0 za1) (wa0 za1) .none jck jcl jcm jcn jco jcp,λ s v=>.of_eq rfl,λ base KB GB=>?_⟩;have wi1:=@wi1 l.prog w K mg base;have calZ:=@calZ l.prog w K mg base h;have calB:=@calB l.prog w K mg base h;have h_q7:=calB X G A_q7 (k:=0) ti5 [9003,rx_0] rd_q7;obtain ⟨jdk,jdl⟩:=pr (sd:=wv1) (sw:=xw0) (c:=1) (calZ X G jbb) (λ j _=>calB X G jbm xl4 [9003,rx_1] (zt4 j)) (λ j _=>calB X G jbb sk4 [9003,rx_2] (yt4 j)) 5;have jdm:=calB X G jbl (k:=12) yl4 [9003,rx_3] wt4;have jdn:=calB X G jbn (k:=0) wj4 [9003,rx_4] ur4;have jdo:=calB X G jbo (k:=0) ti4 [9003,rx_5] xr4;obtain ⟨jdp,jdq⟩:=pr (sd:=xj3) (sw:=spSk) (c:=0) (calZ X G jbc) (λ j _=>calB X G jbq vk4 [9003,rx_6] (ts4 j)) (λ j _=>calB X G jbc wk4 [9003,rx_7] (us4 j)) 5;have jdr:=calB X G jbp (k:=13) uh4 [9003,rx_8] sp4;obtain ⟨jds,jdt⟩:=pr (sd:=tj2) (sw:=spDn) (c:=0) (calZ X G jbd) (λ j _=>calB X G jbs tk4 [9003,rx_9] (xt4 j)) (λ j _=>calB X G jbd uk4 [9003,rx_10] (ss4 j)) 5;have jdu:=calB X G jbr (k:=13) zk4 [9003,rx_11] vs4;have jde:=calB X G jbt (k:=14) sj4 [9003,rx_12] ys4;have jdv:=calB X G jbv (k:=0) xi4 [9003,rx_13] zq4;have jdw:=calB X G jbw (k:=1) sh4 [9003,rx_14] yq4;have jdx:=calB X G jb0 (k:=2) wh4 [9003,rx_15] up4;have jdy:=se (sd:=spPl) (c:=10) (calZ X G jbe) (λ j _=>calB X G jbe yi4 [9003,rx_16] (wq4 j)) 5;have jdz:=calB X G jbz (k:=15) vh4 [9003,rx_17] tp4;have jd0:=calB X G jbx (k:=0) wi4 [9003,rx_18] uq4;have jdf:=calB X G jby (k:=16) ui4 [9003,rx_19] sq4;have h_q9:=calB X G A_q9 (k:=0) vi5 [9003,rx_20] rd_q9;have jd1:=calB X G jbu (k:=0) xk4 [9003,rx_21] zs4;have h_q8:=calB X G A_q8 (k:=1) ui5 [9003,rx_22] rd_q8;have jd2:=calB X G jb2 (k:=1) th4 [9003,rx_23] xq4;have jd3:=calB X G jb4 (k:=0) zh4 [9003,rx_24] vp4;have jd4:=calB X G jb3 (k:=1) zi4 [9003,rx_25] vq4;have jd5:=calB X G jb1 (k:=2) vi4 [9003,rx_26] tq4;have jd6:=calB X G jb5 (k:=2) yj4 [9003,rx_27] wr4;have jd7:=calB X G jb9 (k:=0) zj4 [9003,rx_28] vr4;have jd8:=calB X G jca (k:=0) yh4 [9003,rx_29] wp4;have jd9:=calB X G jcb (k:=0) xj4 [9003,rx_30] zr4;have jea:=calB X G jb8 (k:=1) tg4 [9003,rx_31] xp4;have jeb:=calB X G jcc (k:=0) si4 [9003,rx_32] yr4;have jec:=calB X G jb7 (k:=3) sg4 [9003,rx_33] yp4;have jdg:=calB X G jb6 (k:=4) xh4 [9003,rx_34] zp4;have h_q6:=calB X G A_q6 (k:=0) si5 [9003,rx_35] rd_q6;have jed:=calB X G jcd (k:=1) tj4 [9003,rx_36] xs4;have jee:=calB X G jcf (k:=0) uj4 [9003,rx_37] sr4;have jay:=wi1 jab (k:=0) wl0 [9003,rx_38] vl0;have jaz:=wi1 jad (k:=1) tm0 [9003,rx_39] zn0;have jbk:=wi1 jah (k:=2) yt0 [9003,rx_40] zt0;have ja0:=wi1 jae (k:=3) sm0 [9003,xl5] wn0;have jba:=wi1 jag (k:=2) zq0 [9003,sk5] wq0;have jdh:=calB X G jce (k:=4) yk4 [9003,tk5] ws4;have h_q0:=calB X G A_q0 (k:=0) uj5 [9003,uk5] rd_q0;have h_q3:=calB X G A_q3 (k:=1) zj5 [9003,vk5] rd_q3;have h_q1:=calB X G A_q1 (k:=0) vj5 [9003,wk5] rd_q1;have h_q5:=se (sd:=tj1) (c:=1) (calZ X G A_q5) (λ j _=>calB X G A_q5 xj5 [9003,zk5] (rd_q5 j)) 4;have h_q2:=calB X G A_q2 (k:=5) wj5 [9003,yk5] (rd_q2 4);have h_q4:=calB X G A_q4 (k:=0) yj5 [9003,xk5] rd_q4;exact ve2 jcq vj4 (by rintro _ _ _ ⟨_,rfl,_⟩; rfl) (k:=17) (λ cdv A outer s H E hr=>sj5 (h_q2.mono [27]) (h_q4.mono [27]) (jdh.mono [27]) (jde.mono [27]) (jdf.mono [27]) (jdg.mono [27]) z_len z_list z_sorted z_tuple hr) (tr4 4 [27])
theorem walk {l:PySem.W.OpenLaw} {q:Program} {loose:List Str} {XP:(Str->Option Value)->Heap->Prop} {YP:World->Heap->Prop} {d:DefRec} {K:Params->Fg} (hn:l.most=some 63) (hdf:d.params.defaults=[])
    (hY:∀ (w:World) (h:Heap),YP w h->(K w.params).In h)
    (F:∀ (w:World) (mg:[28]) (fa:Addr) (h:Heap),(K w.params).In h->h.Ns mainGlobals mg->mg d.name=some (.ref fa) ->
     ∃ fd:FuncData,(∀ (s:Shared) (u:Value),BindsTo s fd ⟨[u],[]⟩ [("script",u)]) /\ ∀ base:Heap,(K w.params).In base->base.Ns mainGlobals mg->FnOk l.prog w (K w.params) mg base CX0 18 fa fd ["script"] (lift (K w.params) uj2)) :
    PySem.W.WalkO q loose XP YP l.row.toRowW d [] (λ f vs=>PySem.call f vs) :=
 L2.walk_of (n:=63) (k:=18) (x := "script") (CX:=λ _=>CX0) (sp:=λ w=>lift (K w.params) uj2) hn [27] hdf ⟨rfl,by decide,by decide⟩ hY F (λ _ _ a ns hl hO hS=>wu2 hO hS ⟨ns,rfl,hl,λ _=>rfl⟩) λ _ _ _ _ _ z=>z
end Pv
open PySem PySem.W PyProof.Rows
set_option maxRecDepth 100000 in
set_option maxHeartbeats 0 in
theorem PySem.Challenge.cw_penwright_k32_whole_drawn_again_holds : PySem.Challenge.rw_penwright_k32_whole_drawn_again.Holds := by
 w_on
 refine PySem.W.holds_law Pv.h_said λ said=>?_;refine PySem.W.holds_open (YP:=PySem.W.Hook.says (kHook Pv.KK Pv.KA Pv.ke)) Pv.h_left (PySem.W.Hook.of (kHook Pv.KK Pv.KA Pv.ke)) (PySem.W.Hook.keeps (kHook Pv.KK Pv.KA Pv.ke)) (λ s e=>PySem.W.xl_of s (Bool.and_eq_true_iff.mp e).1) PySem.W.XL.keeps (by rfl) (by rfl) (by rfl) (λ s e=>PySem.W.recFacts_of (Bool.and_eq_true_iff.mp e).2) (by rfl) said (by decide +kernel) ⟨rfl,rfl,rfl,rfl,rfl,by decide +kernel⟩ ?hw ?hc
 case hw=>w_witness2
 k_fill
 refine Pv.walk (l:=PySem.Challenge.rw_penwright_k32_whole_drawn_again) rfl rfl (λ w h Y=>PySem.W.kIn_of Y) ?F
 case F =>
  intro w mg fa h KX G hmg;refine' Pv.all_mk KX G hmg ?jbl ?jbm ?jbb ?A_q7 ?jbn ?jbo ?jbp ?jbq ?jbc ?jbr ?jbs ?jbd ?jbt ?A_q8 ?A_q9 ?jbu ?jbv ?jbw ?jbx ?jby ?jbz ?jbe ?jb0 ?jb1 ?jb2 ?jb3 ?jb4 ?jb5 ?jb6 ?jb7 ?jb8 ?jb9 ?jca ?jcb ?jcc ?jcd ?A_q6 ?jce ?jcf ?A_q0 ?A_q3 ?A_q1 ?A_q5 ?A_q2 ?A_q4 ?jbf ?jcg ?jan ?jao ?jap ?jaq ?jar ?mk_Scribe ?kp_Scribe ?na_Scribe_deeds ?na_Scribe_pen ?jab ?jad ?jae ?jah ?jag ?jak ?jam ?jac ?jaf ?jai ?ql_5 ?jaa ?ql_9 ?jaw ?jch ?jat ?ja1 ?jbg ?jbh ?jbi ?jbj ?ja2 ?jci ?jal ?ja3 ?ja4 ?ja5 ?jaj ?ja6 ?jax ?ja7 ?jau ?ja8 ?jas ?ja9 ?jav
  (case jan | jao | jap | jaq | jar | mk_Scribe | kp_Scribe | na_Scribe_deeds | na_Scribe_pen | jak | jam | jac | jaf | jai | ql_5 | jaa | ql_9 | jaw | jch | jat | ja1 | jbg | jbh | jbi | jbj | ja2 | jci | jal | ja3 | ja4 | ja5 | jaj | ja6 | jax | ja7 | jau | ja8 | jas | ja9 | jav=>k_is)
  (case jbl | jbm | jbb | A_q7 | jbn | jbo | jbp | jbq | jbc | jbr | jbs | jbd | jbt | A_q8 | A_q9 | jbu | jbv | jbw | jbx | jby | jbz | jbe | jb0 | jb1 | jb2 | jb3 | jb4 | jb5 | jb6 | jb7 | jb8 | jb9 | jca | jcb | jcc | jcd | A_q6 | jce | jcf | A_q0 | A_q3 | A_q1 | A_q5 | A_q2 | A_q4=>(refine' Pv.fnB_mk ?a ?l ?c ?k; (case a=>(show _=_; k_is)); (case l=>k_is); (case c=>k_is); (case k=>k_is)))
  (case jbf=>(show _=_; k_is))
  (case jcg=>(refine' Pv.fnA_mk ?l ?c ?k; (case l=>k_is); (case c=>k_is); (case k=>k_is)))
  (case jab | jad | jae | jah | jag=>(refine' Pv.fnM_mk ?a ?i ?l ?c ?k; (case a=>k_is); (case i=>k_is); (case l=>k_is); (case c=>k_is); (case k=>k_is)))
