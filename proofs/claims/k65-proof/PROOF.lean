import PyProof.Rows.All
import Wide.All
import OpenK.AllK
import Wide.FinOn
import Lean
import PyProof.EqAt
import PyProof.EqKinds
import PyProof.TupleCall
import PyProof.P3Statements
import KE.KIntText
import KE.KRevIter
import KE.KRevSl
import KE.KSortTup
import KE.KDictSum
import PySem.Challenge.RW_penwright_k65_whole_pictures_turned
open List(map_cons length_map getElem?_eq_getElem append_assoc mem_singleton length_append map_map getElem?_append_right map_append getElem?_map mem_cons mem_cons_of_mem mem_append_left append_nil length_cons mem_append_right getElem?_append_left not_mem_nil find?_cons mem_cons_self pairwise_singleton take_append_drop mem_of_getElem? getElem_mem nodup_nil nil_append filter_cons nodup_append take_of_length_le getElem?_cons_succ length_take nodup_cons mem_append take_zero length_filter_le filterMap_cons getElem?_take_of_lt getD_eq_getElem?_getD append_inj' drop_sublist getElem?_drop mem_of_mem_take length_nil take_sublist map_nil lookup_cons perm_append_comm mem_of_mem_drop length_drop ext_getElem mem_map_of_mem getElem_of_mem mem_filter map_congr_left ext_getElem? reverse_perm foldl_cons filter_map any_cons mem_map)
open Array(length_toList getElem?_toList toList_append toList_push)
set_option Elab.async false
set_option linter.all false
set_option maxRecDepth 100000
set_option maxHeartbeats 4000000
open PySem.W (fnOf kHook methodObj findIn keepIn cellsFrom_some codeIn nsIn mg_of mg_none_of)
open PySem.F (slot_tuple_add entry_tuple_add args_tuple_add_2 slot_dict_get entry_dict_get plainAttrs_dict)
noncomputable section
set_option compiler.extract_closed false
set_option hygiene false
local macro_rules|`([1])=>`(⟨rfl,rfl,rfl,by decide +kernel,rfl,by decide +kernel,by decide +kernel⟩)|`([2])=>`(by omega)|`([3])=>`(model prog w)|`([4])=>`(Value->Shared->Prop)|`([5])=>`(c3 (.int 1))|`([6])=>`(c3 (.int 0))|`([7])=>`(Inv X pins σ H s)|`([8])=>`(by simp_all;omega)|`([9])=>`(ts.map encT)|`([10])=>`(by simp)|`([11])=>`(ub0 X NN scope cl C fp s₀ H₀ pn)|`([12])=>`(@xb0 P w K mg base)|`([13])=>`(model X.prog X.w)|`([14])=>`(xa0 (v3 0) nil3)|`([15])=>`({ s with heap:=h',toks:=tk })|`([16])=>`(by simp_all)|`([17])=>`(.ListComp elt [⟨target,iter,ifs,0⟩] scope pos)|`([18])=>`(List (List Int × D))|`([19])=>`(by decide)|`([20])=>`(λ _ _ _ _ _=>?_)|`([21])=>`(List (Addr × Obj))|`([22])=>`(wpAny_pure ?_)|`([23])=>`(seq3 (asg3 (o3 modR (o3 addR (o3 mulR (o3 ixR (v3 0) [6]) (c3 (.int 48271))) (c3 (.int 69621))) (c3 (.int 2147483647))) (sub3 (v3 0) [6])) (seq3 (set3 3 (o3 modR (o3 addR (o3 mulR (o3 ixR (v3 0) [6]) (o3 ixR (v3 0) [6])) (o3 mulR (c3 (.int 16807)) (o3 ixR (v3 0) [6]))) (c3 (.int 2147483629)))) (seq3 (set3 3 (o3 modR (o3 addR (o3 mulR (v3 3) (v3 3)) (o3 mulR (c3 (.int 39373)) (v3 3))) (c3 (.int 2147483587)))) (ret3 (o3 modR (o3 xm1 (v3 3) (c3 (.int 8))) (v3 1))))))|`([24])=>`((e :: es).length + ([]:List Keyword).length + (if ([]:List Keyword).isEmpty then 0 else 1) < 30)|`([25])=>`(((s.heap.push (seqObj "list" #[] 0)).update s.heap.objs.size (Obj.mapSeq (· ++ vs.toArray))))|`([26])=>`(Nat.le_refl _)|`([27])=>`(by assumption)|`([28])=>`(.lst [.tup ((ts.map (mv (x - 4) (y - 4))).map encT),.tup (us.map encT)])|`([29])=>`(List Value)|`([30])=>`(Cm prog w A s κ lt M)|`([31])=>`(vs.toArray.zip vs.toArray)|`([32])=>`(X.A.units + 64 < cLine)|`([33])=>`(∀ sl wd,k ∉ xs.map (·.1)->sl ∉ t.place.toList->(∃ m,tr t.mask (hf k) m=sl /\ ∀ l,l < m->Occ t (tr t.mask (hf k) l))->(wd=true->t.slot sl=.dummy)->Q (.free sl wd) s)|`([34])=>`({ cls:=.type "range",data:=.fields #[.int lo t,.int hi u,.int 1 v] })|`([35])=>`(∀ b ∈ ch,(b ∈ X.ex \/ X.s₀.heap.objs.size<=b) /\ b ≠ X.env.locals /\ (∀ x c,X.env.cells.lookup x=some c->c ≠ b) /\ ∀ p ∈ X.pn ++ pins,p.1 ≠ b)|`([36])=>`(xa0 (v3 2) nil3)|`([37])=>`((false,eval e X.env))|`([38])=>`({ s with heap:=h' })|`([39])=>`(o3 ixR (v3 0) [6])|`([40])=>`(Str->Option Value)
local macro_rules|`([41])=>`({ s with toks:=s.toks + knd.draws k })|`([42])=>`(List.toArray (List.range vs.length))|`([43])=>`(⟨_,Heap.get?_push_size _ rfl,rfl,rfl⟩)|`([44])=>`(Option Nat)|`([45])=>`(wpAny_newObj_type (wpAny_bind (m:=firstArgMember _ _) (wpAny_of_eq (a:=Value.none) (by rfl) (wpAny_newObj_type ?_ (by size_fits)))) (by size_fits))|`([46])=>`(seq3 (ifs3 (b3 (o3 geR (v3 2) (o3 powR (c3 (.int 10)) (c3 (.int 18))))) (ret3 (lst3 (xa0 (o3 subR (v3 2) (o3 powR (c3 (.int 10)) (c3 (.int 18)))) (xa0 [5] nil3)))) ud0) (ret3 (lst3 (xa0 (o3 modR (o3 addR (v3 2) (o3 mulR (c3 (.int 7919)) (v3 1))) (c3 (.int 2147483647))) (xa0 [6] nil3)))))|`([47])=>`(wpAny_setState_of S.ho S.hd S.fits ?_)|`([48])=>`(Heap.SameBut.update ..)
theorem Z0:4<=PySem.sizeLine:=by decide
theorem Z1:2<=PySem.sizeLine:=by decide
namespace L2
open PySem PySem.Spec PyProof.Rows
noncomputable def xg0 (s:Stmt):Arguments:=match s with
 | .FunctionDef _ a _ _ _ _ _ _ _ _=>a
 | _=>{ posonlyargs:=[],args:=[],vararg:=none,kwonlyargs:=[],kw_defaults:=[],kwarg:=none,defaults:=[] }
noncomputable def xd0 (s:Stmt):List Stmt:=match s with
 | .FunctionDef _ _ b _ _ _ _ _ _ _=>b
 | _=>[]
noncomputable def ua0 (s:Stmt):Scope:=match s with
 | .FunctionDef _ _ _ _ _ _ sc _ _ _=>sc
 | _=>{ kind:=.function,names:=[],isGenerator:=false,isCoroutine:=false }
end L2
namespace Pv
open PySem PySem.Spec PyProof.Rows L2
noncomputable def top (i:Nat):Stmt:=PySem.Challenge.pw_penwright_k65_whole_pictures_turned.main.body.getD i (.Pass ⟨0,0,0,0⟩)
noncomputable abbrev yh2:Stmt:=top 6
noncomputable abbrev s_q6:Stmt:=top 9
noncomputable abbrev s_q8:Stmt:=top 10
noncomputable abbrev wh2:Stmt:=top 11
noncomputable abbrev xf2:Stmt:=top 12
noncomputable abbrev uf2:Stmt:=top 13
noncomputable abbrev vg2:Stmt:=top 14
noncomputable abbrev wg2:Stmt:=top 15
noncomputable abbrev ye2:Stmt:=top 16
noncomputable abbrev sd2:Stmt:=top 17
noncomputable abbrev xe2:Stmt:=top 18
noncomputable abbrev tg2:Stmt:=top 19
noncomputable abbrev ug2:Stmt:=top 20
noncomputable abbrev vf2:Stmt:=top 22
noncomputable abbrev se2:Stmt:=top 23
noncomputable abbrev wf2:Stmt:=top 24
noncomputable abbrev ue2:Stmt:=top 25
noncomputable abbrev xg2:Stmt:=top 26
noncomputable abbrev we2:Stmt:=top 27
noncomputable abbrev ze2:Stmt:=top 28
noncomputable abbrev ud2:Stmt:=top 29
noncomputable abbrev xh2:Stmt:=top 30
noncomputable abbrev ve2:Stmt:=top 31
noncomputable abbrev sf2:Stmt:=top 32
noncomputable abbrev tf2:Stmt:=top 33
noncomputable abbrev zf2:Stmt:=top 36
noncomputable abbrev s_q7:Stmt:=top 37
noncomputable abbrev s_q5:Stmt:=top 38
noncomputable abbrev te2:Stmt:=top 39
noncomputable abbrev zg2:Stmt:=top 40
noncomputable abbrev yf2:Stmt:=top 41
noncomputable abbrev yg2:Stmt:=top 42
noncomputable abbrev td2:Stmt:=top 43
noncomputable abbrev s_q4:Stmt:=top 44
noncomputable abbrev zh2:Stmt:=top 45
noncomputable abbrev s_q3:Stmt:=top 46
noncomputable abbrev s_q9:Stmt:=top 47
noncomputable abbrev s_q1:Stmt:=top 49
noncomputable abbrev s_q2:Stmt:=top 50
noncomputable abbrev s_q0:Stmt:=top 51
noncomputable abbrev tw0:Stmt:=top 52
noncomputable def en (P:Params) (x:Str) (t:Tok) (v:Value):DictEntry:=⟨PyData.keyHash P x,.str x t,v⟩
noncomputable def fo (x y:Str) (st:Stmt) (m c:Value):Obj:=⟨.type "function",none,.func (fnOf x y (xg0 st) (xd0 st) (ua0 st) .none .none .none m none c .none),#[]⟩
noncomputable def co (x:Str) (a:Tok) (y:Str) (b c:Tok) (ns:List Int) (vs:[29]) (d e:Int) (f:Tok):Obj:=⟨.type "code",none,.fields (.str x a :: .str y b :: .str "/claim/cut.py" c :: (ns.map (λ n=>Value.int n 0) ++ (vs ++ [.int d 0,.int e 0,.str "/claim/cut.py" f]))).toArray,#[]⟩
noncomputable def fq (x:Str) (st:Stmt) (m c:Value):Obj:=fo x x st m c
noncomputable def cq (x:Str) (a:Tok) (ns:List Int) (vs:[29]) (d e:Int) (f:Tok):Obj:=co x a x (a + 1) (a + 2) ns vs d e f
noncomputable def tO (vs:[29]):Obj:=⟨.type "tuple",none,.seq vs.toArray 0,#[]⟩
noncomputable abbrev z6:Value:=.str "law_penwright_k65_whole_pictures_turned" 573
noncomputable def z7 (x:Str) (s:Stmt) (c:Addr):Obj:=fo x x s z6 (.ref c)
noncomputable def z8 (x:Str) (a:Tok):=co x a x
noncomputable def z9 (P:Params) (x:Str) (t:Tok) (a:Addr):DictEntry:=en P x t (.ref a)
noncomputable def Z2 (x:Str):=fo x x
noncomputable abbrev Z3:Value:=.str "penwright.errors" 187
noncomputable abbrev Z4:Value:=.str "penwright.pictures" 263
noncomputable abbrev Z5:Value:=.str "penwright.trails" 359
noncomputable abbrev Z6:Value:=.str "penwright.rooms" 473
noncomputable def KK:PySem.Params->PySem.W.Frag:=λ P=>(nat_lit 2,⟨.none,none,.dict #[] 0,#[]⟩) :: (nat_lit 3,⟨.type "dict",none,.dict #[en P "__name__" 165 z6,en P "__doc__" 166 (.none),en P "__package__" 167 (.none),en P "__loader__" 168 (.builtin "__main__.__loader__#opaque"),en P "__spec__" 169 (.none),z9 P "__annotations__" 170 6,z9 P "__builtins__" 171 4,en P "__file__" 173 (.str "/claim/cut.py" 172),en P "__cached__" 174 (.none),z9 P "PenError" 206 24,z9 P "NoPicture" 222 37,z9 P "NoRoom" 238 49,z9 P "AHEAD" 251 56,z9 P "led" 262 63,z9 P "WAYS" 267 64,z9 P "check_picture" 276 71,z9 P "check_stroke" 283 78,z9 P "ends_of" 290 85,z9 P "stroke_between" 299 92,z9 P "picture_box" 305 97,z9 P "moved_picture" 311 102,z9 P "moved_stroke" 320 109,z9 P "turned_picture" 326 114,z9 P "turned_stroke" 335 121,z9 P "turned_point" 344 128,z9 P "mirrored_picture" 350 133,z9 P "mirrored_stroke" 358 140,z9 P "picture_pieces" 371 147,z9 P "strokes_at" 381 154,z9 P "piece_with" 394 161,z9 P "take_unseen" 400 166,z9 P "odd_points" 406 171,z9 P "trails_of" 415 178,z9 P "trails_of_piece" 421 183,z9 P "way_along" 435 190,z9 P "links_at" 445 197,z9 P "take_unused" 454 204,z9 P "other_end" 462 211,z9 P "parted_at_bridges" 472 218,en P "MOST_CELLS" 476 (.int 2500 475),z9 P "rooms_of" 482 223,z9 P "check_size" 489 230,z9 P "cells_round" 495 235,z9 P "take_cells" 508 242,z9 P "neighbours_of" 514 247,z9 P "sides_of_cell" 527 254,z9 P "numbers_of_cells" 537 261,z9 P "walls_of" 543 266,z9 P "cells_beside" 552 273,z9 P "is_ring" 558 278,z9 P "area_of" 564 283,z9 P "crossed" 572 290,z9 P "_law_state" 583 297,z9 P "_law_take" 593 304,z9 P "_law_lines" 608 311,z9 P "law" 614 316] 56,#[]⟩) :: (nat_lit 15,tO [.type "ValueError"]) :: (nat_lit 22,tO []) :: (nat_lit 23,⟨.type "dict",none,.dict #[en P "__module__" 196 Z3,en P "__firstlineno__" 200 (.int 2 199),z9 P "__static_attributes__" 201 22,z9 P "__weakref__" 203 25,en P "__doc__" 204 (.none)] 3,#[]⟩) :: (nat_lit 24,⟨.type "type",none,.cls ⟨"PenError",[.type "ValueError"],[.ref 24,.type "ValueError",.type "Exception",.type "BaseException",.type "object"],23, "PenError",true,[],[.ref 37,.ref 49],false,none,false⟩,#[some (.ref 15),none,some (.str "PenError" 189),some (.str "PenError" 197),some (.builtin "ValueError.__new__"),some (.bool true)]⟩) :: (nat_lit 25,⟨.type "getset_descriptor",none,.fields #[.str "__weakref__" 202,.ref 24,.builtin "ExceptionGroup.__weakref__",.none],#[]⟩) :: (nat_lit 28,tO [.ref 24]) :: (nat_lit 35,tO []) :: (nat_lit 36,⟨.type "dict",none,.dict #[en P "__module__" 214 Z3,en P "__firstlineno__" 218 (.int 4 217),z9 P "__static_attributes__" 219 35,en P "__doc__" 220 (.none)] 2,#[]⟩) :: (nat_lit 37,⟨.type "type",none,.cls ⟨"NoPicture",[.ref 24],[.ref 37,.ref 24,.type "ValueError",.type "Exception",.type "BaseException",.type "object"],36, "NoPicture",true,[],[],false,none,false⟩,#[some (.ref 28),none,some (.str "NoPicture" 207),some (.str "NoPicture" 215),some (.builtin "ValueError.__new__"),some (.bool true)]⟩) :: (nat_lit 40,tO [.ref 24]) :: (nat_lit 47,tO []) :: (nat_lit 48,⟨.type "dict",none,.dict #[en P "__module__" 230 Z3,en P "__firstlineno__" 234 (.int 6 233),z9 P "__static_attributes__" 235 47,en P "__doc__" 236 (.none)] 2,#[]⟩) :: (nat_lit 49,⟨.type "type",none,.cls ⟨"NoRoom",[.ref 24],[.ref 49,.ref 24,.type "ValueError",.type "Exception",.type "BaseException",.type "object"],48, "NoRoom",true,[],[],false,none,false⟩,#[some (.ref 40),none,some (.str "NoRoom" 223),some (.str "NoRoom" 231),some (.builtin "ValueError.__new__"),some (.bool true)]⟩) :: (nat_lit 52,tO [.int 1 241,.int 0 242]) :: (nat_lit 53,tO [.int 0 243,.int 1 244]) :: (nat_lit 54,tO [.int (-1) 246,.int 0 247]) :: (nat_lit 55,tO [.int 0 248,.int (-1) 250]) :: (nat_lit 56,tO [.ref 52,.ref 53,.ref 54,.ref 55]) :: (nat_lit 62,cq "led" 252 [10,2,0,0,3] [.ref 57,.bool true,.int 181 0,.ref 58,.none,.ref 59,.ref 60,.ref 61] 260 10 261) :: (nat_lit 63,fq "led" yh2 (.str "penwright.words" 239) (.ref 62)) :: (nat_lit 64,tO [.int 0 265,.int 1 266]) :: (nat_lit 70,cq "check_picture" 268 [17,1,0,0,3] [.ref 65,.bool true,.int 181 0,.ref 66,.none,.ref 67,.ref 68,.ref 69] 274 17 275) :: (nat_lit 71,fq "check_picture" s_q6 Z4 (.ref 70)) :: (nat_lit 77,cq "check_stroke" 277 [23,1,0,0,3] [.ref 72,.bool true,.int 181 0,.ref 73,.none,.ref 74,.ref 75,.ref 76] 281 23 282) :: (nat_lit 78,fq "check_stroke" s_q8 Z4 (.ref 77)) :: (nat_lit 84,cq "ends_of" 284 [26,1,0,0,3] [.ref 79,.bool true,.int 181 0,.ref 80,.none,.ref 81,.ref 82,.ref 83] 288 26 289) :: (nat_lit 85,fq "ends_of" wh2 Z4 (.ref 84)) :: (nat_lit 91,cq "stroke_between" 291 [30,2,0,0,3] [.ref 86,.bool true,.int 181 0,.ref 87,.none,.ref 88,.ref 89,.ref 90] 297 30 298) :: (nat_lit 92,fq "stroke_between" xf2 Z4 (.ref 91)) :: (nat_lit 96,cq "picture_box" 300 [33,1,0,0,3] [.ref 93,.bool true,.int 181 0,.ref 94,.none,.none,.none,.ref 95] 303 33 304) :: (nat_lit 97,fq "picture_box" uf2 Z4 (.ref 96)) :: (nat_lit 101,cq "moved_picture" 306 [40,3,0,0,3] [.ref 98,.bool true,.int 181 0,.ref 99,.none,.none,.none,.ref 100] 309 40 310) :: (nat_lit 102,fq "moved_picture" vg2 Z4 (.ref 101)) :: (nat_lit 108,cq "moved_stroke" 312 [43,3,0,0,3] [.ref 103,.bool true,.int 181 0,.ref 104,.none,.ref 105,.ref 106,.ref 107] 318 43 319) :: (nat_lit 109,fq "moved_stroke" wg2 Z4 (.ref 108)) :: (nat_lit 113,cq "turned_picture" 321 [45,2,0,0,3] [.ref 110,.bool true,.int 181 0,.ref 111,.none,.none,.none,.ref 112] 324 45 325) :: (nat_lit 114,fq "turned_picture" ye2 Z4 (.ref 113)) :: (nat_lit 120,cq "turned_stroke" 327 [48,2,0,0,3] [.ref 115,.bool true,.int 181 0,.ref 116,.none,.ref 117,.ref 118,.ref 119] 333 48 334) :: (nat_lit 121,fq "turned_stroke" sd2 Z4 (.ref 120)) :: (nat_lit 127,cq "turned_point" 336 [51,2,0,0,3] [.ref 122,.bool true,.int 181 0,.ref 123,.none,.ref 124,.ref 125,.ref 126] 342 51 343) :: (nat_lit 128,fq "turned_point" xe2 Z4 (.ref 127)) :: (nat_lit 132,cq "mirrored_picture" 345 [54,1,0,0,3] [.ref 129,.bool true,.int 181 0,.ref 130,.none,.none,.none,.ref 131] 348 54 349) :: (nat_lit 133,fq "mirrored_picture" tg2 Z4 (.ref 132)) :: (nat_lit 139,cq "mirrored_stroke" 351 [57,1,0,0,3] [.ref 134,.bool true,.int 181 0,.ref 135,.none,.ref 136,.ref 137,.ref 138] 356 57 357) :: (nat_lit 140,fq "mirrored_stroke" ug2 Z4 (.ref 139)) :: (nat_lit 146,cq "picture_pieces" 361 [61,1,0,0,3] [.ref 141,.bool true,.int 181 0,.ref 142,.none,.ref 143,.ref 144,.ref 145] 369 61 370) :: (nat_lit 147,fq "picture_pieces" vf2 Z5 (.ref 146)) :: (nat_lit 153,cq "strokes_at" 372 [70,1,0,0,3] [.ref 148,.bool true,.int 181 0,.ref 149,.none,.ref 150,.ref 151,.ref 152] 379 70 380) :: (nat_lit 154,fq "strokes_at" se2 Z5 (.ref 153)) :: (nat_lit 160,cq "piece_with" 382 [76,3,0,0,3] [.ref 155,.bool true,.int 181 0,.ref 156,.none,.ref 157,.ref 158,.ref 159] 392 76 393) :: (nat_lit 161,fq "piece_with" wf2 Z5 (.ref 160)) :: (nat_lit 165,cq "take_unseen" 395 [86,2,0,0,3] [.ref 162,.bool true,.int 181 0,.ref 163,.none,.none,.none,.ref 164] 398 86 399) :: (nat_lit 166,fq "take_unseen" ue2 Z5 (.ref 165)) :: (nat_lit 170,cq "odd_points" 401 [91,1,0,0,3] [.ref 167,.bool true,.int 181 0,.ref 168,.none,.none,.none,.ref 169] 404 91 405) :: (nat_lit 171,fq "odd_points" xg2 Z5 (.ref 170)) :: (nat_lit 177,cq "trails_of" 407 [95,1,0,0,3] [.ref 172,.bool true,.int 181 0,.ref 173,.none,.ref 174,.ref 175,.ref 176] 413 95 414) :: (nat_lit 178,fq "trails_of" we2 Z5 (.ref 177)) :: (nat_lit 182,cq "trails_of_piece" 416 [100,1,0,0,3] [.ref 179,.bool true,.int 181 0,.ref 180,.none,.none,.none,.ref 181] 419 100 420) :: (nat_lit 183,fq "trails_of_piece" ze2 Z5 (.ref 182)) :: (nat_lit 189,cq "way_along" 422 [106,2,0,0,3] [.ref 184,.bool true,.int 181 0,.ref 185,.none,.ref 186,.ref 187,.ref 188] 433 106 434) :: (nat_lit 190,fq "way_along" ud2 Z5 (.ref 189)) :: (nat_lit 196,cq "links_at" 436 [120,1,0,0,3] [.ref 191,.bool true,.int 181 0,.ref 192,.none,.ref 193,.ref 194,.ref 195] 443 120 444) :: (nat_lit 197,fq "links_at" xh2 Z5 (.ref 196)) :: (nat_lit 203,cq "take_unused" 446 [126,2,0,0,3] [.ref 198,.bool true,.int 181 0,.ref 199,.none,.ref 200,.ref 201,.ref 202] 452 126 453) :: (nat_lit 204,fq "take_unused" ve2 Z5 (.ref 203)) :: (nat_lit 210,cq "other_end" 455 [132,2,0,0,3] [.ref 205,.bool true,.int 181 0,.ref 206,.none,.ref 207,.ref 208,.ref 209] 460 132 461) :: (nat_lit 211,fq "other_end" sf2 Z5 (.ref 210)) :: (nat_lit 217,cq "parted_at_bridges" 463 [134,2,0,0,3] [.ref 212,.bool true,.int 181 0,.ref 213,.none,.ref 214,.ref 215,.ref 216] 470 134 471) :: (nat_lit 218,fq "parted_at_bridges" tf2 Z5 (.ref 217)) :: (nat_lit 222,cq "rooms_of" 477 [143,1,0,0,3] [.ref 219,.bool true,.int 181 0,.ref 220,.none,.none,.none,.ref 221] 480 143 481) :: (nat_lit 223,fq "rooms_of" zf2 Z6 (.ref 222)) :: (nat_lit 229,cq "check_size" 483 [157,1,0,0,3] [.ref 224,.bool true,.int 181 0,.ref 225,.none,.ref 226,.ref 227,.ref 228] 487 157 488) :: (nat_lit 230,fq "check_size" s_q7 Z6 (.ref 229)) :: (nat_lit 234,cq "cells_round" 490 [160,1,0,0,3] [.ref 231,.bool true,.int 181 0,.ref 232,.none,.none,.none,.ref 233] 493 160 494) :: (nat_lit 235,fq "cells_round" s_q5 Z6 (.ref 234)) :: (nat_lit 241,cq "take_cells" 496 [165,3,0,0,3] [.ref 236,.bool true,.int 181 0,.ref 237,.none,.ref 238,.ref 239,.ref 240] 506 165 507) :: (nat_lit 242,fq "take_cells" te2 Z6 (.ref 241)) :: (nat_lit 246,cq "neighbours_of" 509 [177,2,0,0,3] [.ref 243,.bool true,.int 181 0,.ref 244,.none,.none,.none,.ref 245] 512 177 513) :: (nat_lit 247,fq "neighbours_of" zg2 Z6 (.ref 246)) :: (nat_lit 253,cq "sides_of_cell" 515 [179,1,0,0,3] [.ref 248,.bool true,.int 181 0,.ref 249,.none,.ref 250,.ref 251,.ref 252] 525 179 526) :: (nat_lit 254,fq "sides_of_cell" yf2 Z6 (.ref 253)) :: (nat_lit 260,cq "numbers_of_cells" 528 [187,1,0,0,3] [.ref 255,.bool true,.int 181 0,.ref 256,.none,.ref 257,.ref 258,.ref 259] 535 187 536) :: (nat_lit 261,fq "numbers_of_cells" yg2 Z6 (.ref 260)) :: (nat_lit 265,cq "walls_of" 538 [193,1,0,0,3] [.ref 262,.bool true,.int 181 0,.ref 263,.none,.none,.none,.ref 264] 541 193 542) :: (nat_lit 266,fq "walls_of" td2 Z6 (.ref 265)) :: (nat_lit 272,cq "cells_beside" 544 [204,1,0,0,3] [.ref 267,.bool true,.int 181 0,.ref 268,.none,.ref 269,.ref 270,.ref 271] 550 204 551) :: (nat_lit 273,fq "cells_beside" s_q4 Z6 (.ref 272)) :: (nat_lit 277,cq "is_ring" 553 [210,1,0,0,3] [.ref 274,.bool true,.int 181 0,.ref 275,.none,.none,.none,.ref 276] 556 210 557) :: (nat_lit 278,fq "is_ring" zh2 Z6 (.ref 277)) :: (nat_lit 282,cq "area_of" 559 [214,1,0,0,3] [.ref 279,.bool true,.int 181 0,.ref 280,.none,.none,.none,.ref 281] 562 214 563) :: (nat_lit 283,fq "area_of" s_q3 Z6 (.ref 282)) :: (nat_lit 289,cq "crossed" 565 [219,2,0,0,3] [.ref 284,.bool true,.int 181 0,.ref 285,.none,.ref 286,.ref 287,.ref 288] 570 219 571) :: (nat_lit 290,fq "crossed" s_q9 Z6 (.ref 289)) :: (nat_lit 296,cq "_law_state" 575 [222,2,0,0,3] [.ref 291,.bool true,.int 181 0,.ref 292,.none,.ref 293,.ref 294,.ref 295] 581 222 582) :: (nat_lit 297,fq "_law_state" s_q1 z6 (.ref 296)) :: (nat_lit 303,cq "_law_take" 584 [229,2,0,0,3] [.ref 298,.bool true,.int 181 0,.ref 299,.none,.ref 300,.ref 301,.ref 302] 591 229 592) :: (nat_lit 304,fq "_law_take" s_q2 z6 (.ref 303)) :: (nat_lit 310,cq "_law_lines" 594 [239,2,0,0,3] [.ref 305,.bool true,.int 181 0,.ref 306,.none,.ref 307,.ref 308,.ref 309] 606 239 607) :: (nat_lit 311,fq "_law_lines" s_q0 z6 (.ref 310)) :: (nat_lit 315,cq "law" 609 [252,1,0,0,3] [.ref 312,.bool true,.int 181 0,.ref 313,.none,.none,.none,.ref 314] 612 252 613) :: (nat_lit 316,fq "law" tw0 z6 (.ref 315)) :: []
noncomputable def KA:List Addr:=[2,3,15,22,23,24,25,28,35,36,37,40,47,48,49,52,53,54,55,56,62,63,64,70,71,77,78,84,85,91,92,96,97,101,102,108,109,113,114,120,121,127,128,132,133,139,140,146,147,153,154,160,161,165,166,170,171,177,178,182,183,189,190,196,197,203,204,210,211,217,218,222,223,229,230,234,235,241,242,246,247,253,254,260,261,265,266,272,273,277,278,282,283,289,290,296,297,303,304,310,311,315,316]
theorem ke:∀ P,KA=(KK P).map (·.1):=λ _=>by kernel_rfl
noncomputable def vw:Program:={ PySem.Challenge.pw_penwright_k65_whole_pictures_turned with main:={ PySem.Challenge.pw_penwright_k65_whole_pictures_turned.main with body:=[top 52] } }
noncomputable abbrev LS:List Str:=Program.boundNames (PySem.W.OpenLaw.row PySem.Challenge.rw_penwright_k65_whole_pictures_turned).prog
theorem h_said:PySem.Challenge.rw_penwright_k65_whole_pictures_turned.wellSaid=true:=by kernel_rfl
theorem h_left:PySem.W.LeftO (PySem.W.OpenLaw.row PySem.Challenge.rw_penwright_k65_whole_pictures_turned).prog vw LS (λ s=>PySem.W.xlAt vw [] s && PySem.W.recOk (PySem.W.RowW.records (PySem.W.OpenRow.toRowW (PySem.W.OpenLaw.row PySem.Challenge.rw_penwright_k65_whole_pictures_turned))) s) (PySem.W.Hook.obs (kHook KK KA ke)) (PySem.W.Hook.val (kHook KK KA ke)) 4020:=by
 intro w
 delta PySem.W.openEnds PySem.W.fencedOpening PySem.W.topFrom
 rw [PySem.W.Fast.te14082659384304107361,PySem.W.Fast.te10274390034422433532,PySem.W.Fast.te14289696077712309145,PySem.W.Fast.te1435165496053646825,PySem.W.Fast.te14364793385576792824,PySem.W.Fast.te4187177175401517315]
 kernel_rfl
end Pv
namespace L2
open PySem PySem.Spec PyProof.Rows
noncomputable abbrev Key:=Sum Int Str
noncomputable def wl1:Key->Value->Bool
 | .inl k,v=>Value.isInt k v
 | .inr x,v=>Value.isStrOf x v
noncomputable def keyH (w:World):Key->Int
 | .inl k=>hashInt k
 | .inr x=>hashStr w x
theorem xc0:∀ {k:Key} {v:Value},wl1 k v=true->(∃ i t,k=Sum.inl i /\ v=Value.int i t) \/ (∃ x t,k=Sum.inr x /\ v=Value.str x t)
 | .inl i,v,h=>by
  obtain ⟨t,e⟩:=Value.isInt_shape (k:=i) (v:=v) h
  simp_all
 | .inr x,v,h=>by
  obtain ⟨t,e⟩:=Value.isStrOf_shape (x:=x) (v:=v) h
  simp_all
theorem wv1 (i:Int) (t:Tok):wl1 (.inl i) (.int i t)=true:=by simp [wl1,Value.isInt]
theorem zv1 (x:Str) (t:Tok):wl1 (.inr x) (.str x t)=true:=by simp [wl1,Value.isStrOf]
theorem wq4 (a b:Int):decide ((Sum.inl a:Key)=Sum.inl b)=(a == b):=by
 by_cases e:a=b
 ·subst e; simp
 simp_all
theorem xq4 (a b:Str):decide ((Sum.inr a:Key)=Sum.inr b)=decide (a=b):=by
 simp
theorem zq4 (a:Int) (b:Str):decide ((Sum.inl a:Key)=Sum.inr b)=false:=decide_eq_false (λ q=>nomatch q)
theorem yq4 (a:Str) (b:Int):decide ((Sum.inr a:Key)=Sum.inl b)=false:=decide_eq_false (λ q=>nomatch q)
noncomputable def yb0 (prog:Program) (w:World):PySem.KeyKind prog w Key where
 is:=wl1
 hash:=keyH w
 inj:=λ v a b ha hb=>by
  rcases xc0 ha with ⟨i,t,rfl,rfl⟩ | ⟨x,t,rfl,rfl⟩
  ·rcases xc0 hb with ⟨j,u,rfl,e⟩ | ⟨y,u,rfl,e⟩
   ·simp_all
   ·exact nomatch e
  ·rcases xc0 hb with ⟨j,u,rfl,e⟩ | ⟨y,u,rfl,e⟩
   ·exact nomatch e
   simp_all
 byValue:=λ k v h=>by
  rcases xc0 h with ⟨i,t,rfl,rfl⟩ | ⟨x,t,rfl,rfl⟩ <;> rfl
 pyHash:=λ hv h=>by
  rcases xc0 hv with ⟨i,t,rfl,rfl⟩ | ⟨x,t,rfl,rfl⟩
  ·exact wpAny_pyHash_int h
  ·exact wpAny_pyHash_str h
 eqBool:=λ hu hv h=>by
  rcases xc0 hu with ⟨i,t,rfl,rfl⟩ | ⟨x,t,rfl,rfl⟩
  ·rcases xc0 hv with ⟨j,u,rfl,rfl⟩ | ⟨y,u,rfl,rfl⟩
   ·rw [wq4] at h; exact wpAny_eqBool_int h
   ·rw [zq4] at h; exact SeqAt.EqAt.int_str i t y u _ _ _ _ h
  ·rcases xc0 hv with ⟨j,u,rfl,rfl⟩ | ⟨y,u,rfl,rfl⟩
   ·rw [yq4] at h; exact SeqAt.EqAt.str_int x t j u _ _ _ _ h
   ·rw [xq4] at h; exact wpAny_eqBool_str h
 «strs» := λ k x t v h=>by
  rcases xc0 h with ⟨i,u,rfl,e⟩ | ⟨y,u,rfl,e⟩
  ·exact nomatch e
  ·injection e with e1 _
   subst e1;cases v <;> rfl
theorem yc1 (prog:Program) (w:World) (i:Int) (t:Tok):(yb0 prog w).is (.inl i) (.int i t)=true:=wv1 i t
theorem xc1 (prog:Program) (w:World) (x:Str) (t:Tok):(yb0 prog w).is (.inr x) (.str x t)=true:=zv1 x t
inductive V where
 | non | bl (b:Bool) | int (i:Int) | str (x:Str) | byt (b:Array UInt8) | flt (b:UInt64) | ref (a:Addr) | ty (n:String)
 deriving DecidableEq
noncomputable def RelV:V->Value->Prop
 | .non,u=>u=Value.none
 | .bl b,u=>u=Value.bool b
 | .int i,u=>∃ t,u=Value.int i t
 | .str x,u=>∃ t,u=Value.str x t
 | .byt b,u=>∃ t,u=Value.bytes b t
 | .flt b,u=>∃ t,u=Value.float b t
 | .ref a,u=>u=Value.ref a
 | .ty n,u=>u=Value.type n
noncomputable abbrev Vals:List V->List Value->Prop:=Paired RelV
theorem Vals.length {xs:List V} {us:[29]} (r:Vals xs us):xs.length=us.length:=Paired.length r
theorem Vals.get:∀ {xs:List V} {us:[29]} {i:Nat} {x:V},Vals xs us->xs[i]?=some x->∃ u,us[i]?=some u /\ RelV x u
 | _,_,_,_,.nil,e=>by simp at e
 | _,_,0,_,.cons r _,e=>by simp_all
 | _,_,i + 1,x,.cons _ t,e=>by
  obtain ⟨u,h1,h2⟩:=Vals.get (i:=i) (x:=x) t (by simpa using e)
  simp_all
theorem Vals.set {x:V} {u:Value} (r:RelV x u):∀ {xs:List V} {us:[29]} (i:Nat),Vals xs us->Vals (xs.set i x) (us.set i u)
 | _,_,_,.nil=>.nil
 | _,_,0,.cons _ t=>.cons r t
 | _,_,i + 1,.cons q t=>.cons q (Vals.set r i t)
theorem Vals.append:∀ {xs ys:List V} {us ws:[29]},Vals xs us->Vals ys ws->Vals (xs ++ ys) (us ++ ws)
 | _,_,_,_,.nil,s=>s
 | _,_,_,_,.cons r t,s=>.cons r (Vals.append t s)
noncomputable def RelO:Option V->Option Value->Prop
 | some v,some u=>RelV v u
 | none,none=>True
 | _,_=>False
noncomputable def KV {κ:Type}:List (κ × V)->List (κ × Value)->Prop:=Paired λ (p:κ × V) (q:κ × Value)=>p.1=q.1 /\ RelV p.2 q.2
noncomputable def kV:Key->V
 | .inl i=>.int i
 | .inr x=>.str x
inductive HO where
 | lst (xs:List V)
 | tup (xs:List V)
 | dK (kvs:List (Key × V)) | dT (kvs:List (List Key × V)) (ne:Nat)
 | set (S:Int->Bool) (n:Nat)
 | ins (C dx:Addr) (fs:List (Str × V))
 | own (x:Addr)
 | xd (fs:List (Str × V))
 | met (f x:Addr)
 | rng (lo hi:Int)
 | frz (o:Obj) (u:HO)
 | tbl (ps:Array Value)
 | ext (φ:Heap->Prop)
noncomputable abbrev Hp:=Addr->Option HO
noncomputable def upd (H:Hp) (a:Addr) (o:HO):Hp:=λ b=>if b=a then some o else H b
variable {H:Hp}
theorem sg0 {a:Addr} {o:HO}:upd H a o a=some o:=by unfold upd; rw [if_pos rfl]
theorem sb0 {a b:Addr} {o:HO} (h:b ≠ a):upd H a o b=H b:=by unfold upd; rw [if_neg h]
theorem vt0 {a b:Addr} {o u:HO} (h:H a=some o) (h':H b=some u) (d:o ≠ u):a ≠ b:=by
 intro e; simp_all
theorem sc0 {a b:Addr} {o:HO} (h:H a=some o) (h':H b=none):a ≠ b:=by
 intro e; simp_all
section
variable (P:Program) (w:World)
noncomputable def ObjOk (H:Hp) (h:Heap) (a:Addr):HO->Prop
 | .lst xs=>xs.length<=sizeLine /\ ∃ (its:[29]) (n:Nat),Vals xs its /\ h.get? a=some { cls:=.type "list",data:=.seq its.toArray n }
 | .tup xs=>xs.length<=sizeLine /\ ∃ its:List Value,Vals xs its /\ IsTup h a its.toArray
 | .dK kvs=>kvs.length<=sizeLine /\ (a == sysModules)=false /\ ∃ vs,KV kvs vs /\ h.DictOf (yb0 P w) a vs
 | .dT kvs ne=>kvs.length<=sizeLine /\ (a == sysModules)=false /\ ∃ xs:List (List Key × Addr × Value),
     Paired (λ (p:List Key × V) (q:List Key × Addr × Value)=>p.1=q.1 /\ H q.2.1=some (.tup (p.1.map kV)) /\ RelV p.2 q.2.2) kvs xs ∧
     ∃ o es ep,h.get? a=some o /\ o.ExactDict /\ o.data=.dict es ep /\ es.toList=xs.map (entryOfKey (tupleKind (yb0 P w))) /\ (xs.map (·.1)).Nodup /\ ep=ne
 | .set S n=>h.SetOf (intKind P w) a S n
 | .ins C dx fs=>H dx=some (.own a) /\ fs.length<=1000 /\ dx ≠ a /\ h.get? a=some (PySem.W.instObj C dx) ∧
     ∃ mA,h.Ns1 dx mA /\ (∀ f,RelO (fs.lookup f) (mA f)) /\ PySem.Within mA (fs.map (·.1))
 | .own _=>∃ o,h.get? a=some o
 | .xd fs=>∃ mA,h.Ns1 a mA /\ ∀ f,RelO (fs.lookup f) (mA f)
 | .rng lo hi=>∃ t u v,h.get? a=some [34]
 | .frz o u=>h.get? a=some o /\ ObjOk H h a u
 | .tbl ps=>h.get? a=some { cls:=.none,data:=.fields ps }
 | .met f x=>h.get? a=some (methodObj (.ref f) (.ref x))
 | .ext φ=>φ h /\ (∃ o,h.get? a=some o) /\ ∀ h1 h2:Heap,φ h1->(∀ o,h1.get? a=some o->h2.get? a=some o)->φ h2
noncomputable def HOk (H:Hp) (h:Heap):Prop:=∀ a o,H a=some o->ObjOk P w H h a o
end
variable {H':Hp} {h h':Heap}
section
variable {P:Program} {w:World} {a:Addr} {o:HO}
theorem ObjOk.lt (x:ObjOk P w H h a o):a < h.objs.size:=by
 cases o with
 | lst xs=>obtain ⟨_,_,_,_,e⟩:=x; exact Heap.lt_size e
 | tup xs=>obtain ⟨_,_,_,p⟩:=x; exact p.lt
 | dK kvs=>obtain ⟨_,_,_,_,o,_,_,e,_⟩:=x; exact Heap.lt_size e
 | dT kvs ne=>obtain ⟨_,_,_,_,o,_,_,e,_⟩:=x; exact Heap.lt_size e
 | set S n=>obtain ⟨o,_,_,_,e,_⟩:=x; exact Heap.lt_size e
 | ins C dx fs=>obtain ⟨_,_,_,e,_⟩:=x; exact Heap.lt_size e
 | own y=>obtain ⟨_,e⟩:=x; exact Heap.lt_size e
 | xd fs=>obtain ⟨_,⟨_,_,_,e,_⟩,_⟩:=x; exact Heap.lt_size e
 | rng lo hi=>obtain ⟨_,_,_,e⟩:=x; exact Heap.lt_size e
 | frz ob u=>obtain ⟨e,_⟩:=x; exact Heap.lt_size e
 | tbl ps=>exact Heap.lt_size (show h.get? a=some _ from x)
 | met f y=>exact Heap.lt_size (show h.get? a=some _ from x)
 | ext φ=>obtain ⟨_,⟨_,e⟩,_⟩:=x; exact Heap.lt_size e
theorem Paired.mapP {α β:Type} {F G:α->β->Prop}:∀ {l₁:List α} {l₂:List β},Paired F l₁ l₂->(∀ a b,F a b->G a b)->Paired G l₁ l₂
 | _,_,.nil,_=>.nil
 | _,_,.cons r t,f=>.cons (f _ _ r) (Paired.mapP t f)
theorem ObjOk.stay (x:ObjOk P w H h a o) (k:∀ b u,(b=a \/ H b=some (.own a))->h.get? b=some u->h'.get? b=some u)
    (ho:∀ b,H b=some (.own a)->H' b=some (.own a)) (ht:∀ b xs,H b=some (.tup xs)->H' b=some (.tup xs)):ObjOk P w H' h' a o:=by
 induction o with
 | lst xs=>obtain ⟨z,its,n,r,e⟩:=x; exact ⟨z,its,n,r,k _ _ (.inl rfl) e⟩
 | tup xs=>obtain ⟨z,its,r,ob,e,c⟩:=x; exact ⟨z,its,r,ob,k _ _ (.inl rfl) e,c⟩
 | dK kvs=>obtain ⟨z,y,vs,r,ob,es,ep,e,c⟩:=x; exact ⟨z,y,vs,r,ob,es,ep,k _ _ (.inl rfl) e,c⟩
 | dT kvs ne =>
  obtain ⟨z,y,xs,r,ob,es,ep,e,c⟩:=x;exact ⟨z,y,xs,Paired.mapP r λ p q z=>⟨z.1,ht _ _ z.2.1,z.2.2⟩,ob,es,ep,k _ _ (.inl rfl) e,c⟩
 | set S n=>obtain ⟨ob,es,ep,t,e,c⟩:=x; exact ⟨ob,es,ep,t,k _ _ (.inl rfl) e,c⟩
 | ins C dx fs =>
  obtain ⟨d,z,ne,e,mA,⟨od,es,ep,e2,c⟩,r⟩:=x;exact ⟨ho _ d,z,ne,k _ _ (.inl rfl) e,mA,⟨od,es,ep,k _ _ (.inr d) e2,c⟩,r⟩
 | own y=>obtain ⟨ob,e⟩:=x; exact ⟨ob,k _ _ (.inl rfl) e⟩
 | xd fs=>obtain ⟨mA,⟨od,es,ep,e,c⟩,r⟩:=x; exact ⟨mA,⟨od,es,ep,k _ _ (.inl rfl) e,c⟩,r⟩
 | rng lo hi=>obtain ⟨t,u,v,e⟩:=x; exact ⟨t,u,v,k _ _ (.inl rfl) e⟩
 | frz ob u ih=>obtain ⟨e,q⟩:=x; exact ⟨k _ _ (.inl rfl) e,ih q⟩
 | tbl ps =>
  have e:h.get? a=some { cls:=.none,data:=.fields ps }:=x;show h'.get? a=some { cls:=.none,data:=.fields ps }
  simp_all
 | met f y =>
  have e:h.get? a=some (methodObj (.ref f) (.ref y)):=x;show h'.get? a=some (methodObj (.ref f) (.ref y))
  simp_all
 | ext φ=>obtain ⟨p,⟨o,e⟩,st⟩:=x; exact ⟨st _ _ p λ o q=>k _ _ (.inl rfl) q,⟨o,k _ _ (.inl rfl) e⟩,st⟩
theorem HOk.lt (x:HOk P w H h) (e:H a=some o):a < h.objs.size:=(x a o e).lt
theorem HOk.fresh (x:HOk P w H h) (e:h.objs.size<=a):H a=none:=by
 cases q:H a with
 | none=>rfl
 | some u=>exact absurd (Nat.lt_of_lt_of_le (x.lt q) e) (Nat.lt_irrefl _)
theorem HOk.kept (x:HOk P w H h) (k:∀ b u,h.get? b=some u->h'.get? b=some u):HOk P w H h':=λ a o e =>
 (x a o e).stay (λ b u _ q=>k b u q) (λ _ q=>q) λ _ _ q=>q
theorem HOk.laid (x:HOk P w H h) (k:∀ b u,h.get? b=some u->h'.get? b=some u) (hp:h.objs.size<=a) (new:ObjOk P w (upd H a o) h' a o):HOk P w (upd H a o) h':=λ b u e=>by
 have hn:=x.fresh hp;by_cases hb:b=a
 ·subst hb; rw [sg0] at e; cases e; exact new
 ·rw [sb0 hb] at e;exact (x b u e).stay (λ c v _ q=>k c v q) (λ c q=>by rw [sb0 (sc0 q hn)]; exact q) λ c xs q=>by rw [sb0 (sc0 q hn)]; exact q
end
noncomputable def Rd (H:Hp) (a:Addr) (u:HO):Prop:=H a=some u \/ ∃ o,H a=some (.frz o u)
theorem Rd.ok {P:Program} {w:World} {a:Addr} {u:HO} (r:Rd H a u) (x:HOk P w H h):ObjOk P w H h a u:=by
 rcases r with r | ⟨o,r⟩
 ·exact x a u r
 ·obtain ⟨_,q⟩:=x a _ r;exact q
noncomputable def Mut:Option HO->Prop
 | some (.lst _)=>True
 | some (.dK _)=>True
 | some (.dT _ _)=>True
 | some (.set _ _)=>True
 | some (.ins _ _ _)=>True
 | some (.ext _)=>True
 | _=>False
section
variable {P:Program} {w:World} {x e:Addr} {o':HO}
theorem HOk.write (ok:HOk P w H h) (mu:Mut (H x)) (he:e=x \/ H e=some (.own x)) (k:∀ b u,b ≠ e->h.get? b=some u->h'.get? b=some u) (heo:∃ u,h'.get? e=some u)
    (new:ObjOk P w (upd H x o') h' x o'):HOk P w (upd H x o') h':=λ b u q=>by
 have nown:∀ c y,H c=some (.own y)->c ≠ x:=λ c y r z=>by subst z; rw [r] at mu; exact mu
 have ntup:∀ c xs,H c=some (.tup xs)->c ≠ x:=λ c xs r z=>by subst z; rw [r] at mu; exact mu
 by_cases hb:b=x
 ·subst hb; rw [sg0] at q; cases q; exact new
 ·rw [sb0 hb] at q;by_cases hbe:b=e
  ·have q':H b=some (.own x):=by
     simp_all
   rw [q] at q'; cases q';obtain ⟨v,hv⟩:=heo;exact ⟨v,by rw [hbe]; exact hv⟩
  ·refine (ok b u q).stay (λ c v hc r=>k c v ?_ r) (λ c r=>by rw [sb0 (nown c b r)]; exact r) λ c xs r=>by rw [sb0 (ntup c xs r)]; exact r
   rcases hc with rfl | hc
   ·exact hbe
   ·rintro rfl
    simp_all
end
structure Un (fs ex:List Addr) (H H':Hp) (h h':Heap):Prop where
 keep:∀ b o,h.get? b=some o->H b=none->b ∉ fs->b ∉ ex->h'.get? b=some o
 slot:∀ b o,h.get? b=some o->H b=none->b ∈ fs->b ∉ ex->∃ sl,h'.get? b=some { o with slots:=sl }
 free:∀ b o,h.get? b=some o->H b=none->b ∉ ex->H' b=none
 there:∀ b o,h.get? b=some o->b ∉ ex->∃ o',h'.get? b=some o'
 tups:∀ b xs,H b=some (.tup xs)->H' b=some (.tup xs)
 frzs:∀ b o u,H b=some (.frz o u)->H' b=some (.frz o u)
 tbls:∀ b ps,H b=some (.tbl ps)->∃ more,H' b=some (.tbl (ps ++ more))
section
variable {fs fs' ex ex':List Addr} {H1 H2:Hp} {h1 h2:Heap} {a x e:Addr} {o:HO}
theorem Un.any (u:Un fs ex H H1 h h1) {b:Addr} {ob:Obj} (q:h.get? b=some ob) (n:H b=none) (hx:b ∉ ex):∃ sl,h1.get? b=some { ob with slots:=sl }:=by
 by_cases hb:b ∈ fs
 ·exact u.slot b ob q n hb hx
 ·exact ⟨ob.slots,u.keep b ob q n hb hx⟩
theorem Un.kept (k:∀ b u,h.get? b=some u->h'.get? b=some u):Un fs ex H H h h' :=
 ⟨λ b ob q _ _ _=>k b ob q,λ b ob q _ _ _=>⟨ob.slots,k b ob q⟩,λ _ _ _ n _=>n,λ b ob q _=>⟨ob,k b ob q⟩,λ _ _ q=>q,λ _ _ _ q=>q,λ _ ps q=>⟨#[],by rw [q]; simp⟩⟩
theorem Un.refl:Un fs ex H H h h:=Un.kept λ _ _ q=>q
theorem Un.laid (k:∀ b u,h.get? b=some u->h'.get? b=some u) (hp:h.objs.size<=a) (hn:H a=none):Un fs ex H (upd H a o) h h' where
 keep:=λ b u q _ _ _=>k b u q
 slot:=λ b u q _ _ _=>⟨u.slots,k b u q⟩
 free:=λ b u q n _=>by rw [sb0 (Nat.ne_of_lt (Nat.lt_of_lt_of_le (Heap.lt_size q) hp))]; exact n
 there:=λ b u q _=>⟨u,k b u q⟩
 tups:=λ b xs q=>by rw [sb0 (sc0 q hn)]; exact q
 frzs:=λ b u xs q=>by rw [sb0 (sc0 q hn)]; exact q
 tbls:=λ b ps q=>⟨#[],by rw [sb0 (sc0 q hn),q]; simp⟩
theorem Un.write (mu:Mut (H x)) (he:e=x \/ H e=some (.own x)) (k:∀ b u,b ≠ e->h.get? b=some u->h'.get? b=some u) (heo:∃ u,h'.get? e=some u):Un fs ex H (upd H x o) h h':=by
 have hx:∀ b,H b=none->b ≠ x:=λ b n z=>by subst z; rw [n] at mu; exact mu
 have hb:∀ b,H b=none->b ≠ e:=λ b n z=>by
  simp_all
 have hm:∀ b u,H b=some u->¬ Mut (some u)->b ≠ x:=λ b u q nm z=>by simp_all
 refine ⟨λ b u q n _ _=>k b u (hb b n) q,λ b u q n _ _=>⟨u.slots,k b u (hb b n) q⟩,λ b u q n _=>by rw [sb0 (hx b n)]; exact n,λ b u q _=>?_,
  λ b xs q=>by rw [sb0 (hm b _ q λ z=>z)]; exact q,λ b u xs q=>by rw [sb0 (hm b _ q λ z=>z)]; exact q,λ b ps q=>⟨#[],by rw [sb0 (hm b _ q λ z=>z),q]; simp⟩⟩
 by_cases hbe:b=e
 ·simp_all
 simp_all
end
noncomputable def trk (h:Heap) (H:Hp):List Addr:=(List.range h.objs.size).filter λ a=>(H a).isSome
noncomputable def hidT (h:Heap) (H:Hp):Heap:=PySem.W.hideAll h (trk h H)
theorem sw1 (h:Heap) (H:Hp):(hidT h H).objs.size=h.objs.size:=PySem.W.hideAll_size _ _
theorem zn2 {b:Addr} {o:Obj} (e:h.get? b=some o) (n:H b=none):(hidT h H).get? b=some o :=
 PySem.W.hideAll_get _ e λ hm=>by
  have q:(H b).isSome=true:=(List.mem_filter.mp hm).2
  simp_all
theorem tf3 {b:Addr} {o:Obj} (e:(hidT h H).get? b=some o):h.get? b=some o /\ H b=none:=by
 have e':h.get? b=some o:=PySem.W.of_hideAll (trk h H) e;refine ⟨e',?_⟩;cases q:H b with
 | none=>rfl
 | some x =>
  have hm:b ∈ trk h H:=List.mem_filter.mpr ⟨List.mem_range.mpr (Heap.lt_size e'),by simp [q]⟩;have z:(hidT h H).get? b=none:=PySem.W.hideAll_none (trk h H) hm
  simp_all
noncomputable def tl3 (g h:Heap) (L:Addr):List (Addr × Obj):=(List.range h.objs.size).filterMap λ a=>if a=L \/ (g.get? a).isSome=true then none else (h.get? a).map λ o=>(a,o)
noncomputable def rest (g h:Heap) (L d:Addr):List (Addr × Obj):=(tl3 g h L).filter λ p=>decide (p.1 ≠ d)
structure Mod (K:PySem.W.Frag) (mg:Str->Option Value) (base:Heap):Prop where
 kin:K.In base
 glob:base.Ns mainGlobals mg
 blt:∃ mb,base.Ns builtinsNs mb /\ ∀ x:Str,x ≠ "__name__" -> mb x=bootBuiltins x
 nolimit:base.NoLimit
structure Cx where
 prog:Program
 w:World
 K:PySem.W.Frag
 mg:Str->Option Value
 base:Heap
 A:Around
 N:List Str
 s₀:Shared
 H₀:Hp
 env:Env
 outer:List Env
 stack:List Env
 ex:List Addr
 fn:Str->Bool
 calm:Bool
 pn:List (Addr × Obj)
 xe:Value->Shared->Prop
noncomputable def frs (l:List Env):List Addr:=l.filterMap (·.frame)
noncomputable abbrev Cx.fs (X:Cx):List Addr:=frs X.outer
noncomputable def Vis (sc:Scope) (x:Str):Prop:=sc.names.lookup x=some .local \/ sc.names.lookup x=some .cell \/ sc.names.lookup x=some .free
noncomputable def Loc (sc:Scope) (x:Str):Prop:=sc.names.lookup x=some .local \/ sc.names.lookup x=some .cell
noncomputable def Look (env:Env) (h:Heap) (m:[40]) (x:Str) (u:Value):Prop :=
 (env.kindOf x=some .local /\ m x=some u) \/ ((env.kindOf x=some .cell \/ env.kindOf x=some .free) /\ ∃ c,env.cells.lookup x=some c /\ h.IsCell c (some u))
structure Cx.Ok (X:Cx):Prop where
 mod:Mod X.K X.mg X.base
 kind:X.env.scope.kind=.function
 glob:X.env.globals=mainGlobals
 blt:X.env.builtins=builtinsNs
 above:X.s₀.heap.objs.size<=X.env.locals
 inj:∀ x y c,X.env.cells.lookup x=some c->X.env.cells.lookup y=some c->x=y
 has:∀ x,(X.env.kindOf x=some .cell \/ X.env.kindOf x=some .free)->∃ c,X.env.cells.lookup x=some c
 cab:∀ x c,X.fn x=true->X.env.cells.lookup x=some c->X.s₀.heap.objs.size<=c
 hd:X.calm=true->X.A.handled=none
 frames:X.A.frames=some X.stack
 stk:X.stack=X.outer \/ (X.stack=X.env :: X.outer /\ X.env.frame=some X.env.locals)
 exf:∀ b ∈ X.ex,b ≠ X.env.locals /\ ∀ x c,X.env.cells.lookup x=some c->c ≠ b
 bs:∀ b o,X.base.get? b=some o->X.s₀.heap.get? b=some o /\ X.H₀ b=none
 bsz:X.base.objs.size<=X.s₀.heap.objs.size
 noex:∀ b o,X.base.get? b=some o->b ∉ X.ex
 exfs:∀ b ∈ X.ex,b ∉ X.fs
 funs:X.s₀.heap.FunFrames X.base X.outer
 frf:∀ b ∈ X.fs,X.H₀ b=none
structure Inv (X:Cx) (pins:List (Addr × Obj)) (σ:List (Option V)) (H:Hp) (s:Shared):Prop where
 ok:X.Ok
 os:s.os=X.s₀.os
 bare:AllBare s.gens
 base:Un X.fs X.ex X.H₀ H X.s₀.heap s.heap
 loc:∃ m,s.heap.Ns X.env.locals m /\ ∀ (i:Nat) (x:Str) (v:V),X.N[i]?=some x->σ[i]?=some (some v)->Vis X.env.scope x->∃ u,RelV v u /\ Look X.env s.heap m x u
 cell:∀ x c,X.env.cells.lookup x=some c->∃ v,s.heap.IsCell c v
 free:H X.env.locals=none
 freeC:∀ x c,X.env.cells.lookup x=some c->H c=none
 pin:∀ p ∈ X.pn ++ pins,s.heap.get? p.1=some p.2 /\ H p.1=none /\ p.1 ≠ X.env.locals /\ p.1 ∉ X.fs /\ ∀ v,p.2.data ≠ .cell v
 hok:HOk X.prog X.w H s.heap
 len:σ.length=X.N.length
variable {X:Cx} {pins:[21]} {s s':Shared} {t':Nat} {ch:List Addr} {it:Addr} {N:List Str} {M:Model} {A:Around}
section
variable {σ:List (Option V)} 
theorem Cx.Ok.nofr (ok:X.Ok) {b:Addr} {o:Obj} (e:X.base.get? b=some o):b ∉ X.fs:=λ hb=>by
 have:=(ok.funs.mem hb).1
 simp_all
theorem Inv.bs (I:[7]):∀ b o,X.base.get? b=some o->s.heap.get? b=some o /\ H b=none:=λ b o e =>
 ⟨I.base.keep b o (I.ok.bs b o e).1 (I.ok.bs b o e).2 (I.ok.nofr e) (I.ok.noex b o e),I.base.free b o (I.ok.bs b o e).1 (I.ok.bs b o e).2 (I.ok.noex b o e)⟩
theorem Inv.bk (I:[7]):∀ b o,X.base.get? b=some o->s.heap.get? b=some o:=λ b o e=>(I.bs b o e).1
theorem Inv.mod (I:[7]):Mod X.K X.mg X.base:=I.ok.mod
theorem Inv.kIn (I:[7]):X.K.In s.heap:=I.ok.mod.kin.keeps I.bk
theorem Inv.lt (I:[7]):X.env.locals < s.heap.objs.size:=let ⟨_,hn,_⟩:=I.loc; hn.lt
theorem Inv.sz (I:[7]):X.s₀.heap.objs.size<=s.heap.objs.size:=Nat.le_trans I.ok.above (Nat.le_of_lt I.lt)
theorem Inv.nofs (I:[7]) {a:Addr} (h:s.heap.objs.size<=a):a ∉ X.fs:=λ hb=>by
 obtain ⟨_,o,ho,_⟩:=I.ok.funs.mem hb;exact absurd (Nat.lt_of_lt_of_le (Heap.lt_size ho) (Nat.le_trans I.sz h)) (Nat.lt_irrefl _)
theorem Inv.cne (I:[7]):∀ x c,X.env.cells.lookup x=some c->c ≠ X.env.locals:=λ x c e z=>by
 obtain ⟨v,o,ho,hd⟩:=I.cell x c e;obtain ⟨m,⟨o',es,ep,ho',hd',_⟩,_⟩:=I.loc
 simp_all
theorem Inv.funs (I:[7]):s.heap.FunFrames X.base X.outer:=by
 have all:∀ (l:List Env),(∀ b ∈ frs l,b ∈ X.fs)->X.s₀.heap.FunFrames X.base l->s.heap.FunFrames X.base l:=by
  intro l
  induction l with
  | nil=>intro _ _; trivial
  | cons env r ih =>
   intro hs hl;obtain ⟨hk,⟨L,o,hf,hn,ho,hd⟩,hr⟩:=hl;have hL:L ∈ X.fs:=hs L (by unfold frs; simp_all);obtain ⟨sl,e⟩:=I.base.slot L o ho (I.ok.frf L hL) hL λ z=>I.ok.exfs L z hL;exact ⟨hk,⟨L,_,hf,hn,e,hd⟩,ih (λ b hb=>hs b (by unfold frs; rw [filterMap_cons,hf]; exact mem_cons_of_mem _ hb)) hr⟩
 exact all X.outer (λ _ hb=>hb) I.ok.funs
theorem Inv.stack (I:[7]):s.heap.FunFrames X.base X.stack:=by
 rcases I.ok.stk with e | ⟨e,hf⟩
 ·rw [e]; exact I.funs
 ·rw [e];obtain ⟨m,hn,_⟩:=I.loc;refine .cons (by rw [I.ok.kind]; decide) hf hn ?_ I.funs;exact Heap.get?_none_of_le (Nat.le_trans I.ok.bsz I.ok.above)
theorem Inv.stkSub (I:[7]):∀ b ∈ frs X.stack,b ∈ X.env.locals :: X.fs:=λ b hb=>by
 rcases I.ok.stk with e | ⟨e,hf⟩
 ·simp_all
 ·rw [e] at hb;unfold frs at hb;rw [filterMap_cons,hf] at hb;exact hb
theorem Inv.stkFree (I:[7]):∀ b ∈ frs X.stack,H b=none:=λ b hb=>by
 rcases List.mem_cons.mp (I.stkSub b hb) with e | hb
 ·rw [e]; exact I.free
 ·obtain ⟨_,o,ho,_⟩:=I.ok.funs.mem hb;exact I.base.free b o ho (I.ok.frf b hb) λ z=>I.ok.exfs b z hb
theorem Inv.step {g':Array GenState} {t':Nat} {d':Drawn} {ch:List Addr} (I:[7])
    (hch:[35])
    (keep:∀ b o,b ≠ X.env.locals->b ∉ X.fs->b ∉ ch->s.heap.get? b=some o->H b=none->h'.get? b=some o)
    (slot:∀ b o,b ≠ X.env.locals->b ∈ X.fs->b ∉ ch->s.heap.get? b=some o->H b=none->∃ sl,h'.get? b=some { o with slots:=sl }) (free:∀ b o,b ∉ ch->s.heap.get? b=some o->H b=none->H' b=none)
    (there:∀ b o,b ∉ ch->s.heap.get? b=some o->∃ o',h'.get? b=some o')
    (tups:∀ b xs,H b=some (.tup xs)->H' b=some (.tup xs)) (frzs:∀ b o u,H b=some (.frz o u)->H' b=some (.frz o u)) (tbls:∀ b ps,H b=some (.tbl ps)->∃ more,H' b=some (.tbl (ps ++ more)))
    (ns:∀ m,s.heap.Ns X.env.locals m->h'.Ns X.env.locals m) (hok:HOk X.prog X.w H' h') (hg:AllBare g') :
    Inv X pins σ H' { s with heap:=h',gens:=g',drawn:=d',toks:=t' }:=by
 have neL:∀ b o,X.s₀.heap.get? b=some o->b ≠ X.env.locals:=λ b o e=>Nat.ne_of_lt (Nat.lt_of_lt_of_le (Heap.lt_size e) I.ok.above)
 have neC:∀ b o,X.s₀.heap.get? b=some o->b ∉ X.ex->b ∉ ch:=λ b o e hx hb=>by
  rcases (hch b hb).1 with z | z
  ·exact hx z
  ·exact absurd (Nat.lt_of_lt_of_le (Heap.lt_size e) z) (Nat.lt_irrefl _)
 have cellK:∀ x c,X.env.cells.lookup x=some c->∀ v,s.heap.IsCell c v->h'.IsCell c v:=λ x c e v ⟨o,ho,hd⟩=>by
  have nch:c ∉ ch:=λ z=>(hch c z).2.2.1 x c e rfl;by_cases hc:c ∈ X.fs
  ·obtain ⟨sl,q⟩:=slot c o (I.cne x c e) hc nch ho (I.freeC x c e);exact ⟨_,q,hd⟩
  ·exact ⟨o,keep c o (I.cne x c e) hc nch ho (I.freeC x c e),hd⟩
 refine ⟨I.ok,I.os,hg,⟨λ b o e n hb hx=>?_,λ b o e n hb hx=>?_,λ b o e n hx=>?_,λ b o e hx=>?_,λ b xs e=>tups b xs (I.base.tups b xs e),λ b o xs e=>frzs b o xs (I.base.frzs b o xs e),λ b ps e=>?_⟩,?_,λ x c e=>?_,?_,λ x c e=>?_,λ p hp=>?_,hok,I.len⟩
 ·exact keep b o (neL b o e) hb (neC b o e hx) (I.base.keep b o e n hb hx) (I.base.free b o e n hx)
 ·obtain ⟨sl,e1⟩:=I.base.slot b o e n hb hx;obtain ⟨sl',e2⟩:=slot b _ (neL b o e) hb (neC b o e hx) e1 (I.base.free b o e n hx);exact ⟨sl',e2⟩
 ·obtain ⟨o',e1⟩:=I.base.there b o e hx;exact free b o' (neC b o e hx) e1 (I.base.free b o e n hx)
 ·obtain ⟨o',e1⟩:=I.base.there b o e hx
  simp_all
 ·obtain ⟨m1,e1⟩:=I.base.tbls b ps e;obtain ⟨m2,e2⟩:=tbls b _ e1;exact ⟨m1 ++ m2,by simp_all⟩
 ·obtain ⟨m,hn,hl⟩:=I.loc;refine ⟨m,ns m hn,λ i x v e1 e2 e3=>?_⟩;obtain ⟨u,r,l⟩:=hl i x v e1 e2 e3;refine ⟨u,r,?_⟩;rcases l with l | ⟨k,c,e,z⟩
  ·exact .inl l
  ·exact .inr ⟨k,c,e,cellK x c e _ z⟩
 ·obtain ⟨v,z⟩:=I.cell x c e;exact ⟨v,cellK x c e v z⟩
 ·obtain ⟨m,⟨o,_,_,ho,_⟩,_⟩:=I.loc;exact free _ o (λ z=>(hch _ z).2.1 rfl) ho I.free
 ·obtain ⟨v,o,ho,hd⟩:=I.cell x c e;exact free c o (λ z=>(hch c z).2.2.1 x c e rfl) ho (I.freeC x c e)
 ·obtain ⟨e,n,ne,nf,d⟩:=I.pin p hp;have nch:p.1 ∉ ch:=λ z=>(hch p.1 z).2.2.2 p hp rfl
  simp_all
theorem Inv.un (I:[7]) (u:Un X.fs [] H H' s.heap h') (hok:HOk X.prog X.w H' h'):Inv X pins σ H' { s with heap:=h',toks:=t' }:=by
 obtain ⟨m,⟨o,es,ep,ho,r⟩,_⟩:=id I.loc;obtain ⟨sl,hL⟩:=u.any ho I.free [10]
 exact I.step (g':=s.gens) (d':=s.drawn) (ch:=[]) (λ _ z=>nomatch z) (λ b o _ hb _ e n=>u.keep b o e n hb [10]) (λ b o _ hb _ e n=>u.slot b o e n hb [10]) (λ b o _ e n=>u.free b o e n [10]) (λ b o _ e=>u.there b o e [10]) u.tups u.frzs u.tbls (λ m' hm=>by
  obtain ⟨o',es',ep',ho',r'⟩:=hm;rw [ho] at ho'; cases ho';exact ⟨_,es',ep',hL,r'⟩) hok I.bare
theorem Inv.call {g':Array GenState} {d':Drawn} (I:[7]) (u:Un (frs X.stack) ch H H' s.heap h') (hok:HOk X.prog X.w H' h') (hg:AllBare g')
    (hch:[35]) :
    Inv X pins σ H' { s with heap:=h',gens:=g',drawn:=d',toks:=t' }:=by
 obtain ⟨m,⟨o,es,ep,ho,r⟩,_⟩:=id I.loc;obtain ⟨sl,hL⟩:=u.any ho I.free λ z=>(hch _ z).2.1 rfl
 exact I.step (ch:=ch) hch (λ b o hL hb hc e n=>u.keep b o e n (λ z=>(List.mem_cons.mp (I.stkSub b z)).elim hL hb) hc) (λ b o _ _ hc e n=>u.any e n hc) (λ b o hc e n=>u.free b o e n hc) (λ b o hc e=>u.there b o e hc) u.tups u.frzs u.tbls (λ m' hm=>by
  obtain ⟨o',es',ep',ho',r'⟩:=hm;rw [ho] at ho'; cases ho';exact ⟨_,es',ep',hL,r'⟩) hok hg
theorem Inv.turned (I:[7]) (k:∀ b o,b ≠ it->s.heap.get? b=some o->h'.get? b=some o) (hn:H it=none) (hL:it ≠ X.env.locals)
    (h1:it ∈ X.ex \/ X.s₀.heap.objs.size<=it) (h2:∀ x c,X.env.cells.lookup x=some c->c ≠ it) (h3:∀ p ∈ X.pn ++ pins,p.1 ≠ it):Inv X pins σ H { s with heap:=h',toks:=t' }:=by
 have nit:∀ b u,H b=some u->b ≠ it:=λ b u e z=>by simp_all
 refine I.step (g':=s.gens) (d':=s.drawn) (ch:=[it]) (λ b hb=>?_) (λ b o _ _ hc e _=>k b o (λ z=>hc (by simp [z])) e) (λ b o _ _ hc e _=>⟨o.slots,k b o (λ z=>hc (by simp [z])) e⟩) (λ _ _ _ _ n=>n)
  (λ b o hc e=>⟨o,k b o (λ z=>hc (by simp [z])) e⟩) (λ _ _ e=>e) (λ _ _ _ e=>e) (λ b ps e=>⟨#[],by rw [e]; simp⟩) (λ m hm=>?_) (λ b u e=>?_) I.bare
 ·have e:b=it:=by simpa using hb
  subst e;trivial
 ·obtain ⟨o,es,ep,ho,r⟩:=hm;exact ⟨o,es,ep,k _ o (Ne.symm hL) ho,r⟩
 ·refine (I.hok b u e).stay (λ c v hc q=>k c v ?_ q) (λ _ q=>q) λ _ _ q=>q;rcases hc with z | z
  ·simp_all
  ·exact nit c _ z
theorem Inv.tok (I:[7]) (t:Nat):Inv X pins σ H { s with toks:=t }:=I.un (h':=s.heap) (t':=t) Un.refl I.hok
theorem Inv.kept {t':Nat} (I:[7]) (k:∀ b u,s.heap.get? b=some u->h'.get? b=some u):Inv X pins σ H { s with heap:=h',toks:=t' }:=I.un (Un.kept k) (I.hok.kept k)
theorem Inv.laid {a:Addr} {o:HO} {t':Nat} (I:[7]) (k:∀ b u,s.heap.get? b=some u->h'.get? b=some u) (hp:s.heap.objs.size<=a) (new:ObjOk X.prog X.w (upd H a o) h' a o) :
    Inv X pins σ (upd H a o) { s with heap:=h',toks:=t' }:=I.un (Un.laid k hp (I.hok.fresh hp)) (I.hok.laid k hp new)
theorem Inv.write {x e:Addr} {o:HO} {t':Nat} (I:[7]) (mu:Mut (H x)) (he:e=x \/ H e=some (.own x)) (k:∀ b u,b ≠ e->s.heap.get? b=some u->h'.get? b=some u) (heo:∃ u,h'.get? e=some u)
    (new:ObjOk X.prog X.w (upd H x o) h' x o):Inv X pins σ (upd H x o) { s with heap:=h',toks:=t' }:=I.un (Un.write mu he k heo) (I.hok.write mu he k heo new)
theorem Inv.pins_of {pins':[21]} (I:[7]) (h:∀ p ∈ pins',s.heap.get? p.1=some p.2 /\ H p.1=none /\ p.1 ≠ X.env.locals /\ p.1 ∉ X.fs /\ ∀ v,p.2.data ≠ .cell v):Inv X pins' σ H s :=
 ⟨I.ok,I.os,I.bare,I.base,I.loc,I.cell,I.free,I.freeC,λ p hp=>(List.mem_append.mp hp).elim (λ z=>I.pin p (mem_append_left _ z)) (h p),I.hok,I.len⟩
theorem yh1 (hN:N.Nodup) {i j:Nat} {x:Str} (a:N[i]?=some x) (b:N[j]?=some x):i=j:=by
 obtain ⟨h1,e1⟩:=List.getElem?_eq_some_iff.mp a;obtain ⟨h2,e2⟩:=List.getElem?_eq_some_iff.mp b;exact (List.getElem_inj hN).mp (e1.trans e2.symm)
theorem sv0 {E:[4]} {i:Nat} {x:Str} {v:V} {u:Value} {Q:Unit->Shared->Prop} (I:[7]) (hN:X.N.Nodup) (hi:X.N[i]?=some x) (hx:Loc X.env.scope x) (r:RelV v u)
    (h:∀ s',Inv X pins (σ.set i (some v)) H s'->(∃ a,Heap.SameBut a s.heap s'.heap /\ (a=X.env.locals \/ X.env.cells.lookup x=some a))->Q () s') (hf:X.fn x=true \/ X.env.scope.names.lookup x=some .local:=by first | exact .inl rfl | exact .inr rfl | assumption):wpAny M A (storeName X.env x u) Q E s:=by
 obtain ⟨m,hn,hl⟩:=id I.loc;have hcls:(X.env.scope.kind == .class || (X.env.scope.kind == .module && X.env.locals != X.env.globals))=false:=by rw [I.ok.kind]; rfl
 have hiσ:i < σ.length:=by rw [I.len]; exact (List.getElem?_eq_some_iff.mp hi).1
 have cne:=I.cne
 have tracked:∀ {a:Addr} {h':Heap},(∃ o,s.heap.get? a=some o /\ H a=none)->Heap.SameBut a s.heap h'->HOk X.prog X.w H h':=λ {a h'} ha hs b ob e=>by
  obtain ⟨_,_,hfree⟩:=ha;refine (I.hok b ob e).stay (λ c w' hc q=>(hs.2 c ?_).trans q) (λ _ q=>q) λ _ _ q=>q;rintro rfl
  simp_all
 rcases hx with hk | hk
 ·refine wpAny_storeName_local hk hn (λ h' hn' hs=>?_) hcls;obtain ⟨oL,_,_,hoL,_⟩:=id hn;refine h _ ⟨I.ok,I.os,I.bare,⟨λ b o e n hb hx=>?_,λ b o e n hb hx=>?_,I.base.free,λ b o e hx=>?_,I.base.tups,I.base.frzs,I.base.tbls⟩,⟨_,hn',λ j y v' e1 e2 e3=>?_⟩,λ y c e=>?_,I.free,I.freeC,λ p hp=>?_,tracked ⟨oL,hoL,I.free⟩ hs,by simpa using I.len⟩ ⟨_,hs,.inl rfl⟩
  ·exact (hs.2 b (Nat.ne_of_lt (Nat.lt_of_lt_of_le (Heap.lt_size e) I.ok.above))).trans (I.base.keep b o e n hb hx)
  ·obtain ⟨sl,e1⟩:=I.base.slot b o e n hb hx;exact ⟨sl,(hs.2 b (Nat.ne_of_lt (Nat.lt_of_lt_of_le (Heap.lt_size e) I.ok.above))).trans e1⟩
  ·obtain ⟨o',e1⟩:=I.base.there b o e hx;exact ⟨o',(hs.2 b (Nat.ne_of_lt (Nat.lt_of_lt_of_le (Heap.lt_size e) I.ok.above))).trans e1⟩
  ·by_cases hj:j=i
   ·subst hj;rw [hi] at e1; cases e1;rw [List.getElem?_set_self hiσ] at e2;cases e2;exact ⟨u,r,.inl ⟨hk,by simp⟩⟩
   ·rw [List.getElem?_set_ne (Ne.symm hj)] at e2;obtain ⟨u',r',q⟩:=hl j y v' e1 e2 e3;refine ⟨u',r',?_⟩;rcases q with ⟨k,e⟩ | ⟨k,c,e,z⟩
    ·refine .inl ⟨k,?_⟩;have:y ≠ x:=λ e=>hj (yh1 hN e1 (e ▸ hi));simp [this,e]
    ·exact .inr ⟨k,c,e,z.sameBut hs (cne y c e)⟩
  ·obtain ⟨w',z⟩:=I.cell y c e;exact ⟨w',z.sameBut hs (cne y c e)⟩
  ·obtain ⟨e,n,ne,nf,d⟩:=I.pin p hp;exact ⟨(hs.2 p.1 ne).trans e,n,ne,nf,d⟩
 ·have hfn:X.fn x=true:=by
    simp_all
  obtain ⟨c,hc⟩:=I.ok.has x (.inl hk);obtain ⟨w',z⟩:=I.cell x c hc;refine wpAny_storeName_cell I.ok.kind hk hc z (λ h' hc' hs=>?_);obtain ⟨oc,hoc,hocd⟩:=id z;refine h [38] ⟨I.ok,I.os,I.bare,⟨λ b o e n hb hx=>?_,λ b o e n hb hx=>?_,I.base.free,λ b o e hx=>?_,I.base.tups,I.base.frzs,I.base.tbls⟩,⟨m,hn.sameBut hs (Ne.symm (cne x c hc)),λ j y v' e1 e2 e3=>?_⟩,λ y c' e=>?_,I.free,I.freeC,λ p hp=>?_,tracked ⟨oc,hoc,I.freeC x c hc⟩ hs,by simpa using I.len⟩ ⟨c,hs,.inr hc⟩
  ·exact (hs.2 b (Nat.ne_of_lt (Nat.lt_of_lt_of_le (Heap.lt_size e) (I.ok.cab x c hfn hc)))).trans (I.base.keep b o e n hb hx)
  ·obtain ⟨sl,e1⟩:=I.base.slot b o e n hb hx;exact ⟨sl,(hs.2 b (Nat.ne_of_lt (Nat.lt_of_lt_of_le (Heap.lt_size e) (I.ok.cab x c hfn hc)))).trans e1⟩
  ·obtain ⟨o',e1⟩:=I.base.there b o e hx;exact ⟨o',(hs.2 b (Nat.ne_of_lt (Nat.lt_of_lt_of_le (Heap.lt_size e) (I.ok.cab x c hfn hc)))).trans e1⟩
  ·by_cases hj:j=i
   ·subst hj;rw [hi] at e1; cases e1;rw [List.getElem?_set_self hiσ] at e2;cases e2;exact ⟨u,r,.inr ⟨.inl hk,c,hc,hc'⟩⟩
   ·rw [List.getElem?_set_ne (Ne.symm hj)] at e2;obtain ⟨u',r',q⟩:=hl j y v' e1 e2 e3;refine ⟨u',r',?_⟩;rcases q with q | ⟨k,c',e,z'⟩
    ·exact .inl q
    ·refine .inr ⟨k,c',e,z'.sameBut hs ?_⟩;rintro rfl;exact hj (yh1 hN e1 (I.ok.inj _ _ _ e hc ▸ hi))
  ·by_cases hcc:c'=c
   ·subst hcc; exact ⟨_,hc'⟩
   ·obtain ⟨w2,z2⟩:=I.cell y c' e;exact ⟨w2,z2.sameBut hs hcc⟩
  ·obtain ⟨e,n,ne,nf,d⟩:=I.pin p hp;refine ⟨(hs.2 p.1 ?_).trans e,n,ne,nf,d⟩;intro q
   simp_all
theorem zf1 {E:[4]} {i:Nat} {x:Str} {v:V} {u:Value} {Q:Unit->Shared->Prop} (I:[7]) (hN:X.N.Nodup) (hi:X.N[i]?=some x) (hx:Loc X.env.scope x) (r:RelV v u)
    (h:∀ s',Inv X pins (σ.set i (some v)) H s'->Q () s') (hf:X.fn x=true \/ X.env.scope.names.lookup x=some .local:=by first | exact .inl rfl | exact .inr rfl | assumption):wpAny M A (storeName X.env x u) Q E s :=
 sv0 I hN hi hx r (λ s' I' _=>h s' I') hf
theorem Inv.call' (I:[7]) (ho:s'.os=s.os) (u:Un (frs X.stack) ch H H' s.heap s'.heap) (hok:HOk X.prog X.w H' s'.heap) (hg:AllBare s'.gens)
    (hch:[35]):Inv X pins σ H' s':=by
 obtain ⟨h',g',d',t',o'⟩:=s';have e:o'=s.os:=ho;subst e;exact I.call (g':=g') (t':=t') (d':=d') u hok hg hch
end
noncomputable abbrev XK:=Value->Option Addr->Hp->Prop
noncomputable abbrev St:=List (Option V)
noncomputable abbrev VK:=V->Hp->Prop
noncomputable abbrev TE:=St->Hp->VK->Prop
noncomputable abbrev TT:=St->Hp->(Bool->Hp->Prop)->Prop
noncomputable abbrev TA:=St->Hp->(List V->Hp->Prop)->Prop
structure Ends where
 nx:St->Hp->Prop
 rt:VK
 bk:St->Hp->Prop:=λ _ _=>False
 ct:St->Hp->Prop:=λ _ _=>False
noncomputable abbrev TS:=Ends->St->Hp->Prop
noncomputable def EP (X:Cx) (pins:[21]) (σ:St) (Q:VK) (u:Value) (s':Shared):Prop:=∃ v H',Inv X pins σ H' s' /\ RelV v u /\ Q v H'
noncomputable def TP (X:Cx) (pins:[21]) (σ:St) (Q:Bool->Hp->Prop) (b:Bool) (s':Shared):Prop:=∃ H',Inv X pins σ H' s' /\ Q b H'
noncomputable def AP (X:Cx) (pins:[21]) (σ:St) (Q:List V->Hp->Prop) (us:[29]) (s':Shared):Prop:=∃ vs H',Inv X pins σ H' s' /\ Vals vs us /\ Q vs H'
noncomputable def SP (X:Cx) (pins:[21]) (D:Ends) (f:Flow) (s':Shared):Prop :=
 match f with
 | .next=>∃ σ' H',Inv X pins σ' H' s' /\ D.nx σ' H'
 | .brk=>∃ σ' H',Inv X pins σ' H' s' /\ D.bk σ' H'
 | .cont=>∃ σ' H',Inv X pins σ' H' s' /\ D.ct σ' H'
 | .ret u=>∃ v σ' H',Inv X pins σ' H' s' /\ RelV v u /\ D.rt v H'
noncomputable def PE (X:Cx) (e:Expr) (t:TE):Prop :=
 ∀ (pins:[21]) (s:Shared) (σ:St) (H:Hp) (Q:VK),Inv X pins σ H s->t σ H Q->wpAny [13] X.A (eval e X.env) (EP X pins σ Q) X.xe s
noncomputable def PT (X:Cx) (e:Expr) (t:TT):Prop :=
 ∀ (pins:[21]) (s:Shared) (σ:St) (H:Hp) (Q:Bool->Hp->Prop),Inv X pins σ H s->t σ H Q->wpAny [13] X.A (isTrue e X.env (eval e X.env)) (TP X pins σ Q) X.xe s
noncomputable def PW (X:Cx) (e:Expr) (t:TT):Prop :=
 ∀ (whole:Sem Value) (pins:[21]) (s:Shared) (σ:St) (H:Hp) (Q:Bool->Hp->Prop),Inv X pins σ H s->t σ H Q->wpAny [13] X.A (isTrue e X.env whole) (TP X pins σ Q) X.xe s
theorem PW.pt {e:Expr} {t:TT} (h:PW X e t):PT X e t:=h _
noncomputable def PA (X:Cx) (es:List Expr) (t:TA):Prop :=
 ∀ (pos:Pos) (pins:[21]) (s:Shared) (σ:St) (H:Hp) (Q:List V->Hp->Prop),Inv X pins σ H s->t σ H Q->wpAny [13] X.A (spliced (backTo pos (starEach es X.env))) (AP X pins σ Q) X.xe s
noncomputable def PS (X:Cx) (st:Stmt) (t:TS):Prop :=
 ∀ (pins:[21]) (s:Shared) (σ:St) (H:Hp) (D:Ends),Inv X pins σ H s->t D σ H->wpAny [13] X.A (exec st X.env) (SP X pins D) X.xe s
noncomputable def PSs (X:Cx) (st:List Stmt) (t:TS):Prop :=
 ∀ (pins:[21]) (s:Shared) (σ:St) (H:Hp) (D:Ends),Inv X pins σ H s->t D σ H->wpAny [13] X.A (execs st X.env) (SP X pins D) X.xe s
theorem thn {α:Type} {t:Sem α} {Q Q':α->Shared->Prop} {E:[4]} (h:wpAny M A t Q E s) (hQ:∀ a s,Q a s->Q' a s):wpAny M A t Q' E s:=wpAny_mono h hQ λ _ _ x=>x
variable {Q:[4]} {ta tb:TE}
section
noncomputable def tVar (i:Nat):TE:=λ σ H Q=>∃ v,σ[i]?=some (some v) /\ Q v H
noncomputable def tC (v:V):TE:=λ _ H Q=>Q v H
theorem ts2 {i:Nat} {x:Str} {pos:Pos} (hN:X.N[i]?=some x) (hv:Vis X.env.scope x) (hd:(x == ("__debug__" : Str))=false:=by decide) (hcd:(x == ("__classdict__" : Str))=false:=by decide):PE X (.Name x pos) (tVar i):=by
 intro pins s σ H Q I h;obtain ⟨v,e,h⟩:=h;obtain ⟨m,hn,hl⟩:=I.loc;obtain ⟨u,r,l⟩:=hl i x v hN e hv;have fin:EP X pins σ Q u s:=⟨v,H,I,r,h⟩;rcases l with ⟨hk,hm⟩ | ⟨hk,c,hc,hcell⟩
 ·exact wpAny_Name (wpAny_loadName_local I.ok.kind hk hn hm fin) hd
 ·rcases hk with hk | hk
  ·exact wpAny_Name (wpAny_loadName_cell I.ok.kind hk hc hcell fin) hd
  ·exact wpAny_Name (wpAny_loadName_free I.ok.kind hk hc hcell fin hcd) hd
theorem tm4 {i j pos}:PE X (.Constant (.int i) j pos) (tC (.int i)):=λ _ _ _ H _ I h=>wpAny_Constant_int ⟨.int i,H,I.tok _,⟨_,rfl⟩,h⟩
theorem ui5 {b j pos}:PE X (.Constant (.bool b) j pos) (tC (.bl b)):=λ _ _ _ H _ I h=>Constant_bool ⟨.bl b,H,I,rfl,h⟩
theorem vm4 {j pos}:PE X (.Constant .none j pos) (tC .non):=λ _ _ _ H _ I h=>Constant_none ⟨.non,H,I,rfl,h⟩
noncomputable def Gl (X:Cx) (x:Str):Prop:=X.env.kindOf x=some .globalImplicit
theorem uu1 {E:[4]} {σ:St} {x:Str} {u:Value} {pos:Pos} (I:[7]) (hg:Gl X x) (hm:X.mg x=some u) (h:Q u s)
    (hd:(x == ("__debug__" : Str))=false:=by decide):wpAny [13] X.A (eval (.Name x pos) X.env) Q E s :=
 Calls.Name_function_global I.ok.kind hg (Calls.loadGlobal_global (by rw [I.ok.glob]; exact I.mod.glob.keeps I.bk) hm h) hd
theorem vn0 {E:[4]} {σ:St} {x:Str} {u:Value} {pos:Pos} (I:[7]) (hg:Gl X x) (hm:X.mg x=none) (hv:bootBuiltins x=some u) (h:Q u s)
    (hn:x ≠ "__name__" := by decide) (hd:(x == ("__debug__" : Str))=false:=by decide):wpAny [13] X.A (eval (.Name x pos) X.env) Q E s:=by
 obtain ⟨mb,h1,h2⟩:=I.mod.blt;exact Calls.Name_function_global I.ok.kind hg (Calls.loadGlobal_builtin (by rw [I.ok.glob]; exact I.mod.glob.keeps I.bk) hm (by rw [I.ok.blt]; exact h1.keeps I.bk) ((h2 x hn).trans hv) h) hd
theorem xe3 {x:Str} {v:V} {u:Value} {pos:Pos} (hg:Gl X x) (hm:X.mg x=some u) (r:RelV v u) (hd:(x == ("__debug__" : Str))=false:=by decide):PE X (.Name x pos) (tC v) :=
 λ _ _ _ H _ I h=>uu1 I hg hm ⟨v,H,I,r,h⟩ hd
variable {a b:Expr} {pos:Pos}
noncomputable def tB (t:TE):TT:=λ σ H Q=>t σ H λ x H1=>∃ c,x=.bl c /\ Q c H1
theorem tk4 {e:Expr} {t:TE} (h:PE X e t) (he:∀ whole,isTrue e X.env whole=(do let v <- whole; standAt e.pos; holding [v] (truthy v)):=by intro _; rfl):PT X e (tB t):=by
 intro pins s σ H Q I hw;refine isTrue_plain (thn (h pins s σ H _ I hw) λ v s1 ⟨x,H1,I1,r1,q1⟩=>?_) (he _);obtain ⟨d,rfl,q⟩:=q1;cases r1;exact wpAny_truthy_bool ⟨H1,I1,q⟩
variable {tA tB':TT} {rest:List Expr}
noncomputable def tAnd (t u:TT):TT:=λ σ H Q=>t σ H λ c H1=>if c=true then u σ H1 Q else Q false H1
noncomputable def tOr (t u:TT):TT:=λ σ H Q=>t σ H λ c H1=>if c=true then Q true H1 else u σ H1 Q
noncomputable def tNot (t:TT):TT:=λ σ H Q=>t σ H λ c H1=>Q (!c) H1
theorem wc3 (ha:PT X a tA):PW X (.BoolOp .And [a] pos) tA:=by
 intro wh pins s σ H Q I h;refine isTrue_and (thn (ha pins s σ H Q I h) λ c s1 e=>?_);cases c with
 | true=>exact isTrue_and_nil e
 | false=>exact e
theorem xk4 (ha:PT X a tA):PW X (.BoolOp .Or [a] pos) tA:=by
 intro wh pins s σ H Q I h;refine isTrue_or (thn (ha pins s σ H Q I h) λ c s1 e=>?_);cases c with
 | false=>exact isTrue_or_nil e
 | true=>exact e
theorem yk4 (ha:PT X a tA) (hb:PW X (.BoolOp .And (b :: rest) pos) tB'):PW X (.BoolOp .And (a :: b :: rest) pos) (tAnd tA tB'):=by
 intro wh pins s σ H Q I h;refine isTrue_and (thn (ha pins s σ H _ I h) λ c s1 ⟨H1,I1,q1⟩=>?_);cases c with
 | true=>exact hb wh pins s1 σ H1 Q I1 q1
 | false=>assumption
theorem sh5 (ha:PT X a tA) (hb:PW X (.BoolOp .Or (b :: rest) pos) tB'):PW X (.BoolOp .Or (a :: b :: rest) pos) (tOr tA tB'):=by
 intro wh pins s σ H Q I h;refine isTrue_or (thn (ha pins s σ H _ I h) λ c s1 ⟨H1,I1,q1⟩=>?_);cases c with
 | true=>assumption
 | false=>exact hb wh pins s1 σ H1 Q I1 q1
theorem sk4 (ha:PT X a tA):PT X (.UnaryOp .Not a pos) (tNot tA):=by
 intro pins s σ H Q I h;exact isTrue_not (ha pins s σ H (λ c H1=>Q (!c) H1) I h)
noncomputable def sw4 (ta tb:TE):TE:=λ σ H Q=>ta σ H λ x H1=>∃ c,x=.bl c /\ if c=true then tb σ H1 Q else Q (.bl false) H1
noncomputable def tOrV (ta tb:TE):TE:=λ σ H Q=>ta σ H λ x H1=>∃ c,x=.bl c /\ if c=true then Q (.bl true) H1 else tb σ H1 Q
noncomputable def yw4 (ta:TE):TE:=λ σ H Q=>ta σ H λ x H1=>∃ c,x=.bl c /\ Q (.bl (!c)) H1
theorem zm4 {op} {t:TE} (h:PE X a t):PE X (.BoolOp op [a] pos) t:=λ pins s σ H Q I hw=>BoolOp_one (h pins s σ H Q I hw)
theorem xn4 (ha:PE X a ta) (hb:PE X (.BoolOp .And (b :: rest) pos) tb):PE X (.BoolOp .And (a :: b :: rest) pos) (sw4 ta tb):=by
 intro pins s σ H Q I h;refine BoolOp_and (thn (ha pins s σ H _ I h) λ v s1 ⟨x,H1,I1,r1,q1⟩=>?_);obtain ⟨c,rfl,q1⟩:=q1;cases r1;refine wpAny_truthy_bool ?_;cases c with
 | true=>exact hb pins s1 σ H1 Q I1 q1
 | false=>exact ⟨.bl false,H1,I1,rfl,q1⟩
theorem zi5 (ha:PE X a ta) (hb:PE X (.BoolOp .Or (b :: rest) pos) tb):PE X (.BoolOp .Or (a :: b :: rest) pos) (tOrV ta tb):=by
 intro pins s σ H Q I h;refine BoolOp_or (thn (ha pins s σ H _ I h) λ v s1 ⟨x,H1,I1,r1,q1⟩=>?_);obtain ⟨c,rfl,q1⟩:=q1;cases r1;refine wpAny_truthy_bool ?_;cases c with
 | false=>exact hb pins s1 σ H1 Q I1 q1
 | true=>exact ⟨.bl true,H1,I1,rfl,q1⟩
theorem wm4 (ha:PE X a ta):PE X (.UnaryOp .Not a pos) (yw4 ta):=by
 intro pins s σ H Q I h;refine UnaryOp_ (thn (ha pins s σ H _ I h) λ v s1 ⟨x,H1,I1,r1,q1⟩=>?_);obtain ⟨c,rfl,q1⟩:=q1;cases r1;exact not_of (wpAny_truthy_bool ⟨.bl (!c),H1,I1,rfl,q1⟩)
noncomputable def tIf (t:TT) (ta tb:TE):TE:=λ σ H Q=>t σ H λ c H1=>if c=true then ta σ H1 Q else tb σ H1 Q
theorem yk2 {c:Expr} (hc:PT X c tA) (ha:PE X a ta) (hb:PE X b tb):PE X (.IfExp c a b pos) (tIf tA ta tb):=by
 intro pins s σ H Q I h;refine wpAny_IfExp (thn (hc pins s σ H _ I h) λ d s1 ⟨H1,I1,q1⟩=>?_);cases d with
 | true=>exact ha pins s1 σ H1 Q I1 q1
 | false=>exact hb pins s1 σ H1 Q I1 q1
end
noncomputable def SqL (K:PySem.W.Frag) (H:Hp) (a:Addr) (xs:List V):Prop :=
 Rd H a (.lst xs) ∨
  ∃ (o:Obj) (its:Array Value) (n:Nat),K.lookup a=some o /\ o.cls=.type "list" /\ o.dict=none /\ o.data=.seq its n /\ its.size<=sizeLine /\ Vals xs its.toList
noncomputable def SqT (K:PySem.W.Frag) (H:Hp) (a:Addr) (xs:List V):Prop :=
 Rd H a (.tup xs) ∨
  ∃ (o:Obj) (its:Array Value) (n:Nat),K.lookup a=some o /\ o.cls=.type "tuple" /\ o.data=.seq its n /\ its.size<=sizeLine /\ Vals xs its.toList
noncomputable def absV:Value->Option V
 | .none=>some .non
 | .bool b=>some (.bl b)
 | .int i _=>some (.int i)
 | .str x _=>some (.str x)
 | .bytes b _=>some (.byt b)
 | .float b _=>some (.flt b)
 | .ref a=>some (.ref a)
 | .type n=>some (.ty n)
 | _=>none
theorem RelV.abs {x:V} {u:Value} (r:RelV x u):absV u=some x:=by
 cases x with
 | non=>cases r; rfl
 | bl _=>cases r; rfl
 | int _=>obtain ⟨t,rfl⟩:=r; rfl
 | str _=>obtain ⟨t,rfl⟩:=r; rfl
 | byt _=>obtain ⟨t,rfl⟩:=r; rfl
 | flt _=>obtain ⟨t,rfl⟩:=r; rfl
 | ref _=>cases r; rfl
 | ty _=>cases r; rfl
theorem RelV.inj {x y:V} {u:Value} (r:RelV x u) (q:RelV y u):x=y:=Option.some.inj (r.abs.symm.trans q.abs)
theorem Vals.inj:∀ {xs ys:List V} {us:[29]},Vals xs us->Vals ys us->xs=ys
 | _,_,_,.nil,.nil=>rfl
 | _,_,_,.cons r t,.cons r' t'=>by rw [r.inj r',Vals.inj t t']
variable {K:PySem.W.Frag}
section
variable {σ:St} {a:Addr} {xs ys:List V}
theorem SqL.of (h:H a=some (.lst xs)):SqL K H a xs:=.inl (.inl h)
theorem SqT.of (h:H a=some (.tup xs)):SqT K H a xs:=.inl (.inl h)
theorem Inv.list (I:[7]) (h:SqL X.K H a xs):∃ its:List Value,Vals xs its /\ PlainL s.heap a its.toArray /\ xs.length<=sizeLine:=by
 rcases h with h | ⟨o,its,n,hk,hc,hd,hs,hz,r⟩
 ·obtain ⟨z,its,n,r,e⟩:=h.ok I.hok;exact ⟨its,r,⟨_,n,e,rfl,rfl,rfl⟩,z⟩
 ·refine ⟨its.toList,r,⟨o,n,I.kIn a o hk,hc,hd,by simpa using hs⟩,?_⟩;have e:=r.length
  simp_all
theorem Inv.tuple (I:[7]) (h:SqT X.K H a xs):∃ its:List Value,Vals xs its /\ IsTup s.heap a its.toArray /\ xs.length<=sizeLine:=by
 rcases h with h | ⟨o,its,n,hk,hc,hs,hz,r⟩
 ·obtain ⟨z,its,r,p⟩:=h.ok I.hok;exact ⟨its,r,p,z⟩
 ·refine ⟨its.toList,r,⟨o,I.kIn a o hk,hc,n,by simpa using hs⟩,?_⟩;have e:=r.length
  simp_all
theorem Inv.list_inj (I:[7]) (h:SqL X.K H a xs) (h':SqL X.K H a ys):xs=ys:=by
 obtain ⟨its,r,⟨o,n,e,_,_,d⟩,_⟩:=I.list h;obtain ⟨its',r',⟨o',n',e',_,_,d'⟩,_⟩:=I.list h';rw [e] at e'; cases e';rw [d] at d';injection d' with d1 _
 have:its=its':=by simp_all
 subst this;exact r.inj r'
theorem Inv.tuple_inj (I:[7]) (h:SqT X.K H a xs) (h':SqT X.K H a ys):xs=ys:=by
 obtain ⟨its,r,⟨o,e,_,n,d⟩,_⟩:=I.tuple h;obtain ⟨its',r',⟨o',e',_,n',d'⟩,_⟩:=I.tuple h';rw [e] at e'; cases e';rw [d] at d';injection d' with d1 _
 have:its=its':=by simp_all
 subst this;exact r.inj r'
end
noncomputable abbrev Cx.wish (X:Cx) (E:[4]):Cx:={ X with xe:=E }
noncomputable abbrev Cx.nox (X:Cx):Cx:=X.wish λ _ _=>False
theorem Cx.Ok.wish {X:Cx} (ok:X.Ok) (E:[4]):(X.wish E).Ok :=
 ⟨ok.mod,ok.kind,ok.glob,ok.blt,ok.above,ok.inj,ok.has,ok.cab,ok.hd,ok.frames,ok.stk,ok.exf,ok.bs,ok.bsz,ok.noex,ok.exfs,ok.funs,ok.frf⟩
theorem Cx.Ok.unwish {E:[4]} (ok:(X.wish E).Ok):X.Ok :=
 ⟨ok.mod,ok.kind,ok.glob,ok.blt,ok.above,ok.inj,ok.has,ok.cab,ok.hd,ok.frames,ok.stk,ok.exf,ok.bs,ok.bsz,ok.noex,ok.exfs,ok.funs,ok.frf⟩
section
variable {σ:St} {E:[4]}
theorem Inv.wish (I:[7]) (E:[4]):Inv (X.wish E) pins σ H s:=⟨I.ok.wish E,I.os,I.bare,I.base,I.loc,I.cell,I.free,I.freeC,I.pin,I.hok,I.len⟩
theorem Inv.unwish (I:Inv (X.wish E) pins σ H s):Inv X pins σ H s:=⟨I.ok.unwish,I.os,I.bare,I.base,I.loc,I.cell,I.free,I.freeC,I.pin,I.hok,I.len⟩
theorem SP.unwish {D:Ends} {f:Flow} {s':Shared} (h:SP (X.wish E) pins D f s'):SP X pins D f s':=by
 cases f with
 | next=>obtain ⟨σ',H',I,q⟩:=h; exact ⟨σ',H',I.unwish,q⟩
 | brk=>obtain ⟨σ',H',I,q⟩:=h; exact ⟨σ',H',I.unwish,q⟩
 | cont=>obtain ⟨σ',H',I,q⟩:=h; exact ⟨σ',H',I.unwish,q⟩
 | ret u=>obtain ⟨v,σ',H',I,r,q⟩:=h; exact ⟨v,σ',H',I.unwish,r,q⟩
theorem PSs.nox {st:List Stmt} {t:TS} (h:PSs X.nox st t):PSs X st t:=λ pins s σ H D I hw =>
 wpAny_mono (h pins s σ H D (I.wish _) hw) (λ _ _ q=>q.unwish) λ _ _ z=>False.elim z
end
variable {te:TE}
section
variable {st:Stmt} {rest:List Stmt} {t u:TS} {e:Expr} {pos:Pos}
noncomputable def zw4:TS:=λ D σ H=>D.nx σ H
noncomputable def tSeq (t u:TS):TS:=λ D σ H=>t { D with nx:=u D } σ H
theorem zd3:PSs X [] zw4:=λ _ _ σ H _ I h=>wpAny_execs_nil ⟨σ,H,I,h⟩
theorem vj2 (h1:PS X st t) (h2:PSs X rest u):PSs X (st :: rest) (tSeq t u):=by
 intro pins s σ H D I h;refine wpAny_execs_cons (thn (h1 pins s σ H { D with nx:=u D } I h) λ f s1 q=>?_);cases f with
 | next =>
  obtain ⟨σ',H',I',q⟩:=q;exact h2 pins s1 σ' H' D I' q
 | ret v=>exact q
 | brk=>exact q
 | cont=>exact q
theorem yd3 (h1:PS X st t):PSs X [st] t:=by
 intro pins s σ H D I h;refine wpAny_execs_cons (thn (h1 pins s σ H D I h) λ f s1 q=>?_);cases f with
 | next=>exact wpAny_execs_nil q
 | ret v=>exact q
 | brk=>exact q
 | cont=>exact q
theorem Inv.quiet {σ:St} (I:[7]):interactive X.env=false:=by simp [interactive,I.ok.kind]
noncomputable def ww4 (te:TE):TS:=λ D σ H=>te σ H λ _ H1=>D.nx σ H1
theorem vd3 (he:PE X e te) (hs:swapsWith e none pos.line X.env=pure false:=by rfl):PS X (.Expr e pos) (ww4 te):=by
 intro pins s σ H D I h;exact wpAny_Expr_any (thn (he pins s σ H _ I h) λ v s1 ⟨x,H1,I1,r1,q1⟩=>⟨σ,H1,I1,q1⟩) I.quiet hs
noncomputable def tRet (te:TE):TS:=λ D σ H=>te σ H D.rt
theorem xl4 (he:PE X e te):PS X (.Return (some e) pos) (tRet te):=by
 intro pins s σ H D I h;exact wpAny_Return_some (thn (he pins s σ H _ I h) λ v s1 ⟨x,H1,I1,r1,q1⟩=>⟨x,σ,H1,I1,r1,q1⟩)
noncomputable def tIfS (c:TT) (t u:TS):TS:=λ D σ H=>c σ H λ b H1=>if b=true then t D σ H1 else u D σ H1
theorem xi5 {c:Expr} {a b:List Stmt} {tc:TT} (hc:PT X c tc) (ha:PSs X a t) (hb:PSs X b u):PS X (.If c a b pos) (tIfS tc t u):=by
 intro pins s σ H D I h;refine wpAny_If (thn (hc pins s σ H _ I h) λ d s1 ⟨H1,I1,q1⟩=>?_);cases d with
 | true=>exact ha pins s1 σ H1 D I1 q1
 | false=>exact hb pins s1 σ H1 D I1 q1
noncomputable def su3:TS:=λ _ _ _=>False
theorem tj2:PS X st su3:=λ _ _ _ _ _ _ h=>h.elim
end
noncomputable abbrev TG:=V->St->Hp->(St->Hp->Prop)->Prop
noncomputable def PG (X:Cx) (target:Expr) (t:TG):Prop :=
 ∀ (pins:[21]) (s:Shared) (σ:St) (H:Hp) (v:V) (u:Value) (Q:St->Hp->Prop),Inv X pins σ H s->RelV v u->t v σ H Q ->
  wpAny [13] X.A (assign target X.env u) (λ _ s'=>∃ σ' H',Inv X pins σ' H' s' /\ Q σ' H') X.xe s
noncomputable abbrev TSet:=V->V->V->Hp->(Hp->Prop)->Prop
noncomputable def PSet (X:Cx) (t:TSet):Prop :=
 ∀ (pins:[21]) (s:Shared) (σ:St) (H:Hp) (o i v:V) (ov iv u:Value) (Q:Hp->Prop),Inv X pins σ H s->RelV o ov->RelV i iv->RelV v u->t o i v H Q ->
  wpAny [13] X.A (setItem ov iv u) (λ _ s'=>∃ H',Inv X pins σ H' s' /\ Q H') X.xe s
variable {tg:Expr} {g:TG}
section
variable {pos:Pos}
noncomputable def xj3 (i:Nat):TG:=λ v σ H Q=>Q (σ.set i (some v)) H
theorem td3 {i:Nat} {x:Str} (hN:X.N.Nodup) (hi:X.N[i]?=some x) (hx:Loc X.env.scope x) (hf:X.fn x=true \/ X.env.scope.names.lookup x=some .local:=by first | exact .inl rfl | exact .inr rfl | assumption):PG X (.Name x pos) (xj3 i):=by
 intro pins s σ H v u Q I r h;exact wpAny_assign_Name (zf1 I hN hi hx r (λ s' I'=>⟨_,H,I',h⟩) hf)
noncomputable def gSub (to ti:TE) (t:TSet):TG:=λ v σ H Q=>to σ H λ o H1=>ti σ H1 λ i H2=>t o i v H2 λ H3=>Q σ H3
theorem xm4 {o i:Expr} {to ti:TE} {t:TSet} (ho:PE X o to) (hi:PE X i ti) (hs:PSet X t)
    (ha:∀ v,assign (.Subscript o i pos) X.env v=(do
     let ov <- holding [v] (eval o X.env)
     let iv <- holding [v,ov] (eval i X.env)
     standAt pos
     holding [v,ov,iv] (setItem ov iv v)
     release [v,ov,iv] []):=by intro _; rfl):PG X (.Subscript o i pos) (gSub to ti t):=by
 intro pins s σ H v u Q I r h;rw [ha];refine wpAny_bind (wpAny_holding (thn (ho pins s σ H _ I h) λ ov s1 ⟨x,H1,I1,r1,q1⟩=>?_));refine wpAny_bind (wpAny_holding (thn (hi pins s1 σ H1 _ I1 q1) λ iv s2 ⟨y,H2,I2,r2,q2⟩=>?_));refine wpAny_bind (wpAny_standAt (wpAny_bind (wpAny_holding (thn (hs pins s2 σ H2 x y v ov iv u _ I2 r1 r2 r q2) λ _ s3 ⟨H3,I3,q3⟩=>?_))));exact wpAny_release ⟨σ,H3,I3,q3⟩
noncomputable def tAsg (te:TE) (g:TG):TS:=λ D σ H=>te σ H λ x H1=>g x σ H1 D.nx
theorem zl4 {e:Expr} (he:PE X e te) (hg:PG X tg g) (hs:swapsWithSole [tg] e pos.line X.env=pure false:=by rfl) (hw:swappedStores [tg] e X.env=pure none:=by rfl)
    (h1:(assignEach [tg] X.env).map (·.2)=[assign tg X.env]:=by rfl):PS X (.Assign [tg] e pos) (tAsg te g):=by
 intro pins s σ H D I h;refine wpAny_Assign_stores (thn (he pins s σ H _ I h) λ v s1 ⟨x,H1,I1,r1,q1⟩=>?_) hs hw;rw [h1];exact thn (hg pins s1 σ H1 x v _ I1 r1 q1) λ _ s2 q=>q
theorem vr1 {i:Nat} {x:Str} {e:Expr} {pos':Pos} (hN:X.N.Nodup) (hi:X.N[i]?=some x) (hx:Loc X.env.scope x) (he:PE X e te) (hs:swapsWith e (some (.Name x pos')) pos.line X.env=pure false:=by rfl) (hf:X.fn x=true \/ X.env.scope.names.lookup x=some .local:=by first | exact .inl rfl | exact .inr rfl | assumption) :
    PS X (.Assign [.Name x pos'] e pos) (tAsg te (xj3 i)):=by
 intro pins s σ H D I h;refine wpAny_Assign_Name (thn (he pins s σ H _ I h) λ v s1 ⟨y,H1,I1,r1,q1⟩=>?_) hs;exact zf1 I1 hN hi hx r1 (λ s2 I2=>⟨_,H1,I2,q1⟩) hf
end
variable {body:List Stmt}
section
variable {pos:Pos}
noncomputable def uu3 (c:TT) (tb:TS):TS:=λ D σ H=>∃ W:Nat->St->Hp->Prop,(∃ m,W m σ H) /\ ∀ m σ H,W m σ H ->
 c σ H λ b H1=>if b=true then ∃ N:St->Hp->Prop,(∀ σ' H',N σ' H'->∃ m',m' < m /\ W m' σ' H') /\ tb { D with nx:=N,ct:=N,bk:=D.nx } σ H1 else D.nx σ H1
theorem uj2 {c:Expr} {tc:TT} {tb:TS} (hp:PassesOwn [13] X.A X.env X.xe) (hc:PT X c tc) (hb:PSs X body tb):PS X (.While c body [] pos) (uu3 tc tb):=by
 intro pins s σ H D I h;obtain ⟨W,⟨m0,w0⟩,turn⟩:=h;refine wpAny_While (codeAny_whileLoop (λ n s'=>∃ σ' H',Inv X pins σ' H' s' /\ W n σ' H') ?_ m0 ⟨σ,H,I,w0⟩);rintro n s1 ⟨σ1,H1,I1,w1⟩;refine wpAny_passesOwn hp (thn (hc pins s1 σ1 H1 _ I1 (turn n σ1 H1 w1)) λ b s2 ⟨H2,I2,q2⟩=>?_);cases b with
 | true =>
  obtain ⟨N,hN,q2⟩:=q2;rw [if_pos rfl];refine wpAny_passesOwn hp (thn (hb pins s2 σ1 H2 _ I2 q2) λ f s3 q3=>?_);cases f with
  | next =>
   obtain ⟨σ3,H3,I3,n3⟩:=q3;obtain ⟨m',hm,w3⟩:=hN σ3 H3 n3;exact ⟨m',hm,σ3,H3,I3,w3⟩
  | cont =>
   obtain ⟨σ3,H3,I3,n3⟩:=q3;obtain ⟨m',hm,w3⟩:=hN σ3 H3 n3;exact ⟨m',hm,σ3,H3,I3,w3⟩
  | brk=>exact q3
  | ret v=>exact q3
 | false =>
  rw [if_neg Bool.false_ne_true];exact wpAny_execs_nil ⟨σ1,H2,I2,q2⟩
end
structure It where
 go:Nat->Hp->Prop
 yld:Nat->Hp->V->Hp->Prop
 stop:Nat->Hp->Prop
noncomputable def FpOk (X:Cx) (pins:[21]) (H:Hp) (b:Addr):Prop :=
 H b=none /\ b ≠ X.env.locals /\ b ∉ X.fs /\ (b ∈ X.ex \/ X.s₀.heap.objs.size<=b) /\ (∀ x c,X.env.cells.lookup x=some c->c ≠ b) /\ ∀ p ∈ X.pn ++ pins,p.1 ≠ b
theorem Inv.fpOk {σ:St} {b:Addr} (I:[7]) (hb:s.heap.objs.size<=b) (hn:H' b=none):FpOk X pins H' b:=by
 refine ⟨hn,Nat.ne_of_gt (Nat.lt_of_lt_of_le I.lt hb),I.nofs hb,.inr (Nat.le_trans I.sz hb),λ x c e z=>?_,λ p hp z=>?_⟩
 ·obtain ⟨v,q⟩:=I.cell x c e;exact absurd (Nat.lt_of_lt_of_le q.lt (by rw [z]; exact hb)) (Nat.lt_irrefl _)
 ·exact absurd (Nat.lt_of_lt_of_le (Heap.lt_size (I.pin p hp).1) (by rw [z]; exact hb)) (Nat.lt_irrefl _)
structure Turn (P:Program) (w:World) (K:PySem.W.Frag) (tg:Expr) (J:It) (fp:List Addr) (it:Addr) (tn:Nat->Heap->Prop):Prop where
 mem:it ∈ fp
 obj:∀ i h,tn i h->∀ b ∈ fp,∃ o,h.get? b=some o /\ ∀ v,o.data ≠ .cell v
 keep:∀ i h h',tn i h->(∀ b ∈ fp,∀ o,h.get? b=some o->h'.get? b=some o)->tn i h'
 item:∀ (X:Cx),X.prog=P->X.w=w->X.K=K->X.calm=true->∀ (i:Nat) (pins:List (Addr × Obj)) (s:Shared) (σ:St) (H:Hp) (E:Value->Shared->Prop),Inv X pins σ H s->(∀ b ∈ fp,FpOk X pins H b)->tn i s.heap->J.go i H ->
  wpAny (model P w) X.A (pyNext (.ref it)) (λ r s1=>∃ u,r=some u ∧
   wpAny (model P w) X.A (letOwnedTupleGo tg (.ref it) u) (λ _ s2=>∃ x H',Inv X pins σ H' s2 /\ RelV x u /\ J.yld i H x H' /\ tn (i + 1) s2.heap /\ ∀ b ∈ fp,H' b=none) E s1) E s
 done:∀ (X:Cx),X.prog=P->X.w=w->X.K=K->X.calm=true->∀ (i:Nat) (pins:List (Addr × Obj)) (s:Shared) (σ:St) (H:Hp) (E:Value->Shared->Prop),Inv X pins σ H s->(∀ b ∈ fp,FpOk X pins H b)->tn i s.heap->J.stop i H ->
  wpAny (model P w) X.A (pyNext (.ref it)) (λ r s1=>r=none /\ Inv X pins σ H s1) E s
 self:∀ (A:Around) (i:Nat) (s:Shared) (Q:Value->Shared->Prop) (E:Value->Shared->Prop),tn i s.heap->Q (.ref it) s->wpAny (model P w) A (pyIter (.ref it)) Q E s
noncomputable abbrev TI:=St->Hp->(It->Hp->Prop)->Prop
noncomputable def PIE (X:Cx) (pins:[21]) (σ:St) (tg:Expr) (R:It->Hp->Prop) (itv:Value) (s2:Shared):Prop :=
 ∃ (it:Addr) (fp:List Addr) (tn:Nat->Heap->Prop) (J:It) (H':Hp),itv=.ref it /\ Inv X pins σ H' s2 /\ Turn X.prog X.w X.K tg J fp it tn /\ tn 0 s2.heap /\ (∀ b ∈ fp,FpOk X pins H' b) /\ R J H'
noncomputable def PI (X:Cx) (tg iter:Expr) (wi:TI):Prop :=
 ∀ (pins:[21]) (s:Shared) (σ:St) (H:Hp) (R:It->Hp->Prop),Inv X pins σ H s->wi σ H R ->
  wpAny [13] X.A (eval iter X.env) (λ v s1=>wpAny [13] X.A (pyIter v) (PIE X pins σ tg R) X.xe s1) X.xe s
theorem sl1 {E:[4]} {u:Value} {o:Obj} {n:String} {vs:Array Value} {Q:Unit->Shared->Prop} (ho:s.heap.get? it=some o) (hc:o.cls=.type n) (hd:o.data=.fields vs)
    (hn:["enumerate", "zip", "dict_itemiterator", "dict_reverseitemiterator", "odict_iterator", "itertools.zip_longest", "itertools.pairwise"].contains n=false) (hQ:Q () s):wpAny M A (letOwnedTupleGo tg (.ref it) u) Q E s:=by
 unfold letOwnedTupleGo
 cases tg <;> first
  | exact wpAny_pure hQ
  | (cases u <;> first
      | exact wpAny_pure hQ
      | (refine wpAny_bind (wpAny_load ho ?_)
         rw [hc,hd];show wpAny M A (if (["enumerate", "zip", "dict_itemiterator", "dict_reverseitemiterator", "odict_iterator", "itertools.zip_longest", "itertools.pairwise"].contains n && vs[0]? == some (rawInt _))=true then _ else _) Q E s;rw [if_neg [16]];exact wpAny_pure hQ))
noncomputable def Itl (K:PySem.W.Frag) (a:Addr):It :=
 ⟨λ i H=>∃ xs x,SqL K H a xs /\ xs[i]?=some x,λ i H x H'=>H'=H /\ ∀ xs,SqL K H a xs->xs[i]?=some x,λ i H=>∃ xs,SqL K H a xs /\ xs.length<=i⟩
noncomputable def Itt (K:PySem.W.Frag) (a:Addr):It :=
 ⟨λ i H=>∃ xs x,SqT K H a xs /\ xs[i]?=some x,λ i H x H'=>H'=H /\ ∀ xs,SqT K H a xs->xs[i]?=some x,λ i H=>∃ xs,SqT K H a xs /\ xs.length<=i⟩
noncomputable def Itr (lo:Int) (n:Nat):It:=⟨λ i _=>i < n,λ i H x H'=>H'=H /\ x=.int (lo + i),λ i _=>n<=i⟩
theorem zn1 {P:Program} {w:World} (a it:Addr):Turn P w K tg (Itl K a) [it] it (λ i h=>h.IsListIter it a i) where
 mem:=by simp
 obj:=λ i h st b hb=>by
  have e:b=it:=by simpa using hb
  subst e;obtain ⟨o,e,c,d⟩:=st
  simp_all
 keep:=λ i h h' st k=>st.at λ o e=>k it [10] o e
 item:=by
  intro X hP hw hK hc i pins s σ H E I hf st hg;subst hP hw hK;obtain ⟨xs,x,hq,hx⟩:=hg;obtain ⟨its,rv,p,hz⟩:=I.list hq;obtain ⟨u,hu,ru⟩:=rv.get hx;obtain ⟨f0,f1,f2,f3,f4,f5⟩:=hf it [10];refine wpAny_pyNext_list_item st p.isList (x:=u) (by simpa using hu) λ h' st' sb=>?_;have I1:Inv X pins σ H [38]:=I.turned (t':=s.toks) (λ b o hb e=>(sb.2 b hb).trans e) f0 f1 f3 f4 f5;obtain ⟨o,e,c,d⟩:=id st';exact ⟨u,rfl,sl1 (s:=[38]) e c d [19] ⟨x,H,I1,ru,⟨rfl,λ ys hy=>by rw [I.list_inj hy hq]; exact hx⟩,st',λ b hb=>(hf b hb).1⟩⟩
 done:=by
  intro X hP hw hK hc i pins s σ H E I hf st hg;subst hP hw hK;obtain ⟨xs,hq,hx⟩:=hg;obtain ⟨its,rv,p,hz⟩:=I.list hq;obtain ⟨f0,f1,f2,f3,f4,f5⟩:=hf it [10];have hl:=rv.length;exact wpAny_pyNext_list_end (I.ok.hd hc) st p.isList (by simp; omega) λ h' eb=>⟨rfl,I.turned (t':=s.toks) (λ b o hb e=>eb b o hb e) f0 f1 f3 f4 f5⟩
 self:=λ _ _ _ _ _ st h=>wpAny_pyIter_listiter st h
theorem zk1 {P:Program} {w:World} (a it:Addr):Turn P w K tg (Itt K a) [it] it (λ i h=>h.IsTupleIter it a i) where
 mem:=by simp
 obj:=λ i h st b hb=>by
  have e:b=it:=by simpa using hb
  subst e;obtain ⟨o,e,c,d⟩:=st
  simp_all
 keep:=λ i h h' st k=>st.at λ o e=>k it [10] o e
 item:=by
  intro X hP hw hK hc i pins s σ H E I hf st hg;subst hP hw hK;obtain ⟨xs,x,hq,hx⟩:=hg;obtain ⟨its,rv,p,hz⟩:=I.tuple hq;obtain ⟨u,hu,ru⟩:=rv.get hx;obtain ⟨f0,f1,f2,f3,f4,f5⟩:=hf it [10];refine wpAny_pyNext_tuple_item st (show s.heap.IsTuple a its.toArray from p) (x:=u) (by simpa using hu) λ h' st' sb=>?_;have I1:Inv X pins σ H [38]:=I.turned (t':=s.toks) (λ b o hb e=>(sb.2 b hb).trans e) f0 f1 f3 f4 f5;obtain ⟨o,e,c,d⟩:=id st';exact ⟨u,rfl,sl1 (s:=[38]) e c d [19] ⟨x,H,I1,ru,⟨rfl,λ ys hy=>by rw [I.tuple_inj hy hq]; exact hx⟩,st',λ b hb=>(hf b hb).1⟩⟩
 done:=by
  intro X hP hw hK hc i pins s σ H E I hf st hg;subst hP hw hK;obtain ⟨xs,hq,hx⟩:=hg;obtain ⟨its,rv,p,hz⟩:=I.tuple hq;obtain ⟨f0,f1,f2,f3,f4,f5⟩:=hf it [10];have hl:=rv.length;exact wpAny_pyNext_tuple_end (I.ok.hd hc) st (show s.heap.IsTuple a its.toArray from p) (by simp; omega) λ h' eb=>⟨rfl,I.turned (t':=s.toks) (λ b o hb e=>eb b o hb e) f0 f1 f3 f4 f5⟩
 self:=λ _ _ _ _ _ st h=>wpAny_pyIter_tupleiter st h
theorem wk1 {P:Program} {w:World} (it:Addr) (lo:Int) (n:Nat):Turn P w K tg (Itr lo n) [it] it (λ i h=>IsRangeIter h it (lo + (i:Nat) * 1) ((n:Int) - (i:Nat)) 1) where
 mem:=by simp
 obj:=λ i h st b hb=>by
  simp_all
 keep:=λ i h h' st k=>k it [10] _ st
 item:=by
  intro X hP hw hK hc i pins s σ H E I hf st hg;subst hP hw hK;obtain ⟨f0,f1,f2,f3,f4,f5⟩:=hf it [10];have W:=Walks.range (prog:=X.prog) (w:=X.w) (I.ok.hd hc) it lo 1 n;refine W.item i s _ _ hg st λ v h' tk hv st' kk=>?_;obtain ⟨t,rfl⟩:=hv;have I1:Inv X pins σ H [15]:=I.turned (λ b o hb e=>kk b o (by simpa using hb) e) f0 f1 f3 f4 f5;refine ⟨_,rfl,sl1 (s:=[15]) (n := "range_iterator") st' rfl rfl [19] ⟨.int (lo + i),H,I1,⟨t,?_⟩,⟨rfl,rfl⟩,st',λ b hb=>(hf b hb).1⟩⟩;rw [Int.mul_one]
 done:=by
  intro X hP hw hK hc i pins s σ H E I hf st hg;subst hP hw hK;obtain ⟨f0,f1,f2,f3,f4,f5⟩:=hf it [10];exact wpAny_pyNext_range_end (I.ok.hd hc) st (by have:n<=i:=hg; omega) λ h' eb=>⟨rfl,I.turned (t':=s.toks) (λ b o hb e=>eb b o hb e) f0 f1 f3 f4 f5⟩
 self:=λ _ _ _ _ _ st h=>wpAny_pyIter_rangeiter st h
variable {p:Pos} {fp:List Addr}
section
theorem sg1 {σ:St} {R:It->Hp->Prop} {E:[4]} {lo hi:Int} {t u v:Tok} {tk:Nat} (I:[7]) (h1 : -(2 ^ 62)<=lo) (h2:lo < 2 ^ 62) (h3 : -(2 ^ 62)<=hi) (h4:hi < 2 ^ 62)
    (q:R (Itr lo (hi - lo).toNat) H):wpAny [13] X.A (pyIter (.ref s.heap.objs.size)) (PIE X pins σ tg R) E { s with heap:=s.heap.push [34],toks:=tk }:=by
 refine wpAny_pyIter_range (IsRange.new ..) (small_one h1 h2 h3 h4) ?_;have I1:Inv X pins σ H { s with heap:=s.heap.push [34],toks:=tk }:=I.kept λ b o e=>Heap.get?_push_of_some _ e
 refine ⟨(s.heap.push [34]).objs.size,[(s.heap.push [34]).objs.size],_,_,H,rfl,
  I1.kept (t':=tk) λ b o e=>Heap.get?_push_of_some _ e,wk1 _ lo (hi - lo).toNat,?_,λ b hb=>?_,q⟩
 ·have e1:lo + ((0:Nat):Int) * 1=lo:=by simp
  have e2:(((hi - lo).toNat:Nat):Int) - ((0:Nat):Int)=Builtin.Range.rangeSize lo hi 1:=by rw [rangeSize_one]; split <;> omega
  show IsRangeIter _ _ (lo + ((0:Nat):Int) * 1) ((((hi - lo).toNat:Nat):Int) - ((0:Nat):Int)) 1;rw [e1,e2];exact Heap.get?_push_size _ rfl
 ·have e:b=(s.heap.push [34]).objs.size:=by simpa using hb
  subst e;exact I1.fpOk [26] (I1.hok.fresh [26])
noncomputable def uk5 (ta:TA):TI:=λ σ H R=>ta σ H λ vs H1=>∃ j:Int,vs=[.int j] /\ -(2 ^ 62)<=j /\ j < 2 ^ 62 /\ R (Itr 0 j.toNat) H1
noncomputable def vk5 (ta:TA):TI:=λ σ H R=>ta σ H λ vs H1=>∃ i j:Int,vs=[.int i,.int j] /\ (-(2 ^ 62)<=i /\ i < 2 ^ 62 /\ -(2 ^ 62)<=j /\ j < 2 ^ 62) /\ R (Itr i (j - i).toNat) H1
theorem ws1 {a:Expr} {ta:TA} {pos:Pos} (hg:Gl X "range") (hm:X.mg "range" = none) (ha:PA X [a] ta) (hs:starEach [a] X.env=[(false,eval a X.env)]:=by rfl):PI X tg (.Call (.Name "range" p) [a] [] pos) (uk5 ta):=by
 intro pins s σ H R I h;refine Call_ (vn0 I hg hm boot_range (PyProof.Rows.callWith_type1 (thn (ha pos pins s σ H _ I h) λ us s1 ⟨vs,H1,I1,r1,q1⟩=>?_) hs rfl));obtain ⟨j,e,q1,q2,q⟩:=q1;subst e;cases r1 with
 | cons r rr =>
  cases rr;obtain ⟨t,rfl⟩:=r;exact call_range_1 (sg1 I1 [2] [2] q1 q2 (by simpa using q))
theorem zs1 {a b:Expr} {ta:TA} {pos:Pos} (hg:Gl X "range") (hm:X.mg "range" = none) (ha:PA X [a,b] ta) (hs:starEach [a,b] X.env=[(false,eval a X.env),(false,eval b X.env)]:=by rfl) (hs2:starEach [b] X.env=[(false,eval b X.env)]:=by rfl) :
    PI X tg (.Call (.Name "range" p) [a,b] [] pos) (vk5 ta):=by
 intro pins s σ H R I h;refine Call_ (vn0 I hg hm boot_range (PyProof.Rows.callWith_type1 (thn (ha pos pins s σ H _ I h) λ us s1 ⟨vs,H1,I1,r1,q1⟩=>?_) (by rw [hs,hs2]) (by rw [hs2]; rfl)));obtain ⟨i,j,e,⟨q1,q2,q3,q4⟩,q⟩:=q1;subst e;cases r1 with
 | cons r rr =>
  cases rr with
  | cons r' rr =>
   cases rr;obtain ⟨t,rfl⟩:=r;obtain ⟨t',rfl⟩:=r';exact call_range_2 (sg1 I1 q1 q2 q3 q4 q)
noncomputable def tFor (wi:TI) (g:TG) (tb:TS):TS:=λ D σ H=>wi σ H λ J H1=>∃ W:Nat->Nat->St->Hp->Prop,(∃ m,W 0 m σ H1) /\ ∀ i m σ H,W i m σ H ->
 (J.stop i H /\ D.nx σ H) \/ (J.go i H /\ ∃ N:St->Hp->Prop,(∀ σ' H',N σ' H'->∃ m',m' < m /\ W (i + 1) m' σ' H') /\ ∀ x H',J.yld i H x H'->g x σ H' λ σ2 H2=>tb { D with nx:=N,ct:=N,bk:=D.nx } σ2 H2)
noncomputable def vx0 (fp:List Addr) (h:Heap):List (Addr × Obj):=fp.filterMap λ b=>(h.get? b).map λ o=>(b,o)
theorem yh0 {b:Addr} {o:Obj} (hb:b ∈ fp) (e:h.get? b=some o):(b,o) ∈ vx0 fp h:=List.mem_filterMap.mpr ⟨b,hb,by rw [e]; rfl⟩
theorem zt1 {p:Addr × Obj} (hp:p ∈ vx0 fp h):p.1 ∈ fp /\ h.get? p.1=some p.2:=by
 obtain ⟨b,hb,e⟩:=List.mem_filterMap.mp hp;cases q:h.get? b with
 | none=>simp_all
 | some o =>
  rw [q] at e;have e':(b,o)=p:=Option.some.inj e;subst e';exact ⟨hb,q⟩
theorem Inv.pinned {σ:St} (I:[7]) (hf:∀ b ∈ fp,FpOk X pins H b) (ho:∀ b ∈ fp,∃ o,s.heap.get? b=some o /\ ∀ v,o.data ≠ .cell v):Inv X (pins ++ vx0 fp s.heap) σ H s :=
 I.pins_of λ p hp=>(List.mem_append.mp hp).elim (λ z=>I.pin p (mem_append_right _ z)) λ z=>by
  obtain ⟨hb,e⟩:=zt1 z;obtain ⟨f0,f1,f2,_⟩:=hf p.1 hb;obtain ⟨o,e',d⟩:=ho p.1 hb
  simp_all
theorem Inv.unpinned {pl:[21]} {σ:St} (I:Inv X (pins ++ pl) σ H s):Inv X pins σ H s:=I.pins_of λ p hp=>I.pin p (mem_append_right _ (mem_append_left _ hp))
theorem yl4 {iter:Expr} {wi:TI} {tb:TS} {pos:Pos} (hp:PassesOwn [13] X.A X.env X.xe) (hc:X.calm=true) (hi:PI X tg iter wi) (hg:PG X tg g) (hb:PSs X body tb)
    (hs:∀ x,foldedSetIterable iter X.env x=pure x:=by intro _; rfl):PS X (.For tg iter body [] pos) (tFor wi g tb):=by
 intro pins s σ H D I h;refine wpAny_For (thn (hi pins s σ H _ I h) λ v s1 h1=>thn h1 λ itv s2 h2=>?_) hs;obtain ⟨it,fp,tn,J,H2,e,I2,T,st2,f2,W,⟨m0,w0⟩,turn⟩:=h2;subst e;have stat:∀ {H':Hp},(∀ b ∈ fp,H' b=none)->∀ b ∈ fp,FpOk X pins H' b:=λ hn b hb=>⟨hn b hb,(f2 b hb).2⟩;refine codeAny_forLoop_any (λ n s'=>∃ i σ' H',Inv X pins σ' H' s' /\ tn i s'.heap /\ (∀ b ∈ fp,H' b=none) /\ W i n σ' H') ?_ m0 ⟨0,σ,H2,I2,st2,λ b hb=>(f2 b hb).1,w0⟩;rintro n s3 ⟨i,σ3,H3,I3,st3,fr3,w3⟩;rcases turn i n σ3 H3 w3 with ⟨stop,qn⟩ | ⟨go,N,hN,step⟩
 ·refine wpAny_passesOwn hp (thn (T.done X rfl rfl rfl hc i pins s3 σ3 H3 X.xe I3 (stat fr3) st3 stop) λ r s4 ⟨hr,I4⟩=>?_);subst hr;exact wpAny_execs_nil ⟨σ3,H3,I4,qn⟩
 ·refine wpAny_passesOwn hp (thn (T.item X rfl rfl rfl hc i pins s3 σ3 H3 X.xe I3 (stat fr3) st3 go) λ r s4 ⟨u,hr,h4⟩=>?_);subst hr;refine wpAny_passesOwn hp (thn h4 λ _ s5 ⟨x,H5,I5,r5,y5,st5,fr5⟩=>?_);have I5':=I5.pinned (stat fr5) (T.obj _ _ st5);refine wpAny_passesOwn hp (thn (hg _ s5 σ3 H5 x u _ I5' r5 (step x H5 y5)) λ _ s6 ⟨σ6,H6,I6,q6⟩=>?_);refine wpAny_passesOwn hp (thn (hb _ s6 σ6 H6 _ I6 q6) λ f s7 q7=>?_)
  have again:∀ {σ7:St} {H7:Hp},Inv X (pins ++ vx0 fp s5.heap) σ7 H7 s7->N σ7 H7->∃ m,m < n /\ ∃ i σ' H',Inv X pins σ' H' s7 /\ tn i s7.heap /\ (∀ b ∈ fp,H' b=none) /\ W i m σ' H':=λ {σ7 H7} I7 n7=>by
   obtain ⟨m',hm,w7⟩:=hN σ7 H7 n7;refine ⟨m',hm,i + 1,σ7,H7,I7.unpinned,T.keep _ _ _ st5 λ b hb o e=>(I7.pin (b,o) (mem_append_right _ (mem_append_right _ (yh0 hb e)))).1,λ b hb=>?_,w7⟩;obtain ⟨o,e,d⟩:=T.obj _ _ st5 b hb;exact (I7.pin (b,o) (mem_append_right _ (mem_append_right _ (yh0 hb e)))).2.1
  cases f with
  | next=>obtain ⟨σ7,H7,I7,n7⟩:=q7; exact again I7 n7
  | cont=>obtain ⟨σ7,H7,I7,n7⟩:=q7; exact again I7 n7
  | brk=>obtain ⟨σ7,H7,I7,q7⟩:=q7; exact ⟨σ7,H7,I7.unpinned,q7⟩
  | ret v=>obtain ⟨x7,σ7,H7,I7,r7,q7⟩:=q7; exact ⟨x7,σ7,H7,I7.unpinned,r7,q7⟩
end
noncomputable abbrev R2:=V->V->Hp->VK->Prop
noncomputable def OpR (X:Cx) (f:Value->Value->Sem Value) (r:R2):Prop :=
 ∀ (pins:[21]) (s:Shared) (σ:St) (H:Hp) (x y:V) (v u:Value) (Q:VK),Inv X pins σ H s->RelV x v->RelV y u->r x y H Q ->
  wpAny [13] X.A (f v u) (EP X pins σ Q) X.xe s
noncomputable def UnR (X:Cx) (f:Value->Sem Value) (r:V->Hp->VK->Prop):Prop :=
 ∀ (pins:[21]) (s:Shared) (σ:St) (H:Hp) (x:V) (v:Value) (Q:VK),Inv X pins σ H s->RelV x v->r x H Q ->
  wpAny [13] X.A (f v) (EP X pins σ Q) X.xe s
noncomputable def CallR (X:Cx) (f:Value) (r:List V->Hp->VK->Prop):Prop :=
 ∀ (pins:[21]) (s:Shared) (σ:St) (H:Hp) (xs:List V) (us:[29]) (Q:VK),Inv X pins σ H s->Vals xs us->r xs H Q ->
  wpAny [13] X.A (call f us) (EP X pins σ Q) X.xe s
noncomputable def tOp (r:R2) (ta tb:TE):TE:=λ σ H Q=>ta σ H λ x H1=>tb σ H1 λ y H2=>r x y H2 Q
noncomputable def tUn (r:V->Hp->VK->Prop) (ta:TE):TE:=λ σ H Q=>ta σ H λ x H1=>r x H1 Q
noncomputable def rI (C:Int->Int->Prop) (g:Int->Int->V):R2:=λ x y H Q=>∃ i j,x=.int i /\ y=.int j /\ C i j /\ Q (g i j) H
noncomputable def rI0 (g:Int->Int->V):R2:=λ x y H Q=>∃ i j,x=.int i /\ y=.int j /\ Q (g i j) H
noncomputable def rU (g:Int->V):V->Hp->VK->Prop:=λ x H Q=>∃ i,x=.int i /\ Q (g i) H
section
variable {a b c:Expr} {tc:TE} {pos:Pos}
theorem binT (ha:PE X a ta) (hb:PE X b tb) {σ:St} {R:V->V->Hp->Prop} (I:[7])
    (h:ta σ H λ x H1=>tb σ H1 λ y H2=>R x y H2) {f:Value->Value->Sem Value}
    (hf:∀ v u s2 x y H2,Inv X pins σ H2 s2->RelV x v->RelV y u->R x y H2->wpAny [13] X.A (f v u) Q X.xe s2) :
    wpAny [13] X.A (eval a X.env) (λ v s₁=>wpAny [13] X.A (eval b X.env) (λ u s₂=>wpAny [13] X.A (f v u) Q X.xe s₂) X.xe s₁) X.xe s:=by
 refine thn (ha pins s σ H _ I h) λ v s1 ⟨x,H1,I1,r1,q1⟩=>?_;refine thn (hb pins s1 σ H1 _ I1 q1) λ u s2 ⟨y,H2,I2,r2,q2⟩=>?_;exact hf v u s2 x y H2 I2 r1 r2 q2
theorem wi5 {op:Operator} {r:R2} (ho:OpR X (binaryOp op) r) (ha:PE X a ta) (hb:PE X b tb):PE X (.BinOp a op b pos) (tOp r ta tb):=by
 intro pins s σ H Q I h;exact wpAny_BinOp (binT ha hb I h λ v u s2 x y H2 I2 rx ry q=>ho pins s2 σ H2 x y v u Q I2 rx ry q)
theorem yi5 {op:UnaryOp} {r:V->Hp->VK->Prop} (ho:UnR X (unaryOp op) r) (ha:PE X a ta):PE X (.UnaryOp op a pos) (tUn r ta):=by
 intro pins s σ H Q I h;exact UnaryOp_ (thn (ha pins s σ H _ I h) λ v s1 ⟨x,H1,I1,r1,q1⟩=>ho pins s1 σ H1 x v Q I1 r1 q1)
theorem opI {f:Value->Value->Sem Value} {C:Int->Int->Prop} {g:Int->Int->Int}
    (rule:∀ (i j:Int) (t u:Tok) (s:Shared) (Q:[4]) (E:[4]),C i j->Q (.int (g i j) s.toks) { s with toks:=s.toks + 1 }->wpAny [13] X.A (f (.int i t) (.int j u)) Q E s) :
    OpR X f (rI C λ i j=>.int (g i j)):=by
 intro pins s σ H x y v u Q I rx ry h;obtain ⟨i,j,rfl,rfl,hc,q⟩:=h;obtain ⟨t,rfl⟩:=rx;obtain ⟨t',rfl⟩:=ry;exact rule i j t t' s _ _ hc ⟨.int (g i j),H,I.tok _,⟨_,rfl⟩,q⟩
theorem opI0 {f:Value->Value->Sem Value} {g:Int->Int->Int}
    (rule:∀ (i j:Int) (t u:Tok) (s:Shared) (Q:[4]) (E:[4]),Q (.int (g i j) s.toks) { s with toks:=s.toks + 1 }->wpAny [13] X.A (f (.int i t) (.int j u)) Q E s) :
    OpR X f (rI0 λ i j=>.int (g i j)):=by
 intro pins s σ H x y v u Q I rx ry h;obtain ⟨i,j,rfl,rfl,q⟩:=h;obtain ⟨t,rfl⟩:=rx;obtain ⟨t',rfl⟩:=ry;exact rule i j t t' s _ _ ⟨.int (g i j),H,I.tok _,⟨_,rfl⟩,q⟩
theorem opB0 {f:Value->Value->Sem Value} {g:Int->Int->Bool}
    (rule:∀ (i j:Int) (t u:Tok) (s:Shared) (Q:[4]) (E:[4]),Q (.bool (g i j)) s->wpAny [13] X.A (f (.int i t) (.int j u)) Q E s) :
    OpR X f (rI0 λ i j=>.bl (g i j)):=by
 intro pins s σ H x y v u Q I rx ry h;obtain ⟨i,j,rfl,rfl,q⟩:=h;obtain ⟨t,rfl⟩:=rx;obtain ⟨t',rfl⟩:=ry;exact rule i j t t' s _ _ ⟨.bl (g i j),H,I,rfl,q⟩
noncomputable def CPow (i j:Int):Prop:=0<=j /\ j<=1000000 /\ i.natAbs < 2 ^ 64
noncomputable def CMul (i j:Int):Prop:=(-(2 ^ 64) < i /\ i < 2 ^ 64) \/ (-(2 ^ 64) < j /\ j < 2 ^ 64)
theorem CMul.ok {i j:Int} (h:CMul i j):IntMulOk i j:=by
 rcases h with ⟨h1,h2⟩ | ⟨h1,h2⟩
 ·exact .of_left (intBits_le_64 h1 h2)
 ·exact .of_right (intBits_le_64 h1 h2)
theorem op_add:OpR X (binaryOp .Add) (rI0 λ i j=>.int (i + j)):=opI0 λ _ _ _ _ _ _ _ q=>add_int q
theorem zn4:OpR X (binaryOp .Sub) (rI0 λ i j=>.int (i - j)):=opI0 λ _ _ _ _ _ _ _ q=>sub_int q
theorem un4:OpR X (binaryOp .Mod) (rI (λ _ j=>0 < j) λ i j=>.int (i % j)):=opI λ i j _ _ _ _ _ hc q=>by
 have h1:(0:Int) < j:=hc;exact mod_int' [2] (by rw [Int.fmod_eq_emod_of_nonneg i [2]]; exact q)
theorem wn4:OpR X (binaryOp .Pow) (rI CPow λ i j=>.int (i ^ j.toNat)):=opI λ _ _ _ _ _ _ _ hc q=>pow_int_small hc.1 hc.2.1 hc.2.2 q
theorem unI {f:Value->Sem Value} {g:Int->Int}
    (rule:∀ (i:Int) (t:Tok) (s:Shared) (Q:[4]) (E:[4]),Q (.int (g i) s.toks) { s with toks:=s.toks + 1 }->wpAny [13] X.A (f (.int i t)) Q E s) :
    UnR X f (rU λ i=>.int (g i)):=by
 intro pins s σ H x v Q I rx h;obtain ⟨i,rfl,q⟩:=h;obtain ⟨t,rfl⟩:=rx;exact rule i t s _ _ ⟨.int (g i),H,I.tok _,⟨_,rfl⟩,q⟩
theorem wq3:UnR X (unaryOp .USub) (rU λ i=>.int (-i)):=unI λ _ _ _ _ _ q=>neg_int q
end
noncomputable def scal:V->V->Bool
 | .non,.non=>true | .non,.int _=>true | .int _,.non=>true | .non,.bl _=>true | .bl _,.non=>true | .non,.str _=>true | .str _,.non=>true
 | .int _,.int _=>true | .bl _,.bl _=>true | .str _,.str _=>true | .byt _,.byt _=>true
 | .int _,.str _=>true | .str _,.int _=>true | .bl _,.str _=>true | .str _,.bl _=>true
 | _,_=>false
noncomputable def rEq:R2:=λ x y H Q=>scal x y=true /\ Q (.bl (decide (x=y))) H
noncomputable def rNe:R2:=λ x y H Q=>scal x y=true /\ Q (.bl (!decide (x=y))) H
theorem zz1 {i j:Int}:decide (V.int i=V.int j)=(i == j):=by
 rw [Bool.eq_iff_iff];simp
theorem zv2 {i j:Bool}:decide (V.bl i=V.bl j)=(i == j):=by
 rw [Bool.eq_iff_iff];simp
theorem yz1 {i j:Str}:decide (V.str i=V.str j)=(i == j):=by
 rw [Bool.eq_iff_iff];simp
theorem wz1 {i j:Array UInt8}:decide (V.byt i=V.byt j)=(i.toList == j.toList):=by
 rw [Bool.eq_iff_iff];simp
variable {us:[29]}
section
variable {a b c:Expr} {tc:TE} {pos:Pos}
theorem wb0 {σ:St} {Q:VK} {k k':Bool} (I:[7]) (q:Q (.bl k) H) (e:k=k'):EP X pins σ Q (.bool k') s:=by
 subst e;exact ⟨.bl k,H,I,rfl,q⟩
theorem op_eq:OpR X (compareOp .Eq) rEq:=by
 intro pins s σ H x y v u Q I rx ry h;obtain ⟨hs,q⟩:=h;cases x with
 | non =>
  cases rx;cases y with
  | non=>cases ry; exact PySem.EqNone.eq_none_none (wb0 I q [10])
  | bl j=>cases ry; exact PySem.EqNone.eq_none_bool (wb0 I q [10])
  | int j=>obtain ⟨t',rfl⟩:=ry; exact PySem.EqNone.eq_none_int (wb0 I q [10])
  | str j=>obtain ⟨t',rfl⟩:=ry; exact PySem.EqNone.eq_none_str (wb0 I q [10])
  | _=>trivial
 | bl i =>
  cases rx;cases y with
  | non=>cases ry; exact PySem.EqNone.eq_bool_none (wb0 I q [10])
  | bl j=>cases ry; exact eq_bool (wb0 I q zv2)
  | str j=>obtain ⟨t',rfl⟩:=ry; exact PySem.EqMixed.eq_bool_str (wb0 I q [10])
  | _=>trivial
 | int i =>
  obtain ⟨t,rfl⟩:=rx;cases y with
  | non=>cases ry; exact PySem.EqNone.eq_int_none (wb0 I q [10])
  | int j=>obtain ⟨t',rfl⟩:=ry; exact eq_int (wb0 I q zz1)
  | str j=>obtain ⟨t',rfl⟩:=ry; exact PySem.EqMixed.eq_int_str (wb0 I q [10])
  | _=>trivial
 | str i =>
  obtain ⟨t,rfl⟩:=rx;cases y with
  | non=>cases ry; exact PySem.EqNone.eq_str_none (wb0 I q [10])
  | bl j=>cases ry; exact PySem.EqMixed.eq_str_bool (wb0 I q [10])
  | int j=>obtain ⟨t',rfl⟩:=ry; exact PySem.EqMixed.eq_str_int (wb0 I q [10])
  | str j=>obtain ⟨t',rfl⟩:=ry; exact eq_str (wb0 I q yz1)
  | _=>trivial
 | byt i =>
  obtain ⟨t,rfl⟩:=rx;cases y with
  | byt j=>obtain ⟨t',rfl⟩:=ry; exact PySem.W.eq_bytes (wb0 I q wz1)
  | _=>trivial
 | _=>trivial
theorem op_ne:OpR X (compareOp .NotEq) rNe:=by
 intro pins s σ H x y v u Q I rx ry h;obtain ⟨hs,q⟩:=h;cases x with
 | non =>
  cases rx;cases y with
  | non=>cases ry; exact PySem.EqNone.ne_none_none (wb0 I q [10])
  | bl j=>cases ry; exact PySem.EqNone.ne_none_bool (wb0 I q [10])
  | int j=>obtain ⟨t',rfl⟩:=ry; exact PySem.EqNone.ne_none_int (wb0 I q [10])
  | str j=>obtain ⟨t',rfl⟩:=ry; exact PySem.EqNone.ne_none_str (wb0 I q [10])
  | _=>trivial
 | bl i =>
  cases rx;cases y with
  | non=>cases ry; exact PySem.EqNone.ne_bool_none (wb0 I q [10])
  | bl j=>cases ry; exact ne_bool (wb0 I q (congrArg not zv2))
  | str j=>obtain ⟨t',rfl⟩:=ry; exact PySem.EqMixed.ne_bool_str (wb0 I q [10])
  | _=>trivial
 | int i =>
  obtain ⟨t,rfl⟩:=rx;cases y with
  | non=>cases ry; exact PySem.EqNone.ne_int_none (wb0 I q [10])
  | int j=>obtain ⟨t',rfl⟩:=ry; exact ne_int (wb0 I q (congrArg not zz1))
  | str j=>obtain ⟨t',rfl⟩:=ry; exact PySem.EqMixed.ne_int_str (wb0 I q [10])
  | _=>trivial
 | str i =>
  obtain ⟨t,rfl⟩:=rx;cases y with
  | non=>cases ry; exact PySem.EqNone.ne_str_none (wb0 I q [10])
  | bl j=>cases ry; exact PySem.EqMixed.ne_str_bool (wb0 I q [10])
  | int j=>obtain ⟨t',rfl⟩:=ry; exact PySem.EqMixed.ne_str_int (wb0 I q [10])
  | str j=>obtain ⟨t',rfl⟩:=ry; exact ne_str (wb0 I q (congrArg not yz1))
  | _=>trivial
 | byt i =>
  obtain ⟨t,rfl⟩:=rx;cases y with
  | byt j=>obtain ⟨t',rfl⟩:=ry; exact PySem.W.ne_bytes (wb0 I q (congrArg not wz1))
  | _=>trivial
 | _=>trivial
theorem xj5:OpR X (compareOp .Lt) (rI0 λ i j=>.bl (decide (i < j))):=opB0 λ _ _ _ _ _ _ _ q=>lt_int q
theorem yj5:OpR X (compareOp .Gt) (rI0 λ i j=>.bl (decide (j < i))):=opB0 λ _ _ _ _ _ _ _ q=>gt_int q
theorem zj5:OpR X (compareOp .GtE) (rI0 λ i j=>.bl (decide (j<=i))):=opB0 λ _ _ _ _ _ _ _ q=>ge_int q
theorem tn4:OpR X (compareOp .Is) (λ x y H Q=>y=.non /\ Q (.bl (decide (x=.non))) H):=by
 intro pins s σ H x y v u Q I rx ry h;obtain ⟨rfl,q⟩:=h;cases ry;refine is_none_gen (wb0 I q ?_)
 cases x <;> first
  | (cases rx; rfl)
  | (obtain ⟨t,rfl⟩:=rx; rfl)
theorem yf3:OpR X (compareOp .IsNot) (λ x y H Q=>y=.non /\ Q (.bl (!decide (x=.non))) H):=by
 intro pins s σ H x y v u Q I rx ry h;obtain ⟨rfl,q⟩:=h;cases ry;refine isnot_none_gen (wb0 I q ?_)
 cases x <;> first
  | (cases rx; rfl)
  | (obtain ⟨t,rfl⟩:=rx; rfl)
theorem OpR.or {f:Value->Value->Sem Value} {r r':R2} (h:OpR X f r) (h':OpR X f r'):OpR X f (λ x y H Q=>r x y H Q \/ r' x y H Q):=by
 intro pins s σ H x y v u Q I rx ry q;rcases q with q | q
 ·exact h pins s σ H x y v u Q I rx ry q
 ·exact h' pins s σ H x y v u Q I rx ry q
theorem yt2 (b:Expr) {op:CmpOp} (h:op ≠ .In:=by decide) (h2:op ≠ .NotIn:=by decide):behindInMarks op b=false:=by
 have e1:(op == CmpOp.In)=false:=by simp_all
 have e2:(op == CmpOp.NotIn)=false:=by simp_all
 cases b <;> simp [behindInMarks,e1,e2]
theorem we3 {op:CmpOp} {r:R2} (ho:OpR X (compareOp op) r) (ha:PE X a ta) (hb:PE X b tb) (hm:behindInMarks op b=false):PE X (.Compare a [op] [b] pos) (tOp r ta tb):=by
 intro pins s σ H Q I h;exact wpAny_Compare1 (binT ha hb I h λ v u s2 x y H2 I2 rx ry q=>ho pins s2 σ H2 x y v u Q I2 rx ry q) hm
noncomputable def tu3 (t:TE):TT:=λ σ H Q=>t σ H λ x H'=>∃ k,x=.bl k /\ Q k H'
theorem xd3 {op:CmpOp} {r:R2} (ho:OpR X (compareOp op) r) (ha:PE X a ta) (hb:PE X b tb) (hm:behindInMarks op b=false):PT X (.Compare a [op] [b] pos) (tu3 (tOp r ta tb)):=by
 intro pins s σ H Q I h
 refine wpAny_isTrue_Compare1 (thn (ha pins s σ H _ I h) λ v s1 ⟨x,H1,I1,r1,q1⟩=>thn (hb pins s1 σ H1 _ I1 q1) λ u s2 ⟨y,H2,I2,r2,q2⟩ =>
  thn (ho pins s2 σ H2 x y v u _ I2 r1 r2 q2) λ c s3 ⟨z,H3,I3,r3,k,e,q3⟩=>?_) hm
 subst e;cases r3;exact wpAny_truthy_bool ⟨H3,I3,q3⟩
theorem wy0:(sizeLine:Nat) < 2 ^ 63:=by trivial
theorem vv0 {x:V} (r:Vals [x] us):∃ u,us=[u] /\ RelV x u:=by
 cases r with
 | cons r1 r2=>cases r2; simp_all
theorem xx2 {x y:V} (r:Vals [x,y] us):∃ u w',us=[u,w'] /\ RelV x u /\ RelV y w':=by
 cases r with
 | cons r1 r2 =>
  cases r2 with
  | cons r3 r4=>cases r4; exact ⟨_,_,rfl,r1,r3⟩
theorem xp2:CallR X (.builtin "abs") (λ xs H Q=>∃ i,xs=[.int i] /\ Q (.int (if i < 0 then -i else i)) H):=by
 intro pins s σ H xs us Q I r h;obtain ⟨i,rfl,q⟩:=h;obtain ⟨u,rfl,t,rfl⟩:=vv0 r;exact call_abs_int λ u tk=>⟨.int (if i < 0 then -i else i),H,I.tok _,⟨_,rfl⟩,q⟩
end
theorem RelO.some_of {v:V} {o:Option Value} (r:RelO (some v) o):∃ u,o=some u /\ RelV v u:=by
 cases o with
 | none=>trivial
 | some u=>exact ⟨u,rfl,r⟩
structure Cls (K:PySem.W.Frag) (C:Addr):Prop where
 pg:PySem.W.plainGet K C Str.empty=true
 hd:PySem.W.hasDictIn K C=true
 po:PySem.W.plainOver K C=true
 sa:findIn K (.ref C) "__setattr__" = some (some (.builtin "object.__setattr__"))
section
variable {σ:St} {E:[4]} {c:Value} {b:Bool}
inductive TyOf (K:PySem.W.Frag) (H:Hp):V->Value->Prop where
 | non:TyOf K H .non (.type "NoneType")
 | bl (x:Bool):TyOf K H (.bl x) (.type "bool")
 | int (i:Int):TyOf K H (.int i) (.type "int")
 | str (x:Str):TyOf K H (.str x) (.type "str")
 | flt (x:UInt64):TyOf K H (.flt x) (.type "float")
 | lst {a:Addr} {xs:List V} (e:H a=some (.lst xs)):TyOf K H (.ref a) (.type "list")
 | frz {a:Addr} {o:Obj} {xs:List V} (e:H a=some (.frz o (.lst xs))):TyOf K H (.ref a) (.type "list")
 | tup {a:Addr} {xs:List V} (e:H a=some (.tup xs)):TyOf K H (.ref a) (.type "tuple")
 | dK {a:Addr} {kvs:List (Key × V)} (e:H a=some (.dK kvs)):TyOf K H (.ref a) (.type "dict")
 | dT {a:Addr} {kvs:List (List Key × V)} {ne:Nat} (e:H a=some (.dT kvs ne)):TyOf K H (.ref a) (.type "dict")
 | ins {a C dx:Addr} {fs:List (Str × V)} (e:H a=some (.ins C dx fs)) (cl:Cls K C) (ha:findIn K (.ref C) "__class__" = some (some (.builtin "object.__class__")))
     (hn:PySem.W.specialIn K (.builtin "object.__class__") "__get__" = some (some (.builtin "getset_descriptor.__get__"))) (htk:PySem.W.takesIn K (.builtin "object.__class__")=some true)
     (hm:PySem.W.mroIn K C (.type "object")=some true):TyOf K H (.ref a) (.ref C)
end
structure Room (k:Nat) (A:Around):Prop where
 hd:A.handled=none
 dp:A.depth + 3 * k + 5 < recursionLimit
 un:A.units + 16 * k + 200 < cLine
theorem Room.mono {j k:Nat} (r:Room k A) (h:j<=k):Room j A:=⟨r.hd,by have:=r.dp; omega,by have:=r.un; omega⟩
theorem Room.deeper {k:Nat} {A:Around} (r:Room (k + 1) A) (env:Env):Room k (A.deeper env) :=
 ⟨r.hd,by have:=r.dp; show A.depth + 1 + 3 * k + 5 < _; omega,by have:=r.un; simp_all;omega⟩
theorem Room.depth {k:Nat} {A:Around} (r:Room k A):A.depth < recursionLimit:=by have:=r.dp; omega
noncomputable def tNil:TA:=λ _ H Q=>Q [] H
noncomputable def uw4 (ta:TE) (tr:TA):TA:=λ σ H Q=>ta σ H λ x H1=>tr σ H1 λ xs H2=>Q (x :: xs) H2
variable {es:List Expr}
section
variable {e:Expr} {t:TA} {pos:Pos}
theorem yn4:PA X [] tNil:=λ _ _ _ _ H Q I h=>Calls.spliced_nil ⟨[],H,I,.nil,h⟩
theorem xf3 (ha:PE X e te) (hr:PA X es t) (hs:starEach (e :: es) X.env=[37] :: starEach es X.env:=by rfl):PA X (e :: es) (uw4 te t):=by
 intro pos pins s σ H Q I h;rw [hs];show wpAny _ _ (spliced ([37] :: backTo pos (starEach es X.env))) _ _ s;refine Calls.spliced_cons (thn (ha pins s σ H _ I h) λ u s1 ⟨x,H1,I1,r1,q1⟩=>?_);exact thn (hr pos pins s1 σ H1 _ I1 q1) λ us s2 ⟨xs,H2,I2,r2,q2⟩=>⟨x :: xs,H2,I2,.cons r1 r2,q2⟩
noncomputable def tTup (t:TA):TE:=λ σ H Q=>t σ H λ xs H1=>xs.length<=sizeLine /\ ∀ p,H1 p=none->Q (.ref p) (upd H1 p (.tup xs))
noncomputable def tLst (t:TA):TE:=λ σ H Q=>t σ H λ xs H1=>xs.length<=sizeLine /\ ∀ p,H1 p=none->Q (.ref p) (upd H1 p (.lst xs))
theorem ym4 {x1} (h:PA X es t):PE X (.Tuple es x1 pos) (tTup t):=by
 intro pins s σ H Q I hq;refine wpAny_Tuple_spliced (thn (h pos pins s σ H _ I hq) λ us s1 ⟨xs,H1,I1,r,z,q⟩=>⟨by rw [<- r.length]; exact z,?_⟩);have hf:H1 s1.heap.objs.size=none:=I1.hok.fresh [26];refine ⟨.ref s1.heap.objs.size,upd H1 s1.heap.objs.size (.tup xs),I1.laid (t':=s1.toks) (λ b u e=>Heap.get?_push_of_some _ e) [26] ?_,rfl,q _ hf⟩;exact ⟨z,us,r,⟨_,Heap.get?_push_size _ rfl,rfl,_,rfl⟩⟩
theorem um4 (h:PA X es t):PE X (.List es pos) (tLst t):=by
 intro pins s σ H Q I hq;refine wpAny_List_spliced (thn (h pos pins s σ H _ I hq) λ us s1 ⟨xs,H1,I1,r,z,q⟩=>⟨by rw [<- r.length]; exact z,?_⟩);have hf:H1 s1.heap.objs.size=none:=I1.hok.fresh [26];refine ⟨.ref s1.heap.objs.size,upd H1 s1.heap.objs.size (.lst xs),I1.laid (t':=s1.toks) (λ b u e=>Heap.get?_push_of_some _ e) [26] ?_,rfl,q _ hf⟩;exact ⟨z,us,0,r,Heap.get?_push_size _ rfl⟩
end
noncomputable abbrev Sp:=List V->Hp->VK->XK->Prop
noncomputable abbrev CXT:=List Env->Hp->Shared->XK->Value->Shared->Prop
structure Env0 (P:Program) (w:World) (K:PySem.W.Frag) (mg:Str->Option Value) (base:Heap) (A:Around) (outer:List Env) (s:Shared) (H:Hp):Prop where
 frames:A.frames=some outer
 mod:Mod K mg base
 bs:∀ b o,base.get? b=some o->s.heap.get? b=some o /\ H b=none
 bsz:base.objs.size<=s.heap.objs.size
 funs:s.heap.FunFrames base outer
 frf:∀ b ∈ frs outer,H b=none
 hok:HOk P w H s.heap
 bare:AllBare s.gens
noncomputable def CE (outer:List Env) (P:Program) (w:World) (H:Hp) (s:Shared) (Q:VK) (u:Value) (s':Shared):Prop :=
 ∃ v H',s'.os=s.os /\ AllBare s'.gens /\ Un (frs outer) [] H H' s.heap s'.heap /\ HOk P w H' s'.heap /\ RelV v u /\ Q v H'
noncomputable def CR (CX:CXT) (outer:List Env) (P:Program) (w:World) (H:Hp) (s:Shared) (Q:VK) (E:XK) (r:Result) (s':Shared):Prop :=
 match r with
 | .ok (.ret u)=>CE outer P w H s Q u s'
 | .ok _=>False
 | .error e=>CX outer H s E e s'
structure FnOk (P:Program) (w:World) (K:PySem.W.Frag) (mg:Str->Option Value) (base:Heap) (CX:CXT) (k:Nat) (f:Addr) (fd:FuncData) (ps:List Str) (sp:Sp):Prop where
 len:∀ vs H Q E,sp vs H Q E->vs.length=ps.length
 run:∀ (A:Around) (outer:List Env) (s:Shared) (H:Hp) (args:Args) (us:List Value) (vs:List V) (Q:VK) (E:XK),Room k A->Env0 P w K mg base A outer s H->BindsTo s fd args (ps.zip us)->Vals vs us->sp vs H Q E ->
  codeAny (model P w) A (.call (.ref f) args) (CR CX outer P w H s Q E) s
theorem FnOk.mono {P:Program} {w:World} {K:PySem.W.Frag} {mg:[40]} {base:Heap} {CX:CXT} {j k:Nat} {f:Addr} {fd:FuncData} {ps:List Str} {sp:Sp} (F:FnOk P w K mg base CX j f fd ps sp) (h:j<=k) :
    FnOk P w K mg base CX k f fd ps sp:=⟨F.len,λ A outer s H args us vs Q E hr=>F.run A outer s H args us vs Q E (hr.mono h)⟩
section
variable {σ:St} 
theorem Inv.env0 (I:[7]):Env0 X.prog X.w X.K X.mg X.base X.A X.stack s H :=
 ⟨I.ok.frames,I.ok.mod,I.bs,Nat.le_trans I.ok.bsz I.sz,I.stack,I.stkFree,I.hok,I.bare⟩
theorem Inv.after {Q:VK} {u:Value} (I:[7]) (h:CE X.stack X.prog X.w H s Q u s'):EP X pins σ Q u s':=by
 obtain ⟨v,H',os,bare,un,hok,r,q⟩:=h;obtain ⟨hh,g,d,t,os'⟩:=s';obtain rfl:os'=s.os:=os;exact ⟨v,H',I.call (h':=hh) (g':=g) (d':=d) (t':=t) (ch:=[]) un hok bare (λ b z=>absurd z [10]),r,q⟩
end
noncomputable def tw4 (sp:Sp) (dvs:List V) (E:XK) (t:TA):TE:=λ σ H Q=>t σ H λ vs H1=>sp (vs ++ dvs) H1 Q E
noncomputable def Binds (K:PySem.W.Frag) (fd:FuncData) (ps:List Str) (ds:[29]):Prop :=
 ∀ (s:Shared) (us:[29]),K.In s.heap->(us ++ ds).length=ps.length->BindsTo s fd ⟨us,[]⟩ (ps.zip (us ++ ds))
variable {fd:FuncData} {ps:List Str}
theorem Binds.all (h:∀ us:List Value,us.length=ps.length->bindArgs fd ⟨us,[]⟩=pure (ps.zip us)):Binds K fd ps []:=λ s us _ hl=>by
 rw [append_nil] at hl ⊢;exact .of_eq (h us hl)
noncomputable def tb2 (CX:CXT) (X:Cx) (E:XK):Prop:=∀ (pins:[21]) (σ:St) (H:Hp) (s:Shared) (e:Value) (s':Shared),Inv X pins σ H s->CX X.stack H s E e s'->X.xe e s'
variable {vs:List V} {CX:CXT} {sp:Sp}
section
variable {k:Nat} {f C:Addr} {dvs:List V} {ds:[29]} {E:XK} {x m:Str} {pos apos:Pos} {e o:Expr} {t:TA}
theorem tb4 {σ:St} {Q:VK} (F:FnOk X.prog X.w X.K X.mg X.base CX k f fd ps sp) (hr:Room k X.A) (hb:Binds X.K fd ps ds) (hd:Vals dvs ds) (hx:tb2 CX X E)
    (I:[7]) (r:Vals vs us) (h:sp (vs ++ dvs) H Q E):wpAny [13] X.A (call (.ref f) us) (EP X pins σ Q) X.xe s:=by
 have r2:Vals (vs ++ dvs) (us ++ ds):=r.append hd;have hl:(us ++ ds).length=ps.length:=by rw [<- r2.length]; exact F.len _ _ _ _ h
 refine wpAny_call (codeAny_mono (F.run X.A X.stack s H ⟨us,[]⟩ (us ++ ds) (vs ++ dvs) Q E hr I.env0 (hb s us I.kIn hl) r2 h) λ r s' hq=>?_);cases r with
 | error e=>exact hx pins σ H s e s' I hq
 | ok fl =>
  cases fl with
  | ret u=>exact I.after hq
  | next=>exact False.elim hq
  | brk=>exact False.elim hq
  | cont=>exact False.elim hq
theorem ve3 (F:FnOk X.prog X.w X.K X.mg X.base CX k f fd ps sp) (hr:Room k X.A) (hg:Gl X x) (hm:X.mg x=some (.ref f)) (hk:keepIn X.K (.ref f)=true) (hb:Binds X.K fd ps ds) (hd:Vals dvs ds) (hx:tb2 CX X E)
    (ha:PA X (e :: es) t) (hdb:(x == ("__debug__" : Str))=false:=by decide) (he:starEach (e :: es) X.env=[37] :: starEach es X.env:=by rfl) (hpl:(backTo pos (starEach es X.env)).any (·.1)=false:=by rfl) :
    PE X (.Call (.Name x p) (e :: es) [] pos) (tw4 sp dvs E t):=by
 intro pins s σ H Q I h;refine wpAny_Call_Name_kw (uu1 I hg hm ?_ hdb);refine PySem.W.callWith_K (h₀:=X.base) I.ok.mod.kin hk (thn (ha pos pins s σ H _ I h) λ us s1 ⟨vs,H1,I1,r,q⟩=>⟨I1.kIn,?_⟩) he hpl;exact tb4 F hr hb hd hx I1 r q
structure Mk (K:PySem.W.Frag) (C f:Addr):Prop where
 makes:PySem.W.makesIn K C=true
 init:findIn K (.ref C) "__init__" = some (some (.ref f))
 fn:PySem.W.isFn K (.ref f)=true
 kp:keepIn K (.ref C)=true
end
structure FnScope (N P:List Str) (sc:Scope):Prop where
 kind:sc.kind=.function
 co:sc.isCoroutine=false
 gen:sc.isGenerator=false
 nd:N.Nodup
 pre:N.take P.length=P
 par:∀ x ∈ P,sc.names.lookup x=some .local \/ sc.names.lookup x=some .cell
 nofree:∀ y ∈ sc.names,y.2 ≠ .free
theorem va1 {kindOf:Str->Option NameKind} {x:Str}:∀ {binds:List (Str × Value)} {m:[40]},(∀ v,(x,v) ∉ binds)->bindL kindOf binds m x=m x
 | [],_,_=>rfl
 | (n,v) :: r,m,h=>by
  unfold bindL;rw [va1 λ w hw=>h w (mem_cons_of_mem _ hw)];split
  ·have:x ≠ n:=by rintro rfl; exact h v mem_cons_self
   simp [this]
  ·rfl
theorem ta1 {kindOf:Str->Option NameKind} {x:Str}:∀ {binds:List (Str × Value)} {m:[40]},(∀ v,(x,v) ∉ binds)->bindC kindOf binds m x=m x
 | [],_,_=>rfl
 | (n,v) :: r,m,h=>by
  unfold bindC;rw [ta1 λ w hw=>h w (mem_cons_of_mem _ hw)];split
  ·rfl
  ·have:x ≠ n:=by rintro rfl; exact h v mem_cons_self
   simp [this]
theorem ua1 {kindOf:Str->Option NameKind} {x:Str} {v:Value}:∀ {P:List Str} {vs:[29]} {i:Nat} {m:[40]},P.Nodup->P[i]?=some x->vs[i]?=some v->kindOf x=some .local ->
    bindL kindOf (P.zip vs) m x=some v
 | [],_,_,_,_,h,_,_=>by simp at h
 | _ :: _,[],_,_,_,_,h,_=>by simp at h
 | p :: P,w :: vs,0,m,nd,h1,h2,hk=>by
  simp at h1 h2; subst h1; subst h2;show bindL kindOf ((p,w) :: P.zip vs) m p=_;unfold bindL;rw [va1 λ v hv=>(List.nodup_cons.mp nd).1 (List.of_mem_zip hv).1,if_pos hk];simp
 | p :: P,w :: vs,i + 1,m,nd,h1,h2,hk=>by
  show bindL kindOf ((p,w) :: P.zip vs) m x=_;unfold bindL;exact ua1 (i:=i) (List.nodup_cons.mp nd).2 (by simpa using h1) (by simpa using h2) hk
theorem sa1 {kindOf:Str->Option NameKind} {x:Str} {v:Value}:∀ {P:List Str} {vs:[29]} {i:Nat} {m:[40]},P.Nodup->P[i]?=some x->vs[i]?=some v->kindOf x ≠ some .local ->
    bindC kindOf (P.zip vs) m x=some v
 | [],_,_,_,_,h,_,_=>by simp at h
 | _ :: _,[],_,_,_,_,h,_=>by simp at h
 | p :: P,w :: vs,0,m,nd,h1,h2,hk=>by
  simp at h1 h2; subst h1; subst h2;show bindC kindOf ((p,w) :: P.zip vs) m p=_;unfold bindC;rw [ta1 λ v hv=>(List.nodup_cons.mp nd).1 (List.of_mem_zip hv).1,if_neg hk];simp
 | p :: P,w :: vs,i + 1,m,nd,h1,h2,hk=>by
  show bindC kindOf ((p,w) :: P.zip vs) m x=_;unfold bindC;exact sa1 (i:=i) (List.nodup_cons.mp nd).2 (by simpa using h1) (by simpa using h2) hk
noncomputable def start (N:List Str) (vs:List V):St:=vs.map some ++ List.replicate (N.length - vs.length) none
noncomputable def cxOf (CX:CXT) (P:Program) (w:World) (K:PySem.W.Frag) (mg:[40]) (base:Heap) (N:List Str) (qual:Str) (scope:Scope) (f:Addr) (cd:Value) (A:Around) (outer:List Env) (s:Shared) (H:Hp) (E:XK):Cx where
 prog:=P
 w:=w
 K:=K
 mg:=mg
 base:=base
 A:=A.deeper (envOfC qual scope s.heap.objs.size f cd)
 N:=N
 s₀:=s
 H₀:=H
 env:=envOfC qual scope s.heap.objs.size f cd
 outer:=outer
 stack:=envOfC qual scope s.heap.objs.size f cd :: outer
 ex:=[]
 calm:=true
 fn:=λ _=>true
 pn:=[]
 xe:=λ e s'=>wpAny (model P w) (A.deeper (envOfC qual scope s.heap.objs.size f cd)) (leaving (envOfC qual scope s.heap.objs.size f cd) e) (λ _ s''=>CX outer H s E e s'') (λ e' s''=>CX outer H s E e' s'') s'
theorem su0 {sc:Scope} {n:Nat} {x:Str} (h:sc.names.lookup x=some .cell):∃ c,(cellsFrom n sc.names []).lookup x=some c:=by
 have q:=cellsFrom_some sc.names n [] (.inl h);exact Option.isSome_iff_exists.mp q
variable {mg:[40]} {base:Heap} {qual:Str} {scope:Scope}
theorem yw1 {P:Program} {w:World} {f:Addr} {cd:Value} {outer:List Env} {s1:Shared} {E:XK} 
    (S:FnScope N ps scope) (hd:A.handled=none) (e0:Env0 P w K mg base A outer s H) (hl:vs.length=ps.length) (r:Vals vs us)
    (x:InCallC s s.heap.objs.size (bindL (envOfC qual scope s.heap.objs.size f cd).kindOf (ps.zip us) λ _=>none) (cellsFrom (s.heap.objs.size + 1) scope.names []) (bindC (envOfC qual scope s.heap.objs.size f cd).kindOf (ps.zip us) λ _=>none) s1) :
    Inv (cxOf CX P w K mg base N qual scope f cd A outer s H E) [] (start N vs) H s1:=by
 have hpl:ps.length<=N.length:=by have:=congrArg List.length S.pre; simp_all;omega
 obtain ⟨h1,tk,rfl,hk⟩:=x.done;have noA:∀ b:Addr,b ∉ (cxOf CX P w K mg base N qual scope f cd A outer s H E).ex:=λ b z=>absurd (show b ∈ ([]:List Addr) from z) [10]
 refine ⟨⟨e0.mod,S.kind,rfl,rfl,Nat.le_refl _,λ y z c h1 h2=>?_,λ y hy=>?_,λ y c _ h=>?_,λ _=>hd,Around.frames_deeper e0.frames,.inr ⟨rfl,rfl⟩,λ b z=>absurd z (noA b),e0.bs,e0.bsz,λ b _ _=>noA b,λ b z=>absurd z (noA b),e0.funs,e0.frf⟩,
  rfl,e0.bare,Un.kept hk,⟨_,x.toInCall.ns,λ i y v h1 h2 h3=>?_⟩,λ y c h=>⟨_,x.cell y c h⟩,e0.hok.fresh [26],λ y c h=>?_,λ p hp=>absurd (show p ∈ ([]:List (Addr × Obj)) from hp) [10],e0.hok.kept hk,?_⟩
 ·exact name_of_addr x.apart (PySem.mem_of_lookup h1) (PySem.mem_of_lookup h2)
 ·have hy:scope.names.lookup y=some .cell \/ scope.names.lookup y=some .free:=hy;rcases hy with hy | hy
  ·exact su0 hy
  ·exact absurd rfl (S.nofree _ (PySem.mem_of_lookup hy))
 ·exact Nat.le_of_lt (x.above y c (PySem.mem_of_lookup h))
 ·have hi:i < vs.length:=by
    unfold start at h2;by_cases hi:i < vs.length
    ·exact hi
    ·rw [getElem?_append_right (by simpa using hi)] at h2;rw [List.getElem?_replicate] at h2
     simp_all
  have ha:vs[i]?=some v:=by
   unfold start at h2;rw [getElem?_append_left (by simpa using hi),getElem?_map] at h2
   simp_all
  obtain ⟨u,hu,rv⟩:=r.get ha
  have hp:ps[i]?=some y:=by
   rw [<- S.pre,getElem?_take_of_lt [2]]; exact h1
  have ndP:ps.Nodup:=by rw [<- S.pre]; exact S.nd.sublist (take_sublist _ _)
  refine ⟨u,rv,?_⟩;rcases S.par y (mem_of_getElem? hp) with k | k
  ·exact .inl ⟨k,ua1 ndP hp hu k⟩
  ·obtain ⟨c,e⟩:=su0 (n:=s.heap.objs.size + 1) k;refine .inr ⟨.inl k,c,e,?_⟩;have q:=x.cell y c e;rw [sa1 ndP hp hu (by show scope.names.lookup y ≠ _; rw [k]; decide)] at q;exact q
 ·exact e0.hok.fresh (Nat.le_of_lt (x.above y c (PySem.mem_of_lookup h)))
 ·unfold start;show _=N.length
  simp_all
theorem tk5 {P:Program} {w:World} {k:Nat} {f:Addr} {name:Str} {params:Arguments} {dV kV doc pm cdv ct oc:Value} {an od:Option Addr}
    {osl:Array (Option Value)} (lk:K.lookup f=some ⟨oc,od,.func (fnOf name qual params body scope dV kV doc pm an cdv ct),osl⟩) (hcd:codeIn K cdv qual=true) (S:FnScope N ps scope)
    (len:∀ vs H Q E,sp vs H Q E->vs.length=ps.length)
    (hbody:∀ (A:Around) (outer:List Env) (s:Shared) (H:Hp) (vs:List V) (Q:VK) (E:XK),Room k (A.deeper (envOfC qual scope s.heap.objs.size f cdv))->sp vs H Q E ->
     ∃ t,PSs (cxOf CX P w K mg base N qual scope f cdv A outer s H E) body t /\ t { nx:=λ _ H'=>Q .non H',rt:=Q } (start N vs) H) :
    FnOk P w K mg base CX (k + 1) f (fnOf name qual params body scope dV kV doc pm an cdv ct) ps sp:=by
 refine ⟨len,λ A outer s H args us vs Q E hr e0 hb r hsp=>?_⟩;have hl:=len _ _ _ _ hsp;have KX:K.In s.heap:=e0.mod.kin.keeps λ b o e=>(e0.bs b o e).1;have lim:s.heap.NoLimit:=e0.mod.nolimit.keeps λ b o e=>(e0.bs b o e).1
 have hkind:∀ y ∈ ps.zip us,scope.names.lookup y.1=some .local \/ (scope.names.lookup y.1=some .cell /\ ((cellsFrom (s.heap.objs.size + 1) scope.names []).lookup y.1).isSome=true):=λ ⟨n,v⟩ hy=>by
  rcases S.par n (List.of_mem_zip hy).1 with q | q
  ·exact .inl q
  ·exact .inr ⟨q,cellsFrom_some _ _ _ (.inl q)⟩
 refine codeAny_call_function hr.depth (KX _ _ lk) rfl S.co S.gen rfl (PySem.W.codeRec_of KX hcd) (hb _ _ _ _ ?_);refine wpAny_newFunctionEnv_cells S.kind hkind λ env he s1 x=>?_;subst he;refine ⟨lim.keeps x.toInCall.keep,codeAny_func ?_⟩;obtain ⟨t,ht,hq⟩:=hbody A outer s H vs Q E (hr.deeper _) hsp;have I:Inv (cxOf CX P w K mg base N qual scope f cdv A outer s H E) [] (start N vs) H s1:=yw1 S hr.hd e0 hl r x;refine wpAny_mono (ht [] s1 (start N vs) H _ I hq) (λ fl s' hs=>?_) λ e s' hs=>hs
 have fin:∀ {σ':St} {H':Hp} {v:V} {u:Value},Inv (cxOf CX P w K mg base N qual scope f cdv A outer s H E) [] σ' H' s'->RelV v u->Q v H'->CE outer P w H s Q u s' :=
  λ {σ' H' v u} J rv q=>⟨v,H',J.os,J.bare,J.base,J.hok,rv,q⟩
 cases fl with
 | ret u =>
  obtain ⟨v,σ',H',J,rv,q⟩:=hs;exact fin J rv q
 | next =>
  obtain ⟨σ',H',J,q⟩:=hs;exact fin (v:=V.non) (u:=Value.none) J rfl q
 | brk =>
  obtain ⟨_,_,_,q⟩:=hs;exact False.elim q
 | cont =>
  obtain ⟨_,_,_,q⟩:=hs;exact False.elim q
section
variable {x:Str} {pos:Pos} {e:Expr} {t:TA} {id T:String} {r:List V->Hp->VK->Prop}
noncomputable def tCB (r:List V->Hp->VK->Prop) (t:TA):TE:=λ σ H Q=>t σ H λ vs H1=>r vs H1 Q
theorem vk2 (hc:CallR X (.builtin id) r) (hg:Gl X x) (hm:X.mg x=none) (hv:bootBuiltins x=some (.builtin id)) (ha:PA X (e :: es) t) (hn:x ≠ "__name__" := by decide) (hdb:(x == ("__debug__" : Str))=false:=by decide)
    (he:starEach (e :: es) X.env=[37] :: starEach es X.env:=by rfl) (hpl:(backTo pos (starEach es X.env)).any (·.1)=false:=by rfl):PE X (.Call (.Name x p) (e :: es) [] pos) (tCB r t):=by
 intro pins s σ H Q I h;refine wpAny_Call_Name_kw (vn0 I hg hm hv ?_ hn hdb);exact PyProof.Rows.callWith_builtin1 (thn (ha pos pins s σ H _ I h) λ us s1 ⟨vs,H1,I1,r1,q1⟩=>hc pins s1 σ H1 vs us Q I1 r1 q1) he hpl
theorem ss1 (hc:CallR X (.type T) r) (hg:Gl X x) (hm:X.mg x=none) (hv:bootBuiltins x=some (.type T)) (ha:PA X (e :: es) t) (hn:x ≠ "__name__" := by decide) (hdb:(x == ("__debug__" : Str))=false:=by decide)
    (he:starEach (e :: es) X.env=[37] :: starEach es X.env:=by rfl) (hpl:(backTo pos (starEach es X.env)).any (·.1)=false:=by rfl):PE X (.Call (.Name x p) (e :: es) [] pos) (tCB r t):=by
 intro pins s σ H Q I h;refine wpAny_Call_Name_kw (vn0 I hg hm hv ?_ hn hdb);exact PyProof.Rows.callWith_type1 (thn (ha pos pins s σ H _ I h) λ us s1 ⟨vs,H1,I1,r1,q1⟩=>hc pins s1 σ H1 vs us Q I1 r1 q1) he hpl
end
end L2
namespace HT
open PySem PyProof.Rows
section
variable {prog:Program} {w:World} {A:Around} {E:[4]} {s:Shared}
theorem cat_tup {t b:Addr} {vs ws:[29]} {Q:[4]} (ht:IsTup s.heap t vs.toArray) (hb:IsTup s.heap b ws.toArray) (hv:vs ≠ [])
    (h1:ws=[]->Q (.ref t) s) (h2:ws ≠ []->Q (.ref s.heap.objs.size) { s with heap:=s.heap.push { cls:=.type "tuple",data:=.seq (vs ++ ws).toArray } })
    (hsz:vs.length + ws.length<=sizeLine):wpAny [3] A (binaryOp .Add (.ref t) (.ref b)) Q E s:=by
 obtain ⟨⟨cls,dd,data,sl⟩,ho,hc,n,hd⟩:=id ht;obtain ⟨⟨cls2,dd2,data2,sl2⟩,ho2,hc2,n2,hd2⟩:=id hb;simp only at hc hd hc2 hd2;subst hc hd hc2 hd2;have e:vs.toArray ++ ws.toArray=(vs ++ ws).toArray:=by simp
 by_cases hw:ws=[]
 ·exact concat_meets ⟨_,ho,rfl⟩ ⟨_,ho2,rfl⟩ noFill_tuple_add seq_tuple_add slot_tuple_add entry_tuple_add (args_tuple_add_2 _ _)
    (tuple_addW1 t b vs.toArray ws.toArray n n2 dd dd2 sl sl2 (by simpa using hv) (by simp [hw])) ⟨ho,ho2,h1 hw⟩
 ·refine concat_meets ⟨_,ho,rfl⟩ ⟨_,ho2,rfl⟩ noFill_tuple_add seq_tuple_add slot_tuple_add entry_tuple_add (args_tuple_add_2 _ _)
    (tuple_addW2 t b vs.toArray ws.toArray n n2 dd dd2 sl sl2 (by simpa using hv) (by simpa using hw) [2]) ⟨ho,ho2,?_⟩
  simp_all
end
end HT
namespace L2
open PySem PySem.Spec PyProof.Rows
noncomputable abbrev TO:=St->Hp->(Option Int->Hp->Prop)->Prop
theorem vk0 {ns:List Int}:∀ {us:[29]},Vals (ns.map V.int) us->IntsAre us ns:=by
 induction ns with
 | nil=>intro us r; rw [map_nil] at r; cases r; exact .nil
 | cons n ns ih =>
  intro us r;rw [map_cons] at r;cases r with
  | cons r1 r2 =>
   obtain ⟨t,e⟩:=r1;subst e;exact .cons n t (ih r2)
variable {X:Cx} {e:Expr} {xs:List V}
section
variable {te:TE} {lo hi:Option Expr} {tl th:TO} {pos p2:Pos}
noncomputable def xg5 (K:PySem.W.Frag):R2:=λ x y H Q=>∃ a b xs ys,x=.ref a /\ y=.ref b /\ SqT K H a xs /\ SqT K H b ys /\ xs ≠ [] /\ xs.length + ys.length<=sizeLine ∧
 (ys=[]->Q (.ref a) H) /\ (ys ≠ []->∀ p,H p=none->Q (.ref p) (upd H p (.tup (xs ++ ys))))
theorem Vals.nil_iff {us:[29]} (r:Vals xs us):us=[] ↔ xs=[]:=by
 cases r with
 | nil=>simp
 | cons _ _=>simp
theorem wf3:OpR X (binaryOp .Add) (xg5 X.K):=by
 intro pins s σ H x y v u Q I rx ry h;obtain ⟨a,b,xs,ys,rfl,rfl,ha,hb,hx,hz,q1,q2⟩:=h;cases rx;cases ry;obtain ⟨its,r1,p1,_⟩:=I.tuple ha;obtain ⟨its2,r2,p2,_⟩:=I.tuple hb;refine HT.cat_tup p1 p2 (λ z=>hx (r1.nil_iff.mp z)) (λ z=>⟨.ref a,H,I,rfl,q1 (r2.nil_iff.mp z)⟩) (λ z=>?_) (by rw [<- r1.length,<- r2.length]; exact hz);refine ⟨.ref s.heap.objs.size,_,I.laid (t':=s.toks) (o:=.tup (xs ++ ys)) (λ b ob q=>Heap.get?_push_of_some _ q) [26] ?_,rfl,q2 (λ w=>z (r2.nil_iff.mpr w)) _ (I.hok.fresh [26])⟩;exact ⟨by simp_all,_,r1.append r2,IsTup.new _ _⟩
end
noncomputable def ixN (n:Nat) (i:Int):Option Nat:=if 0<=i then (if i < n then some i.toNat else none) else if -(n:Int)<=i then some (i + n).toNat else none
noncomputable def atI {α:Type} (xs:List α) (i:Int):Option α:=(ixN xs.length i).bind λ j=>xs[j]?
variable {n:Nat} {i:Int}
theorem uv1 {j:Nat} (h:ixN n i=some j):seqIndex? i n=some j /\ j < n /\ -(n:Int)<=i /\ i < n:=by
 unfold ixN at h;by_cases h0:0<=i
 ·rw [if_pos h0] at h;by_cases h1:i < n
  ·rw [if_pos h1] at h;have e:i.toNat=j:=Option.some.inj h;exact ⟨by rw [seqIndex_of h0 h1,e],by omega,by omega,h1⟩
  simp_all
 ·rw [if_neg h0] at h;by_cases h1 : -(n:Int)<=i
  ·rw [if_pos h1] at h;have e:(i + n).toNat=j:=Option.some.inj h;exact ⟨by rw [seqIndex_neg [2] h1,e],by omega,h1,by omega⟩
  simp_all
theorem wb2 {α:Type} {xs:List α} {v:α} (h:atI xs i=some v):∃ j,seqIndex? i xs.length=some j /\ xs[j]?=some v /\ j < xs.length /\ -(xs.length:Int)<=i /\ i < xs.length:=by
 unfold atI at h;cases e:ixN xs.length i with
 | none=>simp_all
 | some j =>
  rw [e] at h;obtain ⟨h1,h2,h3,h4⟩:=uv1 e
  simp_all
noncomputable def ub2 (b:Expr):Prop:=∀ o i,subscripted b false o i=operate [o,i] (getItem o i)
noncomputable def IxR (X:Cx) (r:R2):Prop :=
 ∀ (value slice:Expr) (pins:[21]) (s:Shared) (σ:St) (H:Hp) (x y:V) (v u:Value) (Q:VK),Inv X pins σ H s->RelV x v->RelV y u->r x y H Q ->
  subscripted slice false v u=operate [v,u] (getItem v u)->wpAny [13] X.A (subscriptTail value slice v u) (EP X pins σ Q) X.xe s
noncomputable def MtR (X:Cx) (id:String) (r:V->List V->Hp->VK->Prop):Prop :=
 ∀ (pins:[21]) (s:Shared) (σ:St) (H:Hp) (x:V) (xs:List V) (v:Value) (us:[29]) (Q:VK),Inv X pins σ H s->RelV x v->Vals xs us->r x xs H Q ->
  wpAny [13] X.A (call (.builtin id) (v :: us)) (EP X pins σ Q) X.xe s
variable {pins:[21]} {σ:St} {H:Hp} {s:Shared} {p:Addr} {its:[29]} {T:String}
section
variable {a b:Expr} {ta tb:TE} {pos:Pos}
theorem IxR.or {r r':R2} (h:IxR X r) (h':IxR X r'):IxR X (λ x y H Q=>r x y H Q \/ r' x y H Q):=by
 intro value slice pins s σ H x y v u Q I rx ry q hs;rcases q with q | q
 ·exact h value slice pins s σ H x y v u Q I rx ry q hs
 ·exact h' value slice pins s σ H x y v u Q I rx ry q hs
theorem vi5 {r:R2} (hr:IxR X r) (ha:PE X a ta) (hb:PE X b tb) (hs:ub2 b):PE X (.Subscript a b pos) (tOp r ta tb):=by
 intro pins s σ H Q I h;exact Subscript_ (binT ha hb I h λ v u s2 x y H2 I2 rx ry q=>hr a b pins s2 σ H2 x y v u Q I2 rx ry q (hs _ _))
noncomputable def rIxL (K:PySem.W.Frag):R2:=λ x y H Q=>∃ p xs i v,x=.ref p /\ y=.int i /\ SqL K H p xs /\ atI xs i=some v /\ Q v H
noncomputable def rIxT (K:PySem.W.Frag):R2:=λ x y H Q=>∃ p xs i v,x=.ref p /\ y=.int i /\ SqT K H p xs /\ atI xs i=some v /\ Q v H
theorem ix_list:IxR X (rIxL X.K):=by
 intro value slice pins s σ H x y v u Q I rx ry h hs;obtain ⟨p,xs,i,z,rfl,rfl,hq,he,q⟩:=h;cases rx;obtain ⟨t,rfl⟩:=ry;obtain ⟨its,r,pl,hz⟩:=I.list hq;obtain ⟨j,h1,h2,h3,h4,h5⟩:=wb2 he;obtain ⟨w,ew,rw'⟩:=r.get h2;have hl:=r.length;have hn:=wy0;have fin:EP X pins σ Q w s:=⟨z,H,I,rw',q⟩;by_cases h0:0<=i
 ·have hj:i.toNat=j:=by
    rw [seqIndex_of h0 h5] at h1
    simp_all
  exact item_listR pl.isList h0 [2] [16] fin hs
 ·have hj:(i + (its.toArray.size:Int)).toNat=j:=by
    rw [seqIndex_neg [2] h4] at h1
    simp_all
  exact subscriptTail_builtinR (x:=w) pl.isList.typeIs slot_list_getitem.lookup
   (wpAny_getItem_list_neg (Q:=λ r s'=>r=w /\ EP X pins σ Q r s') pl.isList [2] [16] [2] [16] ⟨rfl,fin⟩) hs
theorem vq4:IxR X (rIxT X.K):=by
 intro value slice pins s σ H x y v u Q I rx ry h hs;obtain ⟨p,xs,i,z,rfl,rfl,hq,he,q⟩:=h;cases rx;obtain ⟨t,rfl⟩:=ry;obtain ⟨its,r,pl,hz⟩:=I.tuple hq;obtain ⟨j,h1,h2,h3,h4,h5⟩:=wb2 he;obtain ⟨w,ew,rw'⟩:=r.get h2;have hl:=r.length;have hn:=wy0;have fin:EP X pins σ Q w s:=⟨z,H,I,rw',q⟩
 exact subscriptTail_builtinR (x:=w) pl.typeIs slot_tuple_getitem.lookup
  (getItem_tuple (j:=j) (Q:=λ r s'=>r=w /\ EP X pins σ Q r s') pl [2] [2] [16] (by simpa using ew) ⟨rfl,fin⟩) hs
theorem zl1 (its:[29]) (n j:Nat) (u:Value):Obj.mapSeq (·.setIfInBounds j u) { cls:=.type "list",data:=.seq its.toArray n }={ cls:=.type "list",data:=.seq (its.set j u).toArray n }:=by
 simp [Obj.mapSeq]
theorem Inv.lst (I:[7]) (h:H p=some (.lst xs)) :
    ∃ (its:[29]) (n:Nat),Vals xs its /\ s.heap.get? p=some { cls:=.type "list",data:=.seq its.toArray n } /\ xs.length<=sizeLine:=by
 obtain ⟨z,its,n,r,e⟩:=I.hok p _ h
 simp_all
theorem Inv.lstUpd {ys:List V} {its':[29]} {n':Nat} {f:Obj->Obj} (I:[7]) (h:H p=some (.lst xs))
    (ho:s.heap.get? p=some { cls:=.type "list",data:=.seq its.toArray n }) (hf:f { cls:=.type "list",data:=.seq its.toArray n }={ cls:=.type "list",data:=.seq its'.toArray n' }) (r:Vals ys its') (hz:ys.length<=sizeLine) (t:Nat) :
    Inv X pins σ (upd H p (.lst ys)) { s with heap:=s.heap.update p f,toks:=t }:=by
 have e:(s.heap.update p f).get? p=some { cls:=.type "list",data:=.seq its'.toArray n' }:=by
  rw [Heap.get?_update_self f ho (by rw [hf] <;> rfl),hf]
 refine I.write (x:=p) (e:=p) (by rw [h]; trivial) (.inl rfl) (λ b u hb q=>(Heap.get?_update_other _ _ (Ne.symm hb)).trans q) ⟨_,e⟩ ?_;exact ⟨hz,its',n',r,e⟩
noncomputable def sf5:V->V->V->Hp->(Hp->Prop)->Prop:=λ o i v H Q=>∃ p xs k j,o=.ref p /\ i=.int k /\ H p=some (.lst xs) /\ ixN xs.length k=some j /\ Q (upd H p (.lst (xs.set j v)))
theorem ts0:PSet X sf5:=by
 intro pins s σ H o i v ov iv u Q I ro ri rv h;obtain ⟨p,xs,k,j,rfl,rfl,hp,hj,q⟩:=h;cases ro;obtain ⟨t,rfl⟩:=ri;obtain ⟨its,n,r,ho,hz⟩:=I.lst hp;obtain ⟨h1,h2,h3,h4⟩:=uv1 hj;have hl:=r.length;have hn:=wy0
 have I':Inv X pins σ (upd H p (.lst (xs.set j v))) { s with heap:=s.heap.update p (Obj.mapSeq (·.setIfInBounds j u)) } :=
  I.lstUpd hp ho (zl1 its n j u) (r.set rv j) [16] s.toks
 by_cases h0:0<=k
 ·have hk:k.toNat=j:=by
    rw [seqIndex_of h0 h4] at h1
    simp_all
  exact PySem.W.ki_setAt ho h0 [2] [16] (by rw [hk]; exact ⟨_,I',q⟩)
 ·have hk:(k + (its.toArray.size:Int)).toNat=j:=by
    rw [seqIndex_neg [2] h3] at h1
    simp_all
  exact PySem.W.ki_setBack ho [2] [16] [2] (by rw [hk]; exact ⟨_,I',q⟩)
theorem call_len_seq:CallR X (.builtin "len") (λ xs H Q=>∃ p ys,xs=[.ref p] /\ (SqL X.K H p ys \/ SqT X.K H p ys) /\ Q (.int ys.length) H):=by
 intro pins s σ H xs us Q I r h;obtain ⟨p,ys,rfl,hq,q⟩:=h;obtain ⟨u,rfl,rx⟩:=vv0 r;cases rx;have hn:=wy0;rcases hq with hq | hq
 ·obtain ⟨its,r',pl,hz⟩:=I.list hq;have hlen:=r'.length;exact Calls.call_len_list pl.isList [8] ⟨.int ys.length,H,I.tok _,⟨s.toks + 1,by simp_all⟩,q⟩
 ·obtain ⟨its,r',pl,hz⟩:=I.tuple hq;have hlen:=r'.length;exact len_tuple pl [8] ⟨.int ys.length,H,I.tok _,⟨s.toks + 1,by simp_all⟩,q⟩
theorem za1:CallR X (.builtin "len") (λ xs H Q=>∃ z,xs=[.str z] /\ z.length<=sizeLine /\ Q (.int z.length) H):=by
 intro pins s σ H xs us Q I r h;obtain ⟨z,rfl,hz,q⟩:=h;obtain ⟨u,rfl,t,rfl⟩:=vv0 r;have hn:=wy0;exact len_str [2] ⟨.int z.length,H,I.tok _,⟨_,rfl⟩,q⟩
theorem CallR.or {f:Value} {r r':List V->Hp->VK->Prop} (h:CallR X f r) (h':CallR X f r'):CallR X f (λ xs H Q=>r xs H Q \/ r' xs H Q):=by
 intro pins s σ H xs us Q I rs q;rcases q with q | q
 ·exact h pins s σ H xs us Q I rs q
 ·exact h' pins s σ H xs us Q I rs q
theorem xv0:CallR X (.type "tuple") (λ xs H Q=>∃ p ys,xs=[.ref p] /\ ((SqL X.K H p ys /\ ∀ l,H l=none->Q (.ref l) (upd H l (.tup ys))) \/ (SqT X.K H p ys /\ Q (.ref p) H))):=by
 intro pins s σ H xs us Q I r h;obtain ⟨p,ys,rfl,h⟩:=h;obtain ⟨u,rfl,rx⟩:=vv0 r;cases rx;rcases h with ⟨hq,q⟩ | ⟨hq,q⟩
 ·obtain ⟨its,r',pl,hz⟩:=I.list hq;have hlen:=r'.length;refine call_tuple_list pl.isList (λ h' kp=>?_) [16];have I1:Inv X pins σ H [38]:=I.kept (t':=s.toks) kp
  have I2:Inv X pins σ (upd H h'.objs.size (.tup ys)) { s with heap:=h'.push { cls:=.type "tuple",data:=.seq its.toArray } } :=
   I1.laid (t':=s.toks) (λ b o e=>Heap.get?_push_of_some _ e) [26] (show ObjOk X.prog X.w _ _ _ (.tup ys) from ⟨hz,its,r',IsTup.new _ _⟩)
  exact ⟨.ref h'.objs.size,_,I2,rfl,q _ (I1.hok.fresh [26])⟩
 ·obtain ⟨its,r',pl,hz⟩:=I.tuple hq;exact call_tuple_same pl ⟨.ref p,H,I,rfl,q⟩
noncomputable def tyV (K:PySem.W.Frag) (T:String) (x:V) (H:Hp):Prop:=match x with
 | .str _=>T = "str"
 | .int _=>T = "int"
 | .ref p=>(T = "list" /\ ∃ xs,SqL K H p xs) \/ (T = "tuple" /\ ∃ o,K.lookup p=some o /\ o.cls=.type "tuple" /\ o.dict=none) ∨
     (T = "dict" /\ ((∃ kvs,H p=some (.dK kvs)) \/ ∃ kvs ne,H p=some (.dT kvs ne))) \/ (T = "set" /\ ∃ S n,H p=some (.set S n))
 | _=>False
theorem sq2 {x:V} {v:Value} (I:[7]) (r:RelV x v) (ty:tyV X.K T x H) :
    s.TypeIs v T /\ ∀ a,v=.ref a->∃ ob,s.heap.get? a=some ob /\ ob.dict=none:=by
 cases x with
 | str z =>
  obtain ⟨t,rfl⟩:=r;cases (show T = "str" from ty);exact ⟨typeIs_str s z t,λ _ e=>nomatch e⟩
 | int i =>
  obtain ⟨t,rfl⟩:=r;cases (show T = "int" from ty);exact ⟨typeIs_int s i t,λ _ e=>nomatch e⟩
 | ref p =>
  cases r;rcases ty with ⟨rfl,xs,hq⟩ | ⟨rfl,o,hk,hc,hd⟩ | ⟨rfl,hk⟩ | ⟨rfl,S,n,hk⟩
  ·obtain ⟨its,_,pl,_⟩:=I.list hq;refine ⟨pl.isList.typeIs,λ a e=>?_⟩;cases e;obtain ⟨o,n,e,c,hd,_⟩:=pl
   simp_all
  ·refine ⟨⟨o,I.kIn p o hk,hc⟩,λ a e=>?_⟩;cases e;exact ⟨o,I.kIn _ o hk,hd⟩
  ·have z:∃ o,s.heap.get? p=some o /\ o.ExactDict:=by
     rcases hk with ⟨kvs,hk⟩ | ⟨kvs,ne,hk⟩
     ·obtain ⟨_,_,_,_,o,_,_,e,ex,_⟩:=I.hok p _ hk
      simp_all
     ·obtain ⟨_,_,_,_,o,_,_,e,ex,_⟩:=I.hok p _ hk
      simp_all
   obtain ⟨o,e,ex⟩:=z;refine ⟨⟨o,e,ex.1⟩,λ a e2=>?_⟩;cases e2;exact ⟨o,e,ex.2.1⟩
  ·obtain ⟨o,_,_,_,e,ex,_⟩:=I.hok p _ hk;refine ⟨⟨o,e,ex.1⟩,λ a e2=>?_⟩;cases e2;exact ⟨o,e,ex.2.1⟩
 | _=>exact False.elim ty
noncomputable def tBM0 (K:PySem.W.Frag) (T:String) (r:V->List V->Hp->VK->Prop) (to:TE):TE:=λ σ H Q=>to σ H λ x H1=>tyV K T x H1 /\ r x [] H1 Q
noncomputable def tBM (K:PySem.W.Frag) (T:String) (r:V->List V->Hp->VK->Prop) (to:TE) (t:TA):TE:=λ σ H Q=>to σ H λ x H1=>tyV K T x H1 /\ t σ H1 λ xs H2=>r x xs H2 Q
variable {o:Expr} {es:List Expr} {to:TE} {t:TA} {name:Str} {apos cpos:Pos} {id:String} {r:V->List V->Hp->VK->Prop}
theorem sm4 (pa:PlainAttrs T) (slot:Slot T name id) (hty:typeOf (.builtin id)=pure (.type "method_descriptor")) (hm:MtR X id r) (ho:PE X o to)
    (hbase:attributeBase o name X.env (eval o X.env)=eval o X.env:=by rfl) (hline:(apos.endLine == cpos.line)=true:=by rfl):PE X (.Call (.Attribute o name apos) [] [] cpos) (tBM0 X.K T r to):=by
 intro pins s σ H Q I h;refine wpAny_Call_method0_late hbase hline (thn (ho pins s σ H _ I h) λ v s1 ⟨x,H1,I1,r1,ty,q1⟩=>?_);obtain ⟨h1,h2⟩:=sq2 I1 r1 ty;exact ⟨T,id,pa,slot,hty,h1,h2,Calls.callWith_builtin rfl (PySem.evalArgs_none (hm pins s1 σ H1 x [] v [] Q I1 r1 .nil q1))⟩
theorem ue3 (pa:PlainAttrs T) (slot:Slot T name id) (hty:typeOf (.builtin id)=pure (.type "method_descriptor")) (hm:MtR X id r) (ho:PE X o to) (ha:PA X (e :: es) t)
    (hbase:attributeBase o name X.env (eval o X.env)=eval o X.env:=by rfl)
    (hfew:((backTo cpos (starEach (e :: es) X.env)).all (λ x=>!x.1) && (backToKw cpos (keywordEach [] X.env)).all (λ x=>x.1.isSome)
     && decide [24])=true:=by rfl)
    (hline:(apos.endLine == cpos.line)=true:=by rfl) (hs:starEach (e :: es) X.env=[37] :: starEach es X.env:=by rfl) (hplain:(backTo cpos (starEach es X.env)).any (·.1)=false:=by rfl) :
    PE X (.Call (.Attribute o name apos) (e :: es) [] cpos) (tBM X.K T r to t):=by
 intro pins s σ H Q I h;refine wpAny_Call_method_late hbase hfew hline rfl (thn (ho pins s σ H _ I h) λ v s1 ⟨x,H1,I1,r1,ty,q1⟩=>?_);obtain ⟨h1,h2⟩:=sq2 I1 r1 ty;refine ⟨T,id,pa,slot,hty,h1,h2,?_⟩;have hA:=ha cpos pins s1 σ H1 _ I1 q1;rw [hs] at hA ⊢;refine Calls.callWith_builtin [27] (Calls.evalArgs_plain ?_);exact thn hA λ us s2 ⟨vs,H2,I2,r2,q2⟩=>hm pins s2 σ H2 x vs v us Q I2 r1 r2 q2
end
noncomputable def MtM (X:Cx) (id:String) (r:V->List V->Hp->VK->Prop):Prop :=
 ∀ (pins:[21]) (s:Shared) (σ:St) (H:Hp) (x:V) (xs:List V) (v:Value) (us:[29]) (Q:VK),Inv X pins σ H s->RelV x v->Vals xs us->r x xs H Q ->
  wpAny [13] X.A (call (.builtin id) (v :: us)) (EP X pins σ Q) X.xe s
theorem Vals.one:∀ {x:V} {us:[29]},Vals [x] us->∃ u,us=[u] /\ RelV x u
 | _,_,.cons r .nil=>⟨_,rfl,r⟩
theorem Vals.zero:∀ {us:[29]},Vals [] us->us=[]
 | _,.nil=>rfl
theorem Vals.dropLast {xs:List V} {us:[29]} (h:Vals xs us):Vals xs.dropLast us.dropLast:=by
 induction h with
 | nil=>exact .nil
 | cons r t ih =>
  cases t with
  | nil=>exact .nil
  | cons q t'=>exact .cons r ih
variable {t':Nat}
section
variable {l b:Addr} {ys zs:List V}
theorem Inv.lset {its':[29]} {f:Array Value->Array Value} (I:[7]) (hH:H l=some (.lst xs))
    (e:s.heap.get? l=some { cls:=.type "list",data:=.seq its.toArray n }) (hf:f its.toArray=its'.toArray) (hv:Vals ys its') (hz:ys.length<=sizeLine) :
    Inv X pins σ (upd H l (.lst ys)) { s with heap:=s.heap.update l (Obj.mapSeq f),toks:=t' }:=by
 have q:=PySem.IsL.update e f;rw [hf] at q;refine I.write (x:=l) (e:=l) (by rw [hH]; exact trivial) (.inl rfl) (λ b' u hb hu=>(Heap.get?_update_other s.heap (Obj.mapSeq f) (Ne.symm hb)).trans hu) ⟨_,q⟩ ?_;exact ⟨hz,its',_,hv,q⟩
theorem Inv.lnew (I:[7]) (hv:Vals ys its) (hz:ys.length<=sizeLine) :
    Inv X pins σ (upd H s.heap.objs.size (.lst ys)) { s with heap:=s.heap.push { cls:=.type "list",data:=.seq its.toArray },toks:=t' } :=
 I.laid (λ _ _ q=>Heap.get?_push_of_some _ q) [26] ⟨hz,its,0,hv,Heap.get?_push_size _ rfl⟩
theorem Inv.fresh (I:[7]):H s.heap.objs.size=none:=I.hok.fresh [26]
theorem Inv.lstM (I:[7]) (hH:H l=some (.lst xs)):xs.length<=sizeLine /\ ∃ (its:[29]) (n:Nat),Vals xs its /\ xs.length=its.length /\ s.heap.get? l=some { cls:=.type "list",data:=.seq its.toArray n }:=by
 obtain ⟨z,its,n,r,e⟩:=I.hok l _ hH;exact ⟨z,its,n,r,r.length,e⟩
theorem zl2 (h:n<=sizeLine):Builtin.List.listTooLong n=false:=by
 unfold Builtin.List.listTooLong
 simp_all
end
section
noncomputable def ub3:V->List V->Hp->VK->Prop:=λ x vs H Q=>∃ l xs y,x=.ref l /\ vs=[y] /\ H l=some (.lst xs) /\ xs.length < sizeLine /\ Q .non (upd H l (.lst (xs ++ [y])))
theorem sx0:MtM X "list.append" ub3:=by
 intro pins s σ H x vs v us Q I rx rv h;obtain ⟨l,xs,y,rfl,rfl,hH,hz,q⟩:=h;cases rx;obtain ⟨u,rfl,ru⟩:=rv.one;obtain ⟨z,its,n,r,hl,e⟩:=I.lstM hH;refine call_meets F.slot_list_append ⟨_,e,rfl⟩ F.entry_list_append (F.args_list_append_2 _ _) (PySem.list_append l its.toArray n u [16]) ⟨e,?_⟩;refine ⟨.non,_,I.lset (its':=its ++ [u]) hH e [10] (r.append (.cons ru .nil)) ?_,rfl,q⟩
 simp_all;omega
noncomputable def vb3:V->List V->Hp->VK->Prop:=λ x vs H Q=>∃ l b xs zs,x=.ref l /\ vs=[.ref b] /\ H l=some (.lst xs) /\ H b=some (.lst zs) /\ xs.length + zs.length<=sizeLine /\ Q .non (upd H l (.lst (xs ++ zs)))
theorem ut1:MtM X "list.extend" vb3:=by
 intro pins s σ H x vs v us Q I rx rv h;obtain ⟨l,b,xs,zs,rfl,rfl,hH,hB,hz,q⟩:=h;cases rx;obtain ⟨u,rfl,ru⟩:=rv.one;cases ru;obtain ⟨z,its,n,r,hl,e⟩:=I.lstM hH;obtain ⟨z2,its2,n2,r2,hl2,e2⟩:=I.lstM hB;have hsz:its.toArray.size + its2.toArray.size<=sizeLine:=by simp_all
 have hlong:¬ (!its.toArray.isEmpty && Builtin.List.listTooLong (its.toArray.size + its2.toArray.size))=true:=by
  rw [zl2 hsz,Bool.and_false];trivial
 refine call_meets F.slot_list_extend ⟨_,e,rfl⟩ F.entry_list_extend (F.args_list_extend_2 _ _)
  (AutoSeq1.list_extend_list_list_0 l its.toArray n b its2.toArray n2 hlong [2] [2]) ⟨e,e2,?_⟩
 refine ⟨.non,_,I.lset (its':=its ++ its2) hH e [10] (r.append r2) ?_,rfl,q⟩
 simp_all
noncomputable def rPop:V->List V->Hp->VK->Prop:=λ x vs H Q=>∃ l xs y,x=.ref l /\ vs=[] /\ H l=some (.lst xs) /\ xs[xs.length - 1]?=some y /\ Q y (upd H l (.lst xs.dropLast))
theorem zo4:MtM X "list.pop" rPop:=by
 intro pins s σ H x vs v us Q I rx rv h;obtain ⟨l,xs,y,rfl,rfl,hH,hy,q⟩:=h;cases rx;have hus:=rv.zero;subst hus;obtain ⟨z,its,n,r,hl,e⟩:=I.lstM hH;obtain ⟨u,hu,ru⟩:=r.get hy
 have hy':its.toArray[its.toArray.size - 1]?=some u:=by
  simp_all
 refine call_meets F.slot_list_pop ⟨_,e,rfl⟩ F.entry_list_pop (F.args_list_pop_1 _) (MeetsSeq.list_pop_last l its.toArray n u hy' [16]) ⟨e,?_⟩;refine ⟨y,_,I.lset (its':=its.dropLast) hH e ?_ r.dropLast ?_,ru,q⟩
 ·simp
 simp_all;omega
noncomputable def rCat:R2:=λ x y H Q=>∃ l b xs zs,x=.ref l /\ y=.ref b /\ H l=some (.lst xs) /\ H b=some (.lst zs) /\ xs.length + zs.length<=sizeLine /\ ∀ p,H p=none->Q (.ref p) (upd H p (.lst (xs ++ zs)))
theorem op_cat:OpR X (binaryOp .Add) rCat:=by
 intro pins s σ H x y v u Q I rx ry h;obtain ⟨l,b,xs,zs,rfl,rfl,hH,hB,hz,q⟩:=h;cases rx;cases ry;obtain ⟨z,its,n,r,hl,e⟩:=I.lstM hH;obtain ⟨z2,its2,n2,r2,hl2,e2⟩:=I.lstM hB;refine PySem.P.add_list e e2 ?_ [16];have ea:its.toArray ++ its2.toArray=(its ++ its2).toArray:=by simp
 rw [ea];exact ⟨.ref _,_,I.lnew (t':=s.toks) (r.append r2) [16],rfl,q _ I.fresh⟩
end
end L2
namespace Att
open PySem PySem.W PySem.Calls PyProof.Rows
variable {P:Params} {h:Heap}
theorem un0:∀ (ns:List Int) (vs:[29]),WellAll P h vs (ns.map WData.int)->IntsAre vs ns:=by
 intro ns
 induction ns with
 | nil =>
  intro vs w;rw [map_nil] at w;cases w;exact .nil
 | cons n ns ih =>
  intro vs w;rw [map_cons] at w;cases w with
  | cons a b =>
   cases a;exact .cons _ _ (ih _ b)
variable {n:Nat}
theorem tp1 {l:OpenLaw} (hn:l.most=some n) {args:List WData} {vals:[29]}
    (hpre:l.row.toRowW.claim.pre args=true) (hwl:WellAll P h vals args) :
    ∃ a vs ns,vals=[Value.ref a] /\ args=[WData.list (ns.map WData.int)] /\ h.get? a=some { cls:=.type "list",data:=.seq vs.toArray } /\ IntsAre vs ns /\ ns.length<=n:=by
 have hsh:WShape.hasAll [] args [.list .int]=true:=(pre_splitW hpre).1;have hc:l.pre.holds [] { args:=args }=true:=(pre_splitW hpre).2;obtain ⟨d,r,rfl,h1,h2⟩:=hasAllW_cons hsh;obtain rfl:=hasAllW_nil h2;obtain ⟨xs,rfl,h3⟩:=hasW_list h1;obtain ⟨ns,rfl⟩:=items_int h3
 have hlen:ns.length<=n:=by
  unfold OpenLaw.pre at hc
  have h4:(WTm.not (.lt (.lit (.int (n:Int))) (.len (.arg 0)))).holds [] { args:=[.list (ns.map .int)] }=true:=by
   have h4:=(holds_andW hc).1
   simp_all
  have h5:=condW_of h4 (w_not (w_lt w_lit (w_len_list (w_arg rfl))))
  simp_all
 cases hwl with
 | cons w1 w2 =>
  cases w2;cases w1 with
  | list ho hall=>exact ⟨_,_,ns,rfl,rfl,ho,un0 ns _ hall,hlen⟩
theorem tr1 (l:OpenLaw) (args:List WData):l.row.toRowW.claim.post args (.bool true) args=true :=
 postW_of (r:=l.row.toRowW) (X:=(true == true))
  (show WShape.has [] (.bool true) .bool=true by rfl)
  (show (WTm.eq .res (.lit (.bool true))).value [] { args:=args,res:=some (.bool true),after:=args }=some (.bool (true == true)) from w_eq_bool (w_res rfl) w_lit) rfl
theorem attach_call {l:OpenLaw} {q:Program} {loose:List Str} {XP:(Str->Option Value)->Heap->Prop} {YP:World->Heap->Prop} {d:DefRec}
    (hn:l.most=some n) (hdf:d.params.defaults=[])
    (call:∀ (w:World) (s₀ s₁:Shared) (mg mb:[40]) (fa:Addr) (o:Obj) (pm cd doc:Value) (a:Addr) (vs:[29]) (ns:List Int),
     Ground q loose [] XP w s₀ mg mb s₁.heap->YP w s₁.heap ->
     s₁.heap.get? fa=some o->o.data=.func (docDef d.name d.params d.body d.scope pm cd doc)->s₁.heap.CodeRec cd d.name->mg d.name=some (.ref fa) ->
     s₁.heap.get? a=some { cls:=.type "list",data:=.seq vs.toArray }->IntsAre vs ns->ns.length<=n->s₁.gens = #[] ->
     codeAny (model l.prog w) callerA (.call (.ref fa) ⟨[.ref a],[]⟩) (λ r s'=>r=.ok (.ret (.bool true)) /\ OldK s₁.heap s'.heap /\ s'.os=s₁.os /\ AllBare s'.gens) s₁) :
    WalkO q loose XP YP l.row.toRowW d [] (λ f vs=>PySem.call f vs):=by
 intro w s₀ s₁ mg mb G Y fa o pm cd doc dV kV ho hd hcd hD hmg hg args vals as hpre hlay hrd hwl hlo;obtain rfl:dV=.none:=Dflts.none hD hdf;obtain rfl:kV=.none:=Dflts.noKw hD;obtain ⟨a,vs,ns,rfl,rfl,hobj,hints,hlen⟩:=tp1 hn hpre hwl;refine enter_call (codeAny_mono (call w s₀ s₁ mg mb fa o pm cd doc a vs ns G Y ho (fd_plain hd) hcd hmg hobj hints hlen hg) λ r s' hq=>?_);obtain ⟨rfl,h2,h3,h4⟩:=hq;exact ⟨.inl ⟨.bool true,.bool true,[],rfl,λ _=>rfl,.bool true,tr1 l _,λ _=>⟨List.Pairwise.nil,λ _ hm=>(nomatch hm)⟩⟩,h2,h3,h4⟩
section
variable {prog:Program} {w:World} {A:Around} {E:[4]} {s:Shared} {K:Frag}
noncomputable def ledger (h:Heap) (L d:Addr):List (Addr × Obj):=(List.range h.objs.size).filterMap λ a=>if a=L \/ a=d then none else (h.get? a).map λ o=>(a,o)
end
end Att
namespace L2
open PySem PySem.Spec PyProof.Rows
theorem wv0:∀ {vs:[29]} {ns:List Int},IntsAre vs ns->Vals (ns.map V.int) vs
 | _,_,.nil=>.nil
 | _,_,.cons n t h=>.cons ⟨t,rfl⟩ (wv0 h)
noncomputable def Only (H:Hp):Prop:=∀ b,H b=none \/ ∃ o xs,H b=some (.frz o (.lst xs))
variable {P:Program} {w:World} {K:PySem.W.Frag} {mg:[40]} {fd:FuncData} {x:Str} {sp:Sp}
theorem tl2 {mb:[40]} {CX:CXT} {k:Nat} {fa a:Addr} {s₁:Shared} {vs:[29]} {ns:List Int}
    (KX:K.In s₁.heap) (hns:s₁.heap.Ns mainGlobals mg) (hb:s₁.heap.Ns builtinsNs mb) (hbb:∀ x:Str,x ≠ "__name__" -> mb x=bootBuiltins x) (hlim:s₁.heap.NoLimit) (hg:s₁.gens = #[])
    (ha:s₁.heap.get? a=some { cls:=.type "list",data:=.seq vs.toArray }) (hi:IntsAre vs ns) (hl:ns.length<=sizeLine) (hr:Room k callerA)
    (F:∀ base:Heap,K.In base->base.Ns mainGlobals mg->FnOk P w K mg base CX k fa fd [x] sp) (hbind:∀ (s:Shared) (u:Value),BindsTo s fd ⟨[u],[]⟩ [(x,u)])
    (hsp:∀ H:Hp,Only H->SqL K H a (ns.map V.int)->sp [.ref a] H (λ v _=>v=.bl true) λ _ _ _=>False)
    (hCX:∀ H e s',CX [] H s₁ (λ _ _ _=>False) e s'->False) :
    codeAny (model P w) callerA (.call (.ref fa) ⟨[.ref a],[]⟩) (λ r s'=>r=.ok (.ret (.bool true)) /\ OldK s₁.heap s'.heap /\ s'.os=s₁.os /\ AllBare s'.gens) s₁:=by
 have rv:=wv0 hi;have lenV:=hi.length
 have core:∀ H:Hp,Only H->SqL K H a (ns.map V.int)->HOk P w H s₁.heap->(∀ b,H b ≠ none->b=a)->(H a ≠ none->K.lookup a=none) ->
     codeAny (model P w) callerA (.call (.ref fa) ⟨[.ref a],[]⟩) (λ r s'=>r=.ok (.ret (.bool true)) /\ OldK s₁.heap s'.heap /\ s'.os=s₁.os /\ AllBare s'.gens) s₁:=by
  intro H hO hS hok hA hK;have base_of:∀ {b:Addr} {o:Obj},s₁.heap.get? b=some o->H b=none->(hidT s₁.heap H).get? b=some o:=λ e n=>zn2 e n
  have noA:∀ {b:Addr} {o:Obj} {es:Array DictEntry} {ep:Nat},s₁.heap.get? b=some o->o.data=.dict es ep->H b=none:=λ {b o es ep} e d=>by
   cases q:H b with
   | none=>rfl
   | some u =>
    have e':b=a:=hA b (by rw [q]; simp);subst e';rw [ha] at e; cases e;trivial
  have nsK:∀ {b:Addr} {m:[40]},s₁.heap.Ns b m->(hidT s₁.heap H).Ns b m:=λ {b m} ⟨o,es,ep,e,d,r⟩=>⟨o,es,ep,base_of e (noA e d),d,r⟩
  have hKb:K.In (hidT s₁.heap H):=λ b o e=>base_of (KX b o e) (by
   cases q:H b with
   | none=>rfl
   | some u =>
    have e':b=a:=hA b (by rw [q]; simp);subst e'
    simp_all)
  have hM:Mod K mg (hidT s₁.heap H):=⟨hKb,nsK hns,⟨mb,nsK hb,hbb⟩,let ⟨mc,h1,h2⟩:=hlim; ⟨mc,nsK h1,h2⟩⟩;have e0:Env0 P w K mg (hidT s₁.heap H) callerA [] s₁ H:=⟨rfl,hM,λ b o e=>tf3 e,Nat.le_of_eq (sw1 _ _),trivial,λ b hb=>absurd (show b ∈ ([]:List Addr) from hb) [10],hok,.of_eq hg⟩;refine codeAny_mono ((F _ hKb (nsK hns)).run callerA [] s₁ H ⟨[.ref a],[]⟩ [.ref a] [.ref a] _ _ hr e0 (hbind s₁ (.ref a)) (.cons rfl .nil) (hsp H hO hS)) λ r s' h=>?_;cases r with
  | error e=>exact (hCX H e s' h).elim
  | ok fl =>
   cases fl with
   | next=>exact False.elim h
   | brk=>exact False.elim h
   | cont=>exact False.elim h
   | ret u =>
    obtain ⟨v,H',os,bare,un,hok',r',q⟩:=h;have q':v=.bl true:=q;subst q';obtain rfl:u=Value.bool true:=r';refine ⟨rfl,OldK.of_keep λ b o e=>?_,os,bare⟩;cases q:H b with
    | none=>exact un.keep b o e q (by intro z; trivial) [10]
    | some u =>
     rcases hO b with z | ⟨ob,xs,z⟩
     ·simp_all
     ·have z2:=un.frzs b ob _ z;obtain ⟨e1,_⟩:=hok b _ z;obtain ⟨e2,_⟩:=hok' b _ z2
      simp_all
 cases hk:K.lookup a with
 | some o =>
  have e:=KX a o hk;rw [ha] at e;cases e;refine core (λ _=>none) (λ _=>.inl rfl) (.inr ⟨_,vs.toArray,_,hk,rfl,rfl,rfl,by simp_all,by simpa using rv⟩) (λ b u z=>by trivial) (λ b z=>absurd rfl z) λ z=>absurd rfl z
 | none =>
  refine core (λ b=>if b=a then some (.frz { cls:=.type "list",data:=.seq vs.toArray } (.lst (ns.map V.int))) else none) (λ b=>?_) (.inl (.inr ⟨{ cls:=.type "list",data:=.seq vs.toArray },if_pos rfl⟩)) (λ b u z=>?_) (λ b z=>?_) λ _=>hk
  ·by_cases hb:b=a
   ·simp_all
   simp_all
  ·by_cases hb:b=a
   ·have z':=(if_pos hb).symm.trans z;cases z';subst hb;exact ⟨ha,by simp_all,vs,_,rv,ha⟩
   simp_all
  simp_all
noncomputable abbrev KOf {K:PySem.W.Frag} {h:Heap} (_:K.In h):PySem.W.Frag:=K
theorem walk_of {l:PySem.W.OpenLaw} {n k:Nat} {q:Program} {loose:List Str} {XP:(Str->Option Value)->Heap->Prop} {YP:World->Heap->Prop} {d:DefRec} {K:Params->PySem.W.Frag} {CX:World->CXT} {sp:World->Sp} 
    (hn:l.most=some n) (hn2:n<=sizeLine) (hdf:d.params.defaults=[]) (hr:Room k callerA)
    (hY:∀ (w:World) (h:Heap),YP w h->(K w.params).In h)
    (F:∀ (w:World) (mg:[40]) (fa:Addr) (h:Heap),(K w.params).In h->h.Ns mainGlobals mg->mg d.name=some (.ref fa) ->
     ∃ fd:FuncData,(∀ (s:Shared) (u:Value),BindsTo s fd ⟨[u],[]⟩ [(x,u)]) ∧
      ∀ base:Heap,(K w.params).In base->base.Ns mainGlobals mg->FnOk l.prog w (K w.params) mg base (CX w) k fa fd [x] (sp w))
    (hsp:∀ (w:World) (H:Hp) (a:Addr) (ns:List Int),ns.length<=n->Only H->SqL (K w.params) H a (ns.map V.int)->sp w [.ref a] H (λ v _=>v=.bl true) λ _ _ _=>False)
    (hCX:∀ (w:World) (H:Hp) (s:Shared) (e:Value) (s':Shared),CX w [] H s (λ _ _ _=>False) e s'->False) :
    PySem.W.WalkO q loose XP YP l.row.toRowW d [] (λ f vs=>PySem.call f vs):=by
 refine Att.attach_call hn hdf λ w s₀ s₁ mg mb fa o pm cd doc a vs ns G Y ho hd hcd hmg hobj hints hlen hg=>?_;have KX:=hY w _ Y;obtain ⟨fd,hb,hF⟩:=F w mg fa _ KX G.T.g hmg;exact tl2 KX G.T.g G.T.b G.T.builtins G.T.nolimit hg hobj hints (Nat.le_trans hlen hn2) hr hF hb (λ H hO hS=>hsp w H a ns hlen hO hS) λ H e s'=>hCX w H s₁ e s'
noncomputable abbrev CX0:CXT:=λ _ _ _ _ _ _=>False
noncomputable abbrev E0:XK:=λ _ _ _=>False
variable {X:Cx}
theorem si5:tb2 CX0 X E0:=λ _ _ _ _ _ _ _ h=>h.elim
structure Fun (K:PySem.W.Frag) (x qual:Str) (st:Stmt) (f:Addr) (fd:FuncData):Prop where
 ex:∃ (oc:Value) (od:Option Addr) (kV doc pm:Value) (an:Option Addr) (cdv ct:Value) (osl:Array (Option Value)),
  fd=fnOf x qual (xg0 st) (xd0 st) (ua0 st) .none kV doc pm an cdv ct /\ K.lookup f=some ⟨oc,od,.func fd,osl⟩ /\ codeIn K cdv qual=true
 kp:keepIn K (.ref f)=true
variable {qual:Str} {f:Addr} {ps:List Str}
section
variable {base:Heap}
theorem Fun.ok {st:Stmt} {N:List Str} {k:Nat} (F:Fun K x qual st f fd) (S:FnScope N ps (ua0 st)) (len:∀ vs H Q E,sp vs H Q E->vs.length=ps.length)
    (hbody:∀ (cdv:Value) (A:Around) (outer:List Env) (s:Shared) (H:Hp) (vs:List V) (Q:VK) (E:XK),Room k (A.deeper (envOfC qual (ua0 st) s.heap.objs.size f cdv))->sp vs H Q E ->
     ∃ t,PSs (cxOf CX0 P w K mg base N qual (ua0 st) f cdv A outer s H E).nox (xd0 st) t /\ t { nx:=λ _ H'=>Q .non H',rt:=Q } (start N vs) H):FnOk P w K mg base CX0 (k + 1) f fd ps sp:=by
 obtain ⟨oc,od,kV,doc,pm,an,cdv,ct,osl,rfl,lk,hcd⟩:=F.ex;refine tk5 lk hcd S len λ A outer s H vs Q E hr hsp=>?_;obtain ⟨t,h,q⟩:=hbody cdv A outer s H vs Q E hr hsp;exact ⟨t,h.nox,q⟩
theorem Fun.binds {st:Stmt} (F:Fun K x qual st f fd)
    (h:∀ (kV doc pm:Value) (an:Option Addr) (cdv ct:Value) (us:[29]),us.length=ps.length->bindArgs (fnOf x qual (xg0 st) (xd0 st) (ua0 st) .none kV doc pm an cdv ct) ⟨us,[]⟩=pure (ps.zip us)):Binds K fd ps []:=by
 obtain ⟨oc,od,kV,doc,pm,an,cdv,ct,osl,rfl,lk,hcd⟩:=F.ex;exact .all (h kV doc pm an cdv ct)
theorem vu2 {st:Stmt} {oc:Value} {od an:Option Addr} {osl:Array (Option Value)} {kV doc pm cdv ct:Value} (l:K.lookup f=some ⟨oc,od,.func (fnOf x qual (xg0 st) (xd0 st) (ua0 st) .none kV doc pm an cdv ct),osl⟩)
    (c:codeIn K cdv qual=true) (k:keepIn K (.ref f)=true):Fun K x qual st f (fnOf x qual (xg0 st) (xd0 st) (ua0 st) .none kV doc pm an cdv ct):=⟨⟨oc,od,kV,doc,pm,an,cdv,ct,osl,rfl,l,c⟩,k⟩
end
section
theorem pv (i:Nat) {pos:Pos} (hN:X.N[i]?=some x:=by rfl) (hv:Vis X.env.scope x:=by first | exact Or.inl rfl | exact Or.inr (Or.inl rfl) | exact Or.inr (Or.inr rfl)) (hd:(x == ("__debug__" : Str))=false:=by decide)
    (hcd:(x == ("__classdict__" : Str))=false:=by decide):PE X (.Name x pos) (tVar i):=ts2 hN hv hd hcd
end
noncomputable def Same (H H':Hp):Prop:=∀ b o,H b=some o->H' b=some o
end L2
namespace Pv
open PySem
inductive D where
 | non | bl (b:Bool) | int (i:Int) | str (x:Str) | tup (l:List D) | fls (l:List D) | ref (a:Addr) | ty (n:String) | exc (c:Str)
 | ktp (l:List D)
inductive MO where
 | lst (xs:List D)
 | dck (kvs:List (Sum Int Str × D))
 | dcl (lost:Bool) (kvs:List (List Int × D))
noncomputable abbrev Mu:=Addr->Option MO
noncomputable def updM (μ:Mu) (a:Addr) (o:MO):Mu:=λ b=>if b=a then some o else μ b
variable {μ:Mu} {o:MO}
theorem ya0 {a:Addr} :updM μ a o a=some o:=by unfold updM; rw [if_pos rfl]
theorem za0 {a b:Addr} (h:b ≠ a):updM μ a o b=μ b:=by unfold updM; rw [if_neg h]
theorem wd0 {a:Addr} {u:MO}:updM (updM μ a o) a u=updM μ a u:=by
 funext b; unfold updM; simp_all
noncomputable def Ext (μ μ':Mu):Prop:=∀ a o,μ a=some o->μ' a=some o
theorem Ext.refl (μ:Mu):Ext μ μ:=λ _ _ h=>h
theorem Ext.trans {a b c:Mu} (h:Ext a b) (k:Ext b c):Ext a c:=λ x o q=>k x o (h x o q)
variable {p:Addr}
theorem Ext.new (h:μ p=none):Ext μ (updM μ p o):=λ a u q=>by
 rw [za0]; exact q;intro e; simp_all
theorem Ext.free {μ':Mu} (e:Ext μ μ') (h:μ' p=none):μ p=none:=by
 cases q:μ p with
 | none=>rfl
 | some o=>rw [e p o q] at h; cases h
noncomputable def ExtB (p:Addr) (μ μ':Mu):Prop:=∀ a o,a ≠ p->μ a=some o->μ' a=some o
theorem ExtB.refl (p:Addr) (μ:Mu):ExtB p μ μ:=λ _ _ _ h=>h
theorem ExtB.trans {a b c:Mu} (h:ExtB p a b) (k:ExtB p b c):ExtB p a c:=λ x o n q=>k x o n (h x o n q)
theorem Ext.b {μ':Mu} (p:Addr) (e:Ext μ μ'):ExtB p μ μ':=λ a o _ q=>e a o q
theorem ExtB.upd:ExtB p μ (updM μ p o):=λ a u n q=>by rw [za0 n]; exact q
theorem ta0 {q:Addr} (h:μ p=some o) (k:μ q=none):p ≠ q:=by
 intro e; simp_all
noncomputable abbrev St3:=List (Option D)
noncomputable def getI:St3->Nat->Option D
 | [],_=>none
 | o :: _,0=>o
 | _ :: r,i + 1=>getI r i
theorem yd1:∀ (ρ:St3) (i:Nat),getI ρ i=(ρ[i]?).getD none
 | [],i=>by simp [getI]
 | o :: _,0=>by simp [getI]
 | _ :: r,i + 1=>by simp [getI,yd1 r i]
noncomputable abbrev VK3:=D->Mu->Prop
noncomputable abbrev TE3:=St3->Mu->VK3->Prop
noncomputable abbrev TT3:=St3->Mu->(Bool->Mu->Prop)->Prop
noncomputable abbrev TA3:=St3->Mu->(List D->Mu->Prop)->Prop
structure Ends3 where
 nx:St3->Mu->Prop
 rt:VK3
 bk:St3->Mu->Prop:=λ _ _=>False
 ct:St3->Mu->Prop:=λ _ _=>False
noncomputable abbrev TS3:=Ends3->St3->Mu->Prop
noncomputable abbrev R3:=D->D->Mu->VK3->Prop
noncomputable abbrev Sp3:=List D->Mu->VK3->Prop
noncomputable abbrev C3:=List D->Mu->VK3->Prop
noncomputable abbrev TG3:=D->St3->Mu->(St3->Mu->Prop)->Prop
noncomputable abbrev TI3:=St3->Mu->(List D->(Mu->Prop)->Mu->Prop)->Prop
noncomputable def v3 (i:Nat):TE3:=λ ρ μ Q=>match getI ρ i with
 | some d=>Q d μ
 | none=>False
noncomputable def c3 (d:D):TE3:=λ _ μ Q=>Q d μ
noncomputable def o3 (r:R3) (ta tb:TE3):TE3:=λ ρ μ Q=>ta ρ μ λ x μ1=>tb ρ μ1 λ y μ2=>r x y μ2 Q
noncomputable def un3 (r:D->Mu->VK3->Prop) (ta:TE3):TE3:=λ ρ μ Q=>ta ρ μ λ x μ1=>r x μ1 Q
noncomputable def b3 (t:TE3):TT3:=λ ρ μ Q=>t ρ μ λ d μ1=>match d with
 | .bl c=>Q c μ1
 | _=>False
noncomputable def and3 (t u:TT3):TT3:=λ ρ μ Q=>t ρ μ λ c μ1=>if c=true then u ρ μ1 Q else Q false μ1
noncomputable def or3 (t u:TT3):TT3:=λ ρ μ Q=>t ρ μ λ c μ1=>if c=true then Q true μ1 else u ρ μ1 Q
noncomputable def not3 (t:TT3):TT3:=λ ρ μ Q=>t ρ μ λ c μ1=>Q (!c) μ1
noncomputable def ul3 (t u:TE3):TE3:=λ ρ μ Q=>t ρ μ λ d μ1=>match d with
 | .bl c=>if c=true then u ρ μ1 Q else Q (.bl false) μ1
 | _=>False
noncomputable def orV3 (t u:TE3):TE3:=λ ρ μ Q=>t ρ μ λ d μ1=>match d with
 | .bl c=>if c=true then Q (.bl true) μ1 else u ρ μ1 Q
 | _=>False
noncomputable def zg3 (t:TE3):TE3:=λ ρ μ Q=>t ρ μ λ d μ1=>match d with
 | .bl c=>Q (.bl (!c)) μ1
 | _=>False
noncomputable def if3 (c:TT3) (t u:TE3):TE3:=λ ρ μ Q=>c ρ μ λ b μ1=>if b=true then t ρ μ1 Q else u ρ μ1 Q
noncomputable def nil3:TA3:=λ _ μ Q=>Q [] μ
noncomputable def xa0 (t:TE3) (u:TA3):TA3:=λ ρ μ Q=>t ρ μ λ d μ1=>u ρ μ1 λ ds μ2=>Q (d :: ds) μ2
noncomputable def tup3 (t:TA3):TE3:=λ ρ μ Q=>t ρ μ λ ds μ1=>ds.length<=sizeLine /\ Q (.tup ds) μ1
noncomputable def lst3 (t:TA3):TE3:=λ ρ μ Q=>t ρ μ λ ds μ1=>ds.length<=sizeLine /\ ∀ p,μ1 p=none->Q (.ref p) (updM μ1 p (.lst ds))
noncomputable def va0 (sp:Sp3) (t:TA3):TE3:=λ ρ μ Q=>t ρ μ λ ds μ1=>sp ds μ1 Q
noncomputable def mt3 (r:D->List D->Mu->VK3->Prop) (to:TE3) (t:TA3):TE3:=λ ρ μ Q=>to ρ μ λ x μ1=>match x with
 | .ref p=>match μ1 p with
  | some (.lst _)=>t ρ μ1 λ ds μ2=>r (.ref p) ds μ2 Q
  | _=>False
 | _=>False
noncomputable def ud0:TS3:=λ D ρ μ=>D.nx ρ μ
noncomputable def tx0:TS3:=λ _ _ _=>False
noncomputable def seq3 (t u:TS3):TS3:=λ D ρ μ=>t { D with nx:=u D } ρ μ
noncomputable def wc0 (t:TE3):TS3:=λ D ρ μ=>t ρ μ λ _ μ1=>D.nx ρ μ1
noncomputable def ret3 (t:TE3):TS3:=λ D ρ μ=>t ρ μ D.rt
noncomputable def ifs3 (c:TT3) (t u:TS3):TS3:=λ D ρ μ=>c ρ μ λ b μ1=>if b=true then t D ρ μ1 else u D ρ μ1
noncomputable def gn3 (i:Nat):TG3:=λ d ρ μ Q=>Q (ρ.set i (some d)) μ
noncomputable def set3 (i:Nat) (t:TE3):TS3:=λ D ρ μ=>t ρ μ λ d μ1=>D.nx (ρ.set i (some d)) μ1
noncomputable def asg3 (t:TE3) (g:TG3):TS3:=λ D ρ μ=>t ρ μ λ d μ1=>g d ρ μ1 D.nx
noncomputable def ixN (n:Nat) (i:Int):Option Nat:=if 0<=i then (if i < n then some i.toNat else none) else if -(n:Int)<=i then some (i + n).toNat else none
noncomputable def atI {α:Type} (xs:List α) (i:Int):Option α:=(ixN xs.length i).bind λ j=>xs[j]?
noncomputable def sub3 (to ti:TE3):TG3:=λ d ρ μ Q=>to ρ μ λ o μ1=>ti ρ μ1 λ i μ2=>match o,i with
 | .ref p,.int k=>match μ2 p with
  | some (.lst xs)=>match ixN xs.length k with
   | some j=>Q ρ (updM μ2 p (.lst (xs.set j d)))
   | none=>False
  | _=>False
 | _,_=>False
noncomputable def vz0 (S:Mu->Prop) (g:TG3) (tb:TS3) (D':Ends3):List D->St3->Mu->Prop
 | [],ρ,μ=>S μ /\ D'.nx ρ μ
 | x :: r,ρ,μ=>S μ /\ ∃ N:St3->Mu->Prop,(∀ ρ' μ',N ρ' μ'->vz0 S g tb D' r ρ' μ') /\ g x ρ μ λ ρ1 μ1=>tb { D' with nx:=N,ct:=N,bk:=D'.nx } ρ1 μ1
noncomputable def for3 (ti:TI3) (g:TG3) (tb:TS3):TS3:=λ D' ρ μ=>ti ρ μ λ l S μ1=>vz0 S g tb D' l ρ μ1
variable {S:Mu->Prop} {g:TG3} {tb:TS3} {D':Ends3} {ρ:St3}
theorem wi0 (W:List D->St3->Mu->Prop) {l:List D} (h0:W l ρ μ) (hS:∀ l ρ μ,W l ρ μ->S μ) (hn:∀ ρ μ,W [] ρ μ->D'.nx ρ μ)
    (hs:∀ x r ρ μ,W (x :: r) ρ μ->g x ρ μ λ ρ1 μ1=>tb { D' with nx:=W r,ct:=W r,bk:=D'.nx } ρ1 μ1):vz0 S g tb D' l ρ μ:=by
 induction l generalizing ρ μ with
 | nil=>exact ⟨hS _ _ _ h0,hn _ _ h0⟩
 | cons x r ih=>exact ⟨hS _ _ _ h0,W r,λ ρ' μ' q=>ih q,hs x r ρ μ h0⟩
theorem vj0 (W:List D->St3->Mu->Prop) {l:List D} (h0:W l ρ μ) (hS:∀ l ρ μ,W l ρ μ->S μ) (hn:∀ ρ μ,W [] ρ μ->D'.nx ρ μ)
    (hs:∀ G:D->List D->St3->Mu->Prop,G=(λ x r ρ μ=>g x ρ μ λ ρ1 μ1=>tb { D' with nx:=W r,ct:=W r,bk:=D'.nx } ρ1 μ1)->∀ x r ρ μ,W (x :: r) ρ μ->G x r ρ μ):vz0 S g tb D' l ρ μ:=wi0 W h0 hS hn (hs _ rfl)
noncomputable def is3 (t:TE3):TI3:=λ ρ μ R=>t ρ μ λ d μ1=>match d with
 | .tup l=>R l (λ _=>True) μ1
 | .fls l=>R l (λ _=>True) μ1
 | .ref p=>match μ1 p with
  | some (.lst l)=>R l (λ μ=>μ p=some (.lst l)) μ1
  | _=>False
 | _=>False
noncomputable def rngD (lo:Int) (n:Nat):List D:=(List.range n).map λ i=>.int (lo + (i:Nat))
theorem we0 (lo:Int) (n:Nat):rngD lo (n + 1)=.int lo :: rngD (lo + 1) n:=by
 unfold rngD;rw [List.range_succ_eq_map,map_cons,map_map]
 simp_all;omega
noncomputable def ir3 (t:TA3):TI3:=λ ρ μ R=>t ρ μ λ ds μ1=>match ds with
 | [.int j]=>(-(2 ^ 62)<=j /\ j < 2 ^ 62) /\ R (rngD 0 j.toNat) (λ _=>True) μ1
 | _=>False
noncomputable def ir23 (t:TA3):TI3:=λ ρ μ R=>t ρ μ λ ds μ1=>match ds with
 | [.int i,.int j]=>(-(2 ^ 62)<=i /\ i < 2 ^ 62 /\ -(2 ^ 62)<=j /\ j < 2 ^ 62) /\ R (rngD i (j - i).toNat) (λ _=>True) μ1
 | _=>False
noncomputable def sd1 (S:Mu->Prop) (p:Addr) (g:TG3) (tc:TT3) (te:TE3) (Q:VK3) (l:List D) (ρ0:St3) (μ0:Mu):Prop :=
 ∃ W:List D->List D->St3->Mu->Prop,W l [] ρ0 μ0 /\ (∀ l ys ρ μ,W l ys ρ μ->S μ /\ μ p=some (.lst ys)) /\ (∀ ys ρ μ,W [] ys ρ μ->Q (.ref p) μ) ∧
  ∀ x r ys ρ μ,W (x :: r) ys ρ μ->ys.length < sizeLine /\ g x ρ μ λ ρ1 μ1=>tc ρ1 μ1 λ b μ2 =>
   if b=true then te ρ1 μ2 λ d μ3=>μ3 p=some (.lst ys) /\ W r (ys ++ [d]) ρ1 (updM μ3 p (.lst (ys ++ [d]))) else W r ys ρ1 μ2
noncomputable def zc0 (js:List [44]) (ti:TI3) (g:TG3) (tc:TT3) (te:TE3):TE3:=λ ρ μ Q=>ti ρ μ λ l S μ1=>∀ p,μ1 p=none->sd1 S p g tc te Q l (js.map λ j=>j.bind (getI ρ)) (updM μ1 p (.lst []))
noncomputable def tt3:TT3:=λ _ μ Q=>Q true μ
variable {Q:VK3}
theorem yc0 {te:TE3} {l:List D} {o:Option D} {rest:St3} (f:D->D) (hp:μ p=none) (hl:l.length<=sizeLine) (hS:∀ μ',Ext μ μ'->S μ')
    (hx:∀ x ∈ l,∀ μ' R,Ext μ μ'->(∀ μ2,Ext μ' μ2->R (f x) μ2)->te (some x :: rest) μ' R) (hQ:∀ μ',Ext μ μ'->μ' p=some (.lst (l.map f))->Q (.ref p) μ') :
    sd1 S p (gn3 0) tt3 te Q l (o :: rest) (updM μ p (.lst [])):=by
 refine ⟨λ r ys ρ μ'=>Ext μ μ' /\ μ' p=some (.lst ys) /\ (∃ o',ρ=o' :: rest) /\ ∃ a,a ++ r=l /\ ys=a.map f,?_,?_,?_,?_⟩
 ·exact ⟨Ext.new hp,ya0,⟨o,rfl⟩,[],rfl,rfl⟩
 ·simp_all
 ·simp_all
 ·rintro x r ys ρ μ' ⟨h1,h2,⟨o',rfl⟩,a,e,rfl⟩;refine ⟨by rw [length_map]; rw [<- e,length_append,length_cons] at hl; omega,?_⟩;show te (some x :: rest) μ' _;refine hx x (by rw [<- e]; simp) μ' _ h1 λ μ2 h3=>⟨h3 _ _ h2,λ b u hb=>?_,ya0,⟨_,rfl⟩,a ++ [x],by simp [<- e],by simp⟩;rw [za0 (ta0 hb hp)];exact h3 _ _ (h1 _ _ hb)
noncomputable def CPow (i j:Int):Prop:=0<=j /\ j<=1000000 /\ i.natAbs < 2 ^ 64
noncomputable def Big:Nat:=2 ^ 1000
noncomputable def CMul (i j:Int):Prop:=((-(2 ^ 64) < i /\ i < 2 ^ 64) \/ (-(2 ^ 64) < j /\ j < 2 ^ 64)) \/ (i.natAbs < Big /\ j.natAbs < Big)
noncomputable def int2 (C:Int->Int->Prop) (g:Int->Int->D):R3:=λ x y μ Q=>match x,y with
 | .int i,.int j=>C i j /\ Q (g i j) μ
 | _,_=>False
noncomputable def ul1 (g:Int->Int->D):R3:=λ x y μ Q=>match x,y with
 | .int i,.int j=>Q (g i j) μ
 | _,_=>False
noncomputable def subR:R3:=ul1 λ i j=>.int (i - j)
noncomputable def mulR:R3:=int2 CMul λ i j=>.int (i * j)
noncomputable def modR:R3:=int2 (λ _ j=>0 < j) λ i j=>.int (i % j)
noncomputable def xm1:R3:=int2 (λ _ j=>0 < j /\ j < 2 ^ 120) λ i j=>.int (i / j)
noncomputable def powR:R3:=int2 CPow λ i j=>.int (i ^ j.toNat)
noncomputable def ltR:R3:=ul1 λ i j=>.bl (decide (i < j))
noncomputable def gtR:R3:=ul1 λ i j=>.bl (decide (j < i))
noncomputable def geR:R3:=ul1 λ i j=>.bl (decide (j<=i))
noncomputable def negR:D->Mu->VK3->Prop:=λ x μ Q=>match x with
 | .int i=>Q (.int (-i)) μ
 | _=>False
noncomputable def addR:R3:=λ x y μ Q=>match x,y with
 | .int i,.int j=>Q (.int (i + j)) μ
 | .ref p,.ref q=>match μ p,μ q with
  | some (.lst xs),some (.lst ys)=>xs.length + ys.length<=sizeLine /\ ∀ r,μ r=none->Q (.ref r) (updM μ r (.lst (xs ++ ys)))
  | _,_=>False
 | .tup l,.tup m=>l.length + m.length<=sizeLine /\ Q (.tup (l ++ m)) μ
 | _,_=>False
noncomputable def eqS:D->D->Option Bool
 | .int i,.int j=>some (decide (i=j))
 | .bl i,.bl j=>some (decide (i=j))
 | .non,.non=>some true
 | .non,.int _=>some false
 | .int _,.non=>some false
 | _,_=>none
mutual
noncomputable def dat:D->Option PyData
 | .non=>some .none
 | .bl b=>some (.bool b)
 | .int i=>some (.int i)
 | .str x=>if PyData.strOk x=true then some (.str x) else none
 | .tup l=>match dats l with
  | some ps=>some (.tuple ps)
  | none=>none
 | .ktp l=>match dats l with
  | some ps=>some (.tuple ps)
  | none=>none
 | _=>none
noncomputable def dats:List D->Option (List PyData)
 | []=>some []
 | d :: r=>match dat d with
  | some p=>match dats r with
   | some ps=>some (p :: ps)
   | none=>none
  | none=>none
end
noncomputable def datM (μ:Mu):D->Option PyData
 | .ref p=>match μ p with
  | some (.lst l)=>match dats l with
   | some ps=>some (.list ps)
   | none=>none
  | _=>none
 | d=>dat d
noncomputable def eqR:R3:=λ x y μ Q=>match eqS x y with
 | some c=>Q (.bl c) μ
 | none=>match datM μ x,datM μ y with
  | some p,some q=>(p.depth<=64 /\ q.depth<=64) /\ Q (.bl (PyData.eqv p q)) μ
  | _,_=>False
noncomputable def neR:R3:=λ x y μ Q=>match eqS x y with
 | some c=>Q (.bl (!c)) μ
 | none=>match datM μ x,datM μ y with
  | some p,some q=>(p.depth<=64 /\ q.depth<=64) /\ Q (.bl (!PyData.eqv p q)) μ
  | _,_=>False
theorem wd1 {x y:D} {p q:PyData} (e:eqS x y=none) (h1:datM μ x=some p) (h2:datM μ y=some q) (d1:p.depth<=64) (d2:q.depth<=64):eqR x y μ Q=Q (.bl (PyData.eqv p q)) μ:=by
 unfold eqR; simp_all
theorem wg3 {x y:D} {p q:PyData} (e:eqS x y=none) (h1:datM μ x=some p) (h2:datM μ y=some q) (d1:p.depth<=64) (d2:q.depth<=64):neR x y μ Q=Q (.bl (!PyData.eqv p q)) μ:=by
 unfold neR; simp_all
noncomputable def inR (neg:Bool):R3:=λ x y μ Q=>match datM μ x,datM μ y with
 | some d,some (.list xs)=>(d.depth<=64 /\ (PyData.list xs).depth<=64) /\ Q (.bl (if neg then !(xs.any λ e=>PyData.eqv e d) else xs.any λ e=>PyData.eqv e d)) μ
 | some d,some (.tuple xs)=>(d.depth<=64 /\ (PyData.tuple xs).depth<=64) /\ Q (.bl (if neg then !(xs.any λ e=>PyData.eqv e d) else xs.any λ e=>PyData.eqv e d)) μ
 | _,_=>False
noncomputable def ixR:R3:=λ x y μ Q=>match x,y with
 | .tup l,.int i=>match atI l i with
  | some d=>Q d μ
  | none=>False
 | .ktp l,.int i=>match atI l i with
  | some d=>Q d μ
  | none=>False
 | .fls l,.int i=>match atI l i with
  | some d=>Q d μ
  | none=>False
 | .ref p,.int i=>match μ p with
  | some (.lst l)=>match atI l i with
   | some d=>Q d μ
   | none=>False
  | _=>False
 | _,_=>False
noncomputable def lenR:C3:=λ ds μ Q=>match ds with
 | [.tup l]=>Q (.int l.length) μ
 | [.fls l]=>Q (.int l.length) μ
 | [.str z]=>z.length<=sizeLine /\ Q (.int z.length) μ
 | [.ref p]=>match μ p with
  | some (.lst l)=>Q (.int l.length) μ
  | _=>False
 | _=>False
noncomputable def absR:C3:=λ ds μ Q=>match ds with
 | [.int i]=>Q (.int (if i < 0 then -i else i)) μ
 | _=>False
noncomputable def pop3 (to:TE3):TE3:=λ ρ μ Q=>to ρ μ λ x μ1=>match x with
 | .ref p=>match μ1 p with
  | some (.lst l)=>match l.reverse with
   | d :: r=>Q d (updM μ1 p (.lst r.reverse))
   | []=>False
  | _=>False
 | _=>False
noncomputable def tupR:C3:=λ ds μ Q=>match ds with
 | [.tup l]=>Q (.tup l) μ
 | [.ref p]=>match μ p with
  | some (.lst l)=>Q (.tup l) μ
  | _=>False
 | _=>False
noncomputable def ints?:List D->Option (List Int)
 | []=>some []
 | .int x :: r=>match ints? r with
  | some l=>some (x :: l)
  | none=>none
 | _ :: _=>none
noncomputable def sumR:C3:=λ ds μ Q=>match ds with
 | [.ref p]=>match μ p with
  | some (.lst l)=>match ints? l with
   | some ns=>Q (.int ns.sum) μ
   | none=>False
  | _=>False
 | _=>False
noncomputable def bls?:List D->Option (List Bool)
 | []=>some []
 | .bl x :: r=>match bls? r with
  | some l=>some (x :: l)
  | none=>none
 | _ :: _=>none
noncomputable def ltP (a b c d:Int):Bool:=if a=c then decide (b < d) else decide (a < c)
noncomputable def allR:C3:=λ ds μ Q=>match ds with
 | [.ref p]=>match μ p with
  | some (.lst l)=>match bls? l with
   | some bs=>Q (.bl (bs.all id)) μ
   | none=>False
  | _=>False
 | _=>False
noncomputable def appR:D->List D->Mu->VK3->Prop:=λ x ds μ Q=>match x,ds with
 | .ref p,[d]=>match μ p with
  | some (.lst l)=>l.length < sizeLine /\ Q .non (updM μ p (.lst (l ++ [d])))
  | _=>False
 | _,_=>False
noncomputable def extR:D->List D->Mu->VK3->Prop:=λ x ds μ Q=>match x,ds with
 | .ref p,[.ref q]=>match μ p,μ q with
  | some (.lst l),some (.lst m)=>l.length + m.length<=sizeLine /\ Q .non (updM μ p (.lst (l ++ m)))
  | _,_=>False
 | _,_=>False
theorem atI0 {α:Type} {a:α} {r:List α}:atI (a :: r) 0=some a:=by
 unfold atI ixN; simp
theorem atI1 {α:Type} {a b:α} {r:List α}:atI (a :: b :: r) 1=some b:=by
 unfold atI ixN; rw [if_pos [19],if_pos [8]]; rfl
variable {n:Nat}
theorem ixN0:ixN (n + 1) 0=some 0:=by
 unfold ixN; simp
theorem ixN1:ixN (n + 1 + 1) 1=some 1:=by
 unfold ixN; simp_all;omega
theorem xv4 {α:Type} {l:List α} {i:Int} (h0:0<=i) (h1:i < l.length):∃ d,d ∈ l /\ atI l i=some d:=by
 have hn:i.toNat < l.length:=by omega
 refine ⟨l[i.toNat],getElem_mem hn,?_⟩;unfold atI ixN
 simp_all
noncomputable def sa0 (N:List Str) (ds:List D):St3:=ds.map some ++ List.replicate (N.length - ds.length) none
noncomputable def so0 (c:TT3) (tb:TS3):TS3:=λ D ρ μ=>∃ W:Nat->St3->Mu->Prop,(∃ m,W m ρ μ) /\ ∀ m ρ μ,W m ρ μ ->
 c ρ μ λ b μ1=>if b=true then ∃ N:St3->Mu->Prop,(∀ ρ' μ',N ρ' μ'->∃ m',m' < m /\ W m' ρ' μ') /\ tb { D with nx:=N,ct:=N,bk:=D.nx } ρ μ1 else D.nx ρ μ1
end Pv
namespace Pv
open PySem L2
noncomputable abbrev Fg:=PySem.W.Frag
structure Kp (H H':Hp):Prop where
 tup:∀ b xs,H b=some (.tup xs)->H' b=some (.tup xs)
 frz:∀ b o u,H b=some (.frz o u)->H' b=some (.frz o u)
theorem Kp.refl (H:Hp):Kp H H:=⟨λ _ _ h=>h,λ _ _ _ h=>h⟩
theorem Kp.trans {a b c:Hp} (h:Kp a b) (k:Kp b c):Kp a c:=⟨λ x xs q=>k.tup x xs (h.tup x xs q),λ x o u q=>k.frz x o u (h.frz x o u q)⟩
variable {H:Hp} {p:Addr} {o:HO}
theorem Kp.new (h:H p=none):Kp H (upd H p o) :=
 ⟨λ b xs q=>by rw [sb0 (sc0 q h)]; exact q,λ b o u q=>by rw [sb0 (sc0 q h)]; exact q⟩
variable {xs:List V}
theorem Kp.wr (h:H p=some (.lst xs)):Kp H (upd H p o) :=
 ⟨λ b ys q=>by rw [sb0 (vt0 q h (by intro z; cases z))]; exact q,λ b o u q=>by rw [sb0 (vt0 q h (by intro z; cases z))]; exact q⟩
noncomputable def SqF (K:Fg) (H:Hp) (a:Addr) (xs:List V):Prop :=
 (∃ o,H a=some (.frz o (.lst xs))) \/ ∃ (o:Obj) (its:Array Value) (n:Nat),K.lookup a=some o /\ o.cls=.type "list" /\ o.dict=none /\ o.data=.seq its n /\ its.size<=sizeLine /\ Vals xs its.toList
variable {K:Fg}
theorem SqF.l {a:Addr} (h:SqF K H a xs):SqL K H a xs:=by
 rcases h with ⟨o,h⟩ | h
 ·exact .inl (.inr ⟨o,h⟩)
 ·exact .inr h
theorem SqF.mono {H':Hp} {a:Addr} (k:Kp H H') (h:SqF K H a xs):SqF K H' a xs:=by
 rcases h with ⟨o,h⟩ | h
 ·exact .inl ⟨o,k.frz _ _ _ h⟩
 ·exact .inr h
theorem SqT.mono {H':Hp} {a:Addr} (k:Kp H H') (h:SqT K H a xs):SqT K H' a xs:=by
 rcases h with h | h
 ·rcases h with h | ⟨o,h⟩
  ·exact .inl (.inl (k.tup _ _ h))
  ·exact .inl (.inr ⟨o,k.frz _ _ _ h⟩)
 ·exact .inr h
mutual
inductive RelD (K:Fg) (H:Hp):D->V->Prop where
 | non:RelD K H .non .non
 | bl (b:Bool):RelD K H (.bl b) (.bl b)
 | int (i:Int):RelD K H (.int i) (.int i)
 | str (x:Str):RelD K H (.str x) (.str x)
 | ref (a:Addr):RelD K H (.ref a) (.ref a)
 | ty (n:String):RelD K H (.ty n) (.ty n)
 | tup {a:Addr} {l:List D} {vs:List V}:H a=some (.tup vs)->RelDs K H l vs->RelD K H (.tup l) (.ref a)
 | ktp {a:Addr} {l:List D} {vs:List V}:SqT K H a vs->RelDs K H l vs->RelD K H (.ktp l) (.ref a)
 | fls {a:Addr} {l:List D} {vs:List V}:SqF K H a vs->RelDs K H l vs->RelD K H (.fls l) (.ref a)
 | exc {a C:Addr} {c:Str} {ob:Obj} {u:HO}:H a=some (.frz ob u)->ob.cls=.ref C->nsIn K mainGlobals c=some (some (.ref C))->RelD K H (.exc c) (.ref a)
inductive RelDs (K:Fg) (H:Hp):List D->List V->Prop where
 | nil:RelDs K H [] []
 | cons {d:D} {v:V} {l:List D} {vs:List V}:RelD K H d v->RelDs K H l vs->RelDs K H (d :: l) (v :: vs)
end
mutual
theorem RelD.mono {K:Fg} {H H':Hp} (k:Kp H H'):∀ {d:D} {v:V},RelD K H d v->RelD K H' d v
 | _,_,.non=>.non
 | _,_,.bl b=>.bl b
 | _,_,.int b=>.int b
 | _,_,.str b=>.str b
 | _,_,.ref b=>.ref b
 | _,_,.ty b=>.ty b
 | _,_,.tup h r=>.tup (k.tup _ _ h) (RelDs.mono k r)
 | _,_,.ktp h r=>.ktp (SqT.mono k h) (RelDs.mono k r)
 | _,_,.fls h r=>.fls (SqF.mono k h) (RelDs.mono k r)
 | _,_,.exc h r1 r2=>.exc (k.frz _ _ _ h) r1 r2
theorem RelDs.mono {K:Fg} {H H':Hp} (k:Kp H H'):∀ {d:List D} {v:List V},RelDs K H d v->RelDs K H' d v
 | _,_,.nil=>.nil
 | _,_,.cons h r=>.cons (RelD.mono k h) (RelDs.mono k r)
end
theorem RelDs.length {K:Fg} {H:Hp}:∀ {l:List D} {vs:List V},RelDs K H l vs->l.length=vs.length
 | _,_,.nil=>rfl
 | _,_,.cons _ r=>congrArg (· + 1) r.length
theorem RelDs.get {K:Fg} {H:Hp}:∀ {l:List D} {vs:List V} {i:Nat} {d:D},RelDs K H l vs->l[i]?=some d->∃ v,vs[i]?=some v /\ RelD K H d v
 | _,_,_,_,.nil,e=>by simp at e
 | _,_,0,_,.cons h _,e=>by simp_all
 | _,_,i + 1,d,.cons _ r,e=>by
  obtain ⟨v,h1,h2⟩:=RelDs.get (i:=i) (d:=d) r (by simpa using e)
  simp_all
theorem RelDs.append {K:Fg} {H:Hp}:∀ {l m:List D} {vs us:List V},RelDs K H l vs->RelDs K H m us->RelDs K H (l ++ m) (vs ++ us)
 | _,_,_,_,.nil,q=>q
 | _,_,_,_,.cons h r,q=>.cons h (RelDs.append r q)
theorem RelDs.set {K:Fg} {H:Hp} {d:D} {v:V} (hd:RelD K H d v):∀ {l:List D} {vs:List V} (i:Nat),RelDs K H l vs->RelDs K H (l.set i d) (vs.set i v)
 | _,_,_,.nil=>.nil
 | _,_,0,.cons _ r=>.cons hd r
 | _,_,i + 1,.cons h r=>.cons h (RelDs.set hd i r)
inductive RelKk (K:Fg) (H:Hp):List (Key × D)->List (Key × V)->Prop where
 | nil:RelKk K H [] []
 | cons {t:Key} {d:D} {v:V} {l:List (Key × D)} {vs:List (Key × V)}:RelD K H d v->RelKk K H l vs->RelKk K H ((t,d) :: l) ((t,v) :: vs)
theorem RelKk.mono {K:Fg} {H H':Hp} (k:Kp H H') {l:List (Key × D)} {vs:List (Key × V)} (r:RelKk K H l vs):RelKk K H' l vs:=by
 induction r with
 | nil=>exact .nil
 | cons h _ ih=>exact .cons (h.mono k) ih
noncomputable def kL (k:List Int):List Key:=k.map Sum.inl
inductive RelKl (K:Fg) (H:Hp):List (List Int × D)->List (List Key × V)->Prop where
 | nil:RelKl K H [] []
 | cons {t:List Int} {d:D} {v:V} {l:List (List Int × D)} {vs:List (List Key × V)}:RelD K H d v->RelKl K H l vs->RelKl K H ((t,d) :: l) ((kL t,v) :: vs)
theorem RelKl.mono {K:Fg} {H H':Hp} (k:Kp H H') {l:[18]} {vs:List (List Key × V)} (r:RelKl K H l vs):RelKl K H' l vs:=by
 induction r with
 | nil=>exact .nil
 | cons h _ ih=>exact .cons (h.mono k) ih
inductive RelX (K:Fg) (H:Hp):MO->HO->Prop where
 | lst {xs:List D} {vs:List V}:RelDs K H xs vs->RelX K H (.lst xs) (.lst vs)
 | dck {xs:List (Key × D)} {vs:List (Key × V)}:RelKk K H xs vs->RelX K H (.dck xs) (.dK vs)
 | dcl {b:Bool} {xs:List (List Int × D)} {vs:List (List Key × V)} {n:Nat}:RelKl K H xs vs->(b=false->n=vs.length)->RelX K H (.dcl b xs) (.dT vs n)
theorem RelX.mono {K:Fg} {H H':Hp} (k:Kp H H') {o:MO} {u:HO} (r:RelX K H o u):RelX K H' o u:=by
 cases r with
 | lst r=>exact .lst (r.mono k)
 | dck r=>exact .dck (r.mono k)
 | dcl r c=>exact .dcl (r.mono k) c
structure RelM (K:Fg) (μ:Mu) (H:Hp):Prop where
 at':∀ p o,μ p=some o->∃ u,H p=some u /\ RelX K H o u
section
variable {μ:Mu} 
theorem RelM.lst (m:RelM K μ H) (p:Addr) (xs:List D) (e:μ p=some (.lst xs)):∃ vs,H p=some (.lst vs) /\ RelDs K H xs vs:=by
 obtain ⟨_,h,r⟩:=m.at' p _ e;cases r with
 | lst r=>exact ⟨_,h,r⟩
theorem RelM.dck (m:RelM K μ H) (p:Addr) (xs:List (Key × D)) (e:μ p=some (.dck xs)):∃ vs,H p=some (.dK vs) /\ RelKk K H xs vs:=by
 obtain ⟨_,h,r⟩:=m.at' p _ e;cases r with
 | dck r=>exact ⟨_,h,r⟩
theorem RelM.dcl (m:RelM K μ H) (p:Addr) (b:Bool) (xs:[18]) (e:μ p=some (.dcl b xs)):∃ vs n,H p=some (.dT vs n) /\ RelKl K H xs vs /\ (b=false->n=vs.length):=by
 obtain ⟨_,h,r⟩:=m.at' p _ e;cases r with
 | dcl r c=>exact ⟨_,_,h,r,c⟩
noncomputable instance:CoeFun (RelM K μ H) (λ _=>∀ p xs,μ p=some (.lst xs)->∃ vs,H p=some (.lst vs) /\ RelDs K H xs vs):=⟨RelM.lst⟩
theorem RelM.free (m:RelM K μ H) (h:H p=none):μ p=none:=by
 cases e:μ p with
 | none=>rfl
 | some o=>obtain ⟨_,q,_⟩:=m.at' p o e; rw [h] at q; cases q
theorem RelM.newT (h:H p=none) (m:RelM K μ H):RelM K μ (upd H p o):=⟨λ q u e=>by
 obtain ⟨O,q1,r⟩:=m.at' q u e;exact ⟨O,by rw [sb0 (λ z=>by rw [z,h] at q1; cases q1)]; exact q1,r.mono (Kp.new h)⟩⟩
theorem RelM.put {o:MO} {u:HO} (k:Kp H (upd H p u)) (r:RelX K H o u) (m:RelM K μ H):RelM K (updM μ p o) (upd H p u):=⟨λ q x e=>by
 by_cases z:q=p
 ·subst z; rw [ya0] at e; cases e; exact ⟨u,sg0,r.mono k⟩
 ·rw [za0 z] at e;obtain ⟨O,q1,r⟩:=m.at' q x e;exact ⟨O,by rw [sb0 z]; exact q1,r.mono k⟩⟩
theorem RelM.newL {xs:List D} {vs:List V} (h:H p=none) (r:RelDs K H xs vs) (m:RelM K μ H):RelM K (updM μ p (.lst xs)) (upd H p (.lst vs)):=m.put (Kp.new h) (.lst r)
theorem RelM.wr {xs:List D} {vs ws:List V} (h:H p=some (.lst ws)) (r:RelDs K H xs vs) (m:RelM K μ H):RelM K (updM μ p (.lst xs)) (upd H p (.lst vs)):=m.put (Kp.wr h) (.lst r)
end
structure RSt (K:Fg) (H:Hp) (ρ:St3) (σ:St):Prop where
 len:ρ.length=σ.length
 at':∀ i d,getI ρ i=some d->∃ v,σ[i]?=some (some v) /\ RelD K H d v
theorem RSt.mono {K:Fg} {H H':Hp} {ρ:St3} {σ:St} (k:Kp H H') (s:RSt K H ρ σ):RSt K H' ρ σ:=⟨s.len,λ i d e=>let ⟨v,h,r⟩:=s.at' i d e; ⟨v,h,r.mono k⟩⟩
theorem si1:∀ (ρ:St3) (i j:Nat) (d:Option D),getI (ρ.set i d) j=if i=j /\ i < ρ.length then d else getI ρ j
 | [],i,j,d=>by simp [getI]
 | o :: r,0,0,d=>by simp [getI]
 | o :: r,0,j + 1,d=>by simp [getI]
 | o :: r,i + 1,0,d=>by simp [getI]
 | o :: r,i + 1,j + 1,d=>by simp only [List.set_cons_succ,getI,si1 r i j d,length_cons]; simp
theorem RSt.set {K:Fg} {H:Hp} {ρ:St3} {σ:St} {d:D} {v:V} (i:Nat) (r:RelD K H d v) (s:RSt K H ρ σ):RSt K H (ρ.set i (some d)) (σ.set i (some v)):=by
 refine ⟨by simp [s.len],λ j e h=>?_⟩;rw [si1] at h;split at h
 ·next c =>
  obtain ⟨rfl,c2⟩:=c;cases h;exact ⟨v,by rw [List.getElem?_set_self (by rw [<- s.len]; exact c2)],r⟩
 ·next c =>
  obtain ⟨u,q,r'⟩:=s.at' j e h;have hj:j < σ.length:=(List.getElem?_eq_some_iff.mp q).1;by_cases z:i=j
  ·subst z; exact absurd ⟨rfl,by rw [s.len]; exact hj⟩ c
  simp_all
theorem RSt.start {K:Fg} {H:Hp} {ds:List D} {vs:List V} (N:List Str) (r:RelDs K H ds vs):RSt K H (sa0 N ds) (L2.start N vs):=by
 have hl:=r.length;refine ⟨by simp [sa0,L2.start,hl],λ i d e=>?_⟩;rw [yd1] at e;unfold sa0 at e;unfold L2.start;by_cases c:i < ds.length
 ·rw [getElem?_append_left (by simpa using c),getElem?_map] at e;cases q:ds[i]? with
  | none=>simp_all
  | some d' =>
   rw [q] at e;have e':d'=d:=by simpa using e
   subst e';obtain ⟨v,h1,h2⟩:=r.get q;exact ⟨v,by rw [getElem?_append_left [16],getElem?_map,h1]; rfl,h2⟩
 ·rw [getElem?_append_right (by simpa using c),List.getElem?_replicate] at e;split at e <;> simp at e
noncomputable abbrev Ks (K:Fg) (H:Hp) (Q3:VK3) (Q:VK):Prop:=∀ d μ' v H',Q3 d μ'->Kp H H'->RelD K H' d v->RelM K μ' H'->Q v H'
theorem Ks.after {H1:Hp} {Q3:VK3} {Q:VK} (k:Ks K H Q3 Q) (e:Kp H H1):Ks K H1 Q3 Q:=λ d μ v H' q e'=>k d μ v H' q (e.trans e')
noncomputable def RdE (K:Fg) (tv:TE) (t:TE3):Prop:=∀ σ H Q ρ μ Q3,RSt K H ρ σ->RelM K μ H->t ρ μ Q3->Ks K H Q3 Q->tv σ H Q
noncomputable def RE (X:Cx) (e:Expr) (t:TE3):Prop:=∃ tv,PE X e tv /\ RdE X.K tv t
noncomputable def RdT (K:Fg) (tv:TT) (t:TT3):Prop:=∀ σ H Q ρ μ Q3,RSt K H ρ σ->RelM K μ H->t ρ μ Q3->(∀ b μ' H',Q3 b μ'->Kp H H'->RelM K μ' H'->Q b H')->tv σ H Q
noncomputable def RT (X:Cx) (e:Expr) (t:TT3):Prop:=∃ tv,PT X e tv /\ RdT X.K tv t
noncomputable def RW (X:Cx) (e:Expr) (t:TT3):Prop:=∃ tv,PW X e tv /\ RdT X.K tv t
noncomputable def RdA (K:Fg) (tv:TA) (t:TA3):Prop:=∀ σ H Q ρ μ Q3,RSt K H ρ σ->RelM K μ H->t ρ μ Q3->(∀ ds μ' vs H',Q3 ds μ'->Kp H H'->RelDs K H' ds vs->RelM K μ' H'->Q vs H')->tv σ H Q
noncomputable def RA (X:Cx) (es:List Expr) (t:TA3):Prop:=∃ tv,PA X es tv /\ RdA X.K tv t
structure KsD (K:Fg) (H:Hp) (D3:Ends3) (D:Ends):Prop where
 nx:∀ ρ μ σ H',D3.nx ρ μ->Kp H H'->RSt K H' ρ σ->RelM K μ H'->D.nx σ H'
 bk:∀ ρ μ σ H',D3.bk ρ μ->Kp H H'->RSt K H' ρ σ->RelM K μ H'->D.bk σ H'
 ct:∀ ρ μ σ H',D3.ct ρ μ->Kp H H'->RSt K H' ρ σ->RelM K μ H'->D.ct σ H'
 rt:Ks K H D3.rt D.rt
theorem KsD.after {K:Fg} {H H1:Hp} {D3:Ends3} {D:Ends} (k:KsD K H D3 D) (e:Kp H H1):KsD K H1 D3 D :=
 ⟨λ ρ μ σ H' q e'=>k.nx ρ μ σ H' q (e.trans e'),λ ρ μ σ H' q e'=>k.bk ρ μ σ H' q (e.trans e'),λ ρ μ σ H' q e'=>k.ct ρ μ σ H' q (e.trans e'),k.rt.after e⟩
noncomputable def RdS (K:Fg) (tv:TS) (t:TS3):Prop:=∀ σ H D ρ μ D3,RSt K H ρ σ->RelM K μ H->t D3 ρ μ->KsD K H D3 D->tv D σ H
noncomputable def RS (X:Cx) (st:Stmt) (t:TS3):Prop:=∃ tv,PS X st tv /\ RdS X.K tv t
noncomputable def RSs (X:Cx) (st:List Stmt) (t:TS3):Prop:=∃ tv,PSs X st tv /\ RdS X.K tv t
noncomputable def RdG (K:Fg) (tv:TG) (t:TG3):Prop:=∀ v d σ H Q ρ μ Q3,RSt K H ρ σ->RelM K μ H->RelD K H d v->t d ρ μ Q3->(∀ ρ' μ' σ' H',Q3 ρ' μ'->Kp H H'->RSt K H' ρ' σ'->RelM K μ' H'->Q σ' H')->tv v σ H Q
noncomputable def RG (X:Cx) (e:Expr) (t:TG3):Prop:=∃ tv,PG X e tv /\ RdG X.K tv t
noncomputable def RdO (K:Fg) (r:R2) (r3:R3):Prop:=∀ x y v u H Q μ Q3,RelM K μ H->RelD K H x v->RelD K H y u->r3 x y μ Q3->Ks K H Q3 Q->r v u H Q
noncomputable def RO (X:Cx) (f:Value->Value->Sem Value) (r3:R3):Prop:=∃ r,OpR X f r /\ RdO X.K r r3
noncomputable def RdU (K:Fg) (r:V->Hp->VK->Prop) (r3:D->Mu->VK3->Prop):Prop:=∀ x v H Q μ Q3,RelM K μ H->RelD K H x v->r3 x μ Q3->Ks K H Q3 Q->r v H Q
noncomputable def RU (X:Cx) (f:Value->Sem Value) (r3:D->Mu->VK3->Prop):Prop:=∃ r,UnR X f r /\ RdU X.K r r3
noncomputable def RdC (K:Fg) (r:List V->Hp->VK->Prop) (r3:C3):Prop:=∀ xs vs H Q μ Q3,RelM K μ H->RelDs K H xs vs->r3 xs μ Q3->Ks K H Q3 Q->r vs H Q
noncomputable def RC (X:Cx) (f:Value) (r3:C3):Prop:=∃ r,CallR X f r /\ RdC X.K r r3
noncomputable def RX (X:Cx) (r3:R3):Prop:=∃ r,IxR X r /\ RdO X.K r r3
variable {x:Str} {i:Nat} {r3:R3} {va:TE}
section
variable {X:Cx} {a b c e:Expr} {ta tb tc te:TE3} {pos:Pos}
theorem yd4 (i:Nat) (hN:X.N[i]?=some x:=by rfl) (hv:Vis X.env.scope x:=by first | exact Or.inl rfl | exact Or.inr (Or.inl rfl) | exact Or.inr (Or.inr rfl)) (hd:(x == ("__debug__" : Str))=false:=by decide)
    (hcd:(x == ("__classdict__" : Str))=false:=by decide):RE X (.Name x pos) (v3 i):=by
 refine ⟨_,ts2 hN hv hd hcd,λ σ H Q ρ μ Q3 s m h k=>?_⟩;unfold v3 at h;cases q:getI ρ i with
 | none=>simp_all
 | some d =>
  rw [q] at h;obtain ⟨v,e,r⟩:=s.at' i d q;exact ⟨v,e,k d μ v H h (Kp.refl H) r m⟩
theorem RdE.cst {d:D} {v:V} (r:∀ H,RelD K H d v):RdE K (tC v) (c3 d):=λ σ H Q ρ μ Q3 s m h k=>k d μ v H h (Kp.refl H) (r H) m
theorem xe4 {i:Int} {j}:RE X (.Constant (.int i) j pos) (c3 (.int i)):=⟨_,tm4,RdE.cst λ _=>.int i⟩
theorem we5 {i:Bool} {j}:RE X (.Constant (.bool i) j pos) (c3 (.bl i)):=⟨_,ui5,RdE.cst λ _=>.bl i⟩
theorem td4 {j}:RE X (.Constant .none j pos) (c3 .non):=⟨_,vm4,RdE.cst λ _=>.non⟩
noncomputable def Gd (K:Fg) (mg:[40]) (x:Str) (d:D):Prop:=∃ u v,mg x=some u /\ RelV v u /\ ∀ H,RelD K H d v
theorem re_g {d:D} (g:Gd X.K X.mg x d) (hg:Gl X x:=by rfl) (hd:(x == ("__debug__" : Str))=false:=by decide):RE X (.Name x pos) (c3 d):=by
 obtain ⟨u,v,hm,r,rd⟩:=g;exact ⟨_,xe3 hg hm r hd,RdE.cst rd⟩
theorem uk1 {op:Operator} (ho:RO X (binaryOp op) r3) (ha:RE X a ta) (hb:RE X b tb):RE X (.BinOp a op b pos) (o3 r3 ta tb):=by
 obtain ⟨r,po,ro⟩:=ho;obtain ⟨va,pa,ra⟩:=ha;obtain ⟨vb,pb,rb⟩:=hb
 exact ⟨_,wi5 po pa pb,λ σ H Q ρ μ Q3 s m h k=>ra σ H _ ρ μ _ s m h λ x μ1 v H1 h1 k1 r1 m1=>rb σ H1 _ ρ μ1 _ (s.mono k1) m1 h1 λ y μ2 u H2 h2 k2 r2 m2 =>
  ro x y v u H2 Q μ2 Q3 m2 (r1.mono k2) r2 h2 (k.after (k1.trans k2))⟩
theorem ud5 {op:UnaryOp} {r3:D->Mu->VK3->Prop} (ho:RU X (unaryOp op) r3) (ha:RE X a ta):RE X (.UnaryOp op a pos) (un3 r3 ta):=by
 obtain ⟨r,po,ro⟩:=ho;obtain ⟨va,pa,ra⟩:=ha;exact ⟨_,yi5 po pa,λ σ H Q ρ μ Q3 s m h k=>ra σ H _ ρ μ _ s m h λ x μ1 v H1 h1 k1 r1 m1=>ro x v H1 Q μ1 Q3 m1 r1 h1 (k.after k1)⟩
theorem RdE.op {r:R2} {vb:TE} (ra:RdE K va ta) (rb:RdE K vb tb) (ro:RdO K r r3):RdE K (tOp r va vb) (o3 r3 ta tb):=λ σ H Q ρ μ Q3 s m h k =>
 ra σ H _ ρ μ _ s m h λ x μ1 v H1 h1 k1 r1 m1=>rb σ H1 _ ρ μ1 _ (s.mono k1) m1 h1 λ y μ2 u H2 h2 k2 r2 m2=>ro x y v u H2 Q μ2 Q3 m2 (r1.mono k2) r2 h2 (k.after (k1.trans k2))
theorem RdT.test (ra:RdE K va ta):RdT K (tu3 va) (b3 ta):=λ σ H Q ρ μ Q3 s m h k=>by
 refine ra σ H _ ρ μ _ s m h λ d μ1 v H1 h1 k1 r1 m1=>?_;cases r1 with
 | bl c=>exact ⟨c,rfl,k c μ1 H1 h1 k1 m1⟩
 | _=>exact False.elim h1
theorem ve4 {op:CmpOp} (ho:RO X (compareOp op) r3) (ha:RE X a ta) (hb:RE X b tb) (hm:behindInMarks op b=false:=by first | exact yt2 _ | with_unfolding_all rfl):RE X (.Compare a [op] [b] pos) (o3 r3 ta tb):=by
 obtain ⟨r,po,ro⟩:=ho;obtain ⟨va,pa,ra⟩:=ha;obtain ⟨vb,pb,rb⟩:=hb;exact ⟨_,we3 po pa pb hm,ra.op rb ro⟩
theorem vg0 {op:CmpOp} (ho:RO X (compareOp op) r3) (ha:RE X a ta) (hb:RE X b tb) (hm:behindInMarks op b=false:=by first | exact yt2 _ | with_unfolding_all rfl):RT X (.Compare a [op] [b] pos) (b3 (o3 r3 ta tb)):=by
 obtain ⟨r,po,ro⟩:=ho;obtain ⟨va,pa,ra⟩:=ha;obtain ⟨vb,pb,rb⟩:=hb;exact ⟨_,xd3 po pa pb hm,RdT.test (ra.op rb ro)⟩
theorem sb4 (ha:RE X a ta) (he:∀ whole,isTrue a X.env whole=(do let v <- whole; standAt a.pos; holding [v] (truthy v)):=by intro _; rfl):RT X a (b3 ta):=by
 obtain ⟨va,pa,ra⟩:=ha;exact ⟨_,tk4 pa he,RdT.test ra⟩
variable {tA tB':TT3} {rest:List Expr}
theorem RW.pt (h:RW X a tA):RT X a tA:=let ⟨t,p,r⟩:=h; ⟨t,p.pt,r⟩
theorem zd5 (h:RW X a tA):RT X a tA:=h.pt
theorem xa3 (h:RT X a tA):RW X (.BoolOp .And [a] pos) tA:=let ⟨t,p,r⟩:=h; ⟨t,wc3 p,r⟩
theorem zb4 (h:RT X a tA):RW X (.BoolOp .Or [a] pos) tA:=let ⟨t,p,r⟩:=h; ⟨t,xk4 p,r⟩
theorem wb4 (ha:RT X a tA) (hb:RW X (.BoolOp .And (b :: rest) pos) tB'):RW X (.BoolOp .And (a :: b :: rest) pos) (and3 tA tB'):=by
 obtain ⟨va,pa,ra⟩:=ha;obtain ⟨vb,pb,rb⟩:=hb;refine ⟨_,yk4 pa pb,λ σ H Q ρ μ Q3 s m h k=>ra σ H _ ρ μ _ s m h λ c μ1 H1 h1 k1 m1=>?_⟩;cases c with
 | true=>exact rb σ H1 Q ρ μ1 Q3 (s.mono k1) m1 h1 λ b μ' H' q e=>k b μ' H' q (k1.trans e)
 | false=>exact k _ _ _ h1 k1 m1
theorem wd5 (ha:RT X a tA) (hb:RW X (.BoolOp .Or (b :: rest) pos) tB'):RW X (.BoolOp .Or (a :: b :: rest) pos) (or3 tA tB'):=by
 obtain ⟨va,pa,ra⟩:=ha;obtain ⟨vb,pb,rb⟩:=hb;refine ⟨_,sh5 pa pb,λ σ H Q ρ μ Q3 s m h k=>ra σ H _ ρ μ _ s m h λ c μ1 H1 h1 k1 m1=>?_⟩;cases c with
 | true=>exact k _ _ _ h1 k1 m1
 | false=>exact rb σ H1 Q ρ μ1 Q3 (s.mono k1) m1 h1 λ b μ' H' q e=>k b μ' H' q (k1.trans e)
theorem xc4 (ha:RT X a tA):RT X (.UnaryOp .Not a pos) (not3 tA):=by
 obtain ⟨va,pa,ra⟩:=ha;exact ⟨_,sk4 pa,λ σ H Q ρ μ Q3 s m h k=>ra σ H _ ρ μ _ s m h λ c μ1 H1 h1 k1 m1=>k _ _ _ h1 k1 m1⟩
theorem vd4 {op} (h:RE X a ta):RE X (.BoolOp op [a] pos) ta:=let ⟨t,p,r⟩:=h; ⟨t,zm4 p,r⟩
theorem te4 (ha:RE X a ta) (hb:RE X (.BoolOp .And (b :: rest) pos) tb):RE X (.BoolOp .And (a :: b :: rest) pos) (ul3 ta tb):=by
 obtain ⟨va,pa,ra⟩:=ha;obtain ⟨vb,pb,rb⟩:=hb;refine ⟨_,xn4 pa pb,λ σ H Q ρ μ Q3 s m h k=>ra σ H _ ρ μ _ s m h λ d μ1 v H1 h1 k1 r1 m1=>?_⟩;cases r1 with
 | bl c =>
  refine ⟨c,rfl,?_⟩;cases c with
  | true=>exact rb σ H1 Q ρ μ1 Q3 (s.mono k1) m1 h1 (k.after k1)
  | false=>exact k _ _ _ _ h1 k1 (.bl _) m1
 | _=>exact False.elim h1
theorem sd5 (ha:RE X a ta) (hb:RE X (.BoolOp .Or (b :: rest) pos) tb):RE X (.BoolOp .Or (a :: b :: rest) pos) (orV3 ta tb):=by
 obtain ⟨va,pa,ra⟩:=ha;obtain ⟨vb,pb,rb⟩:=hb;refine ⟨_,zi5 pa pb,λ σ H Q ρ μ Q3 s m h k=>ra σ H _ ρ μ _ s m h λ d μ1 v H1 h1 k1 r1 m1=>?_⟩;cases r1 with
 | bl c =>
  refine ⟨c,rfl,?_⟩;cases c with
  | true=>exact k _ _ _ _ h1 k1 (.bl _) m1
  | false=>exact rb σ H1 Q ρ μ1 Q3 (s.mono k1) m1 h1 (k.after k1)
 | _=>exact False.elim h1
theorem ud4 (ha:RE X a ta):RE X (.UnaryOp .Not a pos) (zg3 ta):=by
 obtain ⟨va,pa,ra⟩:=ha;refine ⟨_,wm4 pa,λ σ H Q ρ μ Q3 s m h k=>ra σ H _ ρ μ _ s m h λ d μ1 v H1 h1 k1 r1 m1=>?_⟩;cases r1 with
 | bl c=>exact ⟨c,rfl,k _ _ _ _ h1 k1 (.bl _) m1⟩
 | _=>exact False.elim h1
theorem ye5 (hc:RT X c tA) (ha:RE X a ta) (hb:RE X b tb):RE X (.IfExp c a b pos) (if3 tA ta tb):=by
 obtain ⟨vc,pc,rc⟩:=hc;obtain ⟨va,pa,ra⟩:=ha;obtain ⟨vb,pb,rb⟩:=hb;refine ⟨_,yk2 pc pa pb,λ σ H Q ρ μ Q3 s m h k=>rc σ H _ ρ μ _ s m h λ c μ1 H1 h1 k1 m1=>?_⟩;cases c with
 | true=>exact ra σ H1 Q ρ μ1 Q3 (s.mono k1) m1 h1 (k.after k1)
 | false=>exact rb σ H1 Q ρ μ1 Q3 (s.mono k1) m1 h1 (k.after k1)
variable {es:List Expr} {t:TA3}
theorem zx0:RA X [] nil3:=⟨_,yn4,λ σ H Q ρ μ Q3 s m h k=>k [] μ [] H h (Kp.refl H) .nil m⟩
theorem ug0 (ha:RE X e te) (hr:RA X es t) (hs:starEach (e :: es) X.env=[37] :: starEach es X.env:=by rfl):RA X (e :: es) (xa0 te t):=by
 obtain ⟨va,pa,ra⟩:=ha;obtain ⟨vb,pb,rb⟩:=hr
 exact ⟨_,xf3 pa pb hs,λ σ H Q ρ μ Q3 s m h k=>ra σ H _ ρ μ _ s m h λ d μ1 v H1 h1 k1 r1 m1=>rb σ H1 _ ρ μ1 _ (s.mono k1) m1 h1 λ ds μ2 vs H2 h2 k2 r2 m2 =>
  k _ _ _ _ h2 (k1.trans k2) (.cons (r1.mono k2) r2) m2⟩
theorem zd4 {x1} (h:RA X es t):RE X (.Tuple es x1 pos) (tup3 t):=by
 obtain ⟨va,pa,ra⟩:=h;refine ⟨_,ym4 pa,λ σ H Q ρ μ Q3 s m h k=>ra σ H _ ρ μ _ s m h λ ds μ1 vs H1 h1 k1 r1 m1=>⟨by rw [<- r1.length]; exact h1.1,λ p hp=>?_⟩⟩;exact k _ _ _ _ h1.2 (k1.trans (Kp.new hp)) (.tup sg0 (r1.mono (Kp.new hp))) (m1.newT hp)
theorem sd4 (h:RA X es t):RE X (.List es pos) (lst3 t):=by
 obtain ⟨va,pa,ra⟩:=h;refine ⟨_,um4 pa,λ σ H Q ρ μ Q3 s m h k=>ra σ H _ ρ μ _ s m h λ ds μ1 vs H1 h1 k1 r1 m1=>⟨by rw [<- r1.length]; exact h1.1,λ p hp=>?_⟩⟩;exact k _ _ _ _ (h1.2 p (m1.free hp)) (k1.trans (Kp.new hp)) (.ref p) (m1.newL hp r1)
variable {st:Stmt} {sts:List Stmt} {t3 u3:TS3}
theorem ua3:RSs X [] ud0:=⟨_,zd3,λ σ H D ρ μ D3 s m h k=>k.nx ρ μ σ H h (Kp.refl H) s m⟩
theorem va3 (h:RS X st t3):RSs X [st] t3:=let ⟨t,p,r⟩:=h; ⟨t,yd3 p,r⟩
theorem vh2 (h1:RS X st t3) (h2:RSs X sts u3):RSs X (st :: sts) (seq3 t3 u3):=by
 obtain ⟨va,pa,ra⟩:=h1;obtain ⟨vb,pb,rb⟩:=h2;refine ⟨_,vj2 pa pb,λ σ H D ρ μ D3 s m h k=>ra σ H _ ρ μ _ s m h ⟨λ ρ1 μ1 σ1 H1 h1 k1 s1 m1=>rb σ1 H1 D ρ1 μ1 D3 s1 m1 h1 (k.after k1),k.bk,k.ct,k.rt⟩⟩
theorem th2:RS X st tx0:=⟨_,tj2,λ σ H D ρ μ D3 s m h k=>h⟩
theorem ta3 (he:RE X e te) (hs:swapsWith e none pos.line X.env=pure false:=by rfl):RS X (.Expr e pos) (wc0 te):=by
 obtain ⟨va,pa,ra⟩:=he;exact ⟨_,vd3 pa hs,λ σ H D ρ μ D3 s m h k=>ra σ H _ ρ μ _ s m h λ d μ1 v H1 h1 k1 r1 m1=>k.nx ρ μ1 σ H1 h1 k1 (s.mono k1) m1⟩
theorem zc4 (he:RE X e te):RS X (.Return (some e) pos) (ret3 te):=by
 obtain ⟨va,pa,ra⟩:=he;exact ⟨_,xl4 pa,λ σ H D ρ μ D3 s m h k=>ra σ H _ ρ μ _ s m h k.rt⟩
theorem vd5 {as bs:List Stmt} (hc:RT X c tA) (ha:RSs X as t3) (hb:RSs X bs u3):RS X (.If c as bs pos) (ifs3 tA t3 u3):=by
 obtain ⟨vc,pc,rc⟩:=hc;obtain ⟨va,pa,ra⟩:=ha;obtain ⟨vb,pb,rb⟩:=hb;refine ⟨_,xi5 pc pa pb,λ σ H D ρ μ D3 s m h k=>rc σ H _ ρ μ _ s m h λ c μ1 H1 h1 k1 m1=>?_⟩;cases c with
 | true=>exact ra σ H1 D ρ μ1 D3 (s.mono k1) m1 h1 (k.after k1)
 | false=>exact rb σ H1 D ρ μ1 D3 (s.mono k1) m1 h1 (k.after k1)
theorem yb3 (hN:X.N.Nodup) (hi:X.N[i]?=some x:=by rfl) (hx:Loc X.env.scope x:=by first | exact Or.inl rfl | exact Or.inr rfl) (hf:X.fn x=true \/ X.env.scope.names.lookup x=some .local:=by first | exact .inl rfl | exact .inr rfl) :
    RG X (.Name x pos) (gn3 i):=⟨_,td3 hN hi hx hf,λ v d σ H Q ρ μ Q3 s m r h k=>k _ _ _ _ h (Kp.refl H) (s.set i r) m⟩
theorem yc4 {pos':Pos} (hN:X.N.Nodup) (he:RE X e te) (hi:X.N[i]?=some x:=by rfl) (hx:Loc X.env.scope x:=by first | exact Or.inl rfl | exact Or.inr rfl) (hs:swapsWith e (some (.Name x pos')) pos.line X.env=pure false:=by rfl)
    (hf:X.fn x=true \/ X.env.scope.names.lookup x=some .local:=by first | exact .inl rfl | exact .inr rfl):RS X (.Assign [.Name x pos'] e pos) (set3 i te):=by
 obtain ⟨va,pa,ra⟩:=he;exact ⟨_,vr1 hN hi hx pa hs hf,λ σ H D ρ μ D3 s m h k=>ra σ H _ ρ μ _ s m h λ d μ1 v H1 h1 k1 r1 m1=>k.nx _ _ _ _ h1 k1 ((s.mono k1).set i r1) m1⟩
theorem vc4 {tg:Expr} {g:TG3} (he:RE X e te) (hg:RG X tg g) (hs:swapsWithSole [tg] e pos.line X.env=pure false:=by rfl) (hw:swappedStores [tg] e X.env=pure none:=by rfl)
    (h1:(assignEach [tg] X.env).map (·.2)=[assign tg X.env]:=by rfl):RS X (.Assign [tg] e pos) (asg3 te g):=by
 obtain ⟨va,pa,ra⟩:=he;obtain ⟨vg,pg,rg⟩:=hg;exact ⟨_,zl4 pa pg hs hw h1,λ σ H D ρ μ D3 s m h k=>ra σ H _ ρ μ _ s m h λ d μ1 v H1 h1 k1 r1 m1=>rg v d σ H1 _ ρ μ1 _ (s.mono k1) m1 r1 h1 λ ρ' μ' σ' H' q e=>k.nx ρ' μ' σ' H' q (k1.trans e)⟩
theorem tq4 (n:Nat) (i:Int):L2.ixN n i=ixN n i:=rfl
theorem xd4 {o i:Expr} {to ti:TE3} (ho:RE X o to) (hi:RE X i ti)
    (ha:∀ v,assign (.Subscript o i pos) X.env v=(do
     let ov <- holding [v] (eval o X.env)
     let iv <- holding [v,ov] (eval i X.env)
     standAt pos
     holding [v,ov,iv] (setItem ov iv v)
     release [v,ov,iv] []):=by intro _; rfl):RG X (.Subscript o i pos) (sub3 to ti):=by
 obtain ⟨va,pa,ra⟩:=ho;obtain ⟨vb,pb,rb⟩:=hi;refine ⟨_,xm4 pa pb ts0 ha,λ v d σ H Q ρ μ Q3 s m r h k=>ra σ H _ ρ μ _ s m h λ o' μ1 ov H1 h1 k1 r1 m1=>rb σ H1 _ ρ μ1 _ (s.mono k1) m1 h1 λ i' μ2 iv H2 h2 k2 r2 m2=>?_⟩;cases r1 with
 | ref p =>
  cases r2 with
  | int kk =>
   dsimp only at h2;cases e:μ2 p with
   | none=>simp_all
   | some oo =>
    cases oo with
    | dck _=>simp_all
    | dcl _ _=>simp_all
    | lst xs =>
     rw [e] at h2;dsimp only at h2;cases e2:ixN xs.length kk with
     | none=>simp_all
     | some j =>
      rw [e2] at h2;obtain ⟨vs,hv,rv⟩:=m2 p xs e;have kk':=k1.trans k2;refine ⟨p,vs,kk,j,rfl,rfl,hv,by rw [<- rv.length]; exact e2,k _ _ _ _ h2 (kk'.trans (Kp.wr hv)) (s.mono (kk'.trans (Kp.wr hv))) (m2.wr hv (rv.set (r.mono kk') j))⟩
  | _=>exact False.elim h2
 | _=>trivial
end
end Pv
namespace Pv
open PySem PySem.Spec PyProof.Rows L2
noncomputable def ItOk (K:Fg) (J:It) (l:List D) (S:Mu->Prop) (H0:Hp):Prop:=∀ i H μ,Kp H0 H->RelM K μ H->S μ ->
 (∀ d,l[i]?=some d->J.go i H /\ ∀ x H2,J.yld i H x H2->Kp H H2 /\ RelM K μ H2 /\ RelD K H2 d x) /\ (l.length<=i->J.stop i H)
noncomputable def RdI (K:Fg) (wi:TI) (ti:TI3):Prop:=∀ σ H R ρ μ R3,RSt K H ρ σ->RelM K μ H->ti ρ μ R3->(∀ l S μ' J H',R3 l S μ'->Kp H H'->RelM K μ' H'->ItOk K J l S H'->R J H')->wi σ H R
noncomputable def RI (X:Cx) (tg iter:Expr) (ti:TI3):Prop:=∃ wi,PI X tg iter wi /\ RdI X.K wi ti
variable {X:Cx} {iter c:Expr} {K:Fg} {H0:Hp} {vs:List V} {p:Pos} {body:List Stmt} {ti:TI3} {es:List Expr} {x:Str} {ps:List Str} {sp:Sp3} {r:C3}
section
variable {tg a b e:Expr} {ta tb te:TE3} {pos:Pos}
noncomputable def iSeq (K:Fg) (tl:TE):TI:=λ σ H R=>tl σ H λ x H1=>∃ a,x=.ref a /\ (((∃ xs,SqL K H1 a xs) /\ R (Itl K a) H1) \/ ((∃ xs,SqT K H1 a xs) /\ R (Itt K a) H1))
theorem sl4 {l:Expr} {tl:TE} (hl:PE X l tl):PI X tg l (iSeq X.K tl):=by
 intro pins s σ H R I h;refine thn (hl pins s σ H _ I h) λ v s1 ⟨x,H1,I1,r1,q1⟩=>?_
 have fp:∀ b ∈ [s1.heap.objs.size],FpOk X pins H1 b:=λ b hb=>by
  have e:b=s1.heap.objs.size:=by simpa using hb
  subst e;exact I1.fpOk [26] (I1.hok.fresh [26])
 obtain ⟨a,e,q⟩:=q1;subst e;cases r1;rcases q with ⟨⟨xs,hq⟩,q⟩ | ⟨⟨xs,hq⟩,q⟩
 ·obtain ⟨its,rv,p,hz⟩:=I1.list hq;refine wpAny_pyIter_list p.isList ?_;exact ⟨s1.heap.objs.size,[s1.heap.objs.size],_,_,H1,rfl,I1.kept (t':=s1.toks) λ b o e=>Heap.get?_push_of_some _ e,zn1 a _,[43],fp,q⟩
 ·obtain ⟨its,rv,p,hz⟩:=I1.tuple hq;refine wpAny_pyIter_tuple (show s1.heap.IsTuple a its.toArray from p) ?_;exact ⟨s1.heap.objs.size,[s1.heap.objs.size],_,_,H1,rfl,I1.kept (t':=s1.toks) λ b o e=>Heap.get?_push_of_some _ e,zk1 a _,[43],fp,q⟩
theorem ym2 {a:Addr} {l:List D} (h:SqT K H0 a vs) (r:RelDs K H0 l vs):ItOk K (Itt K a) l (λ _=>True) H0:=λ i H μ k m _=>by
 refine ⟨λ d e=>?_,λ hl=>⟨vs,SqT.mono k h,by rw [<- r.length]; exact hl⟩⟩;obtain ⟨v,e1,r1⟩:=r.get e;refine ⟨⟨vs,v,SqT.mono k h,e1⟩,λ x H2 y=>?_⟩;obtain ⟨rfl,y⟩:=y;have e2:=y vs (SqT.mono k h);rw [e1] at e2; cases e2;exact ⟨Kp.refl _,m,r1.mono k⟩
theorem wm2 {a:Addr} {l:List D} (h:SqF K H0 a vs) (r:RelDs K H0 l vs):ItOk K (Itl K a) l (λ _=>True) H0:=λ i H μ k m _=>by
 refine ⟨λ d e=>?_,λ hl=>⟨vs,(SqF.mono k h).l,by rw [<- r.length]; exact hl⟩⟩;obtain ⟨v,e1,r1⟩:=r.get e;refine ⟨⟨vs,v,(SqF.mono k h).l,e1⟩,λ x H2 y=>?_⟩;obtain ⟨rfl,y⟩:=y;have e2:=y vs (SqF.mono k h).l;rw [e1] at e2; cases e2;exact ⟨Kp.refl _,m,r1.mono k⟩
theorem zm2 {a:Addr} {l:List D}:ItOk K (Itl K a) l (λ μ=>μ a=some (.lst l)) H0:=λ i H μ k m s=>by
 obtain ⟨vs,h,r⟩:=m a l s;refine ⟨λ d e=>?_,λ hl=>⟨vs,SqL.of h,by rw [<- r.length]; exact hl⟩⟩;obtain ⟨v,e1,r1⟩:=r.get e;refine ⟨⟨vs,v,SqL.of h,e1⟩,λ x H2 y=>?_⟩;obtain ⟨rfl,y⟩:=y;have e2:=y vs (SqL.of h);rw [e1] at e2; cases e2;exact ⟨Kp.refl _,m,r1⟩
theorem tc4 (ha:RE X a ta):RI X tg a (is3 ta):=by
 obtain ⟨va,pa,ra⟩:=ha;refine ⟨_,sl4 pa,λ σ H R ρ μ R3 s m h k=>ra σ H _ ρ μ _ s m h λ d μ1 v H1 h1 k1 r1 m1=>?_⟩;cases r1 with
 | tup hq rs=>exact ⟨_,rfl,.inr ⟨⟨_,(SqT.of hq)⟩,k _ _ _ _ _ h1 k1 m1 (ym2 (SqT.of hq) rs)⟩⟩
 | fls hq rs=>exact ⟨_,rfl,.inl ⟨⟨_,hq.l⟩,k _ _ _ _ _ h1 k1 m1 (wm2 hq rs)⟩⟩
 | ref p =>
  dsimp only at h1;cases e:μ1 p with
  | none=>simp_all
  | some oo =>
   cases oo with
   | dck _=>simp_all
   | dcl _ _=>simp_all
   | lst xs =>
    rw [e] at h1;obtain ⟨vs,hv,rv⟩:=m1 p xs e;exact ⟨_,rfl,.inl ⟨⟨_,SqL.of hv⟩,k _ _ _ _ _ h1 k1 m1 zm2⟩⟩
 | _=>exact False.elim h1
theorem xi2 (lo:Int) (n i:Nat):(rngD lo n)[i]?=if i < n then some (.int (lo + i)) else none:=by
 unfold rngD;rw [getElem?_map];by_cases h:i < n
 ·simp_all
 simp_all
theorem vg1 (lo:Int) (n:Nat):(rngD lo n).length=n:=by simp [rngD]
theorem th1 (lo:Int) (n:Nat):ItOk K (Itr lo n) (rngD lo n) (λ _=>True) H0:=λ i H μ k m _=>by
 refine ⟨λ d e=>?_,λ hl=>by rw [vg1] at hl; exact hl⟩;rw [xi2] at e;split at e
 ·next h =>
  cases e;refine ⟨h,λ x H2 y=>?_⟩;obtain ⟨rfl,rfl⟩:=y;exact ⟨Kp.refl _,m,.int _⟩
 ·cases e
theorem yq1 (hm:X.mg "range" = none) (ha:RE X a ta) (hg:Gl X "range" := by rfl) (hs:starEach [a] X.env=[(false,eval a X.env)]:=by rfl):RI X tg (.Call (.Name "range" p) [a] [] pos) (ir3 (xa0 ta nil3)):=by
 obtain ⟨va,pa,ra⟩:=ug0 ha zx0 hs;refine ⟨_,ws1 hg hm pa hs,λ σ H R ρ μ R3 s m h k=>ra σ H _ ρ μ _ s m h λ ds μ1 vs H1 h1 k1 r1 m1=>?_⟩;cases r1 with
 | nil=>exact False.elim h1
 | cons r1 r2 =>
  cases r2 with
  | cons _ _=>simp_all
  | nil =>
   cases r1 with
   | int j=>exact ⟨j,rfl,h1.1.1,h1.1.2,k _ _ _ _ _ h1.2 k1 m1 (th1 _ _)⟩
   | _=>exact False.elim h1
theorem xq1 (hm:X.mg "range" = none) (ha:RE X a ta) (hb:RE X b tb) (hg:Gl X "range" := by rfl) (hs:starEach [a,b] X.env=[(false,eval a X.env),(false,eval b X.env)]:=by rfl) (hs2:starEach [b] X.env=[(false,eval b X.env)]:=by rfl) :
    RI X tg (.Call (.Name "range" p) [a,b] [] pos) (ir23 (xa0 ta (xa0 tb nil3))):=by
 obtain ⟨va,pa,ra⟩:=ug0 ha (ug0 hb zx0 hs2) (by rw [hs,hs2]);refine ⟨_,zs1 hg hm pa hs hs2,λ σ H R ρ μ R3 s m h k=>ra σ H _ ρ μ _ s m h λ ds μ1 vs H1 h1 k1 r1 m1=>?_⟩;split at h1
 ·next i j =>
  cases r1 with
  | cons r1 r2 =>
   cases r2 with
   | cons r2 r3 =>
    cases r3;cases r1;cases r2;exact ⟨i,j,rfl,h1.1,k _ _ _ _ _ h1.2 k1 m1 (th1 _ _)⟩
 ·exact h1.elim
theorem wc4 {g:TG3} {tb:TS3} (hp:PassesOwn [13] X.A X.env X.xe) (hc:X.calm=true) (hi:RI X tg iter ti) (hg:RG X tg g) (hb:RSs X body tb)
    (hs:∀ x,foldedSetIterable iter X.env x=pure x:=by intro _; rfl):RS X (.For tg iter body [] pos) (for3 ti g tb):=by
 obtain ⟨wi,pi,ri⟩:=hi;obtain ⟨vg,pg,rg⟩:=hg;obtain ⟨vb,pb,rb⟩:=hb;refine ⟨_,yl4 hp hc pi pg pb hs,λ σ H D ρ μ D3 s m h k=>ri σ H _ ρ μ _ s m h λ l S μ1 J H1 h1 k1 m1 ok=>?_⟩;refine ⟨λ i n σ2 H2=>n=l.length - i /\ i<=l.length /\ ∃ ρ2 μ2,RSt X.K H2 ρ2 σ2 /\ RelM X.K μ2 H2 /\ Kp H1 H2 /\ vz0 S g tb D3 (l.drop i) ρ2 μ2,⟨l.length,rfl,Nat.zero_le _,ρ,μ1,s.mono k1,m1,Kp.refl _,h1⟩,?_⟩;rintro i n σ2 H2 ⟨rfl,hi,ρ2,μ2,s2,m2,k2,h2⟩;by_cases hlt:i < l.length
 ·rw [List.drop_eq_getElem_cons hlt] at h2;obtain ⟨hS,N,hN,h2⟩:=h2;obtain ⟨ok1,_⟩:=ok i H2 μ2 k2 m2 hS;obtain ⟨go,yl⟩:=ok1 l[i] (getElem?_eq_getElem hlt);refine .inr ⟨go,λ σ3 H3=>∃ ρ3 μ3,N ρ3 μ3 /\ RSt X.K H3 ρ3 σ3 /\ RelM X.K μ3 H3 /\ Kp H1 H3,λ σ3 H3 ⟨ρ3,μ3,hn,s3,m3,k3⟩=>⟨l.length - (i + 1),by omega,rfl,hlt,ρ3,μ3,s3,m3,k3,hN _ _ hn⟩,λ x H3 y=>?_⟩;obtain ⟨k3,m3,r3⟩:=yl x H3 y;refine rg x l[i] σ2 H3 _ ρ2 μ2 _ (s2.mono k3) m3 r3 h2 λ ρ4 μ4 σ4 H4 h4 k4 s4 m4=>?_;have k14:Kp H1 H4:=k2.trans (k3.trans k4)
  exact rb σ4 H4 _ ρ4 μ4 _ s4 m4 h4 ⟨λ ρ5 μ5 σ5 H5 h5 k5 s5 m5=>⟨ρ5,μ5,h5,s5,m5,k14.trans k5⟩,λ ρ5 μ5 σ5 H5 h5 k5 s5 m5=>k.nx _ _ _ _ h5 (k1.trans (k14.trans k5)) s5 m5,
   λ ρ5 μ5 σ5 H5 h5 k5 s5 m5=>⟨ρ5,μ5,h5,s5,m5,k14.trans k5⟩,λ d μ5 v H5 h5 k5 r5 m5=>k.rt _ _ _ _ h5 (k1.trans (k14.trans k5)) r5 m5⟩
 ·have e:i=l.length:=by omega
  subst e;rw [List.drop_length] at h2;obtain ⟨hS,h2⟩:=h2;exact .inl ⟨(ok _ H2 μ2 k2 m2 hS).2 [26],k.nx _ _ _ _ h2 (k1.trans k2) s2 m2⟩
theorem uh2 {tc:TT3} {tb:TS3} (hp:PassesOwn [13] X.A X.env X.xe) (hc:RT X c tc) (hb:RSs X body tb):RS X (.While c body [] pos) (so0 tc tb):=by
 obtain ⟨vc,pc,rc⟩:=hc;obtain ⟨vb,pb,rb⟩:=hb;refine ⟨_,uj2 hp pc pb,λ σ H D ρ μ D3 s m h k=>?_⟩;obtain ⟨W,⟨n0,w0⟩,turn⟩:=h;refine ⟨λ n σ2 H2=>∃ ρ2 μ2,W n ρ2 μ2 /\ RSt X.K H2 ρ2 σ2 /\ RelM X.K μ2 H2 /\ Kp H H2,⟨n0,ρ,μ,w0,s,m,Kp.refl _⟩,?_⟩;rintro n σ2 H2 ⟨ρ2,μ2,w2,s2,m2,k2⟩;refine rc σ2 H2 _ ρ2 μ2 _ s2 m2 (turn n ρ2 μ2 w2) λ b μ3 H3 h3 k3 m3=>?_;cases b with
 | true =>
  obtain ⟨N,hN,h3⟩:=h3;have k23:=k2.trans k3;refine ⟨λ σ4 H4=>∃ ρ4 μ4,N ρ4 μ4 /\ RSt X.K H4 ρ4 σ4 /\ RelM X.K μ4 H4 /\ Kp H H4,λ σ4 H4 ⟨ρ4,μ4,hn,s4,m4,k4⟩=>?_,?_⟩
  ·obtain ⟨n',hl,w4⟩:=hN _ _ hn;exact ⟨n',hl,ρ4,μ4,w4,s4,m4,k4⟩
  ·exact rb σ2 H3 _ ρ2 μ3 _ (s2.mono k3) m3 h3 ⟨λ ρ5 μ5 σ5 H5 h5 k5 s5 m5=>⟨ρ5,μ5,h5,s5,m5,k23.trans k5⟩,λ ρ5 μ5 σ5 H5 h5 k5 s5 m5=>k.nx _ _ _ _ h5 (k23.trans k5) s5 m5,
     λ ρ5 μ5 σ5 H5 h5 k5 s5 m5=>⟨ρ5,μ5,h5,s5,m5,k23.trans k5⟩,λ d μ5 v H5 h5 k5 r5 m5=>k.rt _ _ _ _ h5 (k23.trans k5) r5 m5⟩
 | false=>exact k.nx _ _ _ _ h3 (k2.trans k3) (s2.mono k3) m3
noncomputable def lift (K:Fg) (sp:Sp3):Sp:=λ vs H Q _=>∃ ds μ Q3,RelDs K H ds vs /\ RelM K μ H /\ sp ds μ Q3 /\ Ks K H Q3 Q
noncomputable def Cal (P:Program) (w:World) (K:Fg) (mg:[40]) (base:Heap) (k:Nat) (x:Str) (ps:List Str) (sp:Sp3):Prop :=
 ∃ f fd,FnOk P w K mg base CX0 k f fd ps (lift K sp) /\ mg x=some (.ref f) /\ keepIn K (.ref f)=true /\ Binds K fd ps []
theorem Cal.mono {P:Program} {w:World} {K:Fg} {mg:[40]} {base:Heap} {j k:Nat} {x:Str} {ps:List Str} {sp:Sp3} (c:Cal P w K mg base j x ps sp) (h:j<=k):Cal P w K mg base k x ps sp:=by
 obtain ⟨f,fd,F,r⟩:=c;exact ⟨f,fd,F.mono h,r⟩
variable {t:TA3} 
theorem wb3 {k:Nat} (c:Cal X.prog X.w X.K X.mg X.base k x ps sp) (hr:Room k X.A) (ha:RA X (e :: es) t) (hg:Gl X x:=by rfl) (hdb:(x == ("__debug__" : Str))=false:=by decide)
    (he:starEach (e :: es) X.env=[37] :: starEach es X.env:=by rfl) (hpl:(backTo pos (starEach es X.env)).any (·.1)=false:=by rfl):RE X (.Call (.Name x p) (e :: es) [] pos) (va0 sp t):=by
 obtain ⟨f,fd,F,hm,hk,hb⟩:=c;obtain ⟨va,pa,ra⟩:=ha;refine ⟨_,ve3 F hr hg hm hk hb .nil si5 pa hdb he hpl,λ σ H Q ρ μ Q3 s m h k=>ra σ H _ ρ μ _ s m h λ ds μ1 vs H1 h1 k1 r1 m1=>?_⟩;rw [append_nil];exact ⟨ds,μ1,Q3,r1,m1,h1,k.after k1⟩
theorem zd0 {id:String} (hc:RC X (.builtin id) r) (hm:X.mg x=none) (hv:bootBuiltins x=some (.builtin id)) (ha:RA X (e :: es) t) (hg:Gl X x:=by rfl) (hn:x ≠ "__name__" := by decide) (hdb:(x == ("__debug__" : Str))=false:=by decide)
    (he:starEach (e :: es) X.env=[37] :: starEach es X.env:=by rfl) (hpl:(backTo pos (starEach es X.env)).any (·.1)=false:=by rfl):RE X (.Call (.Name x p) (e :: es) [] pos) (va0 r t):=by
 obtain ⟨r',pc,rc⟩:=hc;obtain ⟨va,pa,ra⟩:=ha;exact ⟨_,vk2 pc hg hm hv pa hn hdb he hpl,λ σ H Q ρ μ Q3 s m h k=>ra σ H _ ρ μ _ s m h λ ds μ1 vs H1 h1 k1 r1 m1=>rc ds vs H1 Q μ1 Q3 m1 r1 h1 (k.after k1)⟩
theorem yx0 {T:String} (hc:RC X (.type T) r) (hm:X.mg x=none) (hv:bootBuiltins x=some (.type T)) (ha:RA X (e :: es) t) (hg:Gl X x:=by rfl) (hn:x ≠ "__name__" := by decide) (hdb:(x == ("__debug__" : Str))=false:=by decide)
    (he:starEach (e :: es) X.env=[37] :: starEach es X.env:=by rfl) (hpl:(backTo pos (starEach es X.env)).any (·.1)=false:=by rfl):RE X (.Call (.Name x p) (e :: es) [] pos) (va0 r t):=by
 obtain ⟨r',pc,rc⟩:=hc;obtain ⟨va,pa,ra⟩:=ha;exact ⟨_,ss1 pc hg hm hv pa hn hdb he hpl,λ σ H Q ρ μ Q3 s m h k=>ra σ H _ ρ μ _ s m h λ ds μ1 vs H1 h1 k1 r1 m1=>rc ds vs H1 Q μ1 Q3 m1 r1 h1 (k.after k1)⟩
theorem xe5 {r3:R3} (hx:RX X r3) (ha:RE X a ta) (hb:RE X b tb) (hs:ub2 b:=by intro _ _; rfl):RE X (.Subscript a b pos) (o3 r3 ta tb):=by
 obtain ⟨r,po,ro⟩:=hx;obtain ⟨va,pa,ra⟩:=ha;obtain ⟨vb,pb,rb⟩:=hb;exact ⟨_,vi5 po pa pb hs,ra.op rb ro⟩
end
variable {w:World} {mg:[40]} {f:Addr} {fd:FuncData}
section
variable {P:Program} {base:Heap}
theorem tx1 {st:Stmt} {N:List Str} {k:Nat} {t:TS3} (F:Fun K x x st f fd) (S:FnScope N ps (ua0 st))
    (len:∀ ds μ Q,sp ds μ Q->ds.length=ps.length)
    (body:∀ (cdv:Value) (A:Around) (outer:List Env) (s:Shared) (H:Hp) (E:XK),Room k (A.deeper (envOfC x (ua0 st) s.heap.objs.size f cdv))->RSs (cxOf CX0 P w K mg base N x (ua0 st) f cdv A outer s H E).nox (xd0 st) t)
    (rd:∀ ds μ Q,sp ds μ Q->t { nx:=λ _ μ'=>Q .non μ',rt:=Q } (sa0 N ds) μ):FnOk P w K mg base CX0 (k + 1) f fd ps (lift K sp):=by
 refine F.ok S (λ vs H Q E h=>?_) (λ cdv A outer s H vs Q E hr h=>?_)
 ·obtain ⟨ds,μ,Q3,r,m,q,ks⟩:=h;rw [<- r.length]; exact len _ _ _ q
 ·obtain ⟨ds,μ,Q3,r,m,q,ks⟩:=h;obtain ⟨tv,p,rt⟩:=body cdv A outer s H E hr;exact ⟨tv,p,rt _ H _ _ μ _ (RSt.start N r) m (rd ds μ Q3 q) ⟨λ ρ μ' σ H' h' k' s' m'=>ks _ _ _ _ h' k' .non m',λ ρ μ' σ H' h'=>False.elim h',λ ρ μ' σ H' h'=>False.elim h',ks⟩⟩
theorem vt4 {st:Stmt} {N:List Str} {k:Nat} {t:TS3} (F:Fun K x x st f fd) (hm:mg x=some (.ref f)) (hb:Binds K fd ps []) (S:FnScope N ps (ua0 st))
    (len:∀ ds μ Q,sp ds μ Q->ds.length=ps.length)
    (body:∀ (cdv:Value) (A:Around) (outer:List Env) (s:Shared) (H:Hp) (E:XK),Room k (A.deeper (envOfC x (ua0 st) s.heap.objs.size f cdv))->RSs (cxOf CX0 P w K mg base N x (ua0 st) f cdv A outer s H E).nox (xd0 st) t)
    (rd:∀ ds μ Q,sp ds μ Q->t { nx:=λ _ μ'=>Q .non μ',rt:=Q } (sa0 N ds) μ):Cal P w K mg base (k + 1) x ps sp :=
 ⟨f,fd,tx1 F S len body rd,hm,F.kp,hb⟩
end
variable {g3:Int->Int->D} {i:Int}
section
theorem RdO.i0 {g:Int->Int->V} (hg:∀ i j H,RelD K H (g3 i j) (g i j)):RdO K (rI0 g) (ul1 g3):=λ x y v u H Q μ Q3 m rx ry h k=>by
 unfold ul1 at h;split at h
 ·cases rx;cases ry;exact ⟨_,_,rfl,rfl,k _ _ _ _ h (Kp.refl _) (hg _ _ H) m⟩
 ·exact h.elim
theorem RdO.i2 {C:Int->Int->Prop} {g:Int->Int->V} (hg:∀ i j H,RelD K H (g3 i j) (g i j)):RdO K (rI C g) (int2 C g3):=λ x y v u H Q μ Q3 m rx ry h k=>by
 unfold int2 at h;split at h
 ·cases rx;cases ry;exact ⟨_,_,rfl,rfl,h.1,k _ _ _ _ h.2 (Kp.refl _) (hg _ _ H) m⟩
 ·exact h.elim
theorem wg5:RO X (binaryOp .Sub) subR:=⟨_,zn4,RdO.i0 λ _ _ _=>.int _⟩
theorem sg5:RO X (binaryOp .Mod) modR:=⟨_,un4,RdO.i2 λ _ _ _=>.int _⟩
theorem vg5:RO X (binaryOp .Pow) powR:=⟨_,wn4,RdO.i2 λ _ _ _=>.int _⟩
theorem log2_lt {n k:Nat} (hk:0 < k) (h:n < 2 ^ k):n.log2 < k:=by
 rcases Nat.eq_zero_or_pos n with h0 | hp
 ·simp_all
 ·exact (Nat.log2_lt (Nat.ne_of_gt hp)).mpr h
theorem sk2:OpR X (binaryOp .FloorDiv) (rI (λ _ j=>0 < j /\ j < 2 ^ 120) λ i j=>.int (i / j)):=opI λ i j _ _ _ _ _ hc q=>by
 have h1:(0:Int) < j:=hc.1;have h2:j < 2 ^ 120:=hc.2;refine floordiv_int [2] (by rw [Int.fdiv_eq_ediv_of_nonneg i [2]]; exact q) (.inl (PyProof.noPylong_of_log2 ?_));have h3:j.natAbs < 2 ^ 120:=by omega
 exact Nat.lt_trans (log2_lt [19] h3) [19]
theorem wj4:RO X (binaryOp .FloorDiv) xm1:=⟨_,sk2,RdO.i2 λ _ _ _=>.int _⟩
theorem CMul.mulok {j:Int} (h:CMul i j):IntMulOk i j:=by
 rcases h with h | ⟨h1,h2⟩
 ·exact L2.CMul.ok h
 ·unfold IntMulOk;intro e;rw [Bool.and_eq_true] at e;have e2:=e.2;unfold Builtin.Int.intTooBig at e2
  have hb:∀ x:Int,x.natAbs < Big->Builtin.Int.intBits x<=1000:=λ x hx=>by
   unfold Builtin.Int.intBits;split
   ·exact Nat.zero_le _
   ·exact log2_lt [19] hx
  have b1:=hb i h1;have b2:=hb j h2;have e3:=of_decide_eq_true e2;have e4:(2000:Nat) < bitsLine:=by decide
  omega
theorem zf3:OpR X (binaryOp .Mult) (rI CMul λ i j=>.int (i * j)):=opI λ _ _ _ _ _ _ _ hc q=>mul_int q hc.mulok
theorem ug5:RU X (unaryOp .USub) negR:=⟨_,wq3,λ x v H Q μ Q3 m r h k=>by
 cases r with
 | int i=>exact ⟨i,rfl,k _ _ _ _ h (Kp.refl _) (.int _) m⟩
 | _=>exact False.elim h⟩
theorem q_lt:RO X (compareOp .Lt) ltR:=⟨_,xj5,RdO.i0 λ _ _ _=>.bl _⟩
theorem q_gt:RO X (compareOp .Gt) gtR:=⟨_,yj5,RdO.i0 λ _ _ _=>.bl _⟩
theorem q_ge:RO X (compareOp .GtE) geR:=⟨_,zj5,RdO.i0 λ _ _ _=>.bl _⟩
noncomputable def yg5 (K:Fg):R2:=λ x y H Q=>∃ a b xs ys,x=.ref a /\ y=.ref b /\ SqT K H a xs /\ SqT K H b ys /\ xs.length + ys.length<=sizeLine ∧
 (xs=[]->Q (.ref b) H) /\ (ys=[]->Q (.ref a) H) /\ (∀ p,H p=none->Q (.ref p) (upd H p (.tup (xs ++ ys))))
theorem vf3:OpR X (binaryOp .Add) (yg5 X.K):=by
 intro pins s σ H x y v u Q I rx ry h;obtain ⟨a,b,xs,ys,rfl,rfl,ha,hb,hz,q1,q2,q3⟩:=h;by_cases hx:xs=[]
 ·cases rx;cases ry;obtain ⟨its,r,ht,_⟩:=I.tuple ha;obtain ⟨its2,r2,ht2,_⟩:=I.tuple hb;have hi:its=[]:=by subst hx; cases r; rfl
  obtain ⟨⟨cls,dd,data,sl⟩,ho,hc,n,hd⟩:=id ht;obtain ⟨⟨cls2,dd2,data2,sl2⟩,ho2,hc2,n2,hd2⟩:=id ht2;simp only at hc hd hc2 hd2;subst hc hd hc2 hd2
  exact concat_meets ⟨_,ho,rfl⟩ ⟨_,ho2,rfl⟩ noFill_tuple_add seq_tuple_add slot_tuple_add entry_tuple_add (args_tuple_add_2 _ _)
   (tuple_addW0 a b its.toArray its2.toArray n n2 dd dd2 sl sl2 (by simp [hi])) ⟨ho,ho2,⟨.ref b,H,I,rfl,q1 hx⟩⟩
 ·exact wf3 pins s σ H _ _ v u Q I rx ry ⟨a,b,xs,ys,rfl,rfl,ha,hb,hx,hz,q2,λ _=>q3⟩
theorem uh5:RO X (binaryOp .Add) addR:=by
 refine ⟨_,op_add.or (op_cat.or vf3),λ x y v u H Q μ Q3 m rx ry h k=>?_⟩;unfold addR at h;split at h
 ·cases rx;cases ry;exact .inl ⟨_,_,rfl,rfl,k _ _ _ _ h (Kp.refl _) (.int _) m⟩
 ·next p q =>
  cases rx;cases ry;split at h
  ·next xs ys e e2 =>
   obtain ⟨vs,hv,rv⟩:=m p xs e;obtain ⟨us,hu,ru⟩:=m q ys e2;refine .inr (.inl ⟨p,q,vs,us,rfl,rfl,hv,hu,by rw [<- rv.length,<- ru.length]; exact h.1,λ t ht=>?_⟩);exact k _ _ _ _ (h.2 t (m.free ht)) (Kp.new ht) (.ref t) (m.newL ht (rv.append ru))
  ·exact h.elim
 ·cases rx with
  | tup hq rs =>
  cases ry with
  | tup hq2 rs2 =>
   rename_i a vs b us;refine .inr (.inr ⟨a,b,vs,us,rfl,rfl,(SqT.of hq),(SqT.of hq2),by rw [<- rs.length,<- rs2.length]; exact h.1,λ e=>?_,λ e=>?_,λ t ht=>?_⟩)
   ·subst e; cases rs;exact k _ _ _ _ h.2 (Kp.refl _) (.tup hq2 rs2) m
   ·subst e; cases rs2;have h2:=h.2;rw [append_nil] at h2;exact k _ _ _ _ h2 (Kp.refl _) (.tup hq rs) m
   ·exact k _ _ _ _ h.2 (Kp.new ht) (.tup sg0 ((rs.append rs2).mono (Kp.new ht))) (m.newT ht)
 ·exact h.elim
theorem RelDs.atI {K:Fg} {H:Hp} {l:List D} {vs:List V} {i:Int} {d:D} (r:RelDs K H l vs) (e:Pv.atI l i=some d):∃ v,L2.atI vs i=some v /\ RelD K H d v:=by
 unfold Pv.atI at e;unfold L2.atI;rw [tq4,<- r.length];cases q:ixN l.length i with
 | none=>simp_all
 | some j =>
  rw [q] at e;exact r.get e
theorem q_ix:RX X ixR:=by
 refine ⟨_,ix_list.or vq4,λ x y v u H Q μ Q3 m rx ry h k=>?_⟩;unfold ixR at h;split at h
 ·cases ry;cases rx with
  | tup hq rs =>
  split at h
  ·next e =>
   obtain ⟨w,e1,r1⟩:=rs.atI e;exact .inr ⟨_,_,_,w,rfl,rfl,(SqT.of hq),e1,k _ _ _ _ h (Kp.refl _) r1 m⟩
  ·exact h.elim
 ·cases ry;cases rx with
  | ktp hq rs =>
  split at h
  ·next e =>
   obtain ⟨w,e1,r1⟩:=rs.atI e;exact .inr ⟨_,_,_,w,rfl,rfl,hq,e1,k _ _ _ _ h (Kp.refl _) r1 m⟩
  ·exact h.elim
 ·cases ry;cases rx with
  | fls hq rs =>
  split at h
  ·next e =>
   obtain ⟨w,e1,r1⟩:=rs.atI e;exact .inl ⟨_,_,_,w,rfl,rfl,hq.l,e1,k _ _ _ _ h (Kp.refl _) r1 m⟩
  ·exact h.elim
 ·next p i =>
  cases ry;cases rx;split at h
  ·next l e0 =>
   obtain ⟨vs,hv,rs⟩:=m p l e0;split at h
   ·next e =>
    obtain ⟨w,e1,r1⟩:=rs.atI e;exact .inl ⟨p,vs,i,w,rfl,rfl,SqL.of hv,e1,k _ _ _ _ h (Kp.refl _) r1 m⟩
   ·exact h.elim
  ·exact h.elim
 ·exact h.elim
theorem xh5:RC X (.builtin "len") lenR:=by
 refine ⟨_,call_len_seq.or za1,λ xs vs H Q μ Q3 m r h k=>?_⟩;cases r with
 | nil=>exact False.elim h
 | cons r1 r2 =>
  cases r2 with
  | cons _ _=>cases r1 <;> exact False.elim h
  | nil =>
   cases r1 with
   | tup hq rs =>
    rename_i a l vs;refine .inl ⟨a,vs,rfl,.inr (SqT.of hq),?_⟩;rw [<- rs.length];exact k _ _ _ _ h (Kp.refl _) (.int _) m
   | fls hq rs =>
    rename_i a l vs;refine .inl ⟨a,vs,rfl,.inl hq.l,?_⟩;rw [<- rs.length];exact k _ _ _ _ h (Kp.refl _) (.int _) m
   | str z=>exact .inr ⟨z,rfl,h.1,k _ _ _ _ h.2 (Kp.refl _) (.int _) m⟩
   | ref p =>
    dsimp only [lenR] at h;cases e:μ p with
    | none=>simp_all
    | some oo =>
     cases oo with
     | dck _=>simp_all
     | dcl _ _=>simp_all
     | lst l =>
      rw [e] at h;obtain ⟨vs,hv,rs⟩:=m p l e;refine .inl ⟨p,vs,rfl,.inl (SqL.of hv),?_⟩;rw [<- rs.length];exact k _ _ _ _ h (Kp.refl _) (.int _) m
   | _=>exact False.elim h
theorem th5:RC X (.builtin "abs") absR:=by
 refine ⟨_,xp2,λ xs vs H Q μ Q3 m r h k=>?_⟩;cases r with
 | nil=>exact False.elim h
 | cons r1 r2 =>
  cases r2 with
  | cons _ _=>cases r1 <;> exact False.elim h
  | nil =>
   cases r1 with
   | int i=>exact ⟨i,rfl,k _ _ _ _ h (Kp.refl _) (.int _) m⟩
   | _=>exact False.elim h
theorem tb3:RC X (.type "tuple") tupR:=by
 refine ⟨_,xv0,λ xs vs H Q μ Q3 m r h k=>?_⟩;cases r with
 | nil=>exact False.elim h
 | cons r1 r2 =>
  cases r2 with
  | cons _ _=>cases r1 <;> exact False.elim h
  | nil =>
   cases r1 with
   | tup hq rs=>exact ⟨_,_,rfl,.inr ⟨(SqT.of hq),k _ _ _ _ h (Kp.refl _) (.tup hq rs) m⟩⟩
   | ref p =>
    dsimp only [tupR] at h;cases e:μ p with
    | none=>simp_all
    | some oo =>
     cases oo with
     | dck _=>simp_all
     | dcl _ _=>simp_all
     | lst l =>
      rw [e] at h;obtain ⟨vs,hv,rs⟩:=m p l e;exact ⟨p,vs,rfl,.inl ⟨SqL.of hv,λ t ht=>k _ _ _ _ h (Kp.new ht) (.tup sg0 (rs.mono (Kp.new ht))) (m.newT ht)⟩⟩
   | _=>exact False.elim h
theorem wj0 {K:Fg} {H:Hp}:∀ {l:List D} {vs:List V} {zs:List Int},RelDs K H l vs->ints? l=some zs->vs=zs.map V.int
 | _,_,zs,.nil,e=>by simp [ints?] at e; subst e; rfl
 | _,_,zs,.cons h r,e=>by
  cases h with
  | int x =>
   simp only [ints?] at e;split at e
   ·next ys e1 =>
    simp only [Option.some.injEq] at e;subst e;rw [wj0 r e1]; rfl
   ·cases e
  | _=>simp [ints?] at e
theorem uo2:X.calm=true->CallR X (.builtin "sum") (λ xs H Q=>∃ (p:Addr) (ns:List Int),xs=[.ref p] /\ SqL X.K H p (ns.map V.int) /\ Q (.int ns.sum) H):=by
 intro hc pins s σ H xs us Q I r h;obtain ⟨p,ns,rfl,hq,q⟩:=h;obtain ⟨u,rfl,rx⟩:=vv0 r;cases rx;obtain ⟨its,r',pl,hz⟩:=I.list hq;have hi:=vk0 r';obtain ⟨ys,e⟩:=hi.allInts.items;have hl:=pl.isList;rw [e] at hl;refine sum_intListG (I.ok.hd hc) hl λ h' tk t' hk=>?_;refine ⟨.int ns.sum,H,I.kept (t':=tk) hk,⟨t',?_⟩,q⟩;rw [preSum_eq,take_of_length_le [10],<- nums_intItems,<- e];show Value.int (numsOf its).sum t'=_;rw [hi.numsOf]
theorem zg5 (hc:X.calm=true:=by rfl):RC X (.builtin "sum") sumR:=by
 refine ⟨_,uo2 hc,λ xs vs H Q μ Q3 m r h k=>?_⟩;cases r with
 | nil=>exact False.elim h
 | cons r1 r2 =>
  cases r2 with
  | cons _ _=>cases r1 <;> exact False.elim h
  | nil =>
   cases r1 with
   | ref p =>
    dsimp only [sumR] at h;cases e:μ p with
    | none=>simp_all
    | some oo =>
     cases oo with
     | dck _=>simp_all
     | dcl _ _=>simp_all
     | lst l =>
      rw [e] at h;dsimp only at h;obtain ⟨vs,hv,rs⟩:=m p l e;cases e1:ints? l with
      | none=>simp_all
      | some ns =>
       rw [e1] at h;have ev:=wj0 rs e1;subst ev;exact ⟨p,ns,rfl,SqL.of hv,k _ _ _ _ h (Kp.refl _) (.int _) m⟩
   | _=>exact False.elim h
end
variable {pins:[21]} {σ:L2.St} {H:Hp} {s:Shared} {μ:Mu} {v:V} {A:Around} {neg:Bool} {Q:VK}
section
mutual
theorem yf0 (I:[7]):∀ {d:D} {v:V} {p:PyData} {u:Value},RelD X.K H d v->dat d=some p->RelV v u->∃ as,Reads s.heap u p as
 | _,_,p,u,.non,e,r=>by simp only [dat,Option.some.injEq] at e; subst e; cases r; exact ⟨_,Reads.none⟩
 | _,_,p,u,.bl b,e,r=>by simp only [dat,Option.some.injEq] at e; subst e; cases r; exact ⟨_,Reads.bool b⟩
 | _,_,p,u,.int i,e,r=>by simp only [dat,Option.some.injEq] at e; subst e; obtain ⟨t,rfl⟩:=r; exact ⟨_,Reads.int i t⟩
 | _,_,p,u,.str x,e,r=>by
  simp only [dat] at e;split at e
  ·simp only [Option.some.injEq] at e; subst e; obtain ⟨t,rfl⟩:=r; exact ⟨_,Reads.str x t⟩
  ·cases e
 | _,_,p,u,.ref a,e,r=>by simp [dat] at e
 | _,_,p,u,.ty n,e,r=>by simp [dat] at e
 | _,_,p,u,.fls _ _,e,r=>by simp [dat] at e
 | _,_,p,u,.exc _ _ _,e,r=>by simp [dat] at e
 | _,_,p,u,.tup hq rs,e,r=>by
  simp only [dat] at e;split at e
  ·next ps e1 =>
   simp only [Option.some.injEq] at e; subst e;cases r;obtain ⟨its,rv,⟨o,ho,hc,n,hd⟩,hz⟩:=I.tuple (SqT.of hq);obtain ⟨as,q⟩:=zf0 I rs e1 rv;exact ⟨_,Reads.tuple ho hc hd (by simpa using q)⟩
  ·cases e
 | _,_,p,u,.ktp hq rs,e,r=>by
  simp only [dat] at e;split at e
  ·next ps e1 =>
   simp only [Option.some.injEq] at e; subst e;cases r;obtain ⟨its,rv,⟨o,ho,hc,n,hd⟩,hz⟩:=I.tuple hq;obtain ⟨as,q⟩:=zf0 I rs e1 rv;exact ⟨_,Reads.tuple ho hc hd (by simpa using q)⟩
  ·cases e
theorem zf0 (I:[7]):∀ {l:List D} {vs:List V} {ps:List PyData} {us:[29]},RelDs X.K H l vs->dats l=some ps->Vals vs us->∃ as,ReadsAll s.heap us ps as
 | _,_,ps,us,.nil,e,r=>by simp only [dats,Option.some.injEq] at e; subst e; cases r; exact ⟨_,ReadsAll.nil⟩
 | _,_,ps,us,.cons h rs,e,r=>by
  simp only [dats] at e;split at e
  ·next p e1 =>
   split at e
   ·next qs e2 =>
    simp only [Option.some.injEq] at e; subst e;cases r with
    | cons r1 r2 =>
     obtain ⟨as,q1⟩:=yf0 I h e1 r1;obtain ⟨bs,q2⟩:=zf0 I rs e2 r2;exact ⟨_,ReadsAll.cons q1 q2⟩
   ·cases e
  ·cases e
end
theorem ue0 (I:[7]) (m:RelM X.K μ H) {d:D} {p:PyData} {u:Value} (h:RelD X.K H d v) (e:datM μ d=some p) (r:RelV v u):∃ as,Reads s.heap u p as:=by
 cases h with
 | ref a =>
  simp only [datM] at e;split at e
  ·next l e0 =>
   split at e
   ·next ps e1 =>
    simp only [Option.some.injEq] at e; subst e;cases r;obtain ⟨vs,hv,rs⟩:=m a l e0;obtain ⟨its,rv,pl,hz⟩:=I.list (SqL.of hv);obtain ⟨o,ho,hc,n,hd⟩:=pl.isList;obtain ⟨as,q⟩:=zf0 I rs e1 rv;exact ⟨_,Reads.list ho hc hd (by simpa using q)⟩
   ·cases e
  ·cases e
 | non=>exact yf0 I .non e r
 | bl b=>exact yf0 I (.bl b) e r
 | int i=>exact yf0 I (.int i) e r
 | str x=>exact yf0 I (.str x) e r
 | ty n=>trivial
 | tup hq rs=>exact yf0 I (.tup hq rs) e r
 | ktp hq rs=>exact yf0 I (.ktp hq rs) e r
 | fls hq rs=>trivial
 | exc a1 a2 a3=>trivial
mutual
theorem yd0:∀ (d:D) (p:PyData),dat d=some p->p.canLay0=true
 | .non,p,e=>by simp only [dat,Option.some.injEq] at e; subst e; rfl
 | .bl b,p,e=>by simp only [dat,Option.some.injEq] at e; subst e; rfl
 | .int b,p,e=>by simp only [dat,Option.some.injEq] at e; subst e; rfl
 | .str x,p,e=>by
  simp only [dat] at e;split at e
  ·next h=>simp only [Option.some.injEq] at e; subst e; exact h
  ·cases e
 | .tup l,p,e=>by
  simp only [dat] at e;split at e
  ·next ps e1=>simp only [Option.some.injEq] at e; subst e; simp only [PyData.canLay0]; exact zg0 l ps e1
  ·cases e
 | .ktp l,p,e=>by
  simp only [dat] at e;split at e
  ·next ps e1=>simp only [Option.some.injEq] at e; subst e; simp only [PyData.canLay0]; exact zg0 l ps e1
  ·cases e
 | .fls _,p,e=>by simp [dat] at e
 | .ref _,p,e=>by simp [dat] at e
 | .ty _,p,e=>by simp [dat] at e
theorem zg0:∀ (l:List D) (ps:List PyData),dats l=some ps->PyData.canLayAll0 ps=true
 | [],ps,e=>by simp only [dats,Option.some.injEq] at e; subst e; rfl
 | d :: r,ps,e=>by
  simp only [dats] at e;split at e
  ·next p e1 =>
   split at e
   ·next qs e2 =>
    simp only [Option.some.injEq] at e; subst e;simp only [PyData.canLayAll0,Bool.and_eq_true];exact ⟨yd0 d p e1,zg0 r qs e2⟩
   ·cases e
  ·cases e
end
theorem xe1 {d:D} {p:PyData} (e:datM μ d=some p):p.canLay0=true:=by
 cases d with
 | ref a =>
  simp only [datM] at e;split at e
  ·next l e0 =>
   split at e
   ·next ps e1=>simp only [Option.some.injEq] at e; subst e; simp only [PyData.canLay0]; exact zg0 l ps e1
   ·cases e
  ·cases e
 | non=>exact yd0 _ p e
 | bl b=>exact yd0 _ p e
 | int i=>exact yd0 _ p e
 | str x=>exact yd0 _ p e
 | ty n=>trivial
 | tup l=>exact yd0 _ p e
 | ktp l=>exact yd0 _ p e
 | fls l=>trivial
 | exc c=>trivial
theorem tc0 {d:D} {p:PyData} (e:datM μ d=some p) (h:p.depth<=64):PySem.SeqAt.shaped p=true:=by
 unfold PySem.SeqAt.shaped;rw [xe1 e,decide_eq_true h]; rfl
noncomputable def rEqD (K:Fg) (neg:Bool):R2:=λ x y H Q=>∃ d e μ p q,RelM K μ H /\ RelD K H d x /\ RelD K H e y /\ datM μ d=some p /\ datM μ e=some q /\ p.depth<=64 /\ q.depth<=64 /\ Q (.bl (if neg then !PyData.eqv p q else PyData.eqv p q)) H
theorem xo4 (hu:[32]):OpR X (compareOp .Eq) (rEqD X.K false):=by
 intro pins s σ H x y v u Q I rx ry h;obtain ⟨d,e,μ,p,q,m,rd,re,e1,e2,h1,h2,k⟩:=h;obtain ⟨as,q1⟩:=ue0 I m rd e1 rx;obtain ⟨bs,q2⟩:=ue0 I m re e2 ry;exact eq_dataH q1 q2 (tc0 e1 h1) (tc0 e2 h2) hu ⟨.bl _,H,I,rfl,k⟩
theorem vn4 (hu:[32]):OpR X (compareOp .NotEq) (rEqD X.K true):=by
 intro pins s σ H x y v u Q I rx ry h;obtain ⟨d,e,μ,p,q,m,rd,re,e1,e2,h1,h2,k⟩:=h;obtain ⟨as,q1⟩:=ue0 I m rd e1 rx;obtain ⟨bs,q2⟩:=ue0 I m re e2 ry;exact ne_dataH q1 q2 (tc0 e1 h1) (tc0 e2 h2) hu ⟨.bl _,H,I,rfl,k⟩
theorem tr4 {x y:D} {u:V} {c:Bool} (rx:RelD K H x v) (ry:RelD K H y u) (e:eqS x y=some c):scal v u=true /\ decide (v=u)=c:=by
 unfold eqS at e;split at e <;> first | (cases e; done) | (cases rx; cases ry; cases e; exact ⟨rfl,rfl⟩) | (cases rx; cases ry; cases e; refine ⟨rfl,?_⟩; simp)
theorem hu64 {k:Nat} (hr:Room k A):A.units + 64 < cLine:=by have:=hr.un; omega
noncomputable def rInD (K:Fg) (neg:Bool):R2:=λ x y H Q=>∃ d e μ p xs,∃ b:Bool,RelM K μ H /\ RelD K H d x /\ RelD K H e y /\ datM μ d=some p /\ datM μ e=some (if b then .list xs else .tuple xs) /\ p.depth<=64 /\ (if b then PyData.list xs else PyData.tuple xs).depth<=64 ∧
 Q (.bl (if neg then !(xs.any λ e=>PyData.eqv e p) else xs.any λ e=>PyData.eqv e p)) H
theorem yt1 (hu:X.A.units + 65 < cLine):OpR X (compareOp .NotIn) (rInD X.K true):=by
 intro pins s σ H x y v u Q I rx ry h;obtain ⟨d,e,μ,p,xs,b,m,rd,re,e1,e2,h1,h2,k⟩:=h;obtain ⟨as,q1⟩:=ue0 I m rd e1 rx;obtain ⟨bs,q2⟩:=ue0 I m re e2 ry;cases b
 ·exact PySem.SeqAt.notIn_tuple_reads q2 q1 (PySem.SeqAt.canLay_of_shaped (tc0 e2 h2)) (PySem.SeqAt.canLay_of_shaped (tc0 e1 h1)) (room_in_shaped (tc0 e1 h1) hu) ⟨.bl _,H,I,rfl,k⟩
 ·exact PySem.SeqAt.notIn_list_reads q2 q1 (PySem.SeqAt.canLay_of_shaped (tc0 e2 h2)) (PySem.SeqAt.canLay_of_shaped (tc0 e1 h1)) (room_in_shaped (tc0 e1 h1) hu) ⟨.bl _,H,I,rfl,k⟩
theorem hu65 {k:Nat} (hr:Room k A):A.units + 65 < cLine:=by have:=hr.un; omega
theorem sj5 {x y:D} {u:V} {Q3:VK3} (m:RelM K μ H) (rx:RelD K H x v) (ry:RelD K H y u) (h:inR neg x y μ Q3) (k:Ks K H Q3 Q):rInD K neg v u H Q:=by
 unfold inR at h;split at h
 ·next d xs e1 e2=>exact ⟨x,y,μ,d,xs,true,m,rx,ry,e1,e2,h.1.1,h.1.2,k _ _ _ _ h.2 (Kp.refl _) (.bl _) m⟩
 ·next d xs e1 e2=>exact ⟨x,y,μ,d,xs,false,m,rx,ry,e1,e2,h.1.1,h.1.2,k _ _ _ _ h.2 (Kp.refl _) (.bl _) m⟩
 ·exact h.elim
theorem RdO.inn:RdO K (rInD K neg) (inR neg):=λ x y v u H Q μ Q3 m rx ry h k=>sj5 m rx ry h k
theorem xc3 (hu:X.A.units + 65 < cLine):RO X (compareOp .NotIn) (inR true):=⟨_,yt1 hu,RdO.inn⟩
theorem q_eq (hu:[32]):RO X (compareOp .Eq) eqR:=by
 refine ⟨_,op_eq.or (xo4 hu),λ x y v u H Q μ Q3 m rx ry h k=>?_⟩;unfold eqR at h;cases e:eqS x y with
 | some c =>
  rw [e] at h;obtain ⟨h1,h2⟩:=tr4 rx ry e;refine .inl ⟨h1,?_⟩;rw [h2];exact k _ _ _ _ h (Kp.refl _) (.bl _) m
 | none =>
  rw [e] at h;dsimp only at h;cases e1:datM μ x with
  | none=>simp_all
  | some p =>
   cases e2:datM μ y with
   | none=>simp_all
   | some q =>
    rw [e1,e2] at h;exact .inr ⟨x,y,μ,p,q,m,rx,ry,e1,e2,h.1.1,h.1.2,k _ _ _ _ h.2 (Kp.refl _) (.bl _) m⟩
theorem q_ne (hu:[32]):RO X (compareOp .NotEq) neR:=by
 refine ⟨_,op_ne.or (vn4 hu),λ x y v u H Q μ Q3 m rx ry h k=>?_⟩;unfold neR at h;cases e:eqS x y with
 | some c =>
  rw [e] at h;obtain ⟨h1,h2⟩:=tr4 rx ry e;refine .inl ⟨h1,?_⟩;rw [h2];exact k _ _ _ _ h (Kp.refl _) (.bl _) m
 | none =>
  rw [e] at h;dsimp only at h;cases e1:datM μ x with
  | none=>simp_all
  | some p =>
   cases e2:datM μ y with
   | none=>simp_all
   | some q =>
    rw [e1,e2] at h;exact .inr ⟨x,y,μ,p,q,m,rx,ry,e1,e2,h.1.1,h.1.2,k _ _ _ _ h.2 (Kp.refl _) (.bl _) m⟩
variable {o e:Expr} {to:TE3} {t:TA3} {apos cpos:Pos}
theorem ue4 {name:Str} {id:String} {r:V->List V->Hp->VK->Prop} {r3:D->List D->Mu->VK3->Prop} (slot:Slot "list" name id) (hty:typeOf (.builtin id)=pure (.type "method_descriptor")) (hm:MtR X id r)
    (hrd:∀ p xs v vs H Q μ Q3,RelM X.K μ H->RelD X.K H (.ref p) v->RelDs X.K H xs vs->r3 (.ref p) xs μ Q3->Ks X.K H Q3 Q->r v vs H Q) (ho:RE X o to) (ha:RA X (e :: es) t)
    (hbase:attributeBase o name X.env (eval o X.env)=eval o X.env)
    (hfew:((backTo cpos (starEach (e :: es) X.env)).all (λ x=>!x.1) && (backToKw cpos (keywordEach [] X.env)).all (λ x=>x.1.isSome)
     && decide [24])=true)
    (hline:(apos.endLine == cpos.line)=true) (hs:starEach (e :: es) X.env=[37] :: starEach es X.env) (hplain:(backTo cpos (starEach es X.env)).any (·.1)=false) :
    RE X (.Call (.Attribute o name apos) (e :: es) [] cpos) (mt3 r3 to t):=by
 obtain ⟨va,pa,ra⟩:=ho;obtain ⟨vb,pb,rb⟩:=ha;refine ⟨_,ue3 PySem.F.plainAttrs_list slot hty hm pa pb hbase hfew hline hs hplain,λ σ H Q ρ μ Q3 s m h k=>ra σ H _ ρ μ _ s m h λ d μ1 v H1 h1 k1 r1 m1=>?_⟩;cases r1 with
 | ref p =>
  dsimp only at h1;cases e0:μ1 p with
  | none=>simp_all
  | some oo =>
   cases oo with
   | dck _=>simp_all
   | dcl _ _=>simp_all
   | lst l =>
    rw [e0] at h1;obtain ⟨vs,hv,rs⟩:=m1 p l e0;refine ⟨.inl ⟨rfl,vs,SqL.of hv⟩,rb σ H1 _ ρ μ1 _ (s.mono k1) m1 h1 λ xs μ2 ys H2 h2 k2 r2 m2=>?_⟩;exact hrd p xs _ ys H2 Q μ2 Q3 m2 (.ref p) r2 h2 (k.after (k1.trans k2))
 | _=>exact False.elim h1
theorem uq1 (ho:RE X o to) (ha:RA X (e :: es) t) (hbase:attributeBase o "append" X.env (eval o X.env)=eval o X.env:=by rfl)
    (hfew:((backTo cpos (starEach (e :: es) X.env)).all (λ x=>!x.1) && (backToKw cpos (keywordEach [] X.env)).all (λ x=>x.1.isSome)
     && decide [24])=true:=by rfl)
    (hline:(apos.endLine == cpos.line)=true:=by rfl) (hs:starEach (e :: es) X.env=[37] :: starEach es X.env:=by rfl) (hplain:(backTo cpos (starEach es X.env)).any (·.1)=false:=by rfl) :
    RE X (.Call (.Attribute o "append" apos) (e :: es) [] cpos) (mt3 appR to t):=by
 refine ue4 PySem.F.slot_list_append PySem.F.type_list_append sx0 (λ p xs v vs H Q μ Q3 m rp rx h k=>?_) ho ha hbase hfew hline hs hplain;cases rp;cases rx with
 | nil=>exact False.elim h
 | cons r1 r2 =>
  cases r2 with
  | cons _ _=>exact False.elim h
  | nil =>
   dsimp only [appR] at h;cases e0:μ p with
   | none=>simp_all
   | some oo =>
    cases oo with
    | dck _=>simp_all
    | dcl _ _=>simp_all
    | lst l =>
     rw [e0] at h;obtain ⟨vs,hv,rs⟩:=m p l e0;exact ⟨p,vs,_,rfl,rfl,hv,by rw [<- rs.length]; exact h.1,k _ _ _ _ h.2 (Kp.wr hv) .non (m.wr hv (rs.append (.cons r1 .nil)))⟩
theorem vq1 (ho:RE X o to) (ha:RA X (e :: es) t) (hbase:attributeBase o "extend" X.env (eval o X.env)=eval o X.env:=by rfl)
    (hfew:((backTo cpos (starEach (e :: es) X.env)).all (λ x=>!x.1) && (backToKw cpos (keywordEach [] X.env)).all (λ x=>x.1.isSome)
     && decide [24])=true:=by rfl)
    (hline:(apos.endLine == cpos.line)=true:=by rfl) (hs:starEach (e :: es) X.env=[37] :: starEach es X.env:=by rfl) (hplain:(backTo cpos (starEach es X.env)).any (·.1)=false:=by rfl) :
    RE X (.Call (.Attribute o "extend" apos) (e :: es) [] cpos) (mt3 extR to t):=by
 refine ue4 PySem.F.slot_list_extend PySem.F.type_list_extend ut1 (λ p xs v vs H Q μ Q3 m rp rx h k=>?_) ho ha hbase hfew hline hs hplain;cases rp;cases rx with
 | nil=>exact False.elim h
 | cons r1 r2 =>
  cases r2 with
  | cons _ _=>cases r1 <;> exact False.elim h
  | nil =>
   cases r1 with
   | ref q =>
    dsimp only [extR] at h;cases e0:μ p with
    | none=>simp_all
    | some oo =>
     cases oo with
     | dck _=>simp_all
     | dcl _ _=>simp_all
     | lst l =>
      cases e2:μ q with
      | none=>simp_all
      | some o2 =>
       cases o2 with
       | dck _=>simp_all
       | dcl _ _=>simp_all
       | lst l2 =>
        rw [e0,e2] at h;obtain ⟨vs,hv,rs⟩:=m p l e0;obtain ⟨us,hu,ru⟩:=m q l2 e2;exact ⟨p,q,vs,us,rfl,rfl,hv,hu,by rw [<- rs.length,<- ru.length]; exact h.1,k _ _ _ _ h.2 (Kp.wr hv) .non (m.wr hv (rs.append ru))⟩
   | _=>exact False.elim h
end
noncomputable abbrev ub0 (X:Cx) (NN:List Str) (scope:Scope) (cl:List (Str × Addr)) (C:Addr) (fp:List Addr) (s₀:Shared) (H₀:Hp) (pn:[21]):Cx :=
 { X with N:=NN,s₀:=s₀,H₀:=H₀,env:=compEnvC scope cl C X.env,outer:=X.stack,ex:=fp,fn:=λ _=>false,pn:=pn,xe:=λ _ _=>False }
structure CompSc (X:Cx) (NN:List Str) (scope:Scope) (cl:List (Str × Addr)) (js:List (Option Nat)):Prop where
 clos:closureFor scope X.env=pure cl
 cell:∀ y ∈ scope.names,y.2 ≠ .cell
 kind:scope.kind=.function
 names:∀ y ∈ scope.names,y.2=.local->scope.names.lookup y.1=some .local
 sub:∀ x c,cl.lookup x=some c->X.env.cells.lookup x=some c
 has:∀ x,((relabel scope X.env).names.lookup x=some .cell \/ (relabel scope X.env).names.lookup x=some .free)->∃ c,cl.lookup x=some c
 len:js.length=NN.length
 out:∀ (i j:Nat),js[i]?=some (some j)->∃ x,NN[i]?=some x /\ X.N[j]?=some x /\ Vis X.env.scope x /\ X.env.scope.names.lookup x ≠ some .local /\ ((relabel scope X.env).names.lookup x=some .cell \/ (relabel scope X.env).names.lookup x=some .free)
theorem te0 {α:Type} {x:Str} {k:α}:∀ {l:List (Str × α)},l.lookup x=some k->(x,k) ∈ l
 | [],h=>by simp at h
 | (n,k') :: r,h=>by
  rw [lookup_cons] at h;split at h
  ·simp_all
  ·exact mem_cons_of_mem _ (te0 h)
variable {NN:List Str} {scope:Scope}
theorem CompSc.closed (hf:∀ y ∈ scope.names,y.2 ≠ .free) (hc:∀ y ∈ scope.names,y.2 ≠ .cell) (hk:scope.kind=.function) (hn:∀ y ∈ scope.names,y.2=.local->scope.names.lookup y.1=some .local) :
    CompSc X NN scope [] (NN.map λ _=>none) where
 clos:=closureFor_none hf
 cell:=hc
 kind:=hk
 names:=hn
 sub:=λ x c h=>by simp at h
 has:=λ x h=>by
  exfalso
  have e:(relabel scope X.env).names=scope.names:=map_eq_self (l:=scope.names) (λ y hy=>by
   simp [*])
  rw [e] at h;rcases h with h | h
  ·exact hc _ (te0 h) rfl
  ·exact hf _ (te0 h) rfl
 len:=by simp
 out:=λ i j h=>by
  simp_all
noncomputable def tn0 (js:List [44]) (σ:L2.St):L2.St:=js.map λ j=>j.bind λ j=>(σ[j]?).bind id
noncomputable def PTs (X:Cx) (ifs:List Expr) (t:TT):Prop:=∀ (pins:[21]) (s:Shared) (σ:L2.St) (H:Hp) (Q:Bool->Hp->Prop),Inv X pins σ H s->t σ H Q ->
 wpAny [13] X.A (forIn ifs true λ c r=>if r=true then do let ok <- isTrue c X.env (eval c X.env); pure (ForInStep.yield ok) else pure (ForInStep.yield r)) (TP X pins σ Q) X.xe s
theorem sc3:PTs X [] (λ _ H Q=>Q true H):=λ _ _ _ H _ I h=>wpAny_tests_nil ⟨H,I,h⟩
theorem uc3 {t:TT} (h:PT X c t):PTs X [c] t:=λ pins s σ H Q I q=>wpAny_tests_one (h pins s σ H Q I q)
noncomputable def tn1 (js:List [44]) (wi:TI) (g:TG) (tc:TT) (te:TE):TE:=λ σ H Q=>wi σ H λ J H1=>∀ p,H1 p=none ->
 ∃ W:Nat->Nat->L2.St->Hp->Prop,(∃ m,W 0 m (tn0 js σ) (upd H1 p (.lst []))) /\ ∀ i m σ' H',W i m σ' H' ->
  ((J.stop i H' /\ Q (.ref p) H') \/ (J.go i H' /\ ∀ x H2,J.yld i H' x H2->g x σ' H2 λ σ3 H3=>tc σ3 H3 λ b H4 =>
   if b=true then te σ3 H4 λ y H5=>∃ ys,H5 p=some (.lst ys) /\ ys.length < sizeLine /\ ∃ m',m' < m /\ W (i + 1) m' σ3 (upd H5 p (.lst (ys ++ [y]))) else ∃ m',m' < m /\ W (i + 1) m' σ3 H4))
variable {js:List [44]} {fp:List Addr} {elt target:Expr} {ifs:List Expr} {wi:TI}
section
variable {cl:List (Str × Addr)} 
theorem uk3 {pn:[21]} (hc:X.calm=true) (S:CompSc X NN scope cl js) (I:[7]) (f:∀ b ∈ fp,FpOk X pins H b /\ b < s.heap.objs.size) :
    (ub0 X NN scope cl s.heap.objs.size fp s H pn).Ok where
 mod:=I.ok.mod
 kind:=S.kind
 glob:=I.ok.glob
 blt:=I.ok.blt
 above:=Nat.le_refl _
 inj:=λ x y c h1 h2=>I.ok.inj x y c (S.sub x c h1) (S.sub y c h2)
 has:=λ x h=>S.has x h
 cab:=λ x c h=>by cases h
 hd:=λ _=>I.ok.hd hc
 frames:=I.ok.frames
 stk:=.inl rfl
 exf:=λ b hb=>⟨Nat.ne_of_lt (f b hb).2,λ x c e=>(f b hb).1.2.2.2.2.1 x c (S.sub x c e)⟩
 bs:=I.bs
 bsz:=Nat.le_trans I.ok.bsz I.sz
 noex:=λ b o e hb=>by
  rcases (f b hb).1.2.2.2.1 with z | z
  ·exact I.ok.noex b o e z
  ·exact absurd (Nat.lt_of_lt_of_le (Heap.lt_size e) (Nat.le_trans I.ok.bsz z)) (Nat.lt_irrefl _)
 exfs:=λ b hb hfs=>by
  rcases List.mem_cons.mp (I.stkSub b hfs) with z | z
  ·exact (f b hb).1.2.1 z
  ·exact (f b hb).1.2.2.1 z
 funs:=I.stack
 frf:=I.stkFree
theorem vw1 {i:Nat} (h:(tn0 js σ)[i]?=some (some v)):∃ j,js[i]?=some (some j) /\ σ[j]?=some (some v):=by
 unfold tn0 at h;rw [getElem?_map] at h;cases q:js[i]? with
 | none=>simp_all
 | some o =>
  rw [q] at h;cases o with
  | none=>simp at h
  | some j =>
   refine ⟨j,rfl,?_⟩;simp only [Option.map_some,Option.bind_some,Option.some.injEq] at h;cases e:σ[j]? with
   | none=>simp_all
   | some w=>simp_all
theorem sz1 {h₁:Heap} {m:[40]} {tk:Nat} (hc:X.calm=true) (S:CompSc X NN scope cl js) (I:[7]) (f:∀ b ∈ fp,FpOk X pins H b /\ b < s.heap.objs.size)
    (hn:h₁.Ns s.heap.objs.size m) (k:∀ b u,s.heap.get? b=some u->h₁.get? b=some u):Inv (ub0 X NN scope cl s.heap.objs.size fp s H (X.pn ++ pins)) [] (tn0 js σ) H { s with heap:=h₁,toks:=tk } where
 ok:=uk3 hc S I f
 os:=rfl
 bare:=I.bare
 base:=Un.kept k
 loc:=by
  refine ⟨m,hn,λ i x v h1 h2 h3=>?_⟩;obtain ⟨j,e1,e2⟩:=vw1 h2;obtain ⟨y,q1,q2,q3,q4,q5⟩:=S.out i j e1;have q1':NN[i]?=some x:=h1;rw [q1] at q1'; cases q1';obtain ⟨mX,_,hl⟩:=I.loc;obtain ⟨u,r,l⟩:=hl j x v q2 e2 q3;refine ⟨u,r,.inr ⟨q5,?_⟩⟩;rcases l with ⟨z,_⟩ | ⟨_,c,hc',hcell⟩
  ·exact absurd z q4
  ·obtain ⟨c',hc2⟩:=S.has x q5;have e:=S.sub x c' hc2;rw [hc'] at e; cases e;obtain ⟨o,ho,hd⟩:=hcell;exact ⟨c,hc2,o,k _ _ ho,hd⟩
 cell:=λ x c e=>by
  obtain ⟨v,o,ho,hd⟩:=I.cell x c (S.sub x c e);exact ⟨v,o,k _ _ ho,hd⟩
 free:=I.hok.fresh [26]
 freeC:=λ x c e=>I.freeC x c (S.sub x c e)
 pin:=λ p hp=>by
  have hp':p ∈ X.pn ++ pins:=by simpa using hp
  obtain ⟨h1,h2,h3,h4,h5⟩:=I.pin p hp';refine ⟨k _ _ h1,h2,Nat.ne_of_lt (Heap.lt_size h1),λ z=>?_,h5⟩;rcases List.mem_cons.mp (I.stkSub _ z) with z | z
  ·exact h3 z
  ·exact h4 z
 hok:=I.hok.kept k
 len:=by show (tn0 js σ).length=NN.length; unfold tn0; rw [length_map]; exact S.len
theorem xa2 {pos:Pos} {g:TG} {tc:TT} {te:TE} (hc:X.calm=true) (S:CompSc X NN scope cl js) (hi:PI X target iter wi)
    (hg:∀ C fp s₀ H₀ pn,PG [11] target g) (ht:∀ C fp s₀ H₀ pn,PTs [11] ifs tc) (he:∀ C fp s₀ H₀ pn,PE [11] elt te)
    (hs:∀ x,foldedSetIterable iter X.env x=pure x) {use:Option (Value->Sem Unit)} {Q':[4]} (I:[7]) (h:tn1 js wi g tc te σ H Q)
    (hu:∀ (p0 C:Addr) (H':Hp) (s':Shared) (m':[40]),Inv X pins σ H' s'->s'.heap.Ns C m'->H' C=none->C ≠ X.env.locals->X.s₀.heap.objs.size<=C->(∀ x c,X.env.cells.lookup x=some c->c ≠ C)->(∀ p ∈ X.pn ++ pins,p.1 ≠ C)->Q (.ref p0) H' ->
     compPost [13] X.A X.xe use Q' (.ref p0) C (.ok .next) s') :
    wpAny [13] X.A (comprehension [17] scope X.env (firstIterPos [⟨target,iter,ifs,0⟩] pos) (newList []) (firstAsync [⟨target,iter,ifs,0⟩]) (firstIter [⟨target,iter,ifs,0⟩] X.env) use) Q' X.xe s:=by
 refine wpAny_comprehension_free (use:=use) rfl hs S.clos S.kind S.names (thn (hi pins s σ H _ I h) λ xv s1 h1=>thn h1 λ itv s2 h2=>?_);obtain ⟨it,fp,tn,J,H2,rfl,I2,T,st2,f2,hW⟩:=h2;refine wpAny_newObj_type (wpAny_newFunctionEnv S.cell [10] (λ h₁ hns₁ hsb₁=>?_) S.kind);dsimp only at hns₁ hsb₁ ⊢;have hD:H2 s2.heap.objs.size=none:=I2.hok.fresh [26]
 have I3:Inv X pins σ (upd H2 s2.heap.objs.size (.lst [])) { s2 with heap:=s2.heap.push { cls:=.type "list",dict:=none,data:=.seq ([]:List Value).toArray } } :=
  I2.lnew (t':=s2.toks) (its:=[]) .nil (by trivial)
 generalize hsD:({ s2 with heap:=s2.heap.push { cls:=.type "list",dict:=none,data:=.seq ([]:List Value).toArray } }:Shared)=sD at I3;have eh:sD.heap=s2.heap.push { cls:=.type "list",dict:=none,data:=.seq ([]:List Value).toArray }:=by rw [<- hsD]
 have es:∀ (h:Heap) (tk:Nat),({ s2 with heap:=h,toks:=tk }:Shared)={ sD with heap:=h,toks:=tk }:=λ h tk=>by rw [<- hsD]
 have hsz:s2.heap.objs.size < sD.heap.objs.size:=by simp_all
 rw [<- eh] at hns₁ hsb₁ ⊢;generalize hp0:s2.heap.objs.size=p0 at *;have up:∀ b u,s2.heap.get? b=some u->sD.heap.get? b=some u:=λ b u e=>by rw [eh]; exact Heap.get?_push_of_some _ e
 have k:∀ b u,sD.heap.get? b=some u->h₁.get? b=some u:=λ b u e=>hsb₁.extBut b u (Nat.ne_of_lt (Heap.lt_size e)) (Heap.get?_push_of_some _ e)
 have f3:∀ b ∈ fp,FpOk X pins (upd H2 p0 (.lst [])) b /\ b < sD.heap.objs.size:=λ b hb=>by
  obtain ⟨o,ho,_⟩:=T.obj 0 _ st2 b hb;have hlt:b < p0:=by rw [<- hp0]; exact Heap.lt_size ho
  refine ⟨⟨?_,(f2 b hb).2⟩,Nat.lt_trans hlt hsz⟩;rw [sb0 (Nat.ne_of_lt hlt)]; exact (f2 b hb).1
 obtain ⟨W,⟨m0,w0⟩,turn⟩:=hW p0 hD;have I4:=sz1 (tk:=s2.toks + ([]:List (Str × Value)).length) hc S I3 f3 hns₁ k;have st4:tn 0 h₁:=T.keep 0 _ _ st2 λ b _ o e=>k b o (up b o e);rw [es];generalize hX':ub0 X NN scope cl sD.heap.objs.size fp sD (upd H2 p0 (.lst [])) (X.pn ++ pins)=X' at I4;have a1:X'.env=compEnvC scope cl sD.heap.objs.size X.env:=by rw [<- hX']
 have a2:X'.prog=X.prog:=by rw [<- hX']
 have a3:X'.w=X.w:=by rw [<- hX']
 have a4:X'.A=X.A:=by rw [<- hX']
 have a5:X'.K=X.K:=by rw [<- hX']
 have a6:X'.calm=true:=by rw [<- hX']; exact hc
 have a7:X'.xe=λ _ _=>False:=by rw [<- hX']
 have a8:X'.ex=fp:=by rw [<- hX']
 have T':Turn X'.prog X'.w X'.K target J fp it tn:=by simp_all
 have hg':PG X' target g:=by rw [<- hX']; exact hg _ _ _ _ _
 have ht':PTs X' ifs tc:=by rw [<- hX']; exact ht _ _ _ _ _
 have he':PE X' elt te:=by rw [<- hX']; exact he _ _ _ _ _
 have fin:∀ {σ':L2.St} {H':Hp} {s':Shared},Inv X' [] σ' H' s'->Q (.ref p0) H'->compPost [13] X.A X.xe use Q' (.ref p0) sD.heap.objs.size (.ok .next) s':=λ {σ' H' s'} I' q=>by
  obtain ⟨m',hn',_⟩:=I'.loc;rw [a1] at hn'
  have u:Un (frs X.stack) fp (upd H2 p0 (.lst [])) H' sD.heap s'.heap:=by
   have:=I'.base;rw [<- hX'] at this;exact this
  have hch:∀ b ∈ fp,(b ∈ X.ex \/ X.s₀.heap.objs.size<=b) /\ b ≠ X.env.locals /\ (∀ x c,X.env.cells.lookup x=some c->c ≠ b) /\ ∀ p ∈ X.pn ++ pins,p.1 ≠ b:=λ b hb=>by
   obtain ⟨_,z1,_,z3,z4,z5⟩:=(f3 b hb).1;trivial
  have os':s'.os=sD.os:=by
   have:=I'.os;rw [<- hX'] at this;exact this
  have hok':HOk X.prog X.w H' s'.heap:=by
   have:=I'.hok
   simp_all
  have I5:Inv X pins σ H' s':=I3.call' os' u hok' I'.bare hch
  have hC:H' sD.heap.objs.size=none:=by
   have:=I'.free;rw [a1] at this;exact this
  refine hu p0 _ H' s' m' I5 hn' hC (Nat.ne_of_gt I3.lt) I3.sz (λ x c e=>?_) (λ p hp=>?_) q
  ·obtain ⟨v,o,ho,_⟩:=I3.cell x c e;exact Nat.ne_of_lt (Heap.lt_size ho)
  ·exact Nat.ne_of_lt (Heap.lt_size (I3.pin p hp).1)
 have fp4:∀ {H':Hp},(∀ b ∈ fp,H' b=none)->∀ b ∈ fp,FpOk X' [] H' b:=λ hn b hb=>by
  obtain ⟨_,z1,z2,z3,z4,z5⟩:=(f3 b hb).1;rw [<- hX'];refine ⟨hn b hb,Nat.ne_of_lt (f3 b hb).2,λ z=>?_,.inl hb,λ x c e=>z4 x c (S.sub x c e),λ p hp=>z5 p (by simpa using hp)⟩;rcases List.mem_cons.mp (I3.stkSub _ z) with z | z
  ·exact z1 z
  ·exact z2 z
 have loop:∀ s₃:Shared,Inv X' [] (tn0 js σ) (upd H2 p0 (.lst [])) s₃->tn 0 s₃.heap ->
     codeAny [13] X.A (.compLoop [17] 0 (.ref it) (.ref p0) (compEnvC scope cl sD.heap.objs.size X.env)) (compPost [13] X.A X.xe use Q' (.ref p0) sD.heap.objs.size) s₃:=by
  intro s₃ I₃ st₃;refine codeAny_loop rfl (λ n s'=>∃ i σ' H',Inv X' [] σ' H' s' /\ tn i s'.heap /\ (∀ b ∈ fp,H' b=none) /\ W i n σ' H') (λ n s' hI=>?_) m0 ⟨0,tn0 js σ,_,I₃,st₃,λ b hb=>(f3 b hb).1.1,w0⟩;obtain ⟨i,σ3,H3,J3,st3,fr3,w3⟩:=hI;have tr:=turn i n σ3 H3 w3;show wpAny _ X.A ((compTurn [17] 0 (.ref it) (.ref p0) (compEnvC scope cl sD.heap.objs.size X.env)).onRaise (λ x=>do noteFrame x (compEnvC scope cl sD.heap.objs.size X.env); theTreesLotGoes x)) _ _ s';refine wpAny_noted ?_;rw [compTurn_list,<- a1,<- a2,<- a3,<- a4];have nof:∀ {α:Type} {t:Sem α} {Q':α->Shared->Prop} {s'':Shared} {E:[4]},wpAny (model X'.prog X'.w) X'.A t Q' X'.xe s''->wpAny (model X'.prog X'.w) X'.A t Q' E s'':=λ h=>wpAny_mono h (λ _ _ q=>q) λ _ _ z=>by simp_all
  rcases tr with ⟨stop,qn⟩ | ⟨go,step⟩
  ·refine wpAny_bind (wpAny_standAt (wpAny_bind (nof (thn (T'.done X' rfl rfl rfl a6 i [] s' σ3 H3 X'.xe J3 (fp4 fr3) st3 stop) λ r s4 ⟨hr,J4⟩=>?_))));subst hr;refine wpAny_pure ?_;show compPost (model X'.prog X'.w) X'.A X.xe use Q' (.ref p0) sD.heap.objs.size (.ok .next) s4;rw [a2,a3,a4];exact fin J4 qn
  ·refine wpAny_bind (wpAny_standAt (wpAny_bind (nof (thn (T'.item X' rfl rfl rfl a6 i [] s' σ3 H3 X'.xe J3 (fp4 fr3) st3 go) λ r s4 ⟨u,hr,h4⟩=>?_))));subst hr;refine wpAny_bind (nof (thn h4 λ _ s5 ⟨x,H5,I5,r5,y5,st5,fr5⟩=>?_));have I5':=I5.pinned (fp4 fr5) (T.obj _ _ st5);refine wpAny_bind (nof (thn (hg' _ s5 σ3 H5 x u _ I5' r5 (step x H5 y5)) λ _ s6 ⟨σ6,H6,I6,q6⟩=>?_));refine wpAny_bind (nof (thn (ht' _ s6 σ6 H6 _ I6 q6) λ ok s7 ⟨H7,I7,q7⟩=>?_))
   have again:∀ {s8:Shared} {σ8:L2.St} {H8:Hp},Inv X' ([] ++ vx0 fp s5.heap) σ8 H8 s8->(∃ m',m' < n /\ W (i + 1) m' σ8 H8)->∃ m,m < n /\ ∃ i σ' H',Inv X' [] σ' H' s8 /\ tn i s8.heap /\ (∀ b ∈ fp,H' b=none) /\ W i m σ' H':=λ {s8 σ8 H8} I8 ⟨m',hm,w8⟩=>by
    refine ⟨m',hm,i + 1,σ8,H8,I8.unpinned,T.keep _ _ _ st5 λ b hb o e=>(I8.pin (b,o) (mem_append_right _ (mem_append_right _ (yh0 hb e)))).1,λ b hb=>?_,w8⟩;obtain ⟨o,e,d⟩:=T.obj _ _ st5 b hb;exact (I8.pin (b,o) (mem_append_right _ (mem_append_right _ (yh0 hb e)))).2.1
   cases ok with
   | false=>exact wpAny_pure ⟨rfl,again I7 q7⟩
   | true =>
    refine wpAny_bind (wpAny_bind (nof (thn (he' _ s7 σ6 H7 _ I7 q7) λ xv s8 ⟨y,H8,I8,r8,ys,q8,hlen,q9⟩=>wpAny_bind (nof ?_))));refine thn (sx0 (X:=X') _ s8 σ6 H8 (.ref p0) [y] (.ref p0) [xv] (λ v H9=>v=.non /\ H9=upd H8 p0 (.lst (ys ++ [y]))) I8 rfl (.cons r8 .nil) ⟨p0,ys,y,rfl,rfl,q8,hlen,rfl,rfl⟩) λ rv s9 ⟨v9,H9,I9,_,_,e9⟩=>?_;subst e9;exact wpAny_pure (wpAny_pure ⟨rfl,again I9 q9⟩)
 exact codeAny_compStart_list (loop _ I4 st4) (T.self X.A 0 _ _ _ st4 (loop _ I4 st4))
theorem ze3 {pos:Pos} {g:TG} {tc:TT} {te:TE} (hc:X.calm=true) (S:CompSc X NN scope cl js) (hi:PI X target iter wi)
    (hg:∀ C fp s₀ H₀ pn,PG [11] target g) (ht:∀ C fp s₀ H₀ pn,PTs [11] ifs tc) (he:∀ C fp s₀ H₀ pn,PE [11] elt te)
    (hs:∀ x,foldedSetIterable iter X.env x=pure x):PE X [17] (tn1 js wi g tc te):=by
 intro pins s σ H Q I h;rw [eval_ListComp];refine xa2 (use:=none) (Q':=EP X pins σ Q) hc S hi hg ht he hs I h λ p0 C H' s' m' I5 hn hC n1 n2 n3 n4 q=>⟨m',hn,λ h' sb=>?_⟩;exact ⟨.ref p0,H',I5.turned (t':=s'.toks) (it:=C) (λ b o hb e=>sb.extBut b o hb e) hC n1 (.inr n2) n3 n4,rfl,q⟩
end
theorem zu4:bootBuiltins "len" = some (.builtin "len"):=by decide +kernel
theorem vu4:bootBuiltins "abs" = some (.builtin "abs"):=by decide +kernel
theorem tt4:bootBuiltins "sum" = some (.builtin "sum"):=by decide +kernel
theorem yp2:bootBuiltins "tuple" = some (.type "tuple"):=by decide +kernel
theorem wl3:bootBuiltins "dict" = some (.type "dict"):=by decide +kernel
theorem xu4:bootBuiltins "set" = some (.type "set"):=by decide +kernel
theorem wu4:bootBuiltins "all" = some (.builtin "all"):=by decide +kernel
theorem sv2:bootBuiltins "min" = some (.builtin "min"):=by decide +kernel
theorem yu4:bootBuiltins "max" = some (.builtin "max"):=by decide +kernel
theorem uj0:bootBuiltins "sorted" = some (.builtin "sorted"):=by decide +kernel
noncomputable def RTs (X:Cx) (ifs:List Expr) (t:TT3):Prop:=∃ tv,PTs X ifs tv /\ RdT X.K tv t
theorem za3:RTs X [] tt3:=⟨_,sc3,λ σ H Q ρ μ Q3 s m h k=>k _ _ _ h (Kp.refl _) m⟩
theorem ya3 {t:TT3} (h:RT X c t):RTs X [c] t:=let ⟨tv,p,r⟩:=h; ⟨tv,uc3 p,r⟩
theorem um2 {ρ:St3} (s:RSt K H ρ σ) (js:List [44]):RSt K H (js.map λ j=>j.bind (getI ρ)) (tn0 js σ):=by
 refine ⟨by simp [tn0],λ i d e=>?_⟩;rw [yd1,getElem?_map] at e;unfold tn0;rw [getElem?_map];cases q:js[i]? with
 | none=>simp_all
 | some o =>
  rw [q] at e;cases o with
  | none=>simp at e
  | some j =>
   have e':getI ρ j=some d:=by simpa using e
   obtain ⟨v,h1,h2⟩:=s.at' j d e'
   simp_all
theorem RdE.comp {g:TG} {tc:TT} {te:TE} {g3:TG3} {tc3:TT3} {te3:TE3} (ri:RdI K wi ti) (rg:RdG K g g3) (rt:RdT K tc tc3) (re:RdE K te te3):RdE K (tn1 js wi g tc te) (zc0 js ti g3 tc3 te3):=by
 intro σ H Q ρ μ Q3 s m h k;refine ri σ H _ ρ μ _ s m h λ l S μ1 J H1 h1 k1 m1 ok p hp=>?_;obtain ⟨W,w0,hS,hn,hs⟩:=h1 p (m1.free hp);have kn:Kp H1 (upd H1 p (.lst [])):=Kp.new hp;refine ⟨λ i n σ2 H2=>n=l.length - i /\ i<=l.length /\ ∃ ρ2 μ2 ys,RSt K H2 ρ2 σ2 /\ RelM K μ2 H2 /\ Kp H1 H2 /\ W (l.drop i) ys ρ2 μ2,⟨l.length,rfl,Nat.zero_le _,_,_,[],(um2 (s.mono k1) js).mono kn,m1.newL hp .nil,kn,w0⟩,?_⟩;rintro i n σ2 H2 ⟨rfl,hi,ρ2,μ2,ys,s2,m2,k2,w2⟩;obtain ⟨hS2,hp2⟩:=hS _ _ _ _ w2;by_cases hlt:i < l.length
 ·rw [List.drop_eq_getElem_cons hlt] at w2;obtain ⟨hz,h2⟩:=hs _ _ _ _ _ w2;obtain ⟨ok1,_⟩:=ok i H2 μ2 k2 m2 hS2;obtain ⟨go,yl⟩:=ok1 l[i] (getElem?_eq_getElem hlt);refine .inr ⟨go,λ x H3 y=>?_⟩;obtain ⟨k3,m3,r3⟩:=yl x H3 y;refine rg x l[i] σ2 H3 _ ρ2 μ2 _ (s2.mono k3) m3 r3 h2 λ ρ4 μ4 σ4 H4 h4 k4 s4 m4=>?_;refine rt σ4 H4 _ ρ4 μ4 _ s4 m4 h4 λ b μ5 H5 h5 k5 m5=>?_;have k15:Kp H1 H5:=k2.trans (k3.trans (k4.trans k5));cases b with
  | false=>exact ⟨l.length - (i + 1),by omega,rfl,hlt,ρ4,μ5,ys,s4.mono k5,m5,k15,h5⟩
  | true =>
   refine re σ4 H5 _ ρ4 μ5 _ (s4.mono k5) m5 h5 λ d μ6 v H6 h6 k6 r6 m6=>?_;obtain ⟨vs,hv,rv⟩:=m6 p ys h6.1;refine ⟨vs,hv,by rw [<- rv.length]; exact hz,l.length - (i + 1),by omega,rfl,hlt,ρ4,_,_,((s4.mono k5).mono k6).mono (Kp.wr hv),m6.wr hv (rv.append (.cons r6 .nil)),(k15.trans k6).trans (Kp.wr hv),h6.2⟩
 ·have e:i=l.length:=by omega
  subst e;rw [List.drop_length] at w2;exact .inl ⟨(ok _ H2 μ2 k2 m2 hS2).2 [26],k _ _ _ _ (hn _ _ _ w2) (k1.trans k2) (.ref p) m2⟩
section
variable {pos:Pos} {g:TG3} {tc:TT3} {te:TE3} {cl:List (Str × Addr)} 
theorem wf0 (hc:X.calm=true) (S:CompSc X NN scope cl js) (hi:RI X target iter ti) (hg:∀ C fp s₀ H₀ pn,RG [11] target g)
    (ht:∀ C fp s₀ H₀ pn,RTs [11] ifs tc) (he:∀ C fp s₀ H₀ pn,RE [11] elt te)
    (hs:∀ x,foldedSetIterable iter X.env x=pure x):RE X [17] (zc0 js ti g tc te):=by
 obtain ⟨wi,pi,ri⟩:=hi
 let gU:TG:=λ v σ H Q=>∀ (r:TG3),r=g->∃ d ρ μ Q3,RSt X.K H ρ σ /\ RelM X.K μ H /\ RelD X.K H d v /\ g d ρ μ Q3 /\ (∀ ρ' μ' σ' H',Q3 ρ' μ'->Kp H H'->RSt X.K H' ρ' σ'->RelM X.K μ' H'->Q σ' H')
 let tU:TT:=λ σ H Q=>∃ ρ μ Q3,RSt X.K H ρ σ /\ RelM X.K μ H /\ tc ρ μ Q3 /\ (∀ b μ' H',Q3 b μ'->Kp H H'->RelM X.K μ' H'->Q b H')
 let eU:TE:=λ σ H Q=>∃ ρ μ Q3,RSt X.K H ρ σ /\ RelM X.K μ H /\ te ρ μ Q3 /\ Ks X.K H Q3 Q
 have hg':∀ C fp s₀ H₀ pn,PG [11] target gU:=λ C fp s₀ H₀ pn=>by
  obtain ⟨tv,p,r⟩:=hg C fp s₀ H₀ pn;intro pins s σ H v u Q I rv h;obtain ⟨d,ρ,μ,Q3,a1,a2,a3,a4,a5⟩:=h g rfl;exact p pins s σ H v u Q I rv (r v d σ H Q ρ μ Q3 a1 a2 a3 a4 a5)
 have ht':∀ C fp s₀ H₀ pn,PTs [11] ifs tU:=λ C fp s₀ H₀ pn=>by
  obtain ⟨tv,p,r⟩:=ht C fp s₀ H₀ pn;intro pins s σ H Q I h;obtain ⟨ρ,μ,Q3,a1,a2,a3,a4⟩:=h;exact p pins s σ H Q I (r σ H Q ρ μ Q3 a1 a2 a3 a4)
 have he':∀ C fp s₀ H₀ pn,PE [11] elt eU:=λ C fp s₀ H₀ pn=>by
  obtain ⟨tv,p,r⟩:=he C fp s₀ H₀ pn;intro pins s σ H Q I h;obtain ⟨ρ,μ,Q3,a1,a2,a3,a4⟩:=h;exact p pins s σ H Q I (r σ H Q ρ μ Q3 a1 a2 a3 a4)
 exact ⟨_,ze3 hc S pi hg' ht' he' hs,RdE.comp ri (λ v d σ H Q ρ μ Q3 a1 a2 a3 a4 a5 _ _=>⟨d,ρ,μ,Q3,a1,a2,a3,a4,a5⟩) (λ σ H Q ρ μ Q3 a1 a2 a3 a4=>⟨ρ,μ,Q3,a1,a2,a3,a4⟩) (λ σ H Q ρ μ Q3 a1 a2 a3 a4=>⟨ρ,μ,Q3,a1,a2,a3,a4⟩)⟩
theorem yn0 (hf:∀ y ∈ scope.names,y.2 ≠ .free) (hcl:∀ y ∈ scope.names,y.2 ≠ .cell) (hn:∀ y ∈ scope.names,y.2=.local->scope.names.lookup y.1=some .local) (hi:RI X target iter ti) (hg:∀ C fp s₀ H₀ pn,RG (ub0 X NN scope [] C fp s₀ H₀ pn) target g)
    (ht:∀ C fp s₀ H₀ pn,RTs (ub0 X NN scope [] C fp s₀ H₀ pn) ifs tc) (he:∀ C fp s₀ H₀ pn,RE (ub0 X NN scope [] C fp s₀ H₀ pn) elt te) (hc:X.calm=true:=by rfl) (hk:scope.kind=.function:=by rfl)
    (hs:∀ x,foldedSetIterable iter X.env x=pure x:=by intro _; rfl):RE X [17] (zc0 (NN.map λ _=>none) ti g tc te) :=
 wf0 hc (CompSc.closed hf hcl hk hn) hi hg ht he hs
end
mutual
inductive TupK (K:Fg):List D->Addr->Prop where
 | mk {a:Addr} {l:List D} {its:Array Value} {n:Nat} {od:Option Addr} {sl:Array (Option Value)}:K.lookup a=some ⟨.type "tuple",od,.seq its n,sl⟩->its.size<=sizeLine->ItK K l its.toList->TupK K l a
inductive ItK (K:Fg):List D->List Value->Prop where
 | nil:ItK K [] []
 | int {i:Int} {t:Tok} {l:List D} {us:List Value}:ItK K l us->ItK K (.int i :: l) (.int i t :: us)
 | str {x:Str} {t:Tok} {l:List D} {us:List Value}:ItK K l us->ItK K (.str x :: l) (.str x t :: us)
 | bl {b:Bool} {l:List D} {us:List Value}:ItK K l us->ItK K (.bl b :: l) (.bool b :: us)
 | tup {a:Addr} {l' l:List D} {us:List Value}:TupK K l' a->ItK K l us->ItK K (.ktp l' :: l) (.ref a :: us)
end
mutual
theorem TupK.rel {K:Fg}:∀ {l:List D} {a:Addr},TupK K l a->∀ H,RelD K H (.ktp l) (.ref a)
 | _,_,.mk h1 h2 h3,H=>by
  obtain ⟨vs,r,rd⟩:=h3.rel;exact .ktp (.inr ⟨_,_,_,h1,rfl,rfl,h2,r⟩) (rd H)
theorem ItK.rel {K:Fg}:∀ {l:List D} {us:[29]},ItK K l us->∃ vs,Vals vs us /\ ∀ H,RelDs K H l vs
 | _,_,.nil=>⟨[],.nil,λ _=>.nil⟩
 | _,_,.int h=>let ⟨vs,r,rd⟩:=h.rel; ⟨_,.cons (show RelV (.int _) _ from ⟨_,rfl⟩) r,λ H=>.cons (.int _) (rd H)⟩
 | _,_,.str h=>let ⟨vs,r,rd⟩:=h.rel; ⟨_,.cons (show RelV (.str _) _ from ⟨_,rfl⟩) r,λ H=>.cons (.str _) (rd H)⟩
 | _,_,.bl h=>let ⟨vs,r,rd⟩:=h.rel; ⟨_,.cons (show RelV (.bl _) _ from rfl) r,λ H=>.cons (.bl _) (rd H)⟩
 | _,_,.tup h0 h=>let ⟨vs,r,rd⟩:=h.rel; ⟨_,.cons (show RelV (.ref _) _ from rfl) r,λ H=>.cons (h0.rel H) (rd H)⟩
end
section
variable {h:Heap} 
theorem wr4 {t:Tok} (X:K.In h) (G:h.Ns mainGlobals mg) (e:nsIn K mainGlobals x=some (some (.int i t))):Gd K mg x (.int i):=⟨_,.int i,mg_of X G e,⟨_,rfl⟩,λ _=>.int i⟩
theorem wu2 {a:Addr} {l:List D} (X:K.In h) (G:h.Ns mainGlobals mg) (e:nsIn K mainGlobals x=some (some (.ref a))) (r:TupK K l a):Gd K mg x (.ktp l):=⟨_,.ref a,mg_of X G e,rfl,λ H=>r.rel H⟩
end
theorem sy0 {K:Fg} {H:Hp}:∀ ns:List Int,RelDs K H (ns.map D.int) (ns.map V.int)
 | []=>.nil
 | n :: r=>.cons (.int n) (sy0 r)
theorem ul2 {a:Addr} {ns:List Int} (hO:Only H) (hS:SqL K H a (ns.map V.int)) (h:sp [.fls (ns.map D.int)] (λ _=>none) (λ d _=>d=.bl true)) :
    lift K sp [.ref a] H (λ v _=>v=.bl true) λ _ _ _=>False:=by
 have hF:SqF K H a (ns.map V.int):=by
  rcases hS with (h1 | ⟨o,h1⟩) | h1
  ·rcases hO a with z | ⟨o,xs,z⟩
   ·simp_all
   simp_all
  ·exact .inl ⟨o,h1⟩
  ·exact .inr h1
 refine ⟨_,_,_,.cons (.fls hF (sy0 ns)) .nil,⟨λ p o e=>(by cases e)⟩,h,λ d μ' v H' q _ r _=>?_⟩;subst q;cases r;rfl
open PySem.AutoSeq1 (wpAny_loadPart')
section
theorem tg5:RO X (binaryOp .Mult) mulR:=⟨_,zf3,RdO.i2 λ _ _ _=>.int _⟩
theorem ta2 {K:Fg} {H:Hp}:∀ {l:List D} {vs:List V} {bs:List Bool},RelDs K H l vs->bls? l=some bs->vs=bs.map V.bl
 | _,_,bs,.nil,e=>by simp [bls?] at e; subst e; rfl
 | _,_,bs,.cons h r,e=>by
  cases h with
  | bl x =>
   simp only [bls?] at e;split at e
   ·next ys e1 =>
    simp only [Option.some.injEq] at e;subst e;rw [ta2 r e1]; rfl
   ·cases e
  | _=>simp [bls?] at e
theorem ze1:∀ {bs:List Bool} {us:[29]},Vals (bs.map V.bl) us->us=bs.map Value.bool
 | [],_,r=>by cases r; rfl
 | b :: bs,_,r=>by
  cases r with
  | cons r1 r2=>cases r1; rw [ze1 r2]; rfl
theorem vn1 (prog:Program) (w:World) (A:Around) (bs:List Bool):TruthOf prog w A (λ i v=>(bs.map Value.bool).toArray[i]?=some v) (λ i=>bs.getD i false):=by
 intro i v s Q E hP hQ;have hP':(bs.map Value.bool)[i]?=some v:=by simpa using hP
 rw [getElem?_map] at hP';cases e:bs[i]? with
 | none=>simp_all
 | some b =>
  rw [e] at hP';simp only [Option.map_some,Option.some.injEq] at hP';subst hP';refine wpAny_truthy_bool ?_
  simp_all
theorem xr1 (bs:List Bool):(List.range bs.length).all (λ i=>bs.getD i false)=bs.all id:=by
 rw [Bool.eq_iff_iff,List.all_eq_true,List.all_eq_true];constructor
 ·intro h x hx;obtain ⟨i,hi,rfl⟩:=List.mem_iff_getElem.mp hx
  simp_all
 ·intro h i hi;have hi':=List.mem_range.mp hi;rw [getD_eq_getElem?_getD,getElem?_eq_getElem hi'];exact h _ (getElem_mem hi')
theorem ua2 (hc:X.calm=true):CallR X (.builtin "all") (λ xs H Q=>∃ (p:Addr) (bs:List Bool),xs=[.ref p] /\ SqL X.K H p (bs.map V.bl) /\ Q (.bl (bs.all id)) H):=by
 intro pins s σ H xs us Q I r h;obtain ⟨p,bs,rfl,hq,q⟩:=h;obtain ⟨u,rfl,rx⟩:=vv0 r;cases rx;obtain ⟨its,r',pl,hz⟩:=I.list hq;have eu:=ze1 r';subst eu;refine call_all_walk (wpAny_pyIter_list pl.isList ?_);have hlt:p < s.heap.objs.size:=by obtain ⟨o,ho,_⟩:=pl.isList; exact Heap.lt_size ho
 refine ⟨_,_,_,_,_,_,_,rfl,Walks.list (A:=X.A.in1) (I.ok.hd hc) _ p (Nat.ne_of_lt hlt) _,⟨[43],pl.isList.at λ o e=>Heap.get?_push_of_some _ e⟩,vn1 _ _ _ bs,λ h' tk hk=>?_⟩;have e:(bs.map Value.bool).toArray.size=bs.length:=by simp
 rw [e,xr1];refine ⟨.bl _,H,I.kept (t':=tk) λ b o eb=>hk b o ?_ (Heap.get?_push_of_some _ eb),rfl,q⟩;intro z;rw [mem_singleton] at z;rw [z] at eb;exact absurd (Heap.lt_size eb) (Nat.lt_irrefl _)
theorem RdC.bools {f:List Bool->Bool} {r3:C3} (hr:∀ ds μ Q3,r3 ds μ Q3->∃ p l bs,ds=[.ref p] /\ μ p=some (.lst l) /\ bls? l=some bs /\ Q3 (.bl (f bs)) μ) :
    RdC K (λ xs H Q=>∃ (p:Addr) (bs:List Bool),xs=[.ref p] /\ SqL K H p (bs.map V.bl) /\ Q (.bl (f bs)) H) r3:=λ xs vs H Q μ Q3 m r h k=>by
 obtain ⟨p,l,bs,rfl,e,e1,q⟩:=hr _ _ _ h;cases r with
 | cons r1 r2 =>
  cases r2;cases r1;obtain ⟨us,hv,rs⟩:=m p l e;have ev:=ta2 rs e1;subst ev;exact ⟨p,bs,rfl,SqL.of hv,k _ _ _ _ q (Kp.refl _) (.bl _) m⟩
theorem vh5 (hc:X.calm=true:=by rfl):RC X (.builtin "all") allR:=by
 refine ⟨_,ua2 hc,RdC.bools λ ds μ Q3 h=>?_⟩;unfold allR at h;split at h
 ·split at h
  ·next p _ l e =>
   split at h
   ·simp_all
   ·exact h.elim
  ·exact h.elim
 ·exact h.elim
end
open PySem.AutoSeq1 (wpAny_loadPart')
theorem yh3 (p q:Addr) (a b c d:Int) (t1 t2 t3 t4:Tok) (n m:Nat) (dd dd2:Option Addr) (sl sl2:Array (Option Value)) :
    Meets (Builtin.«tuple.__lt__» ⟨[.ref p,.ref q],[]⟩) (λ A R s=>s.heap.get? p=some { cls:=.type "tuple",dict:=dd,data:=.seq #[.int a t1,.int b t2] n,slots:=sl } /\ s.heap.get? q=some { cls:=.type "tuple",dict:=dd2,data:=.seq #[.int c t3,.int d t4] m,slots:=sl2 } ∧
     R (.ok (.ret (.bool (ltP a b c d)))) s) :=
 .of_wp λ prog w A R s h=>by
  obtain ⟨hp,g,dr,tk,os⟩:=s; obtain ⟨hl,hb,h⟩:=h;have f2:=AutoSeq1.sub_tuple_tuple;have lt:∀ (x y:Int) (tx ty:Tok) {Q:[4]} {E:[4]} {A:Around} {s:Shared},Q (.bool (decide (x < y))) s->wpAny [3] A (richCompare .Lt (.int x tx) (.int y ty)) Q E s:=λ x y tx ty Q E A s hq=>wpAny_lt_int hq;have eqb:∀ (x y:Int) (tx ty:Tok) {Q:Bool->Shared->Prop} {E:[4]} {A:Around} {s:Shared},Q (x == y) s->wpAny [3] A (eqBool (.int x tx) (.int y ty)) Q E s:=λ x y tx ty Q E A s hq=>wpAny_eqBool_int hq
  wp_walk using wpAny_loadPart' hl,wpAny_loadPart' hb,eqb a c t1 t3
  by_cases h1:a=c
  ·rw [show (a == c)=true by simpa using h1]
   wp_walk using eqb b d t2 t4
   by_cases h2:b=d
   ·rw [show (b == d)=true by simpa using h2]
    wp_walk
    have h':R (.ok (.ret (.bool false))) ⟨hp,g,dr,tk,os⟩:=by simpa [ltP,h1,h2] using h
    exact ⟨_,rfl,h'⟩
   ·rw [show (b == d)=false by simpa using h2]
    wp_walk using lt b d t2 t4
    exact ⟨_,rfl,by simpa [ltP,h1] using h⟩
  ·rw [show (a == c)=false by simpa using h1]
   wp_walk using lt a c t1 t3
   exact ⟨_,rfl,by simpa [ltP,h1] using h⟩
variable {prog:Program}
section
variable {R:Result->Shared->Prop} {I:Addr} {wr:List Addr} {n:Nat} {P:Nat->Value->Prop} {St:Nat->Heap->Prop}
theorem xn2:(toString "min" ++ toString ".loop" : String) = "min.loop" := by decide
theorem zt2 (W:Walks prog w A.in1 I fp wr n P St) (S:Addr) (hSf:S ∉ fp) (s:Shared) (vb:Value) (c:Nat) (hst:St n s.heap)
    (hS:s.heap.get? S=some { cls:=.type "list",dict:=none,data:=.seq #[vb,vb] c,slots:=#[] })
    (hR:∀ h' tk,(∀ b o,b ∉ wr->b ≠ S->s.heap.get? b=some o->h'.get? b=some o)->R (.ok (.ret vb)) [15]) :
    codeAny [3] A (.builtin "min.loop" ⟨[.ref I,.none,.ref S],[]⟩) R s:=by
 have hSw:S ∉ wr:=λ h=>hSf (W.sub _ h);refine codeAny_builtin F.entry_min_loop ?_;rw [Around.under_plainId F.plain_min_loop _];show wpAny _ A.in1 (seqItems? (.ref S) >>= _) _ _ s;refine wpAny_bind (wpAny_seqItems hS rfl ?_);show wpAny _ A.in1 (tryCatch (pyNext (.ref I)) _ >>= _) _ _ s;refine wpAny_bind (wpAny_tryCatch (W.done s _ _ hst λ h' tk hk'=>?_));have hS':=hk' S _ hSw hS;show wpAny _ A.in1 (updateSeq S (λ _=>#[]) >>= _) _ _ _;refine wpAny_bind ?_;refine wpAny_updateSeq hS' rfl (wpAny_bind (wpAny_letGo [22]));exact hR _ tk λ b o hbw hbS e=>(Heap.get?_update_other _ _ (Ne.symm hbS)).trans (hk' b o hbw e)
theorem ug3 (W:Walks prog w A.in1 I fp wr n P St) (S:Addr) (hSf:S ∉ fp) (s:Shared) (vb v0:Value) (r:Bool) (c j:Nat) (hlt:j < n) (hj:j + 1=n) (hst:St j s.heap) (hv:∀ v,P j v->v=v0)
    (hcmp:∀ (h':Heap) (tk:Nat) (Q:[4]) (E:[4]),(∀ b o,b ∉ wr->s.heap.get? b=some o->h'.get? b=some o)->Q (.bool r) ([15])->wpAny [3] A.in1 (richCompare .Lt v0 vb) Q E [15])
    (hS:s.heap.get? S=some { cls:=.type "list",dict:=none,data:=.seq #[vb,vb] c,slots:=#[] })
    (hR:∀ h' tk,(∀ b o,b ∉ wr->b ≠ S->s.heap.get? b=some o->h'.get? b=some o)->R (.ok (.ret (if r then v0 else vb))) [15]) :
    codeAny [3] A (.builtin "min.loop" ⟨[.ref I,.none,.ref S],[]⟩) R s:=by
 have hSw:S ∉ wr:=λ h=>hSf (W.sub _ h);refine codeAny_builtin F.entry_min_loop ?_;rw [Around.under_plainId F.plain_min_loop _];show wpAny _ A.in1 (seqItems? (.ref S) >>= _) _ _ s;refine wpAny_bind (wpAny_seqItems hS rfl ?_);show wpAny _ A.in1 (tryCatch (pyNext (.ref I)) _ >>= _) _ _ s;refine wpAny_bind (wpAny_tryCatch (W.item j s _ _ hlt hst λ v h' tk hP hst' hk'=>?_));obtain rfl:=hv v hP;have hS':=hk' S _ hSw hS;show wpAny _ A.in1 (tryCatch (holding [v,v] (richCompare .Lt v vb >>= _)) _ >>= _) _ _ _;refine wpAny_bind (wpAny_tryCatch (wpAny_holding (wpAny_bind (hcmp h' tk _ _ hk' ?_))));refine wpAny_bind (wpAny_holding (wpAny_truthy_bool ?_));refine wpAny_bind (wpAny_letGo [22]);cases r with
 | true =>
  simp only [if_true];refine wpAny_bind ?_;refine wpAny_updateSeq hS' rfl (wpAny_bind (wpAny_letGo ?_));rw [xn2];refine wpAny_pure ⟨plainId_quiet F.plain_min_loop _,zt2 W S hSf _ v _ (hj ▸ W.frame _ _ _ hst' λ b hbf o e=>?_) (Heap.get?_update_self _ hS' rfl) λ h'' tk'' hk''=>?_⟩
  ·exact (Heap.get?_update_other _ _ (λ h:S=b=>hSf (by rw [h]; exact hbf))).trans e
  ·exact hR h'' tk'' λ b o hbw hbS e=>hk'' b o hbw hbS ((Heap.get?_update_other _ _ (Ne.symm hbS)).trans (hk' b o hbw e))
 | false =>
  simp only [Bool.false_eq_true,if_false];refine wpAny_bind (wpAny_letGo ?_);rw [xn2];refine wpAny_pure ⟨plainId_quiet F.plain_min_loop _,zt2 W S hSf _ vb c (hj ▸ hst') hS' λ h'' tk'' hk''=>?_⟩;exact hR h'' tk'' λ b o hbw hbS e=>hk'' b o hbw hbS (hk' b o hbw e)
theorem to4 (W:Walks prog w A.in1 I fp wr 2 P St) (S:Addr) (hSf:S ∉ fp) (s:Shared) (va vb:Value) (r:Bool) (c:Nat) (hst:St 0 s.heap) (hva:∀ v,P 0 v->v=va) (hvb:∀ v,P 1 v->v=vb)
    (hcmp:∀ (h':Heap) (tk:Nat) (Q:[4]) (E:[4]),(∀ b o,b ∉ wr->b ≠ S->s.heap.get? b=some o->h'.get? b=some o)->Q (.bool r) ([15])->wpAny [3] A.in1 (richCompare .Lt vb va) Q E [15])
    (hS:s.heap.get? S=some { cls:=.type "list",dict:=none,data:=.seq #[] c,slots:=#[] })
    (hR:∀ h' tk,(∀ b o,b ∉ wr->b ≠ S->s.heap.get? b=some o->h'.get? b=some o)->R (.ok (.ret (if r then vb else va))) [15]) :
    codeAny [3] A (.builtin "min.loop" ⟨[.ref I,.none,.ref S],[]⟩) R s:=by
 have hSw:S ∉ wr:=λ h=>hSf (W.sub _ h);refine codeAny_builtin F.entry_min_loop ?_;rw [Around.under_plainId F.plain_min_loop _];show wpAny _ A.in1 (seqItems? (.ref S) >>= _) _ _ s;refine wpAny_bind (wpAny_seqItems hS rfl ?_);show wpAny _ A.in1 (tryCatch (pyNext (.ref I)) _ >>= _) _ _ s;refine wpAny_bind (wpAny_tryCatch (W.item 0 s _ _ [19] hst λ v h' tk hP hst' hk'=>?_));obtain rfl:=hva v hP;have hS':=hk' S _ hSw hS;show wpAny _ A.in1 (updateSeq S (λ _=>#[v,v]) >>= _) _ _ _;refine wpAny_bind ?_;refine wpAny_updateSeq hS' rfl ?_;rw [xn2];have up:∀ (f:Obj->Obj) b o,b ∉ wr->b ≠ S->s.heap.get? b=some o->Heap.get? (h'.update S f) b=some o:=λ f b o hbw hbS e=>(Heap.get?_update_other _ _ (Ne.symm hbS)).trans (hk' b o hbw e);refine wpAny_pure ⟨plainId_quiet F.plain_min_loop _,ug3 W S hSf _ v vb r _ 1 [19] rfl (W.frame _ _ _ hst' λ b hbf o e=>?_) hvb (λ h2 tk2 Q E hk2 hq=>?_) (Heap.get?_update_self _ hS' rfl) λ h'' tk'' hk''=>?_⟩
 ·exact (Heap.get?_update_other _ _ (λ h:S=b=>hSf (by rw [h]; exact hbf))).trans e
 ·exact hcmp h2 tk2 Q E (λ b o hbw hbS e=>hk2 b o hbw (up _ b o hbw hbS e)) hq
 ·exact hR h'' tk'' λ b o hbw hbS e=>hk'' b o hbw hbS (up _ b o hbw hbS e)
end
section
variable {E:[4]} 
theorem yl1 {va vb:Value} {r:Bool} {Q:[4]} (hh:A.handled=none)
    (hcmp:∀ (h':Heap) (tk:Nat) (Q:[4]) (E:[4]),(∀ b o,s.heap.get? b=some o->h'.get? b=some o)->Q (.bool r) ([15])->wpAny [3] A.in1 (richCompare .Lt vb va) Q E [15])
    (h:∀ h' tk,(∀ c o,s.heap.get? c=some o->h'.get? c=some o)->Q (if r then vb else va) [15]) :
    wpAny [3] A (call (.builtin "min") [va,vb]) Q E s:=by
 refine call_function_tree F.kind_min F.plain_min F.entry_min (F.args_min2 _ _) ?_;show wpAny _ A.in1 (Builtin.Builtins.bindParams "min" ["key", "default"] 0 ⟨[],[]⟩ >>= _) _ _ s;refine wpAny_bind (wpAny_of_eq (show Builtin.Builtins.bindParams "min" ["key", "default"] 0 ⟨[],[]⟩=pure [none,none] from rfl) ?_);show wpAny _ A.in1 (newTuple [va,vb] >>= _) _ _ s;refine wpAny_bind (wpAny_newObj_type ?_);have hT:(s.heap.push { cls:=.type "tuple",data:=.seq #[va,vb] }).IsTuple s.heap.objs.size #[va,vb]:=⟨_,Heap.get?_push_size _ rfl,rfl,0,rfl⟩;refine wpAny_bind (wpAny_pyIter_tuple (s:={ s with heap:=s.heap.push { cls:=.type "tuple",data:=.seq #[va,vb] } }) hT ?_);have hsz:(s.heap.push { cls:=.type "tuple",data:=.seq #[va,vb] }).objs.size=s.heap.objs.size + 1:=Heap.size_push ..;refine wpAny_bind (wpAny_newObj_type ?_);rw [xn2];have hsz2:((s.heap.push { cls:=.type "tuple",data:=.seq #[va,vb] }).push { cls:=.type "tuple_iterator",data:=.fields #[.ref s.heap.objs.size,.int 0 0] }).objs.size=s.heap.objs.size + 2:=by simp
 have keep:∀ c o,s.heap.get? c=some o->Heap.get? (((s.heap.push { cls:=.type "tuple",data:=.seq #[va,vb] }).push { cls:=.type "tuple_iterator",data:=.fields #[.ref s.heap.objs.size,.int 0 0] }).push { cls:=.type "list",data:=.seq #[] }) c=some o:=λ c o e=>Heap.get?_push_of_some _ (Heap.get?_push_of_some _ (Heap.get?_push_of_some _ e))
 have off:∀ (c:Addr) (o:Obj),s.heap.get? c=some o->c ∉ [(s.heap.push { cls:=.type "tuple",data:=.seq #[va,vb] }).objs.size] /\ c ≠ ((s.heap.push { cls:=.type "tuple",data:=.seq #[va,vb] }).push { cls:=.type "tuple_iterator",data:=.fields #[.ref s.heap.objs.size,.int 0 0] }).objs.size:=λ c o e=>by
  have h1:=Heap.lt_size e;rw [hsz2,hsz];refine ⟨λ hm=>?_,Nat.ne_of_lt (Nat.lt_succ_of_lt (Nat.lt_succ_of_lt h1))⟩;rw [List.mem_singleton.mp hm] at h1;exact absurd h1 (Nat.not_lt.mpr (Nat.le_succ _))
 refine wpAny_pure ⟨plainId_quiet F.plain_min_loop _,to4 (Walks.tuple (A:=A.in1) hh _ s.heap.objs.size [10] #[va,vb]) _ ?_ _ va vb r _ ?_ (λ v hP=>by simpa using hP.symm) (λ v hP=>by simpa using hP.symm) ?_ (Heap.get?_push_size _ rfl) ?_⟩
 ·simp [*]
 ·exact ⟨⟨_,Heap.get?_push_of_some _ (Heap.get?_push_size _ rfl),rfl,rfl⟩,(hT.push _).push _⟩
 ·intro h' tk Q E hk hq;exact hcmp h' tk Q E (λ c o e=>hk c o (off c o e).1 (off c o e).2 (keep c o e)) hq
 ·intro h' tk hk;exact h h' tk λ c o e=>hk c o (off c o e).1 (off c o e).2 (keep c o e)
theorem vl2 {p q:Addr} {a b c d:Int} {t1 t2 t3 t4:Tok} {Q:[4]} (hh:A.handled=none) (hu:A.units + 64 < cLine) (hp:IsTup s.heap p #[.int a t1,.int b t2]) (hq:IsTup s.heap q #[.int c t3,.int d t4])
    (h:∀ h' tk,(∀ c o,s.heap.get? c=some o->h'.get? c=some o)->Q (if ltP c d a b then .ref q else .ref p) [15]) :
    wpAny [3] A (call (.builtin "min") [.ref p,.ref q]) Q E s:=by
 refine yl1 hh (λ h' tk Q E hk hq'=>?_) h;obtain ⟨⟨cp,dp,datp,slp⟩,ep,hcp,np,hdp⟩:=hp;obtain ⟨⟨cq,dq,datq,slq⟩,eq,hcq,nq,hdq⟩:=hq;dsimp only at hcp hdp hcq hdq;subst hcp hdp hcq hdq;refine richCompare_meets_room (T := "tuple") (s:=[15]) ⟨_,hk _ _ eq,rfl⟩ ⟨_,hk _ _ ep,rfl⟩ F.slot_tuple_lt F.entry_tuple_lt (F.args_tuple_lt_2 _ _) (yh3 q p c d a b t3 t4 t1 t2 nq np dq dp slq slp) ⟨hk _ _ eq,hk _ _ ep,by simp,hq'⟩ ?_
 simp_all;omega
end
section
theorem za2 (hc:X.calm=true) (hu:[32]):CallR X (.builtin "min") (λ xs H Q=>∃ p q a b c d,xs=[.ref p,.ref q] /\ SqT X.K H p [.int a,.int b] /\ SqT X.K H q [.int c,.int d] /\ Q (.ref (if ltP c d a b then q else p)) H):=by
 intro pins s σ H xs us Q I r h;obtain ⟨p,q,a,b,c,d,rfl,hp,hq,k⟩:=h;obtain ⟨u,w',rfl,e1,e2⟩:=xx2 r;cases e1;cases e2;obtain ⟨its,rv,pp,hz⟩:=I.tuple hp;obtain ⟨its2,rv2,pp2,hz2⟩:=I.tuple hq;obtain ⟨v1,v2,rfl,⟨t1,rfl⟩,⟨t2,rfl⟩⟩:=xx2 rv;obtain ⟨v3,v4,rfl,⟨t3,rfl⟩,⟨t4,rfl⟩⟩:=xx2 rv2;refine vl2 (I.ok.hd hc) hu pp pp2 λ h' tk kk=>⟨_,H,I.kept kk,?_,k⟩;cases ltP c d a b
 ·exact rfl
 ·exact rfl
end
end Pv
namespace Ms
open PySem.W PyProof.Rows
noncomputable def run (lt:Nat->Nat->Bool) {α:Type}:KasT α->α
 | .ret a=>a
 | .ask i j k=>run lt (k (lt i j))
theorem yg1 (lt:Nat->Nat->Bool) {α β:Type} (f:α->KasT β):∀ t:KasT α,run lt (t.bind f)=run lt (f (run lt t))
 | .ret _=>rfl
 | .ask i j k=>yg1 lt f (k (lt i j))
structure Ord (lt:Nat->Nat->Bool):Prop where
 ir:∀ a,lt a a=false
 tr:∀ a b c,lt a b=true->lt b c=true->lt a c=true
 ng:∀ a b c,lt a c=true->lt a b=true \/ lt b c=true
variable {p:Array Nat}
section
variable {lt:Nat->Nat->Bool} (O:Ord lt)
noncomputable abbrev at' (p:Array Nat) (i:Nat):Nat:=p.getD i 0
noncomputable def le (lt:Nat->Nat->Bool) (a b:Nat):Prop:=lt b a=false
include O
theorem le_rf (a:Nat):le lt a a:=O.ir a
theorem le_tr {a b c:Nat} (h:le lt a b) (k:le lt b c):le lt a c:=by
 unfold le at *;cases e:lt c a with
 | false=>rfl
 | true =>
  rcases O.ng c b a e with h1 | h1
  ·simp_all
  simp_all
theorem tj5 {a b:Nat} (h:lt a b=true):le lt a b:=by
 unfold le;cases e:lt b a with
 | false=>rfl
 | true=>have:=O.tr a b a h e; rw [O.ir] at this; cases this
omit O
noncomputable def Up (lt:Nat->Nat->Bool) (p:Array Nat) (n:Nat):Prop:=∀ a b,a<=b->b < n->le lt (at' p a) (at' p b)
theorem zw2 {k l:Nat} (hk:k < p.size) (hl:l<=k) (i:Nat):at' (bubble p k (k - l)) i=if i=l then at' p k else if l < i /\ i<=k then at' p (i - 1) else at' p i:=by
 have h:=getElem?_bubble (xs:=p) hk (k - l) [2] i;rw [show k - (k - l)=l by omega] at h;by_cases c:i=l
 ·simp_all
 ·rw [if_neg c] at h ⊢;by_cases c2:l < i /\ i<=k
  ·simp_all
  simp [*]
include O
theorem zx2 {n:Nat} (h:Up lt p n) (h1:1<=n) (k:le lt (at' p (n - 1)) (at' p n)):Up lt p (n + 1):=λ a b hab hb=>by
 by_cases e:b=n
 ·subst e;by_cases e2:a=b
  ·subst e2; exact le_rf O _
  ·exact le_tr O (h a (b - 1) [2] [2]) k
 ·exact h a b hab [2]
theorem sj1 (p:Array Nat):∀ (f n:Nat),1<=n->Up lt p n->n<=run lt (kas_asc p f n) /\ run lt (kas_asc p f n)<=n + f /\ Up lt p (run lt (kas_asc p f n)) /\ (run lt (kas_asc p f n) < n + f->lt (at' p (run lt (kas_asc p f n))) (at' p (run lt (kas_asc p f n) - 1))=true)
 | 0,n,h1,h=>⟨Nat.le_refl _,Nat.le_refl _,h,λ z=>absurd z (Nat.lt_irrefl _)⟩
 | f + 1,n,h1,h=>by
  cases e:lt (at' p n) (at' p (n - 1)) with
  | true =>
   have r:run lt (kas_asc p (f + 1) n)=n:=by
    show run lt (if lt (at' p n) (at' p (n - 1))=true then .ret n else kas_asc p f (n + 1))=n;rw [e]; rfl
   simp_all
  | false =>
   have r:run lt (kas_asc p (f + 1) n)=run lt (kas_asc p f (n + 1)):=by
    show run lt (if lt (at' p n) (at' p (n - 1))=true then .ret n else kas_asc p f (n + 1))=_;rw [e]; rfl
   rw [r];obtain ⟨a1,a2,a3,a4⟩:=sj1 p f (n + 1) [2] (zx2 O h h1 e);exact ⟨by omega,by omega,a3,λ z=>a4 [2]⟩
omit O
include O
omit O
include O
omit O
include O
theorem yt0 {p:Array Nat} {k:Nat} (h:Up lt p k):∀ (f l r:Nat),l<=r->r<=k->r - l<=f->(∀ a,a < l->le lt (at' p a) (at' p k))->(∀ b,r<=b->b < k->lt (at' p k) (at' p b)=true) ->
    run lt (kas_place p k f l r)<=k /\ (∀ a,a < run lt (kas_place p k f l r)->le lt (at' p a) (at' p k)) /\ ∀ b,run lt (kas_place p k f l r)<=b->b < k->lt (at' p k) (at' p b)=true
 | 0,l,r,hlr,hrk,hf,h1,h2=>⟨by show l<=k; omega,h1,λ b hb1 hb2=>h2 b (by have:l<=b:=hb1; omega) hb2⟩
 | f + 1,l,r,hlr,hrk,hf,h1,h2=>by
  by_cases c:l ≥ r
  ·have e:run lt (kas_place p k (f + 1) l r)=l:=by
     show run lt (if l ≥ r then .ret l else _)=l;rw [if_pos c]; rfl
   rw [e];exact ⟨by omega,h1,λ b hb1 hb2=>h2 b [2] hb2⟩
  ·cases e:lt (at' p k) (at' p ((l + r) / 2)) with
   | true =>
    have e2:run lt (kas_place p k (f + 1) l r)=run lt (kas_place p k f l ((l + r) / 2)):=by
     show run lt (if l ≥ r then .ret l else .ask (at' p k) (at' p ((l + r) / 2)) λ c=>if c=true then kas_place p k f l ((l + r) / 2) else kas_place p k f ((l + r) / 2 + 1) r)=_;rw [if_neg c];show run lt (if lt (at' p k) (at' p ((l + r) / 2))=true then _ else _)=_;rw [e,if_pos rfl]
    rw [e2];refine yt0 h f l ((l + r) / 2) [2] [2] [2] h1 λ b hb1 hb2=>?_;have z:=h ((l + r) / 2) b hb1 hb2;rcases O.ng (at' p k) (at' p b) (at' p ((l + r) / 2)) e with y | y
    ·exact y
    ·unfold le at z; simp_all
   | false =>
    have e2:run lt (kas_place p k (f + 1) l r)=run lt (kas_place p k f ((l + r) / 2 + 1) r):=by
     show run lt (if l ≥ r then .ret l else .ask (at' p k) (at' p ((l + r) / 2)) λ c=>if c=true then kas_place p k f l ((l + r) / 2) else kas_place p k f ((l + r) / 2 + 1) r)=_;rw [if_neg c];show run lt (if lt (at' p k) (at' p ((l + r) / 2))=true then _ else _)=_
     simp_all
    rw [e2];exact yt0 h f ((l + r) / 2 + 1) r [2] hrk [2] (λ a ha=>le_tr O (h a ((l + r) / 2) [2] [2]) e) h2
theorem yb2 {p0:Array Nat}:∀ (f:Nat) (p:Array Nat) (k:Nat),p.Perm p0->1<=k->k + f<=p0.size->Up lt p k->(run lt (kas_bin f p k)).Perm p0 /\ Up lt (run lt (kas_bin f p k)) (k + f)
 | 0,p,k,hp,h1,hs,h=>⟨hp,h⟩
 | f + 1,p,k,hp,h1,hs,h=>by
  have hsz:p.size=p0.size:=hp.size_eq
  have e:run lt (kas_bin (f + 1) p k)=run lt (kas_bin f (bubble p k (k - run lt (kas_place p k k 0 k))) (k + 1)):=by
   show run lt ((kas_place p k k 0 k).bind λ l=>kas_bin f (bubble p k (k - l)) (k + 1))=_;rw [yg1]
  rw [e];obtain ⟨b1,b2,b3⟩:=yt0 O h k 0 k [2] [26] [2] (λ a ha=>absurd ha (Nat.not_lt_zero _)) (λ b hb1 hb2=>by omega);generalize run lt (kas_place p k k 0 k)=l at b1 b2 b3
  have u:Up lt (bubble p k (k - l)) (k + 1):=λ a b hab hb=>by
   rw [zw2 [2] b1,zw2 [2] b1];by_cases ca:a=l
   ·rw [if_pos ca];by_cases cb:b=l
    ·rw [if_pos cb]; exact le_rf O _
    ·rw [if_neg cb,if_pos ⟨by omega,by omega⟩]; exact tj5 O (b3 _ [2] [2])
   ·rw [if_neg ca];by_cases cb:b=l
    ·rw [if_pos cb,if_neg [2]]; exact b2 _ [2]
    ·rw [if_neg cb];by_cases ca2:l < a /\ a<=k
     ·rw [if_pos ca2,if_pos ⟨by omega,by omega⟩]; exact h _ _ [2] [2]
     ·rw [if_neg ca2];by_cases cb2:l < b /\ b<=k
      ·rw [if_pos cb2]; exact h _ _ [2] [2]
      ·rw [if_neg cb2]; exact h _ _ [2] [2]
  have z:=yb2 f (bubble p k (k - l)) (k + 1) ((bubble_perm _ _ _).trans hp) [2] [2] u;rw [show k + 1 + f=k + (f + 1) by omega] at z;exact z
end
end Ms
namespace Ts
open PySem PyProof.Rows
noncomputable def gal:Bool->Keyed->Array Keyed->Nat->Nat->Nat->StateT SortSt Sem [44]:=sortPriv% PySem.Builtin.gallop
variable {prog:Program} {w:World} {A:Around} {E:[4]} {s:Shared} {κ:SortKind} {M:Keyed->Prop} {x y:Keyed} {Q:Option Nat->SortSt->Prop} {arr:Array Keyed} {i base n:Nat} {B:Nat->Bool}
section
structure Cm (prog:Program) (w:World) (A:Around) (s:Shared) (κ:SortKind) (lt:Keyed->Keyed->Bool) (M:Keyed->Prop):Prop where
 ask:∀ x y,M x->M y->∀ C:Bool->Shared->Prop,C (lt x y) s->wpAny (model prog w) A (keyLt' κ x.1 y.1) C (λ _ _=>False) s
 ir:∀ x,lt x x=false
 tr:∀ x y z,lt x y=true->lt y z=true->lt x z=true
 ng:∀ x y z,lt x z=true->lt x y=true \/ lt y z=true
variable {lt:Keyed->Keyed->Bool} 
noncomputable def le (lt:Keyed->Keyed->Bool) (x y:Keyed):Prop:=lt y x=false
theorem Cm.rf (c:[30]) (x:Keyed):le lt x x:=c.ir x
theorem Cm.lt_le (c:[30]) (h:lt x y=true):le lt x y:=by
 unfold le;cases e:lt y x with
 | false=>rfl
 | true=>have:=c.tr x y x h e; rw [c.ir] at this; cases this
theorem Cm.le_tr (c:[30]) {z:Keyed} (h:le lt x y) (k:le lt y z):le lt x z:=by
 unfold le at h k ⊢;cases e:lt z x with
 | false=>rfl
 | true =>
  rcases c.ng z y x e with q | q
  ·simp_all
  simp_all
structure Ok (κ:SortKind) (st:SortSt):Prop where
 kd:kindOf st=κ
 fl:failedOf st=none
theorem tt1 (c:[30]) {st:SortSt} {Q:Option Bool->SortSt->Prop} (o:Ok κ st) (hx:M x) (hy:M y) (h:Q (some (lt x y)) st):wpS [3] A E s (lt' x y) Q st:=by
 rw [lt'_eq];refine wpS_bind (wpS_get ?_);rw [o.kd];refine wpS_bind (wpS_lift (wpAny_attempt (wpAny_mono (c.ask x y hx hy (λ b s'=>s'=s /\ b=lt x y) ⟨rfl,rfl⟩) (λ b s' hb=>?_) λ _ _ hF=>hF.elim)));obtain ⟨rfl,rfl⟩:=hb;exact ⟨rfl,wpS_pure h⟩
theorem vb0 {st:SortSt} {Q:Keyed->SortSt->Prop} (hi:arr[i]?=some x) (h:Q x st):wpS [3] A E s (elem' arr i) Q st:=by
 rw [elem'_eq,hi];exact wpS_pure h
structure By (lt:Keyed->Keyed->Bool) (M:Keyed->Prop) (l:Bool) (key:Keyed) (arr:Array Keyed) (base n:Nat) (B:Nat->Bool):Prop where
 ky:M key
 it:∀ i,i < n->∃ x,arr[base + i]?=some x /\ M x /\ B i=(if l=true then lt x key else !lt key x)
 mono:∀ i j,i<=j->j < n->B j=true->B i=true
theorem By.no {l:Bool} {key:Keyed} (b:By lt M l key arr base n B) {j:Nat} (h:i<=j) (hj:j < n) (k:B i=false):B j=false:=by
 cases e:B j with
 | false=>rfl
 | true=>have:=b.mono i j h hj e; simp_all
theorem tj1 (c:[30]) {l:Bool} {key:Keyed} (b:By lt M l key arr base n B) (hi:i < n) {st:SortSt} {Q:Option Bool->SortSt->Prop} (o:Ok κ st) (h:Q (some (B i)) st) :
    wpS [3] A E s (elem' arr (base + i) >>= λ x=>if l=true then lt' x key else lt' key x >>= λ r=>pure (r.map λ y=>!y)) Q st:=by
 obtain ⟨x,ex,mx,e⟩:=b.it i hi;refine wpS_bind (vb0 ex ?_);cases l with
 | true =>
  rw [if_pos rfl];rw [if_pos rfl] at e;exact tt1 c o mx b.ky (e ▸ h)
 | false =>
  rw [if_neg [10]];rw [if_neg [10]] at e;exact wpS_bind (tt1 c o b.ky mx (wpS_pure [16]))
theorem zq0 (c:[30]) {l:Bool} {key:Keyed} {hint:Nat} {st:SortSt} (o:Ok κ st) (b:By lt M l key arr base n B) (hh:hint < n)
    (h:∀ k,k<=n->(∀ i,i < k->B i=true)->(∀ i,k<=i->i < n->B i=false)->Q (some k) st):wpS [3] A E s (gal l key arr base n hint) Q st:=by
 refine wpS_bind (tj1 c b hh o ?_)
 have tail:∀ lo hi:Nat,lo<=hi->hi<=n->(∀ i,i < lo->B i=true)->(∀ i,hi<=i->i < n->B i=false)->∀ (f:Nat->Option [44] × Nat × Nat->StateT SortSt Sem (ForInStep (Option [44] × Nat × Nat))),
     (∀ x lo hi,lo < hi->hi<=n->f x (none,lo,hi)=((elem' arr (base + (lo + (hi - lo) / 2)) >>= λ x=>if l=true then lt' x key else lt' key x >>= λ r=>pure (r.map λ y=>!y)) >>= λ r=>match r with
      | some true=>pure (.yield (none,lo + (hi - lo) / 2 + 1,hi))
      | some false=>pure (.yield (none,lo,lo + (hi - lo) / 2))
      | none=>pure (.done (some none,lo,hi))))->(∀ x lo hi,¬ lo < hi->f x (none,lo,hi)=pure (.done (none,lo,hi))) ->
     wpS [3] A E s (forIn [0:n] (none,lo,hi) f) (λ r st'=>st'=st /\ r.1=none /\ r.2.2<=n /\ (∀ i,i < r.2.2->B i=true) /\ ∀ i,r.2.2<=i->i < n->B i=false) st:=by
  intro lo hi h1 h2 h3 h4 f f1 f2;refine wpS_forRange (λ x r st'=>st'=st /\ r.1=none /\ r.2.1<=r.2.2 /\ r.2.2<=n /\ r.2.2 - r.2.1<=n - x /\ (∀ i,i < r.2.1->B i=true) /\ ∀ i,r.2.2<=i->i < n->B i=false) ?_ ?_ ⟨rfl,rfl,h1,h2,by simp_all;omega,h3,h4⟩
  ·rintro x ⟨r,lo,hi⟩ st' _ hx ⟨rfl,rfl,a1,a2,a3,a4,a5⟩;dsimp only at a1 a2 a3 a4 a5;by_cases z:lo < hi
   ·rw [f1 x lo hi z a2];have hm:lo + (hi - lo) / 2 < n:=by omega
    refine wpS_bind (tj1 c b hm o ?_);cases e:B (lo + (hi - lo) / 2) with
    | true=>exact wpS_pure ⟨rfl,rfl,by show _ + 1<=hi; omega,a2,by simp_all;omega,λ i hi'=>b.mono i _ [8] hm e,a5⟩
    | false=>exact wpS_pure ⟨rfl,rfl,by simp,by simp_all;omega,by simp_all;omega,a4,λ i h5 h6=>b.no h5 h6 e⟩
   ·rw [f2 x lo hi z];have:lo=hi:=by omega
    subst this;exact wpS_pure ⟨rfl,rfl,a2,a4,a5⟩
  ·rintro ⟨r,lo,hi⟩ st' ⟨rfl,rfl,a1,a2,a3,a4,a5⟩;have a1':lo<=hi:=a1;have a3':hi - lo<=n - max 0 n:=a3;have:lo=hi:=by omega
   simp_all
 have fin:∀ lo hi:Nat,lo<=hi->hi<=n->(∀ i,i < lo->B i=true)->(∀ i,hi<=i->i < n->B i=false)->∀ (f:Nat->Option [44] × Nat × Nat->StateT SortSt Sem (ForInStep (Option [44] × Nat × Nat))) (g:Option [44] × Nat × Nat->StateT SortSt Sem [44]),
     (∀ x lo hi,lo < hi->hi<=n->f x (none,lo,hi)=((elem' arr (base + (lo + (hi - lo) / 2)) >>= λ x=>if l=true then lt' x key else lt' key x >>= λ r=>pure (r.map λ y=>!y)) >>= λ r=>match r with
      | some true=>pure (.yield (none,lo + (hi - lo) / 2 + 1,hi))
      | some false=>pure (.yield (none,lo,lo + (hi - lo) / 2))
      | none=>pure (.done (some none,lo,hi))))->(∀ x lo hi,¬ lo < hi->f x (none,lo,hi)=pure (.done (none,lo,hi))) ->
     (∀ lo hi,g (none,lo,hi)=pure (some hi))->wpS [3] A E s (forIn [0:n] (none,lo,hi) f >>= g) Q st:=by
  intro lo hi h1 h2 h3 h4 f g f1 f2 g1;refine wpS_bind (wpS_mono (tail lo hi h1 h2 h3 h4 f f1 f2) ?_);rintro ⟨r,lo,hi⟩ st' ⟨rfl,rfl,a2,a4,a5⟩;rw [g1];exact wpS_pure (h hi a2 a4 a5)
 cases e:B hint with
 | true =>
  refine wpS_bind (wpS_mono (wpS_forRange (λ x (r:Option [44] × Nat × Nat) st'=>st'=st /\ r.1=none /\ r.2.1 < r.2.2 /\ x + 1<=r.2.2 /\ hint + r.2.1 < n /\ B (hint + r.2.1)=true) (Q:=λ (r:Option [44] × Nat × Nat) st'=>st'=st /\ r.1=none /\ r.2.1 < r.2.2 /\ hint + r.2.1 < n /\ B (hint + r.2.1)=true /\ (n - hint<=r.2.2 \/ (hint + r.2.2 < n /\ B (hint + r.2.2)=false))) ?_ ?_ ⟨rfl,rfl,by decide,by decide,hh,e⟩) ?_)
  ·rintro x ⟨r,la,of⟩ st' _ hx ⟨rfl,rfl,a1,a2,a3,a4⟩;dsimp only at a1 a2 a3 a4 ⊢;by_cases z:of ≥ n - hint
   ·rw [if_pos z];exact wpS_pure ⟨rfl,rfl,a1,a3,a4,.inl z⟩
   ·rw [if_neg z];have hm:hint + of < n:=by omega
    refine wpS_bind (tj1 c b hm o ?_);cases e2:B (hint + of) with
    | true=>exact wpS_pure ⟨rfl,rfl,by simp_all;omega,by simp_all;omega,hm,e2⟩
    | false=>exact wpS_pure ⟨rfl,rfl,a1,a3,a4,.inr ⟨hm,e2⟩⟩
  ·simp_all;omega
  ·rintro ⟨r,la,of⟩ st' ⟨rfl,rfl,a1,a3,a4,a5⟩;dsimp only at a1 a3 a4 a5 ⊢;refine fin (hint + la + 1) (hint + min of (n - hint)) [2] [2] (λ i hi=>b.mono i _ [2] a3 a4) (λ i h5 h6=>?_) _ _ ?_ ?_ ?_
   ·rcases a5 with z | ⟨z1,z2⟩
    ·omega
    ·exact b.no [2] h6 z2
   ·intro x lo hi z _;dsimp only;rw [if_neg [2]];refine congrArg _ (funext λ r=>?_);rcases r with _ | _ | _ <;> rfl
   ·simp_all
   ·intro lo hi; rfl
 | false =>
  refine wpS_bind (wpS_mono (wpS_forRange (λ x (r:Option [44] × Nat × Nat) st'=>st'=st /\ r.1=none /\ r.2.1 < r.2.2 /\ x + 1<=r.2.2 /\ r.2.1<=hint /\ B (hint - r.2.1)=false) (Q:=λ (r:Option [44] × Nat × Nat) st'=>st'=st /\ r.1=none /\ r.2.1 < r.2.2 /\ r.2.1<=hint /\ B (hint - r.2.1)=false /\ (hint + 1<=r.2.2 \/ (r.2.2<=hint /\ B (hint - r.2.2)=true))) ?_ ?_ ⟨rfl,rfl,by decide,by decide,Nat.zero_le _,e⟩) ?_)
  ·rintro x ⟨r,la,of⟩ st' _ hx ⟨rfl,rfl,a1,a2,a3,a4⟩;dsimp only at a1 a2 a3 a4 ⊢;by_cases z:of ≥ hint + 1
   ·rw [if_pos z];exact wpS_pure ⟨rfl,rfl,a1,a3,a4,.inl z⟩
   ·rw [if_neg z];have hm:hint - of < n:=by omega
    refine wpS_bind (tj1 c b hm o ?_);cases e2:B (hint - of) with
    | false=>exact wpS_pure ⟨rfl,rfl,by simp_all;omega,by simp_all;omega,by show of<=hint; omega,e2⟩
    | true=>exact wpS_pure ⟨rfl,rfl,a1,a3,a4,.inr ⟨by show of<=hint; omega,e2⟩⟩
  ·simp_all;omega
  ·rintro ⟨r,la,of⟩ st' ⟨rfl,rfl,a1,a3,a4,a5⟩;dsimp only at a1 a3 a4 a5 ⊢;refine fin (hint + 1 - min of (hint + 1)) (hint - la) [2] [2] (λ i hi=>?_) (λ i h5 h6=>b.no h5 h6 a4) _ _ ?_ ?_ ?_
   ·rcases a5 with z | ⟨z1,z2⟩
    ·omega
    ·exact b.mono i _ [2] [2] z2
   ·intro x lo hi z _;dsimp only;rw [if_neg [2]];refine congrArg _ (funext λ r=>?_);rcases r with _ | _ | _ <;> rfl
   ·simp_all
   ·intro lo hi; rfl
end
noncomputable def mlo:Array Keyed->Array Keyed->StateT SortSt Sem (Array Keyed):=sortPriv% PySem.Builtin.mergeLo
noncomputable abbrev GR:=Option (Array Keyed) × Array Keyed × Nat × Nat × Nat × Nat × Nat
noncomputable def galC (a b:Array Keyed) (k1 k:Nat) (u:Array Keyed) (i j g:Nat):StateT SortSt Sem (ForInStep GR) :=
 let nx:Array Keyed->Nat->StateT SortSt Sem (ForInStep GR):=λ u j=>elem' a i >>= λ v =>
  if (i + 1 + 1 == a.size)=true then pure (.done (some (u.push v ++ b.extract j b.size ++ a.extract (i + 1) a.size),u.push v,i + 1,j,g,k1,k))
  else if (decide (k1 < 7) && decide (k < 7))=true then pure (.done (none,u.push v,i + 1,j,g,k1,k)) else pure (.yield (none,u.push v,i + 1,j,g,k1,k))
 if k > 0 then (if (j + k == b.size)=true then pure (.done (some (u ++ b.extract j (j + k) ++ a.extract i a.size ++ b.extract (j + k) b.size),u ++ b.extract j (j + k),i,j + k,g,k1,k)) else nx (u ++ b.extract j (j + k)) (j + k)) else nx u j
theorem ve0 {α:Type} {l:List α} {x:α} (h:l[i]?=some x):l.drop i=x :: l.drop (i + 1):=by
 obtain ⟨h1,h2⟩:=List.getElem?_eq_some_iff.mp h;rw [List.drop_eq_getElem_cons h1,h2]
variable {la lb out:List Keyed} {ia ib:Nat}
section
variable {lt:Keyed->Keyed->Bool}
structure MI (lt:Keyed->Keyed->Bool) (la lb out:List Keyed) (ia ib:Nat):Prop where
 so:out.Pairwise (le lt)
 xa:∀ x ∈ out,∀ y ∈ la.drop ia,le lt x y
 xb:∀ x ∈ out,∀ y ∈ lb.drop ib,le lt x y
 pm:(out ++ (la.drop ia ++ lb.drop ib)).Perm (la ++ lb)
noncomputable def Fin (lt:Keyed->Keyed->Bool) (la lb r:List Keyed):Prop:=r.Perm (la ++ lb) /\ r.Pairwise (le lt)
theorem tb1 {l:List Keyed} (h:l.Pairwise (le lt)) (e:l[i]?=some x):∀ y ∈ l.drop (i + 1),le lt x y:=by
 have h2:(l.drop i).Pairwise (le lt):=h.sublist (drop_sublist i l);rw [ve0 e] at h2;exact (List.pairwise_cons.mp h2).1
theorem MI.a (m:MI lt la lb out ia ib) (sa:la.Pairwise (le lt)) (e:la[ia]?=some x) (k:∀ y ∈ lb.drop ib,le lt x y):MI lt la lb (out ++ [x]) (ia + 1) ib:=by
 have d:=ve0 e;refine ⟨List.pairwise_append.mpr ⟨m.so,pairwise_singleton _ _,λ z hz y hy=>?_⟩,λ z hz y hy=>?_,λ z hz y hy=>?_,?_⟩
 ·rw [mem_singleton] at hy; subst hy;exact m.xa z hz y (by rw [d]; exact .head _)
 ·rcases List.mem_append.mp hz with hz | hz
  ·exact m.xa z hz y (by rw [d]; exact .tail _ hy)
  ·rw [mem_singleton] at hz; subst hz;exact tb1 sa e y hy
 ·rcases List.mem_append.mp hz with hz | hz
  ·exact m.xb z hz y hy
  ·rw [mem_singleton] at hz; subst hz;exact k y hy
 ·have p:=m.pm;rw [d] at p;rw [append_assoc];exact p
theorem MI.b (m:MI lt la lb out ia ib) (sb:lb.Pairwise (le lt)) (e:lb[ib]?=some x) (k:∀ y ∈ la.drop ia,le lt x y):MI lt la lb (out ++ [x]) ia (ib + 1):=by
 have d:=ve0 e;refine ⟨List.pairwise_append.mpr ⟨m.so,pairwise_singleton _ _,λ z hz y hy=>?_⟩,λ z hz y hy=>?_,λ z hz y hy=>?_,?_⟩
 ·rw [mem_singleton] at hy; subst hy;exact m.xb z hz y (by rw [d]; exact .head _)
 ·rcases List.mem_append.mp hz with hz | hz
  ·exact m.xa z hz y hy
  ·rw [mem_singleton] at hz; subst hz;exact k y hy
 ·rcases List.mem_append.mp hz with hz | hz
  ·exact m.xb z hz y (by rw [d]; exact .tail _ hy)
  ·rw [mem_singleton] at hz; subst hz;exact tb1 sb e y hy
 ·have p:=m.pm;rw [d] at p;rw [append_assoc];refine .trans (List.Perm.append_left _ ?_) p;show (x :: (la.drop ia ++ lb.drop (ib + 1))).Perm _;exact List.perm_middle.symm
theorem tv0 {α:Type} {l:List α} {k:Nat} {x:α} (e:l[i + k]?=some x):(l.drop i).take (k + 1)=(l.drop i).take k ++ [x]:=by
 rw [List.take_succ,getElem?_drop,e]; rfl
theorem MI.as {la lb out:List Keyed} {ia ib:Nat} (m:MI lt la lb out ia ib) (sa:la.Pairwise (le lt)):∀ k,ia + k<=la.length->(∀ i x,i < k->la[ia + i]?=some x->∀ y ∈ lb.drop ib,le lt x y)->MI lt la lb (out ++ (la.drop ia).take k) (ia + k) ib
 | 0,_,_=>by rw [take_zero,append_nil]; exact m
 | k + 1,h,q=>by
  have e:la[ia + k]?=some la[ia + k]:=getElem?_eq_getElem [2];rw [tv0 e,<- append_assoc];exact (m.as sa k [2] λ i x hi=>q i x [2]).a sa e (q k _ [2] e)
theorem MI.bs {la lb out:List Keyed} {ia ib:Nat} (m:MI lt la lb out ia ib) (sb:lb.Pairwise (le lt)):∀ k,ib + k<=lb.length->(∀ i x,i < k->lb[ib + i]?=some x->∀ y ∈ la.drop ia,le lt x y)->MI lt la lb (out ++ (lb.drop ib).take k) ia (ib + k)
 | 0,_,_=>by rw [take_zero,append_nil]; exact m
 | k + 1,h,q=>by
  have e:lb[ib + k]?=some lb[ib + k]:=getElem?_eq_getElem [2];rw [tv0 e,<- append_assoc];exact (m.bs sb k [2] λ i x hi=>q i x [2]).b sb e (q k _ [2] e)
theorem MI.endB (m:MI lt la lb out ia ib) (sa:la.Pairwise (le lt)) (h:lb.length<=ib):Fin lt la lb (out ++ la.drop ia ++ lb.drop ib):=by
 have e:lb.drop ib=[]:=List.drop_eq_nil_of_le h;have p:=m.pm;rw [e] at p ⊢;rw [append_nil] at p ⊢;exact ⟨p,List.pairwise_append.mpr ⟨m.so,sa.sublist (drop_sublist _ _),m.xa⟩⟩
theorem MI.endA (m:MI lt la lb out ia ib) (sb:lb.Pairwise (le lt)) (h:la.length<=ia):Fin lt la lb (out ++ la.drop ia ++ lb.drop ib):=by
 have e:la.drop ia=[]:=List.drop_eq_nil_of_le h;have p:=m.pm;rw [e] at p ⊢;rw [append_nil];exact ⟨p,List.pairwise_append.mpr ⟨m.so,sb.sublist (drop_sublist _ _),m.xb⟩⟩
theorem MI.last (m:MI lt la lb out ia ib) (sb:lb.Pairwise (le lt)) (h:ia + 1=la.length) (k:∀ x,la[la.length - 1]?=some x->∀ y ∈ lb,le lt y x):Fin lt la lb (out ++ lb.drop ib ++ la.drop ia):=by
 have e:la[ia]?=some la[ia]:=getElem?_eq_getElem [2];have d:=ve0 e;have e2:la.drop (ia + 1)=[]:=List.drop_eq_nil_of_le [2];rw [e2] at d;refine ⟨?_,?_⟩
 ·refine .trans ?_ m.pm;rw [append_assoc];exact List.Perm.append_left _ perm_append_comm
 ·rw [append_assoc];refine List.pairwise_append.mpr ⟨m.so,List.pairwise_append.mpr ⟨sb.sublist (drop_sublist _ _),?_,λ x hx y hy=>?_⟩,λ x hx y hy=>?_⟩
  ·rw [d]; exact pairwise_singleton _ _
  ·rw [d,mem_singleton] at hy;subst hy;exact k _ (by rw [show la.length - 1=ia by omega]; exact e) x (mem_of_mem_drop hx)
  ·rcases List.mem_append.mp hy with hy | hy
   ·exact m.xb x hx y hy
   ·exact m.xa x hx y hy
noncomputable def Mid (lt:Keyed->Keyed->Bool) (la lb:List Keyed) (n:Nat) (r:Option (Array Keyed)) (out:Array Keyed) (ia ib:Nat):Prop:=match r with
 | some z=>Fin lt la lb z.toList
 | none=>MI lt la lb out.toList ia ib /\ ia + 1 < la.length /\ ib < lb.length /\ n<=ia + ib
end
structure Same (κ:SortKind) (st0 st:SortSt):Prop where
 ok:Ok κ st
 ar:arrOf st=arrOf st0
 pe:pendingOf st=pendingOf st0
theorem ze0 (a:Array Keyed) (i:Nat):(a.extract i a.size).toList=a.toList.drop i:=by
 rw [Array.toList_extract];simp only [List.extract];exact take_of_length_le (by rw [length_drop,length_toList]; omega)
theorem sj3 (a:Array Keyed) (i k:Nat):(a.extract i (i + k)).toList=(a.toList.drop i).take k:=by
 rw [Array.toList_extract];simp [List.extract]
variable {Md:Model}
section
variable {lt:Keyed->Keyed->Bool} 
theorem vi0 {a:Array Keyed} (h:i < a.toList.length):∃ x,a[i]?=some x /\ a.toList[i]?=some x /\ x ∈ a.toList:=by
 refine ⟨a.toList[i],?_,getElem?_eq_getElem h,getElem_mem h⟩;rw [<- getElem?_toList,getElem?_eq_getElem h]
theorem getD_some {l:List Keyed} {d:Keyed} (h:l[i]?=some x):l.getD i d=x:=by rw [getD_eq_getElem?_getD,h]; rfl
theorem zk0 {l:List Keyed} (h:l.Pairwise (le lt)) {j:Nat} (hij:i < j) (ex:l[i]?=some x) (ey:l[j]?=some y):le lt x y:=by
 obtain ⟨h1,rfl⟩:=List.getElem?_eq_some_iff.mp ex;obtain ⟨h2,rfl⟩:=List.getElem?_eq_some_iff.mp ey;exact List.pairwise_iff_getElem.mp h i j h1 h2 hij
theorem byF (c:[30]) {a:Array Keyed} (ma:∀ x ∈ a.toList,M x) {key:Keyed} (hn:ia + n<=a.size) (mk:M key) (sa:a.toList.Pairwise (le lt)):By lt M false key a ia n (λ i=>!lt key (a.toList.getD (ia + i) key)) where
 ky:=mk
 it:=λ i hi=>by
  obtain ⟨x,e1,e2,e3⟩:=vi0 (a:=a) (i:=ia + i) (by rw [length_toList]; omega);exact ⟨x,e1,ma x e3,by rw [getD_some e2,if_neg [10]]⟩
 mono:=λ i j hij hj h=>by
  by_cases z:i=j
  ·subst z; exact h
  obtain ⟨x,_,e2,_⟩:=vi0 (a:=a) (i:=ia + i) (by rw [length_toList]; omega);obtain ⟨y,_,e5,_⟩:=vi0 (a:=a) (i:=ia + j) (by rw [length_toList]; omega);have l:=zk0 sa (show ia + i < ia + j by omega) e2 e5;rw [getD_some e5] at h;rw [getD_some e2];have h':le lt y key:=(by simpa using h:lt key y=false);have q:lt key x=false:=c.le_tr l h';simpa using q
theorem byT (c:[30]) {a:Array Keyed} (ma:∀ x ∈ a.toList,M x) {key:Keyed} (hn:ia + n<=a.size) (mk:M key) (sa:a.toList.Pairwise (le lt)):By lt M true key a ia n (λ i=>lt (a.toList.getD (ia + i) key) key) where
 ky:=mk
 it:=λ i hi=>by
  obtain ⟨x,e1,e2,e3⟩:=vi0 (a:=a) (i:=ia + i) (by rw [length_toList]; omega);exact ⟨x,e1,ma x e3,by rw [getD_some e2,if_pos rfl]⟩
 mono:=λ i j hij hj h=>by
  by_cases z:i=j
  ·subst z; exact h
  obtain ⟨x,_,e2,_⟩:=vi0 (a:=a) (i:=ia + i) (by rw [length_toList]; omega);obtain ⟨y,_,e5,_⟩:=vi0 (a:=a) (i:=ia + j) (by rw [length_toList]; omega);have l:=zk0 sa (show ia + i < ia + j by omega) e2 e5;rw [getD_some e5] at h;rw [getD_some e2];rcases c.ng y x key h with q | q
  ·rw [show lt y x=false from l] at q; cases q
  ·exact q
noncomputable def Pst (κ:SortKind) (lt:Keyed->Keyed->Bool) (a b:Array Keyed) (st:SortSt) (x:Nat):ForInStep GR->SortSt->Prop:=λ r st'=>match r with
 | .done c'=>Same κ st st' /\ Mid lt a.toList b.toList (x + 2) c'.1 c'.2.1 c'.2.2.1 c'.2.2.2.1
 | .yield c'=>Same κ st st' /\ c'.1=none /\ Mid lt a.toList b.toList (x + 2) none c'.2.1 c'.2.2.1 c'.2.2.2.1
theorem xq2 {α:Type} {C:Nat->Prop} [I:∀ g,Decidable (C g)] {t e:Nat->StateT SortSt Sem α} {Q:α->SortSt->Prop} {st:SortSt} (ht:∀ g,t g=e (g - 1)) (h:∀ g,wpS Md A E s (e g) Q st) (g:Nat):wpS Md A E s (@ite _ (C g) (I g) (t g) (e g)) Q st:=by
 by_cases q:C g
 ·rw [if_pos q,ht]; exact h _
 ·rw [if_neg q]; exact h _
theorem at_k {a:Array Keyed} (h:i < a.toList.length) {G:Prop} (k:∀ x,a[i]?=some x->a.toList[i]?=some x->x ∈ a.toList->G):G:=by
 obtain ⟨x,h1,h2,h3⟩:=vi0 h;exact k x h1 h2 h3
theorem zb0 {α:Type} {M:Model} {c:Prop} [Decidable c] {t u:StateT SortSt Sem α} {Q:α->SortSt->Prop} {st:SortSt} (h1:c->wpS M A E s t Q st) (h2:¬ c->wpS M A E s u Q st):wpS M A E s (if c then t else u) Q st:=by
 by_cases h:c
 ·rw [if_pos h]; exact h1 h
 ·rw [if_neg h]; exact h2 h
theorem n5 {α β γ δ ε:Type} {H G:Option α × β × γ × δ × ε->SortSt->Prop} (hn:∀ r s,H r s->r.1=none) (h:∀ b c d e s,H (none,b,c,d,e) s->G (none,b,c,d,e) s) (r:Option α × β × γ × δ × ε) (s:SortSt) (k:H r s):G r s:=by
 obtain ⟨r,b,c,d,e⟩:=r;cases (hn _ _ k:r=none);exact h _ _ _ _ _ k
theorem d5 {α β γ δ ε:Type} {P:α × β × γ × δ × ε->SortSt->Prop} (h:∀ a b c d e s,P (a,b,c,d,e) s) (r:α × β × γ × δ × ε) (s:SortSt):P r s:=h _ _ _ _ _ s
theorem uo4 (c:[30]) {a b:Array Keyed} {st:SortSt} {Q:Array Keyed->SortSt->Prop} (o:Ok κ st) (ma:∀ x ∈ a.toList,M x) (mb:∀ x ∈ b.toList,M x) (sa:a.toList.Pairwise (le lt)) (sb:b.toList.Pairwise (le lt))
    (na:0 < a.toList.length) (nb:0 < b.toList.length) (h0:∀ x y,b.toList[0]?=some x->a.toList[0]?=some y->le lt x y) (hl:∀ x,a.toList[a.toList.length - 1]?=some x->∀ y ∈ b.toList,le lt y x)
    (h:∀ r st',Same κ st st'->Fin lt a.toList b.toList r.toList->Q r st'):wpS [3] A E s (mlo a b) Q st:=by
 refine wpS_bind (wpS_lift (wpAny_rule ⟨rfl,?_⟩));refine at_k (a:=b) nb λ b0 eb eb' hb0=>?_;refine wpS_bind (vb0 eb ?_);dsimp only;refine at_k (a:=a) na λ a0 ea ea' ha0=>?_
 have dn:∀ {l:List Keyed} {x:Keyed} {i:Nat},l.Pairwise (le lt)->l[i]?=some x->∀ z,le lt z x->∀ y ∈ l.drop i,le lt z y:=by
  intro l x i sl e z hz y hy;rw [ve0 e] at hy;rcases List.mem_cons.mp hy with rfl | hy
  ·exact hz
  ·exact c.le_tr hz (tb1 sl e y hy)
 have m0:MI lt a.toList b.toList #[b0].toList 0 1:=by
  have m:MI lt a.toList b.toList [] 0 0:=⟨List.Pairwise.nil,λ _ h=>(nomatch h),λ _ h=>(nomatch h),.refl _⟩;exact m.b sb eb' (dn sa ea' b0 (h0 _ _ eb' ea'))
 have doneB:∀ {out:Array Keyed} {ia ib:Nat},MI lt a.toList b.toList out.toList ia ib->b.size<=ib->Fin lt a.toList b.toList (out ++ a.extract ia a.size ++ b.extract ib b.size).toList:=by
  intro out ia ib m hi;rw [toList_append,toList_append,ze0,ze0];exact m.endB sa hi
 have doneA:∀ {out:Array Keyed} {ia ib:Nat},MI lt a.toList b.toList out.toList ia ib->a.size<=ia->Fin lt a.toList b.toList (out ++ a.extract ia a.size ++ b.extract ib b.size).toList:=by
  intro out ia ib m hi;rw [toList_append,toList_append,ze0,ze0];exact m.endA sb hi
 have lastA:∀ {out:Array Keyed} {ia ib:Nat},MI lt a.toList b.toList out.toList ia ib->ia + 1=a.size->Fin lt a.toList b.toList (out ++ b.extract ib b.size ++ a.extract ia a.size).toList:=by
  intro out ia ib m hi;rw [toList_append,toList_append,ze0,ze0];exact m.last sb hi hl
 have sza:a.toList.length=a.size:=length_toList;have szb:b.toList.length=b.size:=length_toList
 have nxA:∀ (x k1 k2 g:Nat) (out:Array Keyed) (i j:Nat) (st3:SortSt),Same κ st st3->MI lt a.toList b.toList out.toList i j->i + 1 < a.size->j < b.size->x + 2<=i + j + 1->(∀ v,a.toList[i]?=some v->∀ y ∈ b.toList.drop j,le lt v y) ->
     wpS [3] A E s (elem' a i >>= λ v=>if (i + 1 + 1 == a.size)=true then pure (.done (some (out.push v ++ b.extract j b.size ++ a.extract (i + 1) a.size),out.push v,i + 1,j,g,k1,k2))
      else if (decide (k1 < 7) && decide (k2 < 7))=true then pure (.done (none,out.push v,i + 1,j,g,k1,k2)) else pure (.yield (none,out.push v,i + 1,j,g,k1,k2))) (Pst κ lt a b st x) st3:=by
  intro x k1 k2 g out i j st3 s3 m h1 h2 h3 hle;refine at_k (a:=a) (i:=i) [2] λ va e4 e5 e6=>?_;refine wpS_bind (vb0 e4 ?_);have m':=m.a sa e5 (hle va e5);rw [<- toList_push] at m';refine zb0 (λ z=>?_) λ z=>?_
  ·exact wpS_pure ⟨s3,lastA m' (eq_of_beq z)⟩
  ·have z':i + 1 + 1 ≠ a.size:=λ e=>z (beq_iff_eq.mpr e);refine zb0 (λ y1=>?_) λ y1=>?_
   ·exact wpS_pure ⟨s3,m',by show i + 1 + 1 < _; omega,by show j < _; omega,by show _<=i + 1 + j; omega⟩
   ·exact wpS_pure ⟨s3,rfl,m',by show i + 1 + 1 < _; omega,by show j < _; omega,by show _<=i + 1 + j; omega⟩
 have nxB:∀ (x k bc g:Nat) (out:Array Keyed) {i j:Nat} {st3:SortSt} {vb:Keyed},Same κ st st3->MI lt a.toList b.toList out.toList i j->i + 1 < a.size->j < b.toList.length->x + 2<=i + j->b[j]?=some vb->b.toList[j]?=some vb->(∀ y ∈ a.toList.drop i,le lt vb y) ->
     ∀ (G:Keyed->Keyed->Option Nat->StateT SortSt Sem (ForInStep GR)),(∀ v y k2,G v y (some k2)=galC a b k k2 (out.push v) i (j + 1) g) ->
     wpS [3] A E s (elem' b j >>= λ v=>if (j + 1 == b.size)=true then pure (.done (some (out.push v ++ a.extract i a.size ++ b.extract (j + 1) b.size),out.push v,i,j + 1,g,k,bc))
      else elem' a i >>= λ y=>gal true y b (j + 1) (b.size - (j + 1)) 0 >>= G v y) (Pst κ lt a b st x) st3:=by
  intro x k bc g out i j st3 vb s3 m h1 h2 h3 e1 e2 lo G hG;refine wpS_bind (vb0 e1 ?_);have m':=m.b sb e2 lo;rw [<- toList_push] at m';refine zb0 (λ z=>?_) λ z=>?_
  ·exact wpS_pure ⟨s3,doneB m' (Nat.le_of_eq (eq_of_beq z).symm)⟩
  ·have z':j + 1 ≠ b.size:=λ e=>z (beq_iff_eq.mpr e);refine at_k (a:=a) (i:=i) [2] λ va e4 e5 e6=>?_;refine wpS_bind (vb0 e4 ?_);refine wpS_bind (zq0 c s3.ok (byT c mb [2] (ma _ e6) sb) [2] λ k2 q1 q2 q3=>?_);rw [hG];unfold galC;dsimp only
   have mk:=m'.bs sb k2 [2] λ i y hi ey=>dn sa e5 y (by
    have q:=q2 i hi;rw [getD_some ey] at q;exact c.lt_le q)
   have lo2:∀ v,a.toList[i]?=some v->∀ y ∈ b.toList.drop (j + 1 + k2),le lt v y:=by
    intro v ev y hy;rw [e5] at ev;cases ev;obtain ⟨n,hn,ey⟩:=List.mem_drop_iff_getElem.mp hy;have q:=q3 (k2 + n) [2] [2];rw [getD_some (x:=y) (by rw [show j + 1 + (k2 + n)=j + 1 + k2 + n by omega,getElem?_eq_getElem [2]]; exact congrArg some ey)] at q;exact q
   refine zb0 (λ kp=>?_) λ kp=>?_
   ·rw [<- sj3,<- toList_append] at mk;refine zb0 (λ zz=>?_) λ zz=>?_
    ·exact wpS_pure ⟨s3,doneB mk (Nat.le_of_eq (eq_of_beq zz).symm)⟩
    ·have zz':j + 1 + k2 ≠ b.size:=λ e=>zz (beq_iff_eq.mpr e);exact nxA x _ _ _ _ _ _ _ s3 mk h1 [2] [2] lo2
   ·have k0:k2=0:=by omega
    subst k0;exact nxA x _ _ _ _ _ _ _ s3 m' h1 [2] [2] lo2
 refine zb0 (λ z1=>?_) λ z1=>?_
 ·exact wpS_pure (h _ _ ⟨o,rfl,rfl⟩ (doneB m0 (by have:=eq_of_beq z1; omega)))
 refine zb0 (λ z2=>?_) λ z2=>?_
 ·exact wpS_pure (h _ _ ⟨o,rfl,rfl⟩ (lastA m0 (eq_of_beq z2)))
 have n1:b.size ≠ 1:=λ e=>z1 (beq_iff_eq.mpr e.symm);have n2:a.size ≠ 1:=λ e=>z2 (beq_iff_eq.mpr e.symm);refine wpS_bind (wpS_get ?_)
 refine wpS_bind (wpS_mono (wpS_forRange (λ x (r:Option (Array Keyed) × Array Keyed × Nat × Nat × Nat) st'=>Same κ st st' /\ r.1=none /\ Mid lt a.toList b.toList (x + 1) none r.2.1 r.2.2.1 r.2.2.2.1)
  (Q:=λ (r:Option (Array Keyed) × Array Keyed × Nat × Nat × Nat) st'=>Same κ st st' /\ ∃ z,r.1=some z /\ Fin lt a.toList b.toList z.toList) ?_ ?_ ⟨⟨o,rfl,rfl⟩,rfl,m0,by show 0 + 1 < _; omega,by show 1 < _; omega,Nat.le_refl 1⟩) ?_)
 ·intro x r st1 _ hx h;revert r st1;refine n5 (λ _ _ h=>h.2.1) λ out ia ib mg st1 h=>?_;dsimp only
  refine wpS_bind (wpS_mono (wpS_forRange (λ y (r:Option (Array Keyed) × Array Keyed × Nat × Nat × Nat × Nat) st'=>Same κ st st' /\ r.1=none /\ Mid lt a.toList b.toList (x + 1 + y) none r.2.1 r.2.2.1 r.2.2.2.1)
   (Q:=λ (r:Option (Array Keyed) × Array Keyed × Nat × Nat × Nat × Nat) st'=>Same κ st st' /\ Mid lt a.toList b.toList (x + 2) r.1 r.2.1 r.2.2.1 r.2.2.2.1) ?_ ?_ ⟨h.1,rfl,h.2.2⟩) ?_)
  ·intro y r st2 _ hy h;revert r st2;refine n5 (λ _ _ h=>h.2.1) λ out ia ib z st2 h=>?_;obtain ⟨ac,bc⟩:=z;have s2:=h.1;have ⟨m,i1,i2,i3⟩:=h.2.2;dsimp only at m i1 i2 i3 ⊢;refine at_k (a:=b) i2 λ vb e1 e2 e3=>?_;refine at_k (a:=a) (i:=ia) [2] λ va e4 e5 e6=>?_;refine wpS_bind (vb0 e1 (wpS_bind (vb0 e4 (wpS_bind (tt1 c s2.ok (mb _ e3) (ma _ e6) ?_)))));cases q:lt vb va with
   | true =>
    dsimp only;rw [if_pos rfl];refine wpS_bind (vb0 e1 ?_);have m':=m.b sb e2 (dn sa e5 vb (c.lt_le q));rw [<- toList_push] at m';refine zb0 (λ z=>?_) λ z=>?_
    ·exact wpS_pure ⟨s2,doneB m' (Nat.le_of_eq (eq_of_beq z).symm)⟩
    ·have z':ib + 1 ≠ b.size:=λ e=>z (beq_iff_eq.mpr e);refine zb0 (λ y1=>?_) λ y1=>?_
     ·exact wpS_pure ⟨s2,m',i1,by show ib + 1 < _; omega,by show _<=ia + (ib + 1); omega⟩
     ·exact wpS_pure ⟨s2,rfl,m',i1,by show ib + 1 < _; omega,by show _<=ia + (ib + 1); omega⟩
   | false =>
    dsimp only;rw [if_neg [10]];refine wpS_bind (vb0 e4 ?_);have m':=m.a sa e5 (dn sb e2 va q);rw [<- toList_push] at m';refine zb0 (λ z=>?_) λ z=>?_
    ·exact wpS_pure ⟨s2,lastA m' (eq_of_beq z)⟩
    ·have z':ia + 1 + 1 ≠ a.size:=λ e=>z (beq_iff_eq.mpr e);refine zb0 (λ y1=>?_) λ y1=>?_
     ·exact wpS_pure ⟨s2,m',by show ia + 1 + 1 < _; omega,i2,by show _<=ia + 1 + ib; omega⟩
     ·exact wpS_pure ⟨s2,rfl,m',by show ia + 1 + 1 < _; omega,i2,by show _<=ia + 1 + ib; omega⟩
  ·rintro ⟨r,out,ia,ib,ac,bc⟩ st2 ⟨s2,rfl,m,i1,i2,i3⟩;exact ⟨s2,m,i1,i2,by omega⟩
  ·refine d5 λ r out ia ib z st2 h=>?_;dsimp only;cases r with
   | some z=>exact wpS_pure ⟨h.1,z,rfl,h.2⟩
   | none =>
    dsimp only;refine wpS_bind (wpS_lift (wpAny_rule ⟨rfl,?_⟩))
    refine wpS_bind (wpS_mono (wpS_forRange (λ y (r:Option (Array Keyed) × Array Keyed × Nat × Nat × Nat × Nat × Nat) st'=>Same κ st st' /\ r.1=none /\ Mid lt a.toList b.toList (x + 2) none r.2.1 r.2.2.1 r.2.2.2.1)
     (Q:=λ (r:Option (Array Keyed) × Array Keyed × Nat × Nat × Nat × Nat × Nat) st'=>Same κ st st' /\ Mid lt a.toList b.toList (x + 2) r.1 r.2.1 r.2.2.1 r.2.2.2.1) ?_ ?_ ⟨h.1,rfl,h.2⟩) ?_)
    ·intro y r st3 _ hy h;revert r st3;refine n5 (λ _ _ h=>h.2.1) λ out ia ib z st3 h=>?_;obtain ⟨mg,ac,bc⟩:=z;have s3:=h.1;have ⟨m,i1,i2,i3⟩:=h.2.2;dsimp only at m i1 i2 i3 ⊢;have s3':∀ g:Nat,Same κ st (SortSt.mk' (kindOf st3) (arrOf st3) (pendingOf st3) g (failedOf st3)):=λ g=>⟨⟨s3.ok.kd,s3.ok.fl⟩,s3.ar,s3.pe⟩;refine at_k (a:=b) i2 λ vb e1 e2 e3=>?_;clear h;revert mg;refine xq2 (λ _=>rfl) λ mg=>?_;refine wpS_bind (wpS_modify ?_);refine wpS_bind (vb0 e1 ?_);refine wpS_bind (zq0 c (s3' _).ok (byF c ma [2] (mb _ e3) sa) [2] λ k k1 k2 k3=>?_);dsimp only
     have mk:=m.as sa k [2] λ i y hi ey=>dn sb e2 y (by
      have q:=k2 i hi;rw [getD_some ey] at q;exact (by simpa using q:lt vb y=false))
     have lo:∀ y ∈ a.toList.drop (ia + k),le lt vb y:=by
      intro y hy;obtain ⟨i,hi,ey⟩:=List.mem_drop_iff_getElem.mp hy;have q:=k3 (k + i) [2] [2];rw [getD_some (x:=y) (by rw [show ia + (k + i)=ia + k + i by omega,getElem?_eq_getElem [2]]; exact congrArg some ey)] at q;exact c.lt_le (by simpa using q)
     refine zb0 (λ kp=>?_) λ kp=>?_
     ·have mk':=mk;rw [<- sj3,<- toList_append] at mk';refine zb0 (λ z=>?_) λ z=>?_
      ·exact wpS_pure ⟨s3' _,lastA mk' (eq_of_beq z)⟩
      ·have z':ia + k + 1 ≠ a.size:=λ e=>z (beq_iff_eq.mpr e);refine zb0 (λ zz=>?_) λ zz=>?_
       ·exact wpS_pure ⟨s3' _,doneA mk' (Nat.le_of_eq (eq_of_beq zz).symm)⟩
       ·have zz':ia + k ≠ a.size:=λ e=>zz (beq_iff_eq.mpr e);refine wpS_mono (nxB x k bc _ _ (s3' _) mk' [2] i2 [2] e1 e2 lo _ ?_) ?_
        ·intro _ _ _; rfl
        ·intro r st' q; cases r <;> exact q
     ·have k0:k=0:=by omega
      subst k0;rw [take_zero,append_nil] at mk;refine wpS_mono (nxB x 0 bc _ _ (s3' _) m [2] i2 [2] e1 e2 lo _ ?_) ?_
      ·intro _ _ _; rfl
      ·intro r st' q; cases r <;> exact q
    ·rintro ⟨r,out,ia,ib,mg,ac,bc⟩ st3 ⟨s3,rfl,m,i1,i2,i3⟩;exact ⟨s3,m,i1,i2,i3⟩
    ·refine d5 λ r out ia ib z st3 h=>?_;dsimp only;cases r with
     | some z=>exact wpS_pure ⟨h.1,z,rfl,h.2⟩
     | none =>
      dsimp only;exact wpS_bind (wpS_modify (wpS_pure ⟨⟨⟨h.1.ok.kd,h.1.ok.fl⟩,h.1.ar,h.1.pe⟩,rfl,h.2⟩))
 ·rintro ⟨r,out,ia,ib,mg⟩ st1 ⟨s1,rfl,m,i1,i2,i3⟩;exfalso;dsimp only at i1 i2 i3;omega
 ·rintro ⟨r,out,ia,ib,mg⟩ st1 ⟨s1,z,e,f⟩;dsimp only at e ⊢;subst e;exact wpS_pure (h z st1 s1 f)
end
noncomputable def mhi:Array Keyed->Array Keyed->StateT SortSt Sem (Array Keyed):=sortPriv% PySem.Builtin.mergeHi
variable {ro:List Keyed} {nb na:Nat}
section
variable {lt:Keyed->Keyed->Bool}
theorem uc0 {α:Type} {l:List α} {x:α} (h:l[i]?=some x):l.take (i + 1)=l.take i ++ [x]:=by rw [List.take_succ,h]; rfl
theorem zh1 {α:Type} {l:List α} {x:α} (h:l[i]?=some x) (hi:i < n):x ∈ l.take n:=List.mem_iff_getElem?.mpr ⟨i,by simp_all⟩
structure MH (lt:Keyed->Keyed->Bool) (la lb ro:List Keyed) (na nb:Nat):Prop where
 so:ro.Pairwise (le lt)
 xa:∀ x ∈ la.take na,∀ y ∈ ro,le lt x y
 xb:∀ x ∈ lb.take nb,∀ y ∈ ro,le lt x y
 pm:(la.take na ++ (lb.take nb ++ ro)).Perm (la ++ lb)
theorem ux2 {l:List Keyed} (h:l.Pairwise (le lt)) (e:l[n]?=some x):∀ z ∈ l.take n,le lt z x:=by
 intro z hz;obtain ⟨i,hi,ez⟩:=List.mem_take_iff_getElem.mp hz;exact zk0 h [2] (List.getElem?_eq_some_iff.mpr ⟨by omega,ez⟩) e
theorem MH.a (m:MH lt la lb ro (n + 1) nb) (sa:la.Pairwise (le lt)) (e:la[n]?=some x) (k:∀ y ∈ lb.take nb,le lt y x):MH lt la lb (x :: ro) n nb:=by
 have d:=uc0 e;refine ⟨List.pairwise_cons.mpr ⟨λ y hy=>m.xa x (zh1 e [2]) y hy,m.so⟩,λ z hz y hy=>?_,λ z hz y hy=>?_,?_⟩
 ·rcases List.mem_cons.mp hy with rfl | hy
  ·exact ux2 sa e z hz
  ·exact m.xa z [16] y hy
 ·rcases List.mem_cons.mp hy with rfl | hy
  ·exact k z hz
  ·exact m.xb z hz y hy
 ·refine .trans ?_ m.pm;rw [d,append_assoc];refine List.Perm.append_left _ ?_;simp
theorem MH.b (m:MH lt la lb ro na (n + 1)) (sb:lb.Pairwise (le lt)) (e:lb[n]?=some x) (k:∀ y ∈ la.take na,le lt y x):MH lt la lb (x :: ro) na n:=by
 have d:=uc0 e;refine ⟨List.pairwise_cons.mpr ⟨λ y hy=>m.xb x (zh1 e [2]) y hy,m.so⟩,λ z hz y hy=>?_,λ z hz y hy=>?_,?_⟩
 ·rcases List.mem_cons.mp hy with rfl | hy
  ·exact k z hz
  ·exact m.xa z hz y hy
 ·rcases List.mem_cons.mp hy with rfl | hy
  ·exact ux2 sb e z hz
  ·exact m.xb z [16] y hy
 ·have p:=m.pm
  simp_all
theorem MH.as {la lb:List Keyed} {nb:Nat} (sa:la.Pairwise (le lt)) {at_:Nat}:∀ (k:Nat) {ro:List Keyed},MH lt la lb ro (at_ + k) nb->at_ + k<=la.length->(∀ i x,at_<=i->i < at_ + k->la[i]?=some x->∀ y ∈ lb.take nb,le lt y x)->MH lt la lb ((la.take (at_ + k)).drop at_ ++ ro) at_ nb
 | 0,ro,m,_,_=>by
  simp_all
 | k + 1,ro,m,h,q=>by
  have e:la[at_ + k]?=some la[at_ + k]:=getElem?_eq_getElem [2];have m2:=MH.a (n:=at_ + k) m sa e (q _ _ [2] [2] e);have r:=MH.as sa k m2 [2] λ i x h1 h2=>q i x h1 [2]
  have e2:(la.take (at_ + (k + 1))).drop at_=(la.take (at_ + k)).drop at_ ++ [la[at_ + k]]:=by
   rw [show at_ + (k + 1)=at_ + k + 1 from rfl,uc0 e,List.drop_append_of_le_length [8]]
  simp_all
theorem MH.bs {la lb:List Keyed} {na:Nat} (sb:lb.Pairwise (le lt)) {at_:Nat}:∀ (k:Nat) {ro:List Keyed},MH lt la lb ro na (at_ + k)->at_ + k<=lb.length->(∀ i x,at_<=i->i < at_ + k->lb[i]?=some x->∀ y ∈ la.take na,le lt y x)->MH lt la lb ((lb.take (at_ + k)).drop at_ ++ ro) na at_
 | 0,ro,m,_,_=>by
  simp_all
 | k + 1,ro,m,h,q=>by
  have e:lb[at_ + k]?=some lb[at_ + k]:=getElem?_eq_getElem [2];have m2:=MH.b (n:=at_ + k) m sb e (q _ _ [2] [2] e);have r:=MH.bs sb k m2 [2] λ i x h1 h2=>q i x h1 [2]
  have e2:(lb.take (at_ + (k + 1))).drop at_=(lb.take (at_ + k)).drop at_ ++ [lb[at_ + k]]:=by
   rw [show at_ + (k + 1)=at_ + k + 1 from rfl,uc0 e,List.drop_append_of_le_length [8]]
  simp_all
theorem MH.endA (m:MH lt la lb ro 0 nb) (sb:lb.Pairwise (le lt)):Fin lt la lb (la.take 0 ++ lb.take nb ++ ro):=by
 have p:=m.pm;rw [take_zero,nil_append] at p ⊢;exact ⟨p,List.pairwise_append.mpr ⟨sb.sublist (take_sublist _ _),m.so,m.xb⟩⟩
theorem MH.endB (m:MH lt la lb ro na 0) (sa:la.Pairwise (le lt)):Fin lt la lb (la.take na ++ lb.take 0 ++ ro):=by
 have p:=m.pm;rw [take_zero,nil_append] at p;rw [take_zero,append_nil];exact ⟨p,List.pairwise_append.mpr ⟨sa.sublist (take_sublist _ _),m.so,m.xa⟩⟩
theorem MH.first (m:MH lt la lb ro na 1) (sa:la.Pairwise (le lt)) (hb:0 < lb.length) (k:∀ x,lb[0]?=some x->∀ y ∈ la,le lt x y):Fin lt la lb (lb.take 1 ++ la.take na ++ ro):=by
 have e:lb[0]?=some lb[0]:=getElem?_eq_getElem hb;have d:=uc0 e;rw [take_zero,nil_append] at d;refine ⟨?_,?_⟩
 ·refine .trans ?_ m.pm;rw [<- append_assoc];exact List.Perm.append_right _ perm_append_comm
 ·refine List.pairwise_append.mpr ⟨List.pairwise_append.mpr ⟨?_,sa.sublist (take_sublist _ _),λ x hx y hy=>?_⟩,m.so,λ x hx y hy=>?_⟩
  ·simp_all
  ·rw [d,mem_singleton] at hx;subst hx;exact k _ e y (mem_of_mem_take hy)
  ·rcases List.mem_append.mp hx with hx | hx
   ·exact m.xb x hx y hy
   ·exact m.xa x hx y hy
noncomputable def MidH (lt:Keyed->Keyed->Bool) (la lb:List Keyed) (n:Nat) (r:Option (Array Keyed)) (na nb:Nat) (out:Array Keyed):Prop:=match r with
 | some z=>Fin lt la lb z.toList
 | none=>MH lt la lb out.toList.reverse na nb /\ 0 < na /\ na<=la.length /\ 1 < nb /\ nb<=lb.length /\ na + nb + n<=la.length + lb.length
end
theorem ext0 (a:Array Keyed) (n:Nat):(a.extract 0 n).toList=a.toList.take n:=by
 simp
theorem uj3 (a:Array Keyed) (i n:Nat):(a.extract i n).toList=(a.toList.take n).drop i:=by
 rw [Array.toList_extract,List.extract_eq_drop_take,List.drop_take]
theorem ym0 (u:Array Keyed) (v:Keyed):(u.push v).toList.reverse=v :: u.toList.reverse:=by simp
theorem zq1 (u t:Array Keyed):(u ++ t.reverse).toList.reverse=t.toList ++ u.toList.reverse:=by simp
noncomputable abbrev GH:=Option (Array Keyed) × Nat × Nat × Array Keyed × Nat × Nat × Nat
noncomputable def PstH (κ:SortKind) (lt:Keyed->Keyed->Bool) (a b:Array Keyed) (st:SortSt) (x:Nat):ForInStep GH->SortSt->Prop:=λ r st'=>match r with
 | .done c'=>Same κ st st' /\ MidH lt a.toList b.toList (x + 2) c'.1 c'.2.1 c'.2.2.1 c'.2.2.2.1
 | .yield c'=>Same κ st st' /\ c'.1=none /\ MidH lt a.toList b.toList (x + 2) none c'.2.1 c'.2.2.1 c'.2.2.2.1
noncomputable def galH (a b:Array Keyed) (k1 t:Nat) (u:Array Keyed) (i j g:Nat):StateT SortSt Sem (ForInStep GH) :=
 let nx:Nat->Array Keyed->StateT SortSt Sem (ForInStep GH):=λ m u=>elem' a (i - 1) >>= λ v =>
  if (i - 1 == 0)=true then pure (.done (some (a.extract 0 (i - 1) ++ b.extract 0 m ++ (u.push v).reverse),i - 1,m,u.push v,g,k1,j - t))
  else if (decide (k1 < 7) && decide (j - t < 7))=true then pure (.done (none,i - 1,m,u.push v,g,k1,j - t)) else pure (.yield (none,i - 1,m,u.push v,g,k1,j - t))
 if j - t > 0 then (if (t == 1)=true then pure (.done (some (b.extract 0 t ++ a.extract 0 i ++ (u ++ (b.extract t j).reverse).reverse),i,t,u ++ (b.extract t j).reverse,g,k1,j - t))
  else if (t == 0)=true then pure (.done (some (a.extract 0 i ++ b.extract 0 t ++ (u ++ (b.extract t j).reverse).reverse),i,t,u ++ (b.extract t j).reverse,g,k1,j - t)) else nx t (u ++ (b.extract t j).reverse)) else nx j u
section
variable {lt:Keyed->Keyed->Bool} 
theorem yp4 (c:[30]) {a b:Array Keyed} {st:SortSt} {Q:Array Keyed->SortSt->Prop} (o:Ok κ st) (ma:∀ x ∈ a.toList,M x) (mb:∀ x ∈ b.toList,M x) (sa:a.toList.Pairwise (le lt)) (sb:b.toList.Pairwise (le lt))
    (na:0 < a.toList.length) (nb:0 < b.toList.length) (h0:∀ x y,b.toList[0]?=some x->a.toList[0]?=some y->le lt x y) (hl:∀ x,a.toList[a.toList.length - 1]?=some x->∀ y ∈ b.toList,le lt y x)
    (h:∀ r st',Same κ st st'->Fin lt a.toList b.toList r.toList->Q r st'):wpS [3] A E s (mhi a b) Q st:=by
 refine wpS_bind (wpS_lift (wpAny_rule ⟨rfl,?_⟩));have sza:a.toList.length=a.size:=length_toList;have szb:b.toList.length=b.size:=length_toList;refine at_k (a:=a) (i:=a.size - 1) [2] λ vl el el' hvl=>?_;refine wpS_bind (vb0 el ?_);dsimp only;refine at_k (a:=a) na λ a0 ea ea' ha0=>?_
 have up:∀ {l:List Keyed} {x:Keyed} {n:Nat},l.Pairwise (le lt)->l[n]?=some x->∀ z,le lt x z->∀ y ∈ l.take (n + 1),le lt y z:=by
  intro l x n sl e z hz y hy;rw [uc0 e] at hy;rcases List.mem_append.mp hy with hy | hy
  ·exact c.le_tr (ux2 sl e y hy) hz
  simp_all
 have fb:∀ x,b.toList[0]?=some x->∀ y ∈ a.toList,le lt x y:=by
  intro x ex y hy;obtain ⟨i,hi,rfl⟩:=List.mem_iff_getElem.mp hy;have e:=getElem?_eq_getElem hi;have q:=h0 x a0 ex ea';by_cases z:i=0
  ·simp_all
  ·exact c.le_tr q (zk0 sa [2] ea' e)
 have m0:MH lt a.toList b.toList #[vl].toList.reverse (a.size - 1) b.size:=by
  have m:MH lt a.toList b.toList [] (a.size - 1 + 1) b.size:=⟨List.Pairwise.nil,λ _ _ _ h=>(nomatch h),λ _ _ _ h=>(nomatch h),by
   rw [take_of_length_le [2],take_of_length_le [2],append_nil]⟩
  exact m.a sa el' λ y hy=>hl vl (by rw [sza]; exact el') y (mem_of_mem_take hy)
 have doneA:∀ {out:Array Keyed} {j:Nat} {i:Nat},MH lt a.toList b.toList out.toList.reverse i j->i=0->Fin lt a.toList b.toList (a.extract 0 i ++ b.extract 0 j ++ out.reverse).toList:=by
  intro out j i m hi;subst hi;rw [toList_append,toList_append,ext0,ext0,Array.toList_reverse];exact m.endA sb
 have doneB:∀ {out:Array Keyed} {j:Nat} {i:Nat},MH lt a.toList b.toList out.toList.reverse i j->j=0->Fin lt a.toList b.toList (a.extract 0 i ++ b.extract 0 j ++ out.reverse).toList:=by
  intro out j i m hi;subst hi;rw [toList_append,toList_append,ext0,ext0,Array.toList_reverse];exact m.endB sa
 have firstB:∀ {out:Array Keyed} {j:Nat} {i:Nat},MH lt a.toList b.toList out.toList.reverse i j->j=1->Fin lt a.toList b.toList (b.extract 0 j ++ a.extract 0 i ++ out.reverse).toList:=by
  intro out j i m hi;subst hi;rw [toList_append,toList_append,ext0,ext0,Array.toList_reverse];exact m.first sa nb fb
 have nxA:∀ (x k1 k2 g:Nat) (out:Array Keyed) (i j:Nat) (st3:SortSt),Same κ st st3->MH lt a.toList b.toList out.toList.reverse i j->0 < i->i<=a.size->1 < j->j<=b.size->i + j + (x + 1)<=a.size + b.size->(∀ v,a.toList[i - 1]?=some v->∀ y ∈ b.toList.take j,le lt y v) ->
     wpS [3] A E s (elem' a (i - 1) >>= λ v=>if (i - 1 == 0)=true then pure (.done (some (a.extract 0 (i - 1) ++ b.extract 0 j ++ (out.push v).reverse),i - 1,j,out.push v,g,k1,k2))
      else if (decide (k1 < 7) && decide (k2 < 7))=true then pure (.done (none,i - 1,j,out.push v,g,k1,k2)) else pure (.yield (none,i - 1,j,out.push v,g,k1,k2))) (PstH κ lt a b st x) st3:=by
  intro x k1 k2 g out i j st3 s3 m p1 p2 p3 p4 p5 hle;obtain ⟨n,rfl⟩:∃ n,i=n + 1:=⟨i - 1,by omega⟩;rw [Nat.add_sub_cancel] at hle ⊢;refine at_k (a:=a) (i:=n) [2] λ va e4 e5 e6=>?_;refine wpS_bind (vb0 e4 ?_);have m':=m.a sa e5 (hle va e5);rw [<- ym0] at m';refine zb0 (λ z=>?_) λ z=>?_
  ·exact wpS_pure ⟨s3,doneA m' (eq_of_beq z)⟩
  ·have z':n ≠ 0:=λ e=>z (beq_iff_eq.mpr e);refine zb0 (λ y1=>?_) λ y1=>?_
   ·exact wpS_pure ⟨s3,m',by show 0 < n; omega,by show n<=_; omega,p3,by show j<=_; omega,by simp_all;omega⟩
   ·exact wpS_pure ⟨s3,rfl,m',by show 0 < n; omega,by show n<=_; omega,p3,by show j<=_; omega,by simp_all;omega⟩
 have nxB:∀ (x k bc g:Nat) (out:Array Keyed) {i j:Nat} {st3:SortSt} {vb:Keyed},Same κ st st3->MH lt a.toList b.toList out.toList.reverse i j->0 < i->i<=a.size->1 < j->j<=b.size->i + j + (x + 2)<=a.size + b.size->b[j - 1]?=some vb->b.toList[j - 1]?=some vb->(∀ y ∈ a.toList.take i,le lt y vb) ->
     ∀ (G:Keyed->Keyed->Option Nat->StateT SortSt Sem (ForInStep GH)),(∀ v y t,G v y (some t)=galH a b k t (out.push v) i (j - 1) g) ->
     wpS [3] A E s (elem' b (j - 1) >>= λ v=>if (j - 1 == 1)=true then pure (.done (some (b.extract 0 (j - 1) ++ a.extract 0 i ++ (out.push v).reverse),i,j - 1,out.push v,g,k,bc))
      else elem' a (i - 1) >>= λ y=>gal true y b 0 (j - 1) (j - 1 - 1) >>= G v y) (PstH κ lt a b st x) st3:=by
  intro x k bc g out i j st3 vb s3 m p1 p2 p3 p4 p5 e1 e2 lo G hG;obtain ⟨n,rfl⟩:∃ n,j=n + 1:=⟨j - 1,by omega⟩;rw [Nat.add_sub_cancel] at e1 e2 ⊢;refine wpS_bind (vb0 e1 ?_);have m':=m.b sb e2 lo;rw [<- ym0] at m';refine zb0 (λ z=>?_) λ z=>?_
  ·exact wpS_pure ⟨s3,firstB m' (eq_of_beq z)⟩
  ·have z':n ≠ 1:=λ e=>z (beq_iff_eq.mpr e);refine at_k (a:=a) (i:=i - 1) [2] λ va e4 e5 e6=>?_;refine wpS_bind (vb0 e4 ?_);refine wpS_bind (zq0 c s3.ok (byT c mb [2] (ma _ e6) sb) [2] λ t q1 q2 q3=>?_);rw [hG,Nat.add_sub_cancel];unfold galH;dsimp only;obtain ⟨k2,rfl⟩:∃ k2,n=t + k2:=⟨n - t,by omega⟩
   have mk:=MH.bs sb k2 m' [2] λ ii y h1 h2 ey=>by
    have q:=q3 ii h1 h2;rw [getD_some (x:=y) [16]] at q;have u:=up sa e5 y q;rw [show i - 1 + 1=i by omega] at u;exact u
   have lo2:∀ v,a.toList[i - 1]?=some v->∀ y ∈ b.toList.take t,le lt y v:=by
    intro v ev y hy;rw [e5] at ev;cases ev;obtain ⟨ii,hi,ey⟩:=List.mem_take_iff_getElem.mp hy;have q:=q2 ii [2];rw [getD_some (x:=y) (by rw [Nat.zero_add]; exact List.getElem?_eq_some_iff.mpr ⟨by omega,ey⟩)] at q;exact c.lt_le q
   refine zb0 (λ kp=>?_) λ kp=>?_
   ·rw [<- uj3,<- zq1] at mk;refine zb0 (λ zz=>?_) λ zz=>?_
    ·exact wpS_pure ⟨s3,firstB mk (eq_of_beq zz)⟩
    ·have zz':t ≠ 1:=λ e=>zz (beq_iff_eq.mpr e);refine zb0 (λ zy=>?_) λ zy=>?_
     ·exact wpS_pure ⟨s3,doneB mk (eq_of_beq zy)⟩
     ·have zy':t ≠ 0:=λ e=>zy (beq_iff_eq.mpr e);exact nxA x _ _ _ _ _ _ _ s3 mk p1 p2 [2] [2] [2] lo2
   ·have k0:k2=0:=by omega
    subst k0;exact nxA x _ _ _ _ _ _ _ s3 m' p1 p2 [2] [2] [2] lo2
 refine zb0 (λ z1=>?_) λ z1=>?_
 ·exact wpS_pure (h _ _ ⟨o,rfl,rfl⟩ (doneA m0 (eq_of_beq z1)))
 refine zb0 (λ z2=>?_) λ z2=>?_
 ·exact wpS_pure (h _ _ ⟨o,rfl,rfl⟩ (firstB m0 (eq_of_beq z2)))
 have n1:b.size ≠ 1:=λ e=>z2 (beq_iff_eq.mpr e);have n2:a.size - 1 ≠ 0:=λ e=>z1 (beq_iff_eq.mpr e);refine wpS_bind (wpS_get ?_)
 refine wpS_bind (wpS_mono (wpS_forRange (λ x (r:Option (Array Keyed) × Nat × Nat × Array Keyed × Nat) st'=>Same κ st st' /\ r.1=none /\ MidH lt a.toList b.toList (x + 1) none r.2.1 r.2.2.1 r.2.2.2.1)
  (Q:=λ (r:Option (Array Keyed) × Nat × Nat × Array Keyed × Nat) st'=>Same κ st st' /\ ∃ z,r.1=some z /\ Fin lt a.toList b.toList z.toList) ?_ ?_ ⟨⟨o,rfl,rfl⟩,rfl,m0,by show 0 < a.size - 1; omega,by simp,by show 1 < b.size; omega,by simp,by show a.size - 1 + b.size + (0 + 1)<=_; omega⟩) ?_)
 ·intro x r st1 _ hx h;revert r st1;refine n5 (λ _ _ h=>h.2.1) λ i j out mg st1 h=>?_;dsimp only
  refine wpS_bind (wpS_mono (wpS_forRange (λ y (r:Option (Array Keyed) × Nat × Nat × Array Keyed × Nat × Nat) st'=>Same κ st st' /\ r.1=none /\ MidH lt a.toList b.toList (x + 1 + y) none r.2.1 r.2.2.1 r.2.2.2.1)
   (Q:=λ (r:Option (Array Keyed) × Nat × Nat × Array Keyed × Nat × Nat) st'=>Same κ st st' /\ MidH lt a.toList b.toList (x + 2) r.1 r.2.1 r.2.2.1 r.2.2.2.1) ?_ ?_ ⟨h.1,rfl,h.2.2⟩) ?_)
  ·intro y r st2 _ hy h;revert r st2;refine n5 (λ _ _ h=>h.2.1) λ i j out z0 st2 h=>?_;obtain ⟨ac,bc⟩:=z0;have s2:=h.1;have ⟨m,p1,p2,p3,p4,p5⟩:=h.2.2;clear h;dsimp only at m p1 p2 p3 p4 p5 ⊢;obtain ⟨n,rfl⟩:∃ n,i=n + 1:=⟨i - 1,by omega⟩;obtain ⟨l,rfl⟩:∃ l,j=l + 1:=⟨j - 1,by omega⟩;simp only [Nat.add_sub_cancel];refine at_k (a:=b) (i:=l) [2] λ vb e1 e2 e3=>?_;refine at_k (a:=a) (i:=n) [2] λ va e4 e5 e6=>?_;refine wpS_bind (vb0 e1 (wpS_bind (vb0 e4 (wpS_bind (tt1 c s2.ok (mb _ e3) (ma _ e6) ?_)))));cases q:lt vb va with
   | true =>
    dsimp only;rw [if_pos rfl];refine wpS_bind (vb0 e4 ?_);have m':=m.a sa e5 (up sb e2 va (c.lt_le q));rw [<- ym0] at m';refine zb0 (λ z=>?_) λ z=>?_
    ·exact wpS_pure ⟨s2,doneA m' (eq_of_beq z)⟩
    ·have z':n ≠ 0:=λ e=>z (beq_iff_eq.mpr e);refine zb0 (λ y1=>?_) λ y1=>?_
     ·exact wpS_pure ⟨s2,m',by show 0 < n; omega,by show n<=_; omega,p3,p4,by show n + (l + 1) + (x + 2)<=_; omega⟩
     ·exact wpS_pure ⟨s2,rfl,m',by show 0 < n; omega,by show n<=_; omega,p3,p4,by show n + (l + 1) + (x + 1 + (y + 1))<=_; omega⟩
   | false =>
    dsimp only;rw [if_neg [10]];refine wpS_bind (vb0 e1 ?_);have m':=m.b sb e2 (up sa e5 vb q);rw [<- ym0] at m';refine zb0 (λ z=>?_) λ z=>?_
    ·exact wpS_pure ⟨s2,firstB m' (eq_of_beq z)⟩
    ·have z':l ≠ 1:=λ e=>z (beq_iff_eq.mpr e);refine zb0 (λ y1=>?_) λ y1=>?_
     ·exact wpS_pure ⟨s2,m',p1,p2,by show 1 < l; omega,by show l<=_; omega,by show n + 1 + l + (x + 2)<=_; omega⟩
     ·exact wpS_pure ⟨s2,rfl,m',p1,p2,by show 1 < l; omega,by show l<=_; omega,by show n + 1 + l + (x + 1 + (y + 1))<=_; omega⟩
  ·rintro ⟨r,i,j,out,ac,bc⟩ st2 ⟨s2,rfl,m,p1,p2,p3,p4,p5⟩;omega
  ·refine d5 λ r i j out z0 st2 h=>?_;dsimp only;cases r with
   | some z=>exact wpS_pure ⟨h.1,z,rfl,h.2⟩
   | none =>
    dsimp only;refine wpS_bind (wpS_lift (wpAny_rule ⟨rfl,?_⟩))
    refine wpS_bind (wpS_mono (wpS_forRange (λ y (r:Option (Array Keyed) × Nat × Nat × Array Keyed × Nat × Nat × Nat) st'=>Same κ st st' /\ r.1=none /\ MidH lt a.toList b.toList (x + 2) none r.2.1 r.2.2.1 r.2.2.2.1)
     (Q:=λ (r:Option (Array Keyed) × Nat × Nat × Array Keyed × Nat × Nat × Nat) st'=>Same κ st st' /\ MidH lt a.toList b.toList (x + 2) r.1 r.2.1 r.2.2.1 r.2.2.2.1) ?_ ?_ ⟨h.1,rfl,h.2⟩) ?_)
    ·intro y r st3 _ hy h;revert r st3;refine n5 (λ _ _ h=>h.2.1) λ i j out z0 st3 h=>?_;obtain ⟨mg,ac,bc⟩:=z0;have s3:=h.1;have ⟨m,p1,p2,p3,p4,p5⟩:=h.2.2;clear h;dsimp only at m p1 p2 p3 p4 p5 ⊢;have s3':∀ g:Nat,Same κ st (SortSt.mk' (kindOf st3) (arrOf st3) (pendingOf st3) g (failedOf st3)):=λ g=>⟨⟨s3.ok.kd,s3.ok.fl⟩,s3.ar,s3.pe⟩;refine at_k (a:=b) (i:=j - 1) [2] λ vb e1 e2 e3=>?_;revert mg;refine xq2 (λ _=>rfl) λ mg=>?_;refine wpS_bind (wpS_modify ?_);refine wpS_bind (vb0 e1 ?_);refine wpS_bind (zq0 c (s3' _).ok (byF c ma [2] (mb _ e3) sa) [2] λ t k1 k2 k3=>?_);dsimp only;obtain ⟨k,rfl⟩:∃ k,i=t + k:=⟨i - t,by omega⟩
     have mk:=MH.as sa k m [2] λ ii y h1 h2 ey=>by
      have q:=k3 ii h1 h2;rw [getD_some (x:=y) (by simp [*])] at q;have u:=up sb e2 y (c.lt_le (by simpa using q));rw [show j - 1 + 1=j by omega] at u;exact u
     have lo:∀ y ∈ a.toList.take t,le lt y vb:=by
      intro y hy;obtain ⟨ii,hi,ey⟩:=List.mem_take_iff_getElem.mp hy;have q:=k2 ii [2];rw [getD_some (x:=y) (by rw [Nat.zero_add]; exact List.getElem?_eq_some_iff.mpr ⟨by omega,ey⟩)] at q;exact (by simpa using q:lt vb y=false)
     refine zb0 (λ kp=>?_) λ kp=>?_
     ·rw [<- uj3,<- zq1] at mk;refine zb0 (λ z=>?_) λ z=>?_
      ·exact wpS_pure ⟨s3' _,doneA mk (eq_of_beq z)⟩
      ·have z':t ≠ 0:=λ e=>z (beq_iff_eq.mpr e);refine wpS_mono (nxB x _ bc _ _ (s3' _) mk [2] [2] p3 [2] [2] e1 e2 lo _ ?_) ?_
       ·intro _ _ _; rfl
       ·intro r st' q; cases r <;> exact q
     ·have k0:k=0:=by omega
      subst k0;refine wpS_mono (nxB x _ bc _ _ (s3' _) m [2] [2] p3 [2] [2] e1 e2 lo _ ?_) ?_
      ·intro _ _ _; rfl
      ·intro r st' q; cases r <;> exact q
    ·rintro ⟨r,i,j,out,mg,ac,bc⟩ st3 ⟨s3,rfl,m,p1,p2,p3,p4,p5⟩;trivial
    ·refine d5 λ r i j out z0 st3 h=>?_;dsimp only;cases r with
     | some z=>exact wpS_pure ⟨h.1,z,rfl,h.2⟩
     | none =>
      dsimp only;exact wpS_bind (wpS_modify (wpS_pure ⟨⟨⟨h.1.ok.kd,h.1.ok.fl⟩,h.1.ar,h.1.pe⟩,rfl,h.2⟩))
 ·rintro ⟨r,i,j,out,mg⟩ st1 ⟨s1,rfl,m,p1,p2,p3,p4,p5⟩;omega
 ·rintro ⟨r,i,j,out,mg⟩ st1 ⟨s1,z,e,f⟩;dsimp only at e ⊢;subst e;exact wpS_pure (h z st1 s1 f)
end
variable {xs:Array Keyed} {U W:List Keyed}
theorem wl2 {V:List Keyed} {j:Nat} (h:xs.toList=U ++ (V ++ W)) (hi:i=U.length) (hj:j=U.length + V.length):(mirror xs i j ((j - i) / 2)).toList=U ++ (V.reverse ++ W):=by
 have hs:xs.size=U.length + (V.length + W.length):=by rw [<- length_toList,h]; simp
 apply ext_getElem?;intro k;rw [getElem?_toList,getElem?_mirror_all [2]];simp only [<- getElem?_toList,h];by_cases c:i<=k /\ k < j
 ·rw [if_pos c,getElem?_append_right [2],getElem?_append_left [2],getElem?_append_right [2],getElem?_append_left [8],List.getElem?_reverse [2]];congr 1;omega
 ·rw [if_neg c];by_cases d:k < i
  ·clear c;rw [getElem?_append_left [2],getElem?_append_left [2]]
  ·have g:j<=k:=by omega
   clear c d;rw [getElem?_append_right [2],getElem?_append_right [2],getElem?_append_right [2],getElem?_append_right (by rw [List.length_reverse]; omega),List.length_reverse]
theorem vp2 {V:List Keyed} {j:Nat} (h:xs.toList=U ++ (V ++ x :: W)) (hi:i=U.length + V.length) (hj:j=U.length):(bubble xs i (i - j)).toList=U ++ x :: (V ++ W):=by
 have hs:xs.size=U.length + (V.length + (W.length + 1)):=by rw [<- length_toList,h]; simp
 apply ext_getElem?;intro k;rw [getElem?_toList,getElem?_bubble [2] (i - j) [2],show i - (i - j)=j by omega];simp only [<- getElem?_toList,h];by_cases c:k=j
 ·simp_all
 ·rw [if_neg c];by_cases d:j < k /\ k<=i
  ·rw [if_pos d,getElem?_append_right [2],getElem?_append_left [2],getElem?_append_right [2],show k - U.length=(k - 1 - U.length) + 1 by omega,getElem?_cons_succ,getElem?_append_left [2]]
  ·rw [if_neg d];by_cases f:k < j
   ·clear d;rw [getElem?_append_left [2],getElem?_append_left [2]]
   ·have g:i < k:=by omega
    clear c d f;rw [getElem?_append_right [2],getElem?_append_right [2],getElem?_append_right [2],show k - U.length=(k - 1 - U.length) + 1 by omega,getElem?_cons_succ,getElem?_append_right [2],show k - 1 - U.length + 1 - V.length=(k - 1 - U.length - V.length) + 1 by omega,getElem?_cons_succ]
structure At (κ:SortKind) (p:Array (Nat × Nat × Nat)) (st:SortSt) (L:List Keyed):Prop where
 ok:Ok κ st
 pe:pendingOf st=p
 ls:(arrOf st).toList=L
variable {p:Array (Nat × Nat × Nat)} {P R:List Keyed} {lo:Nat} {f:FA}
section
variable {lt:Keyed->Keyed->Bool} 
theorem xb1 (c:[30]) {st:SortSt} {L:List Keyed} {j:Nat} {Q:Option Bool->SortSt->Prop} (a:At κ p st L) (hM:∀ x ∈ L,M x) (ex:L[i]?=some x) (ey:L[j]?=some y) (h:Q (some (lt x y)) st):wpS [3] A E s (ltAt' i j) Q st:=by
 rw [ltAt'_eq];refine wpS_bind (wpS_get ?_);refine wpS_bind (vb0 (x:=x) (by rw [<- getElem?_toList,a.ls]; exact ex) (wpS_bind (vb0 (x:=y) (by rw [<- getElem?_toList,a.ls]; exact ey) ?_)));exact tt1 c a.ok (hM x (mem_of_getElem? ex)) (hM y (mem_of_getElem? ey)) h
theorem ug1 {st:SortSt} {V:List Keyed} {j:Nat} {Q:Unit->SortSt->Prop} (a:At κ p st (U ++ (V ++ W))) (hi:i=U.length) (hj:j=U.length + V.length) (h:∀ st',At κ p st' (U ++ (V.reverse ++ W))->Q () st'):wpS [3] A E s (reverseSlice' i j) Q st:=by
 rw [reverseSlice'_eq];exact wpS_modify (h _ ⟨⟨a.ok.kd,a.ok.fl⟩,a.pe,wl2 a.ls hi hj⟩)
theorem wo4 {st:SortSt} {V:List Keyed} {j:Nat} {Q:Unit->SortSt->Prop} (a:At κ p st (U ++ (V ++ x :: W))) (hi:i=U.length + V.length) (hj:j=U.length) (h:∀ st',At κ p st' (U ++ x :: (V ++ W))->Q () st'):wpS [3] A E s (moveDown' i j) Q st:=by
 rw [moveDown'_eq];exact wpS_modify (h _ ⟨⟨a.ok.kd,a.ok.fl⟩,a.pe,vp2 a.ls hi hj⟩)
noncomputable abbrev FA:=Nat->Option [44] × Nat->StateT SortSt Sem (ForInStep (Option [44] × Nat))
noncomputable def isA (lo:Nat) (f:FA):Prop:=∀ x n,f x (none,n)=(ltAt' (lo + n) (lo + n - 1) >>= λ r=>match r with
 | some true=>pure (.done (none,n))
 | some false=>pure (.yield (none,n + 1))
 | none=>pure (.done (some none,n)))
theorem zc3 (c:[30]) {l:List Keyed} (h:(l.take (n + 1)).Pairwise (le lt)) (ex:l[n]?=some x) (ey:l[n + 1]?=some y) (k:le lt x y):(l.take (n + 2)).Pairwise (le lt):=by
 rw [uc0 ey];refine List.pairwise_append.mpr ⟨h,pairwise_singleton _ _,λ z hz v hv=>?_⟩;rw [mem_singleton] at hv;subst hv;rw [uc0 ex] at h hz;rcases List.mem_append.mp hz with hz | hz
 ·exact c.le_tr ((List.pairwise_append.mp h).2.2 z hz x (List.mem_singleton.mpr rfl)) k
 simp_all
theorem sj1 (c:[30]) {st:SortSt} {n0:Nat} (hf:isA lo f) (a:At κ p st (P ++ R)) (hM:∀ x ∈ P ++ R,M x) (hlo:lo=P.length) (h1:1<=n0) (h2:n0<=R.length) (so:(R.take n0).Pairwise (le lt)) :
    wpS [3] A E s (forIn [n0:R.length] (none,n0) f) (λ r st'=>st'=st /\ r.1=none /\ n0<=r.2 /\ r.2<=R.length /\ (R.take r.2).Pairwise (le lt) /\ (r.2=R.length \/ ∃ x y,R[r.2]?=some y /\ R[r.2 - 1]?=some x /\ lt y x=true)) st:=by
 refine wpS_forRange (λ x (r:Option [44] × Nat) st'=>st'=st /\ r=(none,x) /\ n0<=x /\ x<=R.length /\ (R.take x).Pairwise (le lt)) ?_ ?_ ⟨rfl,rfl,Nat.le_refl _,h2,so⟩
 ·rintro x r st' _ hx ⟨rfl,rfl,a1,a2,a3⟩;rw [hf];obtain ⟨n,rfl⟩:∃ n,x=n + 1:=⟨x - 1,by omega⟩;have ey:R[n + 1]?=some R[n + 1]:=getElem?_eq_getElem hx;have ex:R[n]?=some R[n]:=getElem?_eq_getElem [2];refine wpS_bind (xb1 c a hM (x:=R[n + 1]) (y:=R[n]) [16] (by rw [getElem?_append_right [2],show lo + (n + 1) - 1 - P.length=n by omega]; exact ex) ?_);cases q:lt R[n + 1] R[n] with
  | true=>exact wpS_pure ⟨rfl,rfl,a1,a2,a3,.inr ⟨R[n],R[n + 1],ey,ex,q⟩⟩
  | false=>exact wpS_pure ⟨rfl,rfl,by omega,by omega,zc3 c a3 ex ey q⟩
 simp_all
theorem fin3 (c:[30]) {st:SortSt} {V:List Keyed} {N:Nat} {g:Option [44] × Nat->StateT SortSt Sem [44]} (hf:isA lo f) (hg:∀ n,g (none,n)=pure (some n)) (a:At κ p st (P ++ (V ++ W))) (hM:∀ x ∈ P ++ (V ++ W),M x) (hlo:lo=P.length)
    (hn:n=V.length) (hN:N=V.length + W.length) (h1:1<=n) (so:V.Pairwise λ x y=>le lt y x) (h:∀ m st' R,At κ p st' (P ++ R)->R.Perm (V ++ W)->1<=m->m<=N->(R.take m).Pairwise (le lt)->Q (some m) st') :
    wpS [3] A E s (reverseSlice' lo (lo + n) >>= λ _=>forIn [n:N] (none,n) f >>= g) Q st:=by
 refine wpS_bind (ug1 a hlo [2] λ st1 a1=>?_);have e:N=(V.reverse ++ W).length:=by simp_all
 have pm:(V.reverse ++ W).Perm (V ++ W):=List.Perm.append_right _ (reverse_perm V);subst e
 refine wpS_bind (wpS_mono (sj1 c hf a1 (λ x hx=>hM x (by
  simp_all)) hlo h1 [2] ?_) ?_)
 ·rw [hn,List.take_append_of_le_length [10],take_of_length_le [10]];exact List.pairwise_reverse.mpr so
 ·rintro ⟨r,m⟩ st2 ⟨rfl,rfl,b1,b2,b3,_⟩;dsimp only at b1 b2 b3 ⊢;rw [hg];exact wpS_pure (h m _ _ a1 pm [2] b2 b3)
noncomputable abbrev FD:=Nat->Option [44] × Nat × Nat->StateT SortSt Sem (ForInStep (Option [44] × Nat × Nat))
noncomputable def isD (lo:Nat) (f:FD):Prop:=∀ x n q,f x (none,n,q)=(ltAt' (lo + n) (lo + n - 1) >>= λ r=>match r with
 | some true=>if q > 0 then reverseSlice' (lo + n - (q + 1)) (lo + n) >>= λ _=>pure (.yield (none,n + 1,0)) else pure (.yield (none,n + 1,0))
 | some false=>ltAt' (lo + n - 1) (lo + n) >>= λ r=>match r with
  | some true=>pure (.done (none,n,q))
  | some false=>pure (.yield (none,n + 1,q + 1))
  | none=>pure (.done (some none,n,q))
 | none=>pure (.done (some none,n,q)))
structure Fall (κ:SortKind) (p:Array (Nat × Nat × Nat)) (lt:Keyed->Keyed->Bool) (P R:List Keyed) (st:SortSt) (n q:Nat) (X B W:List Keyed) (b:Keyed):Prop where
 at_:At κ p st (P ++ (X ++ (B ++ b :: W)))
 hn:n=X.length + B.length + 1
 hq:q=B.length
 pm:(X ++ (B ++ b :: W)).Perm R
 dn:(X ++ (B ++ [b])).Pairwise λ x y=>le lt y x
 eq:∀ x ∈ B,le lt x b /\ le lt b x
theorem Fall.low {X B:List Keyed} {st:SortSt} {q:Nat} {b:Keyed} (F:Fall κ p lt P R st n q X B W b):∀ z ∈ X ++ B,le lt b z:=by
 have d:=F.dn;rw [<- append_assoc] at d;exact λ z hz=>(List.pairwise_append.mp d).2.2 z hz b (List.mem_singleton.mpr rfl)
theorem Fall.rest {X B:List Keyed} {st:SortSt} {q:Nat} {b:Keyed} (F:Fall κ p lt P R st n q X B W b) (hx:n < R.length):∃ y W',W=y :: W':=by
 cases W with
 | cons y W'=>simp
 | nil =>
  have:=F.pm.length_eq;rw [length_append,length_append,length_cons,length_nil] at this;have:=F.hn;omega
theorem zs4 (c:[30]) {X B:List Keyed} {st:SortSt} {q:Nat} {b:Keyed} (F:Fall κ p lt P R st n q X B W b):(X ++ (B ++ [b]).reverse).Pairwise λ x y=>le lt y x:=by
 obtain ⟨d1,d2,d3⟩:=List.pairwise_append.mp F.dn;refine List.pairwise_append.mpr ⟨d1,?_,λ x hx y hy=>d3 x hx y (List.mem_reverse.mp hy)⟩
 have all:∀ x ∈ B ++ [b],le lt x b /\ le lt b x:=λ x hx=>by
  rcases List.mem_append.mp hx with h | h
  ·exact F.eq x h
  ·rw [mem_singleton] at h; subst h; exact ⟨c.rf x,c.rf x⟩
 rw [List.pairwise_reverse];exact List.Pairwise.imp_of_mem (λ {x y} hx hy _=>c.le_tr (all x hx).1 (all y hy).2) d2
theorem xp4 (c:[30]) {st:SortSt} {X:List Keyed} {n1 N:Nat} {f:FD} {g:Option [44] × Nat × Nat->StateT SortSt Sem [44]} (hf:isD lo f)
    (hg:∀ n q,∃ J,g (none,n,q)=(if q > 0 then reverseSlice' (lo + n - (q + 1)) (lo + n) >>= λ _=>J else J) /\ ∀ st' V W,At κ p st' (P ++ (V ++ W))->(V ++ W).Perm R->n=V.length->1<=n->V.Pairwise (λ x y=>le lt y x)->wpS [3] A E s J Q st') (hlo:lo=P.length) (hN:N=R.length) (hR:∀ x ∈ P,M x) (hM:∀ x ∈ R,M x) (hn:n1=X.length) (a:At κ p st (P ++ (X ++ y :: W))) (pm:(X ++ y :: W).Perm R) (dn:(X ++ [y]).Pairwise λ x y=>le lt y x) :
    wpS [3] A E s (forIn [n1 + 1:N] (none,n1 + 1,0) f >>= g) Q st:=by
 have mem:∀ {L:List Keyed},L.Perm R->∀ x ∈ P ++ L,M x:=λ e x hx=>by
  rcases List.mem_append.mp hx with h | h
  ·exact hR x h
  ·exact hM x (e.mem_iff.mp h)
 refine wpS_bind (wpS_mono (wpS_forRange (λ x (r:Option [44] × Nat × Nat) st'=>∃ q X B W b,r=(none,x,q) /\ Fall κ p lt P R st' x q X B W b) (Q:=λ (r:Option [44] × Nat × Nat) st'=>∃ n q X B W b,r=(none,n,q) /\ Fall κ p lt P R st' n q X B W b) ?_ ?_ ⟨0,X,[],W,y,rfl,⟨a,by simp [hn],rfl,pm,dn,λ _ h=>nomatch h⟩⟩) ?_)
 ·rintro x r st1 _ hx ⟨q,X,B,W,b,rfl,F⟩;obtain ⟨v,W',rfl⟩:=F.rest [2];rw [hf];have L:=F.at_;have hn':=F.hn;have hq':=F.hq
  have e1:(P ++ (X ++ (B ++ b :: v :: W')))[lo + x]?=some v:=by
   rw [getElem?_append_right [2],getElem?_append_right [2],getElem?_append_right [2],show lo + x - P.length - X.length - B.length=1 by omega]; rfl
  have e2:(P ++ (X ++ (B ++ b :: v :: W')))[lo + x - 1]?=some b:=by
   simp_all
  refine wpS_bind (xb1 c L (mem F.pm) e1 e2 ?_);cases s1:lt v b with
  | true =>
   dsimp only
   have low:∀ z ∈ X ++ (B ++ [b]),le lt v z:=λ z hz=>by
    rw [<- append_assoc] at hz;rcases List.mem_append.mp hz with h | h
    ·exact c.le_tr (c.lt_le s1) (F.low z h)
    ·rw [mem_singleton] at h; subst h; exact c.lt_le s1
   by_cases z:q > 0
   ·rw [if_pos z];refine wpS_bind (ug1 (U:=P ++ X) (V:=B ++ [b]) (W:=v :: W') [8] [8] [8] λ st2 a2=>wpS_pure ⟨0,X ++ (B ++ [b]).reverse,[],W',v,rfl,?_⟩);refine ⟨by simp_all,by simp_all;omega,rfl,?_,?_,λ _ h=>nomatch h⟩
    ·refine .trans ?_ F.pm;rw [nil_append,append_assoc];refine List.Perm.append_left _ (.trans (List.Perm.append_right _ (reverse_perm _)) ?_);simp
    ·rw [nil_append];refine List.pairwise_append.mpr ⟨zs4 c F,pairwise_singleton _ _,λ z1 hz1 y1 hy1=>?_⟩;rw [mem_singleton] at hy1; subst hy1;refine low z1 ?_;rcases List.mem_append.mp hz1 with h | h
     ·simp_all
     ·exact mem_append_right _ (List.mem_reverse.mp h)
   ·rw [if_neg z];have b0:B=[]:=List.eq_nil_of_length_eq_zero [2];subst b0;refine wpS_pure ⟨0,X ++ [b],[],W',v,rfl,⟨by simp_all,by simp_all,rfl,by simpa [append_assoc] using F.pm,?_,λ _ h=>nomatch h⟩⟩;refine List.pairwise_append.mpr ⟨F.dn,pairwise_singleton _ _,λ z1 hz1 y1 hy1=>?_⟩
    simp_all
  | false =>
   dsimp only;refine wpS_bind (xb1 c L (mem F.pm) e2 e1 ?_);cases s2:lt b v with
   | true=>exact wpS_pure ⟨x,q,X,B,v :: W',b,rfl,F⟩
   | false =>
    refine wpS_pure ⟨q + 1,X,B ++ [b],W',v,rfl,⟨by simp_all,by simp_all;omega,by simp_all,by simpa [append_assoc] using F.pm,?_,?_⟩⟩
    ·rw [<- append_assoc];refine List.pairwise_append.mpr ⟨F.dn,pairwise_singleton _ _,λ z1 hz1 y1 hy1=>?_⟩;rw [mem_singleton] at hy1; subst hy1;rw [<- append_assoc] at hz1;rcases List.mem_append.mp hz1 with h | h
     ·exact c.le_tr s2 (F.low z1 h)
     ·rw [mem_singleton] at h; subst h; exact s2
    ·intro z hz;rcases List.mem_append.mp hz with h | h
     ·exact ⟨c.le_tr (F.eq z h).1 s1,c.le_tr s2 (F.eq z h).2⟩
     ·rw [mem_singleton] at h; subst h; exact ⟨s1,s2⟩
 ·rintro r st1 ⟨q,X,B,W,b,rfl,F⟩;exact ⟨_,q,X,B,W,b,rfl,F⟩
 ·rintro r st1 ⟨n,q,X,B,W,b,rfl,F⟩;obtain ⟨J,eJ,hJ⟩:=hg n q;rw [eJ];have hn':=F.hn;have hq':=F.hq;by_cases z:q > 0
  ·rw [if_pos z];refine wpS_bind (ug1 (U:=P ++ X) (V:=B ++ [b]) (W:=W) (by simpa [append_assoc] using F.at_) [8] [8] λ st2 a2=>?_);refine hJ st2 (X ++ (B ++ [b]).reverse) W [16] ?_ [8] [2] (zs4 c F);refine .trans ?_ F.pm;rw [append_assoc];refine List.Perm.append_left _ (.trans (List.Perm.append_right _ (reverse_perm _)) ?_);simp
  ·rw [if_neg z];exact hJ st1 (X ++ (B ++ [b])) W (by simpa [append_assoc] using F.at_) (by simpa [append_assoc] using F.pm) [16] [2] F.dn
theorem wt4 (c:[30]) {st:SortSt} (a:At κ p st (P ++ R)) (hM:∀ x ∈ P ++ R,M x) (hlo:lo=P.length) (h1:1<=R.length)
    (h:∀ m st' R',At κ p st' (P ++ R')->R'.Perm R->1<=m->m<=R.length->(R'.take m).Pairwise (le lt)->Q (some m) st'):wpS [3] A E s (countRun' lo R.length) Q st:=by
 have isa:∀ {f:FA},f=(λ x __s=>(ltAt' (lo + __s.2) (lo + __s.2 - 1) >>= λ r=>match r with
  | some b=>if b=true then pure (.done (none,__s.2)) else pure (.yield (none,__s.2 + 1))
  | x=>pure (.done (some none,__s.2))))->isA lo f:=by
  rintro f rfl x n;refine congrArg _ (funext λ r=>?_);rcases r with _ | _ | _ <;> rfl
 have r0:R[0]?=some R[0]:=getElem?_eq_getElem h1
 have fall:∀ {st1:SortSt} {X W:List Keyed} {y:Keyed},At κ p st1 (P ++ (X ++ y :: W))->(X ++ y :: W).Perm R->(X ++ [y]).Pairwise (λ x y=>le lt y x)->∀ {n1:Nat},n1=X.length->∀ {f:FD} {g:Option [44] × Nat × Nat->StateT SortSt Sem [44]},isD lo f ->
     (∀ n q,∃ (J:StateT SortSt Sem [44]) (f:FA) (g':Option [44] × Nat->StateT SortSt Sem [44]),g (none,n,q)=(if q > 0 then reverseSlice' (lo + n - (q + 1)) (lo + n) >>= λ _=>J else J) /\ isA lo f /\ (∀ n,g' (none,n)=pure (some n)) /\ J=(reverseSlice' lo (lo + n) >>= λ _=>forIn [n:R.length] (none,n) f >>= g')) ->
     wpS [3] A E s (forIn [n1 + 1:R.length] (none,n1 + 1,0) f >>= g) Q st1:=by
  intro st1 X W y a1 pm dn n1 hn f g hf hg;refine xp4 c hf (λ n q=>?_) hlo rfl (λ x hx=>hM x (mem_append_left _ hx)) (λ x hx=>hM x (mem_append_right _ hx)) hn a1 pm dn;obtain ⟨J,f,g',e1,hf,hg,e⟩:=hg n q;refine ⟨J,e1,?_⟩;intro st2 V W a2 pm2 hn2 h2 so;rw [e];have ll:=pm2.length_eq;rw [length_append] at ll;refine fin3 c hf hg a2 (λ x hx=>?_) hlo hn2 ll.symm h2 so λ m st' R' a3 pm3 m1 m2 so3=>h m st' R' a3 (pm3.trans pm2) m1 m2 so3;rcases List.mem_append.mp hx with q | q
  ·simp_all
  ·exact hM x (mem_append_right _ (pm2.mem_iff.mp q))
 refine wpS_bind (wpS_mono (sj1 c (f:=_) (isa rfl) a hM hlo (Nat.le_refl 1) h1 (by rw [uc0 r0]; simp)) ?_);rintro ⟨r,n⟩ st1 ⟨rfl,rfl,b1,b2,b3,b4⟩;dsimp only at b1 b2 b3 b4 ⊢;by_cases z:(n == R.length)=true
 ·rw [if_pos z];exact wpS_pure (h n _ R a (.refl _) b1 b2 b3)
 rw [if_neg z];have z':n ≠ R.length:=λ e=>z (beq_iff_eq.mpr e);rcases b4 with b4 | ⟨x,y,ey,ex,q⟩
 ·exact absurd b4 z'
 have d:R=R.take n ++ y :: R.drop (n + 1):=by
  have:=take_append_drop n R;rw [ve0 ey] at this;exact this.symm
 by_cases n1:n > 1
 ·rw [if_pos n1];refine wpS_bind (xb1 c a hM (x:=R[0]) (y:=x) (by rw [getElem?_append_right [2],show lo - P.length=0 by omega]; exact r0) (by rw [getElem?_append_right [2],show lo + n - 1 - P.length=n - 1 by omega]; exact ex) ?_);cases q2:lt R[0] x with
  | true=>exact wpS_pure (h n _ R a (.refl _) b1 b2 b3)
  | false =>
   dsimp only;rw [if_neg [10]]
   have all:∀ u ∈ R.take n,le lt u x /\ le lt x u:=by
    have e0:(R.take n)[0]?=some R[0]:=by rw [getElem?_take_of_lt [2]]; exact r0
    have el:(R.take n)[n - 1]?=some x:=by rw [getElem?_take_of_lt [2]]; exact ex
    intro u hu;obtain ⟨i,hi⟩:=List.mem_iff_getElem?.mp hu
    have li:i < n:=by
     have:=(List.getElem?_eq_some_iff.mp hi).1;rw [length_take] at this;omega
    constructor
    ·by_cases e:i=n - 1
     ·subst e; rw [el] at hi; cases hi; exact c.rf _
     ·exact zk0 b3 [2] hi el
    ·by_cases e:i=0
     ·subst e; rw [e0] at hi; cases hi; exact q2
     ·exact c.le_tr q2 (zk0 b3 [2] e0 hi)
   have lt1:(R.take n).length=n:=by rw [length_take]; omega
   refine wpS_bind (ug1 (U:=P) (V:=R.take n) (W:=y :: R.drop (n + 1)) (by rw [<- d]; exact a) hlo [2] λ st2 a2=>?_);refine wpS_bind (wpS_lift (wpAny_rule ⟨rfl,?_⟩));refine fall a2 ?_ ?_ (by rw [List.length_reverse]; exact lt1.symm) ?_ ?_
   ·refine .trans (List.Perm.append_right _ (reverse_perm _)) ?_;rw [<- d]
   ·refine List.pairwise_append.mpr ⟨?_,pairwise_singleton _ _,λ u hu v hv=>?_⟩
    ·rw [List.pairwise_reverse];exact b3
    ·rw [mem_singleton] at hv; subst hv;exact c.le_tr (c.lt_le q) (all u (List.mem_reverse.mp hu)).2
   ·intro x n q;refine congrArg _ (funext λ r=>?_);rcases r with _ | _ | _
    ·rfl
    ·dsimp only;rw [if_neg [10]];refine congrArg _ (funext λ r=>?_);rcases r with _ | _ | _ <;> rfl
    ·rfl
   ·intro n q;exact ⟨_,_,_,rfl,isa rfl,λ _=>rfl,rfl⟩
 ·rw [if_neg n1];have e1:n=1:=by omega
  subst e1;refine wpS_bind (wpS_lift (wpAny_rule ⟨rfl,?_⟩));have t1:=uc0 r0;rw [take_zero,nil_append] at t1;have ex0:x=R[0]:=by rw [show 1 - 1=0 from rfl,r0] at ex; cases ex; rfl
  rw [show (0:Nat) + 1=1 from rfl] at t1;rw [t1] at d;refine fall (X:=[R[0]]) (y:=y) (W:=R.drop (1 + 1)) (by rw [<- d]; exact a) (by rw [<- d]) ?_ rfl ?_ ?_
  ·refine List.pairwise_append.mpr ⟨pairwise_singleton _ _,pairwise_singleton _ _,λ u hu v hv=>?_⟩;rw [mem_singleton] at hu hv;subst hu hv;rw [<- ex0];exact c.lt_le q
  ·intro x n q;refine congrArg _ (funext λ r=>?_);rcases r with _ | _ | _
   ·rfl
   ·dsimp only;rw [if_neg [10]];refine congrArg _ (funext λ r=>?_);rcases r with _ | _ | _ <;> rfl
   ·rfl
  ·intro n q;exact ⟨_,_,_,rfl,isa rfl,λ _=>rfl,rfl⟩
end
section
variable {lt:Keyed->Keyed->Bool} 
theorem yb2 (c:[30]) {st:SortSt} {ok:Nat} {Q:Bool->SortSt->Prop} (a:At κ p st (P ++ R)) (hM:∀ x ∈ P ++ R,M x) (hlo:lo=P.length) (h1:1<=ok) (h2:ok<=n) (h3:n<=R.length) (so:(R.take ok).Pairwise (le lt))
    (h:∀ st' R',At κ p st' (P ++ R')->R'.Perm R->(R'.take n).Pairwise (le lt)->Q true st'):wpS [3] A E s (binarySort' lo n ok) Q st:=by
 refine wpS_bind (wpS_mono (wpS_forRange (λ x (r:Option Bool × Unit) st'=>r=(none,()) /\ ∃ R',At κ p st' (P ++ R') /\ R'.Perm R /\ (R'.take x).Pairwise (le lt)) (Q:=λ (r:Option Bool × Unit) st'=>r=(none,()) /\ ∃ R',At κ p st' (P ++ R') /\ R'.Perm R /\ (R'.take n).Pairwise (le lt)) ?_ ?_ ⟨rfl,R,a,.refl _,by simp_all⟩) ?_)
 ·rintro k r st1 hk0 hk ⟨rfl,R',a1,pm,so1⟩;have ll:=pm.length_eq
  have hM1:∀ x ∈ P ++ R',M x:=λ x hx=>by
   rcases List.mem_append.mp hx with q | q
   ·simp_all
   ·exact hM x (mem_append_right _ (pm.mem_iff.mp q))
  have ev:R'[k]?=some R'[k]:=getElem?_eq_getElem [2];have at':∀ {m:Nat} {x:Keyed},R'[m]?=some x->m < k->(R'.take k)[m]?=some x:=λ e l=>by simp_all
  dsimp only
  refine wpS_bind (wpS_mono (wpS_forRange (λ y (r:Option Bool × Nat × Nat) st'=>st'=st1 /\ r.1=none /\ r.2.1<=r.2.2 /\ r.2.2<=k /\ r.2.2 - r.2.1<=k - y /\ (∀ i x,i < r.2.1->R'[i]?=some x->le lt x R'[k]) /\ ∀ i x,r.2.2<=i->i < k->R'[i]?=some x->le lt R'[k] x)
   (Q:=λ (r:Option Bool × Nat × Nat) st'=>st'=st1 /\ r.1=none /\ r.2.1<=k /\ (∀ i x,i < r.2.1->R'[i]?=some x->le lt x R'[k]) /\ ∀ i x,r.2.1<=i->i < k->R'[i]?=some x->le lt R'[k] x) ?_ ?_ ⟨rfl,rfl,Nat.zero_le _,Nat.le_refl _,Nat.le_refl _,λ i x hi=>absurd hi (Nat.not_lt_zero _),λ i x h1 h2=>absurd h2 [8]⟩) ?_)
  ·rintro y ⟨r,l,u⟩ st2 _ hy ⟨rfl,rfl,b1,b2,b3,b4,b5⟩;dsimp only at b1 b2 b3 b4 b5 ⊢;by_cases z:l ≥ u
   ·rw [if_pos z];have:l=u:=by omega
    subst this;exact wpS_pure ⟨rfl,rfl,b2,b4,b5⟩
   ·rw [if_neg z];have em:R'[(l + u) / 2]?=some R'[(l + u) / 2]:=getElem?_eq_getElem [2];refine wpS_bind (xb1 c a1 hM1 (x:=R'[k]) (y:=R'[(l + u) / 2]) (by rw [getElem?_append_right [2],show lo + k - P.length=k by omega]; exact ev) (by rw [getElem?_append_right [2],show lo + (l + u) / 2 - P.length=(l + u) / 2 by omega]; exact em) ?_);cases q:lt R'[k] R'[(l + u) / 2] with
    | true =>
     refine wpS_pure ⟨rfl,rfl,by simp_all;omega,by simp_all;omega,by simp_all;omega,b4,λ i x h1 h2 ex=>?_⟩;by_cases e:i=(l + u) / 2
     ·subst e; rw [em] at ex; cases ex; exact c.lt_le q
     ·have h1':(l + u) / 2<=i:=h1;exact c.le_tr (c.lt_le q) (zk0 so1 (show (l + u) / 2 < i by omega) (at' em [2]) (at' ex h2))
    | false =>
     refine wpS_pure ⟨rfl,rfl,by simp_all;omega,b2,by simp_all;omega,λ i x h1 ex=>?_,b5⟩;have h1':i < (l + u) / 2 + 1:=h1;by_cases e:i=(l + u) / 2
     ·subst e; rw [em] at ex; cases ex; exact q
     ·exact c.le_tr (zk0 so1 (show i < (l + u) / 2 by omega) (at' ex [2]) (at' em [2])) q
  ·rintro ⟨r,l,u⟩ st2 ⟨rfl,rfl,b1,b2,b3,b4,b5⟩;dsimp only at b1 b2 b3 b4 b5 ⊢;have:l=u:=by omega
   subst this;trivial
  ·rintro ⟨r,l,u⟩ st2 ⟨rfl,rfl,b2,b4,b5⟩;dsimp only at b2 b4 b5 ⊢
   have d:R'=R'.take l ++ ((R'.take k).drop l ++ R'[k] :: R'.drop (k + 1)):=by
    have e1:=take_append_drop k R';rw [ve0 ev] at e1;have e2:=take_append_drop l (R'.take k);rw [List.take_take,show min l k=l by omega] at e2;rw [<- append_assoc,e2];exact e1.symm
   have t1:(R'.take l).length=l:=by rw [length_take]; omega
   have t2:((R'.take k).drop l).length=k - l:=by rw [length_drop,length_take]; omega
   refine wpS_bind (wo4 (U:=P ++ R'.take l) (V:=(R'.take k).drop l) (x:=R'[k]) (W:=R'.drop (k + 1)) (by rw [append_assoc,<- d]; exact a1) (by rw [length_append]; omega) (by rw [length_append]; omega) λ st3 a3=>wpS_pure ⟨rfl,R'.take l ++ R'[k] :: ((R'.take k).drop l ++ R'.drop (k + 1)),by rw [append_assoc] at a3; exact a3,?_,?_⟩)
   ·refine .trans ?_ pm
    conv=>rhs; rw [d]
    exact List.Perm.append_left _ List.perm_middle.symm
   ·have e:(R'.take l ++ R'[k] :: ((R'.take k).drop l ++ R'.drop (k + 1))).take (k + 1)=R'.take l ++ R'[k] :: (R'.take k).drop l:=by
      rw [<- List.cons_append,<- append_assoc];exact List.take_left' (by simp only [length_append,length_cons]; omega)
    rw [e]
    have m1:∀ z ∈ R'.take l,le lt z R'[k]:=λ z hz=>by
     obtain ⟨i,hi,ez⟩:=List.mem_take_iff_getElem.mp hz;exact b4 i z [2] (List.getElem?_eq_some_iff.mpr ⟨by omega,ez⟩)
    have m2:∀ z ∈ (R'.take k).drop l,le lt R'[k] z:=λ z hz=>by
     obtain ⟨i,hi,ez⟩:=List.mem_drop_iff_getElem.mp hz;have hi':i + l < k:=by rw [length_take] at hi; omega
     rw [List.getElem_take] at ez;exact b5 (l + i) z [2] [2] (List.getElem?_eq_some_iff.mpr ⟨by omega,ez⟩)
    have so2:=so1;have e2:=take_append_drop l (R'.take k);rw [List.take_take,show min l k=l by omega] at e2;rw [<- e2] at so2;obtain ⟨p1,p2,p3⟩:=List.pairwise_append.mp so2;refine List.pairwise_append.mpr ⟨p1,List.pairwise_cons.mpr ⟨m2,p2⟩,λ z hz v hv=>?_⟩;rcases List.mem_cons.mp hv with rfl | hv
    ·exact m1 z hz
    ·exact p3 z hz v hv
 ·simp_all
 ·rintro r st1 ⟨rfl,R',a1,pm,so1⟩;exact wpS_pure (h st1 R' a1 pm so1)
end
theorem wb (s:Nat):∀ (m V U W:List Keyed) (arr:Array Keyed) (o:Nat),arr.toList=U ++ (V ++ W)->V.length=m.length->U.length=s + o ->
    ((m.zipIdx o).foldl (λ (a:Array Keyed) (x:Keyed × Nat)=>match x with | (q,j)=>a.setIfInBounds (s + j) q) arr).toList=U ++ (m ++ W)
 | [],V,U,W,arr,o,h,l,_=>by
  simp_all
 | v :: m,V,U,W,arr,o,h,l,hu=>by
  cases V with
  | nil=>simp at l
  | cons u V =>
   rw [List.zipIdx_cons,foldl_cons]
   have:=wb s m V (U ++ [v]) W (arr.setIfInBounds (s + o) v) (o + 1) (by
    simp_all) (by simpa using l) (by simp; omega)
   simp_all
variable {S:List Keyed}
section
variable {lt:Keyed->Keyed->Bool} 
theorem ww2 {σ:Type} {s':σ} {Q:PUnit->σ->Prop} {st:σ} (h:Q ⟨⟩ s'):wpS Md A E s (set s':StateT σ Sem PUnit) Q st:=by
 unfold wpS; rw [StateT.run_set]; exact wpAny_pure ⟨rfl,h⟩
theorem xg1 {r:List Keyed} {b:Nat} (h:arr.toList=P ++ (r ++ S)) (hb:b=P.length) (hi:i < r.length):arr[b + i]?=some r[i]:=by
 rw [<- getElem?_toList,h,getElem?_append_right [2],getElem?_append_left [2],show b + i - P.length=i by omega];simp
theorem bsF (c:[30]) {r:List Keyed} {b:Nat} {key:Keyed} (h:arr.toList=P ++ (r ++ S)) (hb:b=P.length) (hM:∀ x ∈ r,M x) (mk:M key) (so:r.Pairwise (le lt)):By lt M false key arr b r.length (λ i=>!lt key (r.getD i key)) where
 ky:=mk
 it:=λ i hi=>⟨r[i],xg1 h hb hi,hM _ (getElem_mem hi),by simp_all⟩
 mono:=λ i j hij hj q=>by
  by_cases z:i=j
  ·subst z; exact q
  have e1:=getElem?_eq_getElem (l:=r) (i:=i) [2];have e2:=getElem?_eq_getElem hj;have l:=zk0 so (show i < j by omega) e1 e2;rw [getD_some e2] at q;rw [getD_some e1];have h':le lt r[j] key:=(by simpa using q:lt key r[j]=false);have z:lt key r[i]=false:=c.le_tr l h';simpa using z
theorem bsT (c:[30]) {r:List Keyed} {b:Nat} {key:Keyed} (h:arr.toList=P ++ (r ++ S)) (hb:b=P.length) (hM:∀ x ∈ r,M x) (mk:M key) (so:r.Pairwise (le lt)):By lt M true key arr b r.length (λ i=>lt (r.getD i key) key) where
 ky:=mk
 it:=λ i hi=>⟨r[i],xg1 h hb hi,hM _ (getElem_mem hi),by simp_all⟩
 mono:=λ i j hij hj q=>by
  by_cases z:i=j
  ·subst z; exact q
  have e1:=getElem?_eq_getElem (l:=r) (i:=i) [2];have e2:=getElem?_eq_getElem hj;have l:=zk0 so (show i < j by omega) e1 e2;rw [getD_some e2] at q;rw [getD_some e1];rcases c.ng r[j] r[i] key q with z | z
  ·rw [show lt r[j] r[i]=false from l] at z; cases z
  ·exact z
theorem zp4 (c:[30]) {st:SortSt} {r1 r2:List Keyed} {sa pw sb pw2:Nat} {Q:Bool->SortSt->Prop} (a:At κ p st (P ++ (r1 ++ (r2 ++ S)))) (hM:∀ x ∈ r1 ++ r2,M x) (e1:p[i]?=some (sa,na,pw)) (e2:p[i + 1]?=some (sb,nb,pw2)) (hsa:sa=P.length) (hna:na=r1.length) (hsb:sb=P.length + r1.length) (hnb:nb=r2.length)
    (n1:0 < r1.length) (n2:0 < r2.length) (s1:r1.Pairwise (le lt)) (s2:r2.Pairwise (le lt)) (h:∀ st' m,At κ ((p.setIfInBounds i (sa,na + nb,pw)).eraseIdxIfInBounds (i + 1)) st' (P ++ (m ++ S))->m.Perm (r1 ++ r2)->m.Pairwise (le lt)->Q true st') :
    wpS [3] A E s (mergeAt' i) Q st:=by
 refine wpS_bind (wpS_get ?_);obtain rfl:=a.pe;have ls:=a.ls;rw [e1,e2];dsimp only;have M1:∀ x ∈ r1,M x:=λ x hx=>hM x (mem_append_left _ hx);have M2:∀ x ∈ r2,M x:=λ x hx=>hM x (mem_append_right _ hx);have ls2:(arrOf st).toList=(P ++ r1) ++ (r2 ++ S):=by simp_all
 have hsb':sb=(P ++ r1).length:=by simp_all
 have k0:r2[0]?=some r2[0]:=getElem?_eq_getElem n2;have kl:r1[r1.length - 1]?=some r1[r1.length - 1]:=getElem?_eq_getElem [2]
 have fin:∀ {st':SortSt},Ok κ st'->arrOf st'=arrOf st->pendingOf st'=((pendingOf st).setIfInBounds i (sa,na + nb,pw)).eraseIdxIfInBounds (i + 1)->(∀ x ∈ r1,∀ y ∈ r2,le lt x y)->Q true st':=λ o ea ep hx =>
  h _ (r1 ++ r2) ⟨o,ep,by simp_all⟩ (.refl _) (List.pairwise_append.mpr ⟨s1,s2,hx⟩)
 refine wpS_bind (ww2 ?_);refine wpS_bind (vb0 (x:=r2[0]) (by have:=xg1 (i:=0) ls2 hsb' n2; exact this) ?_);subst hna hnb;refine wpS_bind (zq0 c ⟨a.ok.kd,a.ok.fl⟩ (bsF c ls hsa M1 (M2 _ (getElem_mem n2)) s1) n1 λ k k1 k2 k3=>?_);dsimp only
 have lowA:∀ i x,i < k->r1[i]?=some x->le lt x r2[0]:=λ i x hi ex=>by
  have q:=k2 i hi;rw [getD_some ex] at q;exact (by simpa using q:lt r2[0] x=false)
 have highA:∀ i x,k<=i->r1[i]?=some x->le lt r2[0] x:=λ i x hi ex=>by
  have q:=k3 i hi (List.getElem?_eq_some_iff.mp ex).1;rw [getD_some ex] at q;exact c.lt_le (by simpa using q)
 have first2:∀ y ∈ r2,le lt r2[0] y:=λ y hy=>by
  obtain ⟨j,hj,rfl⟩:=List.mem_iff_getElem.mp hy;by_cases z:j=0
  ·subst z; exact c.rf _
  ·exact zk0 s2 [2] k0 (getElem?_eq_getElem hj)
 have last1:∀ x ∈ r1,le lt x r1[r1.length - 1]:=λ x hx=>by
  obtain ⟨j,hj,rfl⟩:=List.mem_iff_getElem.mp hx;by_cases z:j=r1.length - 1
  ·subst z; exact c.rf _
  ·exact zk0 s1 [2] (getElem?_eq_getElem hj) kl
 by_cases z:(r1.length - k == 0)=true
 ·rw [if_pos z];have z':r1.length - k=0:=eq_of_beq z;refine wpS_pure (fin ⟨a.ok.kd,a.ok.fl⟩ rfl rfl λ x hx y hy=>?_);obtain ⟨j,hj,rfl⟩:=List.mem_iff_getElem.mp hx;exact c.le_tr (lowA j _ [2] (getElem?_eq_getElem hj)) (first2 y hy)
 rw [if_neg z];have z':r1.length - k ≠ 0:=λ e=>z (beq_iff_eq.mpr e)
 refine wpS_bind (vb0 (x:=r1[r1.length - 1]) (by
  have:=xg1 (i:=r1.length - 1) ls hsa [2];rw [show sa + k + (r1.length - k) - 1=sa + (r1.length - 1) by omega];exact this) ?_)
 refine wpS_bind (zq0 c ⟨a.ok.kd,a.ok.fl⟩ (bsT c ls2 hsb' M2 (M1 _ (getElem_mem _)) s2) [2] λ t t1 t2 t3=>?_);dsimp only
 have lowB:∀ i y,i < t->r2[i]?=some y->le lt y r1[r1.length - 1]:=λ i y hi ey=>by
  have q:=t2 i hi;rw [getD_some ey] at q;exact c.lt_le q
 have highB:∀ i y,t<=i->r2[i]?=some y->le lt r1[r1.length - 1] y:=λ i y hi ey=>by
  have q:=t3 i hi (List.getElem?_eq_some_iff.mp ey).1;rw [getD_some ey] at q;exact q
 by_cases zt:(t == 0)=true
 ·rw [if_pos zt];have zt':t=0:=eq_of_beq zt;refine wpS_pure (fin ⟨a.ok.kd,a.ok.fl⟩ rfl rfl λ x hx y hy=>?_);obtain ⟨j,hj,rfl⟩:=List.mem_iff_getElem.mp hy;exact c.le_tr (last1 x hx) (highB j _ [2] (getElem?_eq_getElem hj))
 rw [if_neg zt];have zt':t ≠ 0:=λ e=>zt (beq_iff_eq.mpr e)
 have xs:((arrOf st).extract (sa + k) sb).toList=r1.drop k:=by
  rw [uj3,ls2,List.take_append_of_le_length [2],take_of_length_le [2],List.drop_append,show sa + k - P.length=k by omega,List.drop_eq_nil_of_le [2],nil_append]
 have ys:((arrOf st).extract sb (sb + t)).toList=r2.take t:=by
  rw [sj3,ls2,List.drop_left' hsb'.symm,List.take_append_of_le_length [2]]
 have dx:∀ x ∈ r1.drop k,∃ j,k<=j /\ r1[j]?=some x:=λ x hx=>by
  obtain ⟨j,hj,rfl⟩:=List.mem_drop_iff_getElem.mp hx;exact ⟨k + j,by omega,getElem?_eq_getElem [2]⟩
 have dy:∀ y ∈ r2.take t,∃ j,j < t /\ r2[j]?=some y:=λ y hy=>by
  obtain ⟨j,hj,rfl⟩:=List.mem_take_iff_getElem.mp hy;exact ⟨j,by omega,getElem?_eq_getElem [2]⟩
 have done:∀ (mg:Array Keyed) (st2:SortSt),Same κ (SortSt.mk' (kindOf st) (arrOf st) (((pendingOf st).setIfInBounds i (sa,r1.length + r2.length,pw)).eraseIdxIfInBounds (i + 1)) (gallopOf st) (failedOf st)) st2->Fin lt (r1.drop k) (r2.take t) mg.toList ->
     ∀ (f:SortSt->SortSt),(∀ u,f u=setArr u (mg.toList.zipIdx.foldl (λ (a:Array Keyed) (x:Keyed × Nat)=>match x with | (q,j)=>a.setIfInBounds (sa + k + j) q) (arrOf u)))->wpS [3] A E s (modify f >>= λ _=>get >>= λ u=>pure (failedOf u).isNone) Q st2:=by
  intro mg st2 sm F f hf;refine wpS_bind (wpS_modify (wpS_bind (wpS_get ?_)));rw [hf]
  have e:(failedOf (setArr st2 (mg.toList.zipIdx.foldl (λ (a:Array Keyed) (x:Keyed × Nat)=>match x with | (q,j)=>a.setIfInBounds (sa + k + j) q) (arrOf st2)))).isNone=true:=by
   show (failedOf st2).isNone=true;rw [sm.ok.fl]; rfl
  rw [e];have l1:(r1.take k).length=k:=by simp_all
  have l2:mg.toList.length=(r1.drop k ++ r2.take t).length:=F.1.length_eq
  have wbk:=wb (sa + k) mg.toList (r1.drop k ++ r2.take t) (P ++ r1.take k) (r2.drop t ++ S) (arrOf st2) 0 (by
   rw [sm.ar];show (arrOf st).toList=_;rw [ls];simp only [append_assoc];rw [<- append_assoc (r1.take k),take_append_drop,<- append_assoc (r2.take t),take_append_drop]) l2.symm [16]
  refine wpS_pure (h _ (r1.take k ++ mg.toList ++ r2.drop t) ⟨⟨sm.ok.kd,sm.ok.fl⟩,sm.pe,?_⟩ ?_ ?_)
  ·simp_all;omega
  ·have q:=F.1;refine .trans (List.Perm.append_right _ (List.Perm.append_left _ q)) ?_;rw [<- append_assoc (r1.take k),take_append_drop,append_assoc,take_append_drop]
  ·have mem:∀ v ∈ mg.toList,v ∈ r1.drop k \/ v ∈ r2.take t:=λ v hv=>List.mem_append.mp (F.1.mem_iff.mp hv)
   have lowk:∀ x ∈ r1.take k,le lt x r2[0]:=λ x hx=>by
    obtain ⟨j,hj,rfl⟩:=List.mem_take_iff_getElem.mp hx;exact lowA j _ [2] (getElem?_eq_getElem [2])
   have s1':=s1;rw [<- take_append_drop k r1] at s1';have s2':=s2;rw [<- take_append_drop t r2] at s2'
   have hd:∀ y ∈ r2.drop t,le lt r1[r1.length - 1] y:=λ y hy=>by
    obtain ⟨j,hj,rfl⟩:=List.mem_drop_iff_getElem.mp hy;exact highB (t + j) _ [2] (getElem?_eq_getElem [2])
   refine List.pairwise_append.mpr ⟨List.pairwise_append.mpr ⟨(List.pairwise_append.mp s1').1,F.2,λ x hx v hv=>?_⟩,(List.pairwise_append.mp s2').2.1,λ x hx y hy=>?_⟩
   ·rcases mem v hv with q | q
    ·exact (List.pairwise_append.mp s1').2.2 x hx v q
    ·exact c.le_tr (lowk x hx) (first2 v (mem_of_mem_take q))
   ·rcases List.mem_append.mp hx with q | q
    ·exact c.le_tr (lowk x q) (first2 y (mem_of_mem_drop hy))
    ·rcases mem x q with q | q
     ·exact c.le_tr (last1 x (mem_of_mem_drop q)) (hd y hy)
     ·exact (List.pairwise_append.mp s2').2.2 x q y hy
 have pre1:∀ x ∈ ((arrOf st).extract (sa + k) sb).toList,M x:=λ x hx=>M1 x (by rw [xs] at hx; exact mem_of_mem_drop hx);have pre2:∀ x ∈ ((arrOf st).extract sb (sb + t)).toList,M x:=λ x hx=>M2 x (by rw [ys] at hx; exact mem_of_mem_take hx);have pre3:((arrOf st).extract (sa + k) sb).toList.Pairwise (le lt):=by rw [xs]; exact s1.sublist (drop_sublist _ _)
 have pre4:((arrOf st).extract sb (sb + t)).toList.Pairwise (le lt):=by rw [ys]; exact s2.sublist (take_sublist _ _)
 have pre5:0 < ((arrOf st).extract (sa + k) sb).toList.length:=by simp_all;omega
 have pre6:0 < ((arrOf st).extract sb (sb + t)).toList.length:=by simp_all;omega
 have pre7:∀ x y,((arrOf st).extract sb (sb + t)).toList[0]?=some x->((arrOf st).extract (sa + k) sb).toList[0]?=some y->le lt x y:=λ x y hx hy=>by
  rw [ys,getElem?_take_of_lt [2],k0] at hx;cases hx;rw [xs] at hy;obtain ⟨j,hj,ej⟩:=dx y (mem_of_getElem? hy);exact highA j y hj ej
 have pre8:∀ x,((arrOf st).extract (sa + k) sb).toList[((arrOf st).extract (sa + k) sb).toList.length - 1]?=some x->∀ y ∈ ((arrOf st).extract sb (sb + t)).toList,le lt y x:=λ x hx y hy=>by
  rw [xs,length_drop,getElem?_drop,show k + (r1.length - k - 1)=r1.length - 1 by omega,kl] at hx;cases hx;rw [ys] at hy;obtain ⟨j,hj,ej⟩:=dy y hy;exact lowB j y hj ej
 by_cases g:r1.length - k<=t
 ·rw [if_pos g];refine wpS_bind (uo4 c ⟨a.ok.kd,a.ok.fl⟩ pre1 pre2 pre3 pre4 pre5 pre6 pre7 pre8 λ mg st2 sm F=>?_);rw [xs,ys] at F;refine done mg st2 sm F _ ?_;intro u; rfl
 ·rw [if_neg g];refine wpS_bind (yp4 c ⟨a.ok.kd,a.ok.fl⟩ pre1 pre2 pre3 pre4 pre5 pre6 pre7 pre8 λ mg st2 sm F=>?_);rw [xs,ys] at F;refine done mg st2 sm F _ ?_;intro u; rfl
end
noncomputable def pos:Nat->List (List Keyed)->List (Nat × Nat)
 | _,[]=>[]
 | o,r :: rs=>(o,r.length) :: pos (o + r.length) rs
theorem xt0:∀ (o:Nat) (X Y:List (List Keyed)),pos o (X ++ Y)=pos o X ++ pos (o + X.flatten.length) Y
 | o,[],Y=>by simp [pos]
 | o,r :: X,Y=>by
  show (o,r.length) :: pos (o + r.length) (X ++ Y)=_;rw [xt0];simp [pos,Nat.add_assoc]
theorem sb1:∀ (o:Nat) (X:List (List Keyed)),(pos o X).length=X.length
 | _,[]=>rfl
 | o,r :: X=>by show (pos _ X).length + 1=X.length + 1; rw [sb1]
noncomputable abbrev pn (t:Nat × Nat × Nat):Nat × Nat:=(t.1,t.2.1)
structure Lay (κ:SortKind) (lt:Keyed->Keyed->Bool) (L0:List Keyed) (p:Array (Nat × Nat × Nat)) (st:SortSt) (rs:List (List Keyed)) (rest:List Keyed):Prop where
 at_:At κ p st (rs.flatten ++ rest)
 po:p.toList.map pn=pos 0 rs
 so:∀ r ∈ rs,0 < r.length /\ r.Pairwise (le lt)
 pm:(rs.flatten ++ rest).Perm L0
theorem Lay.size {κ:SortKind} {lt:Keyed->Keyed->Bool} {L0:List Keyed} {p:Array (Nat × Nat × Nat)} {st:SortSt} {rs:List (List Keyed)} {rest:List Keyed} (l:Lay κ lt L0 p st rs rest):p.size=rs.length:=by
 have:=congrArg List.length l.po;rw [length_map,sb1] at this;exact this
variable {L0:List Keyed} {rs:List (List Keyed)}
theorem Lay.many {lt:Keyed->Keyed->Bool} {st:SortSt} {rest:List Keyed} (l:Lay κ lt L0 p st rs rest):rs.length<=rs.flatten.length:=by
 have h:=l.so;clear l
 induction rs with
 | nil=>simp
 | cons r rs ih =>
  simp_all;omega
section
variable {lt:Keyed->Keyed->Bool} 
theorem Lay.merge (c:[30]) {st:SortSt} {rest:List Keyed} {Q:Bool->SortSt->Prop} (hM:∀ x ∈ L0,M x) (l:Lay κ lt L0 p st rs rest) (hi:i + 1 < rs.length)
    (h:∀ st' p' rs',Lay κ lt L0 p' st' rs' rest->rs'.length + 1=rs.length->rs'.flatten.length=rs.flatten.length->Q true st'):wpS [3] A E s (mergeAt' i) Q st:=by
 obtain ⟨X,r1,r2,Y,rfl,hX⟩:∃ X r1 r2 Y,rs=X ++ r1 :: r2 :: Y /\ X.length=i:=by
  refine ⟨rs.take i,rs[i],rs[i + 1],rs.drop (i + 2),?_,by simp_all;omega⟩;simp
 have po:=l.po;rw [xt0] at po;obtain ⟨px,pr,e1,e2,e3⟩:=List.map_eq_append_iff.mp po;obtain ⟨t1,pr1,e4,e5,e6⟩:=List.map_eq_cons_iff.mp e3;obtain ⟨t2,py,e7,e8,e9⟩:=List.map_eq_cons_iff.mp e6;subst e4 e7;obtain ⟨sa,na,pw⟩:=t1;obtain ⟨sb,nb,pw2⟩:=t2;have lp:px.length=i:=by have:=congrArg List.length e2; rw [length_map,sb1] at this; omega
 injection e5 with f1 f2
 injection e8 with f3 f4
 dsimp only at f1 f2 f3 f4;rw [Nat.zero_add] at f1 f3 e9;have g1:p[i]?=some (sa,na,pw):=by rw [<- getElem?_toList,e1,getElem?_append_right [2],show i - px.length=0 by omega]; rfl
 have g2:p[i + 1]?=some (sb,nb,pw2):=by rw [<- getElem?_toList,e1,getElem?_append_right [2],show i + 1 - px.length=1 by omega]; rfl
 have a:=l.at_;have fl:(X ++ r1 :: r2 :: Y).flatten ++ rest=X.flatten ++ (r1 ++ (r2 ++ (Y.flatten ++ rest))):=by simp
 rw [fl] at a;have pm:=l.pm;rw [fl] at pm;have s1:=l.so r1 [10];have s2:=l.so r2 [10];refine zp4 c a (λ x hx=>hM x (pm.mem_iff.mp ?_)) g1 g2 f1 f2 f3 f4 s1.1 s2.1 s1.2 s2.2 λ st' m a' pm' so'=>?_
 ·rcases List.mem_append.mp hx with q | q
  ·simp_all
  simp_all
 ·have lm:=pm'.length_eq;rw [length_append] at lm;refine h st' ((p.setIfInBounds i (sa,na + nb,pw)).eraseIdxIfInBounds (i + 1)) (X ++ m :: Y) ⟨?_,?_,?_,?_⟩ (by simp; omega) [8]
  ·simp_all
  ·have pl:((p.setIfInBounds i (sa,na + nb,pw)).eraseIdxIfInBounds (i + 1)).toList=px ++ (sa,na + nb,pw) :: py:=by
     rw [Array.toList_eraseIdxIfInBounds,Array.toList_setIfInBounds,e1,List.set_append_right _ _ [2],show i - px.length=0 by omega,List.set_cons_zero,List.eraseIdx_append_of_length_le [2],show i + 1 - px.length=1 by omega];rfl
   rw [pl,map_append,e2,xt0,map_cons];refine congrArg _ ?_;show (sa,na + nb) :: _=(0 + X.flatten.length,m.length) :: pos _ Y;rw [Nat.zero_add,f1,show na + nb=m.length by omega,e9,show X.flatten.length + m.length=X.flatten.length + r1.length + r2.length by omega]
  ·intro r hr;rcases List.mem_append.mp hr with q | q
   ·exact l.so r (mem_append_left _ q)
   ·rcases List.mem_cons.mp q with rfl | q
    ·exact ⟨by omega,so'⟩
    ·exact l.so r (mem_append_right _ (.tail _ (.tail _ q)))
  ·refine .trans ?_ pm;have fl2:(X ++ m :: Y).flatten ++ rest=X.flatten ++ (m ++ (Y.flatten ++ rest)):=by simp
   rw [fl2];refine List.Perm.append_left _ ?_;rw [<- append_assoc r1];exact List.Perm.append_right _ pm'
theorem xw3 (c:[30]) {st:SortSt} {Q:Unit->SortSt->Prop} (a:At κ #[] st L0) (hM:∀ x ∈ L0,M x) (h2:2<=L0.length) (h:∀ st' p L,At κ p st' L->L.Perm L0->L.Pairwise (le lt)->Q () st') :
    wpS [3] A E s sortRuns' Q st:=by
 refine wpS_bind (wpS_get ?_);dsimp only;have sz:(arrOf st).size=L0.length:=by rw [<- length_toList,a.ls]
 generalize hsz:(arrOf st).size=size at *;have hs:size=L0.length:=sz;generalize ((sortPriv% PySem.Builtin.minRun):Nat->Nat->Nat->Nat) size size 0=mr;have st0:Lay κ lt L0 #[] st [] L0:=⟨by simpa using a,rfl,λ _ h=>(nomatch h),by simp⟩
 have llen:∀ {p:Array (Nat × Nat × Nat)} {st':SortSt} {rs:List (List Keyed)} {rest:List Keyed},Lay κ lt L0 p st' rs rest->rs.flatten.length + rest.length=size:=λ l=>by
  have:=l.pm.length_eq
  simp_all
 have push:∀ {p:Array (Nat × Nat × Nat)} {st':SortSt} {rs:List (List Keyed)} {rest:List Keyed} {lo n:Nat},Lay κ lt L0 p st' rs rest->lo=rs.flatten.length->1<=n->n<=rest.length->(rest.take n).Pairwise (le lt) ->
     Lay κ lt L0 (p.push (lo,n,0)) (setPending st' ((pendingOf st').push (lo,n,0))) (rs ++ [rest.take n]) (rest.drop n):=by
  intro p st' rs rest lo n l hlo h1 h2 so;have e:(rs ++ [rest.take n]).flatten ++ rest.drop n=rs.flatten ++ rest:=by simp
  have lt1:(rest.take n).length=n:=by simp_all
  refine ⟨by rw [e]; exact ⟨⟨l.at_.ok.kd,l.at_.ok.fl⟩,by show (pendingOf st').push _=_; rw [l.at_.pe],l.at_.ls⟩,?_,?_,by rw [e]; exact l.pm⟩
  ·rw [toList_push,map_append,l.po,xt0];refine congrArg _ ?_;show [(lo,n)]=[(0 + rs.flatten.length,(rest.take n).length)]
   simp_all
  ·intro r hr;rcases List.mem_append.mp hr with q | q
   ·exact l.so r q
   simp_all;omega
 refine wpS_bind (wpS_mono (wpS_forRange (λ x (r:Option Unit × Nat) st'=>r.1=none /\ x<=r.2 /\ ∃ p rs rest,Lay κ lt L0 p st' rs rest /\ r.2=rs.flatten.length) (Q:=λ (r:Option Unit × Nat) st'=>r.1=none /\ ∃ p rs,Lay κ lt L0 p st' rs []) ?_ ?_ ⟨rfl,Nat.zero_le _,#[],[],L0,st0,rfl⟩) ?_)
 ·rintro x ⟨r,lo⟩ st1 _ hx ⟨rfl,b1,p1,rs,rest,l,hlo⟩;dsimp only at b1 hlo ⊢;have ln:=llen l;by_cases z:lo ≥ size
  ·rw [if_pos z];have e:rest=[]:=List.eq_nil_of_length_eq_zero [2];subst e;exact wpS_pure ⟨rfl,p1,rs,l⟩
  ·rw [if_neg z];have hr:size - lo=rest.length:=by omega
   rw [hr];refine wpS_bind (wt4 c l.at_ (λ x hx=>hM x (l.pm.mem_iff.mp hx)) hlo [2] λ m st2 R2 a2 pm2 m1 m2 so2=>?_);have l2:Lay κ lt L0 p1 st2 rs R2:=⟨a2,l.po,l.so,(List.Perm.append_left _ pm2).trans l.pm⟩;have r2l:=pm2.length_eq
   have jp:∀ (n:Nat) (st3:SortSt) (R3:List Keyed),Lay κ lt L0 p1 st3 rs R3->1<=n->n<=R3.length->(R3.take n).Pairwise (le lt)->∀ (G:SortSt->StateT SortSt Sem (ForInStep (Option Unit × Nat))) (J:StateT SortSt Sem (ForInStep (Option Unit × Nat))),
       (∀ (q:Array (Nat × Nat × Nat)) (st4:SortSt) rs4,Lay κ lt L0 q st4 rs4 R3->rs4.flatten.length=lo->wpS [3] A E s J (λ r st'=>match r with
        | .done c'=>c'.1=none /\ ∃ p rs,Lay κ lt L0 p st' rs []
        | .yield c'=>c'.1=none /\ x + 1<=c'.2 /\ ∃ p rs rest,Lay κ lt L0 p st' rs rest /\ c'.2=rs.flatten.length) st4) ->
       ((pendingOf st3).back?=none->G st3=J)->(∀ s1 n1 o1,(pendingOf st3).back?=some (s1,n1,o1)->∃ (pw:Nat) (f:Nat->Option Unit × Unit->StateT SortSt Sem (ForInStep (Option Unit × Unit))) (g:Option Unit × Unit->StateT SortSt Sem (ForInStep (Option Unit × Nat))),G st3=(forIn [0:size] (none,()) f >>= g) ∧
        (∀ y,f y (none,())=(get >>= λ u=>match (if (pendingOf u).size > 1 then (pendingOf u)[(pendingOf u).size - 2]? else none) with
         | some (_,_,older)=>if older<=pw then pure (.done (none,())) else mergeAt' ((pendingOf u).size - 2) >>= λ b=>if (!b)=true then pure (.done (some (),())) else pure (.yield (none,()))
         | none=>pure (.done (none,())))) ∧
        g (none,())=(modify (λ u=>setPending u ((pendingOf u).modify ((pendingOf u).size - 1) λ t=>(t.1,t.2.1,pw))) >>= λ _=>J)) ->
       wpS [3] A E s (get >>= G) (λ r st'=>match r with
        | .done c'=>c'.1=none /\ ∃ p rs,Lay κ lt L0 p st' rs []
        | .yield c'=>c'.1=none /\ x + 1<=c'.2 /\ ∃ p rs rest,Lay κ lt L0 p st' rs rest /\ c'.2=rs.flatten.length) st3:=by
    intro n st3 R3 l3 h1 h2 so3 G J hJ hG1 hG2;refine wpS_bind (wpS_get ?_);cases hb:(pendingOf st3).back? with
    | none =>
     rw [hG1 hb];exact hJ _ st3 rs l3 hlo.symm
    | some t =>
     obtain ⟨s1,n1,o1⟩:=t;obtain ⟨pw,f,g,e1,e2,e3⟩:=hG2 s1 n1 o1 hb;rw [e1];refine wpS_bind (wpS_mono (wpS_forRange (λ y (r:Option Unit × Unit) st'=>r=(none,()) /\ ∃ q rs4,Lay κ lt L0 q st' rs4 R3 /\ rs4.flatten.length=lo) (Q:=λ (r:Option Unit × Unit) st'=>r=(none,()) /\ ∃ q rs4,Lay κ lt L0 q st' rs4 R3 /\ rs4.flatten.length=lo) ?_ (λ _ _ q=>q) ⟨rfl,p1,rs,l3,hlo.symm⟩) ?_)
     ·rintro y r st4 _ _ ⟨rfl,q,rs4,l4,hl4⟩;rw [e2];refine wpS_bind (wpS_get ?_);have pe:=l4.at_.pe;have ps:=l4.size;by_cases c1:(pendingOf st4).size > 1
      ·rw [if_pos c1];cases c2:(pendingOf st4)[(pendingOf st4).size - 2]? with
       | none=>simp_all;omega
       | some t =>
        obtain ⟨_,_,older⟩:=t;dsimp only;by_cases c3:older<=pw
        ·rw [if_pos c3];exact wpS_pure ⟨rfl,q,rs4,l4,hl4⟩
        ·rw [if_neg c3];refine wpS_bind (l4.merge c hM (by rw [pe] at c1 ⊢; omega) λ st5 p5 rs5 l5 _ hl5=>?_);rw [if_neg [10]];exact wpS_pure ⟨rfl,p5,rs5,l5,by omega⟩
      ·rw [if_neg c1];exact wpS_pure ⟨rfl,q,rs4,l4,hl4⟩
     ·rintro r st4 ⟨rfl,q,rs4,l4,hl4⟩;rw [e3];refine wpS_bind (wpS_modify (hJ (q.modify (q.size - 1) λ t=>(t.1,t.2.1,pw)) _ rs4 ⟨⟨⟨l4.at_.ok.kd,l4.at_.ok.fl⟩,?_,l4.at_.ls⟩,?_,l4.so,l4.pm⟩ hl4))
      ·have pe4:=l4.at_.pe
       simp_all
      ·rw [<- l4.po,Array.toList_modify];apply ext_getElem?;intro k;rw [getElem?_map,getElem?_map,List.getElem?_modify];split
       ·cases q.toList[k]? <;> rfl
       simp
   have end_:∀ {n:Nat} {R3:List Keyed},1<=n->n<=R3.length->(R3.take n).Pairwise (le lt)->∀ (q:Array (Nat × Nat × Nat)) (st4:SortSt) rs4,Lay κ lt L0 q st4 rs4 R3->rs4.flatten.length=lo->∀ (f:SortSt->SortSt),(∀ u,f u=setPending u ((pendingOf u).push (lo,n,0)))->wpS [3] A E s (modify f >>= λ _=>pure (ForInStep.yield ((none,lo + n):Option Unit × Nat))) (λ r st'=>match r with
         | .done c'=>c'.1=none /\ ∃ p rs,Lay κ lt L0 p st' rs []
         | .yield c'=>c'.1=none /\ x + 1<=c'.2 /\ ∃ p rs rest,Lay κ lt L0 p st' rs rest /\ c'.2=rs.flatten.length) st4:=by
    intro n R3 h1 h2 so3 q st4 rs4 l4 hl4 f hf;refine wpS_bind (wpS_modify (wpS_pure ?_));rw [hf];refine ⟨rfl,by omega,_,_,_,push l4 hl4.symm h1 h2 so3,?_⟩
    simp_all
   dsimp only;by_cases g:m < mr
   ·rw [if_pos g];refine wpS_bind (wpS_lift (wpAny_rule ⟨rfl,?_⟩));refine wpS_bind (yb2 c a2 (λ x hx=>hM x (l2.pm.mem_iff.mp hx)) hlo m1 (show m<=min rest.length mr by omega) [2] so2 λ st3 R3 a3 pm3 so3=>?_);rw [if_neg [10]];have l3:Lay κ lt L0 p1 st3 rs R3:=⟨a3,l.po,l.so,(List.Perm.append_left _ pm3).trans l2.pm⟩;have r3l:=pm3.length_eq;refine wpS_mono (jp _ st3 R3 l3 (show 1<=min rest.length mr by omega) [2] so3 _ _ (λ q st4 rs4 l4 hl4=>end_ [2] [2] so3 q st4 rs4 l4 hl4 _ λ _=>rfl) ?_ ?_) ?_
    ·intro hb; rw [hb]
    ·intro s1 n1 o1 hb;rw [hb];refine ⟨_,_,_,rfl,λ y=>?_,rfl⟩;refine congrArg _ (funext λ u=>?_);generalize (if (pendingOf u).size > 1 then (pendingOf u)[(pendingOf u).size - 2]? else none)=o;rcases o with _ | ⟨_,_,_⟩ <;> rfl
    ·intro r st' q; cases r <;> exact q
   ·rw [if_neg g];refine wpS_mono (jp m st2 R2 l2 m1 [2] so2 _ _ (λ q st4 rs4 l4 hl4=>end_ m1 [2] so2 q st4 rs4 l4 hl4 _ λ _=>rfl) ?_ ?_) ?_
    ·intro hb; rw [hb]
    ·intro s1 n1 o1 hb;rw [hb];refine ⟨_,_,_,rfl,λ y=>?_,rfl⟩;refine congrArg _ (funext λ u=>?_);generalize (if (pendingOf u).size > 1 then (pendingOf u)[(pendingOf u).size - 2]? else none)=o;rcases o with _ | ⟨_,_,_⟩ <;> rfl
    ·intro r st' q; cases r <;> exact q
 ·rintro ⟨r,lo⟩ st1 ⟨rfl,b1,p1,rs,rest,l,hlo⟩;dsimp only at b1 hlo;have ln:=llen l;have b1':max 0 size<=lo:=b1;have e:rest=[]:=List.eq_nil_of_length_eq_zero [2];subst e;exact ⟨rfl,p1,rs,l⟩
 ·rintro ⟨r,lo⟩ st1 ⟨rfl,p1,rs,l⟩;dsimp only;have ln:=llen l;have mn:=l.many;refine wpS_bind (wpS_mono (wpS_forRange (λ x (r:Option Unit × Unit) st'=>r=(none,()) /\ ∃ p rs,Lay κ lt L0 p st' rs [] /\ rs.length + x<=size + 1 + (if rs.length<=1 then x else 0)) (Q:=λ (r:Option Unit × Unit) st'=>r=(none,()) /\ ∃ p rs,Lay κ lt L0 p st' rs [] /\ rs.length<=1) ?_ ?_ ⟨rfl,p1,rs,l,by omega⟩) ?_)
  ·rintro x r st2 _ hx ⟨rfl,p2,rs2,l2,b⟩;refine wpS_bind (wpS_get ?_);have pe:=l2.at_.pe;have ps:=l2.size;have ps':(pendingOf st2).size=rs2.length:=by rw [pe]; exact ps
   by_cases z:(pendingOf st2).size<=1
   ·rw [if_pos z];exact wpS_pure ⟨rfl,p2,rs2,l2,by omega⟩
   ·rw [if_neg z];refine wpS_bind (l2.merge c hM ?_ λ st3 p3 rs3 l3 hl3 _=>?_)
    ·exact (show ∀ (P:Prop) [Decidable P] (n m:Nat),2<=n->n=m->(if P then n - 2 - 1 else n - 2) + 1 < m by intro P _ n m h1 h2; split <;> omega) _ _ _ (show 2<=(pendingOf st2).size by omega) ps'
    ·rw [if_neg [10]];refine wpS_pure ⟨rfl,p3,rs3,l3,?_⟩;rw [if_neg [2]] at b;split <;> omega
  ·rintro r st2 ⟨rfl,p2,rs2,l2,b⟩;refine ⟨rfl,p2,rs2,l2,?_⟩;by_cases z:rs2.length<=1
   ·exact z
   simp_all;omega
  ·rintro r st2 ⟨rfl,p2,rs2,l2,b⟩;dsimp only;have pm:=l2.pm;have a2:=l2.at_;rw [append_nil] at pm a2;refine wpS_pure (h st2 p2 _ a2 pm ?_)
   match rs2,b,l2.so with
   | [],_,_=>simp
   | [r],_,so=>simp_all
   | _ :: _ :: _,b,_=>simp at b
end
end Ts
namespace Ts
open PySem PyProof.Rows PySem.W
theorem ts1 {α β:Type} {f:α->β} {L N:List β} (h:L.Perm N):∀ l:List α,N=l.map f->∃ l':List α,l'.Perm l /\ L=l'.map f:=by
 induction h with
 | nil=>simp
 | cons x _ ih =>
  intro l e;obtain ⟨a,l1,rfl,rfl,e3⟩:=List.map_eq_cons_iff.mp e.symm;obtain ⟨l',p,e4⟩:=ih l1 e3.symm;exact ⟨a :: l',p.cons a,by rw [e4]; rfl⟩
 | swap x y t =>
  intro l e;obtain ⟨a,l1,rfl,rfl,e3⟩:=List.map_eq_cons_iff.mp e.symm;obtain ⟨b,l2,rfl,rfl,e5⟩:=List.map_eq_cons_iff.mp e3;exact ⟨b :: a :: l2,.swap a b l2,by rw [<- e5]; rfl⟩
 | trans _ _ ih1 ih2 =>
  intro l e;obtain ⟨l2,p2,e2⟩:=ih2 l e;obtain ⟨l1,p1,e1⟩:=ih1 l2 e2;exact ⟨l1,p1.trans p2,e1⟩
open Classical in
noncomputable def idx (vs:[29]) (x:Keyed):Nat:=if h:∃ i:Nat,vs[i]?=some x.1 then Classical.choose h else 0
variable {vs:[29]}
theorem zi1 {x:Keyed} (h:∃ i:Nat,vs[i]?=some x.1):vs[idx vs x]?=some x.1:=by
 unfold idx;rw [dif_pos h];exact Classical.choose_spec h
section
variable {prog:Program} {w:World} {A:Around} {E:[4]} {s:Shared} {κ:SortKind}
theorem run_idx {lt:Nat->Nat->Bool} (O:Ms.Ord lt) (h2:2<=vs.length) (sm:∀ (i j:Nat) v,vs[i]?=some v->vs[j]?=some v->∀ k,lt i k=lt j k /\ lt k i=lt k j)
    (ask:∀ (i j:Nat) x y,vs[i]?=some x->vs[j]?=some y->∀ C:Bool->Shared->Prop,C (lt i j) s->wpAny [3] A (keyLt' κ x y) C (λ _ _=>False) s) :
    wpS [3] A E s sortRuns' (λ _ st'=>∃ p:Array Nat,p.Perm [42] /\ Ms.Up lt p vs.length /\ arrOf st'=p.map (kas_item [31]) /\ failedOf st'=none) (SortSt.mk' κ [31] #[] 7 none):=by
 let M:Keyed->Prop:=λ x=>∃ i:Nat,vs[i]?=some x.1
 let lk:Keyed->Keyed->Bool:=λ x y=>lt (idx vs x) (idx vs y)
 have c:Cm prog w A s κ lk M:=⟨λ x y hx hy C h=>ask _ _ _ _ (zi1 hx) (zi1 hy) C h,λ x=>O.ir _,λ x y z=>O.tr _ _ _,λ x y z=>O.ng _ _ _⟩
 have it:[31].toList=(List.range vs.length).map (kas_item [31]):=by
  have:=kas_range [31];have sz:[31].size=vs.length:=by simp
  rw [sz] at this;have e:=congrArg Array.toList this;simpa using e.symm
 have ki:∀ i,i < vs.length->(kas_item [31] i).1=vs.getD i .none:=λ i hi=>by
  show ([31].getD i _).1=_;simp [*]
 refine xw3 c (L0:=[31].toList) ⟨⟨rfl,rfl⟩,rfl,rfl⟩ (λ x hx=>?_) (by simp; exact h2) λ st' p L a pm so=>?_
 ·rw [it] at hx;obtain ⟨i,hi,rfl⟩:=List.mem_map.mp hx;have hi':=List.mem_range.mp hi;exact ⟨i,by rw [ki i hi',getD_eq_getElem?_getD,getElem?_eq_getElem hi']; rfl⟩
 ·obtain ⟨l,pl,el⟩:=ts1 pm _ it;subst el;refine ⟨l.toArray,Array.perm_iff_toList_perm.mpr pl,?_,Array.toList_inj.mp (by rw [a.ls]; simp),a.ok.fl⟩;have ll:l.length=vs.length:=by have:=pl.length_eq; simpa using this
  intro x y hxy hy;show lt (l.toArray.getD y 0) (l.toArray.getD x 0)=false;have gx:∀ z,z < l.length->l.toArray.getD z 0=l.getD z 0:=λ z hz=>by simp
  rw [gx y [2],gx x [2]];by_cases e:x=y
  ·subst e; exact O.ir _
  have ex:l[x]?=some l[x]:=getElem?_eq_getElem [2];have ey:l[y]?=some l[y]:=getElem?_eq_getElem [2];have q:=zk0 so (show x < y by omega) (by rw [getElem?_map,ex]; rfl) (by rw [getElem?_map,ey]; rfl);have rx:l[x] < vs.length:=List.mem_range.mp (pl.mem_iff.mp (getElem_mem _));have ry:l[y] < vs.length:=List.mem_range.mp (pl.mem_iff.mp (getElem_mem _));have vx:vs[l[x]]?=some (kas_item [31] l[x]).1:=by rw [ki _ rx,getD_eq_getElem?_getD,getElem?_eq_getElem rx]; rfl
  have vy:vs[l[y]]?=some (kas_item [31] l[y]).1:=by rw [ki _ ry,getD_eq_getElem?_getD,getElem?_eq_getElem ry]; rfl
  have jx:=zi1 (vs:=vs) (x:=kas_item [31] l[x]) ⟨_,vx⟩;have jy:=zi1 (vs:=vs) (x:=kas_item [31] l[y]) ⟨_,vy⟩;have q':lt (idx vs (kas_item [31] l[y])) (idx vs (kas_item [31] l[x]))=false:=q;rw [(sm _ _ _ jy vy _).1,(sm _ _ _ jx vx _).2] at q';simp [*]
end
end Ts
namespace Pv
open PySem PySem.Spec PySem.W PyProof.Rows L2
noncomputable abbrev T3:=Int × Int × Int
noncomputable def lt3 (a b:T3):Bool:=decide (a.1 < b.1) || (a.1 == b.1 && (decide (a.2.1 < b.2.1) || (a.2.1 == b.2.1 && decide (a.2.2 < b.2.2))))
noncomputable def IsT3 (h:Heap) (v:Value) (t:T3):Prop:=∃ a o t1 t2 t3 n,v=.ref a /\ h.get? a=some o /\ o.cls=.type "tuple" /\ o.data=.seq #[.int t.1 t1,.int t.2.1 t2,.int t.2.2 t3] n
variable {h:Heap} {v:Value}
theorem IsT3.one {t u:T3} (i:IsT3 h v t) (k:IsT3 h v u):t=u:=by
 obtain ⟨a,o,t1,t2,t3,n,rfl,e2,_,e4⟩:=i;obtain ⟨b,q,u1,u2,u3,m,f1,f2,_,f4⟩:=k;cases f1;rw [e2] at f2;cases f2;rw [e4] at f4;obtain ⟨x,y,z⟩:=t
 simp_all
theorem lt3_iff {a b:T3}:lt3 a b=true ↔ a.1 < b.1 \/ a.1=b.1 /\ (a.2.1 < b.2.1 \/ a.2.1=b.2.1 /\ a.2.2 < b.2.2):=by simp [lt3]
theorem sg3 {a b c:Int} {P Q R:Prop} (h:a < b \/ a=b /\ P) (k:b < c \/ b=c /\ Q) (f:P->Q->R):a < c \/ a=c /\ R:=by
 rcases h with h | ⟨rfl,p⟩
 ·omega
 ·exact k.imp id λ ⟨e,q⟩=>⟨e,f p q⟩
theorem xh3 {a c:Int} (b:Int) {P Q R:Prop} (h:a < c \/ a=c /\ R) (f:R->P \/ Q):(a < b \/ a=b /\ P) \/ (b < c \/ b=c /\ Q):=by
 rcases Int.lt_trichotomy a b with p | rfl | p
 ·exact .inl (.inl p)
 ·rcases h with h | ⟨e,r⟩
  ·exact .inr (.inl h)
  simp_all
 omega
theorem zh3 (ts:List T3):Ms.Ord λ i j=>lt3 (ts.getD i (0,0,0)) (ts.getD j (0,0,0)) where
 ir:=λ a=>by simp [lt3]
 tr:=λ a b c h k=>lt3_iff.mpr (sg3 (lt3_iff.mp h) (lt3_iff.mp k) λ p q=>sg3 p q Int.lt_trans)
 ng:=λ a b c h=>by
  rw [lt3_iff,lt3_iff];refine xh3 _ (lt3_iff.mp h) λ r=>xh3 _ r λ x=>?_;omega
variable {prog:Program} {w:World} {A:Around} {E:[4]} {s:Shared}
section
theorem xx4 {x y:Value} {a b:T3} {Q:Bool->Shared->Prop} (hx:IsT3 s.heap x a) (hy:IsT3 s.heap y b) (h:Q (lt3 a b) s):wpAny [3] A (keyLt' (tuples' true) x y) Q E s:=by
 obtain ⟨x,ox,t1,t2,t3,n,rfl,ex,_,dx⟩:=hx;obtain ⟨y,oy,u1,u2,u3,m,rfl,ey,_,dy⟩:=hy;obtain ⟨a1,a2,a3⟩:=a;obtain ⟨b1,b2,b3⟩:=b;refine kat_lt ex dx ey dy ?_;refine kat_cons (wpAny_eqBool_int ?_);by_cases c1:a1=b1
 ·rw [show (a1 == b1)=true from beq_iff_eq.mpr c1];refine kat_yes (kat_cons (wpAny_eqBool_int ?_));by_cases c2:a2=b2
  ·rw [show (a2 == b2)=true from beq_iff_eq.mpr c2];refine kat_yes (kat_cons (wpAny_eqBool_int ?_));by_cases c3:a3=b3
   ·rw [show (a3 == b3)=true from beq_iff_eq.mpr c3];refine kat_yes (kat_nil ?_);have e:lt3 (a1,a2,a3) (b1,b2,b3)=false:=by subst c1 c2 c3; simp [lt3]
    simp_all
   ·rw [show (a3 == b3)=false from by simpa using c3];have e:lt3 (a1,a2,a3) (b1,b2,b3)=decide (a3 < b3):=by subst c1 c2; simp [lt3]
    rw [e] at h;exact kat_no (kat_one _ _ (lt_int h))
  ·rw [show (a2 == b2)=false from by simpa using c2];have e:lt3 (a1,a2,a3) (b1,b2,b3)=decide (a2 < b2):=by subst c1; simp [lt3,c2]
   rw [e] at h;exact kat_no (kat_one _ _ (lt_int h))
 ·rw [show (a1 == b1)=false from by simpa using c1];have e:lt3 (a1,a2,a3) (b1,b2,b3)=decide (a1 < b1):=by simp [lt3,c1]
  rw [e] at h;exact kat_no (oneLt_int h)
end
noncomputable abbrev ltI (ts:List T3):Nat->Nat->Bool:=λ i j=>lt3 (ts.getD i (0,0,0)) (ts.getD j (0,0,0))
noncomputable abbrev outV (vs:[29]) (p:Array Nat):List Value:=p.toList.map λ i=>vs.getD i Value.none
theorem xl1 (vs:[29]):outV vs [42]=vs:=by
 apply ext_getElem
 ·simp
 simp_all
variable {n:Nat}
theorem wj5 {vs:Array Value} {C:Prop} (h:(seqObj "list" vs n).cls=Value.type "tuple"):C:=by
 simp_all
structure SK (prog:Program) (w:World) (vs:List Value) (lt:Nat->Nat->Bool) (κ:SortKind) (J:Heap->Prop) (U:Nat):Prop where
 od:Ms.Ord lt
 kd:2<=vs.length->∀ {A:Around} {E:Value->Shared->Prop} (s:Shared) {Q:SortKind->Shared->Prop},J s.heap->Q κ s->wpAny (model prog w) A (keyKind' vs.toArray) Q E s
 sm:∀ (i j:Nat) v,vs[i]?=some v->vs[j]?=some v->∀ k,lt i k=lt j k /\ lt k i=lt k j
 cm:∀ {A:Around} (s:Shared) (i j:Nat) x y,A.units<=U->J s.heap->vs[i]?=some x->vs[j]?=some y->∀ C:Bool->Shared->Prop,C (lt i j) s->wpAny (model prog w) A (keyLt' κ x y) C (λ _ _=>False) s
variable {vs:[29]} {U:Nat}
section
variable {lt:Nat->Nat->Bool} {κ:SortKind} {J:Heap->Prop} 
theorem xu1 {a:Addr} {P:PySem.Fin->Shared->Prop} (K:SK prog w vs lt κ J U) (hU:A.units<=U) (ho:s.heap.get? a=some (seqObj "list" vs.toArray n)) (hJ:∀ h':Heap,(∀ b o,b ≠ a->s.heap.get? b=some o->h'.get? b=some o)->J h') (hz:vs.length<=sizeLine)
    (h:∀ (p:Array Nat) (h':Heap) (c:Nat),p.Perm ([42])->Ms.Up lt p vs.length->(∀ b o,b ≠ a->s.heap.get? b=some o->h'.get? b=some o) ->
     h'.get? a=some (seqObj "list" (outV vs p).toArray c)->P (.done (.ret .none)) [38]) :
    wpAny [3] A (Builtin.«list.sort» ⟨[.ref a],[]⟩) P E s:=by
 have ha:a < s.heap.objs.size:=Heap.lt_size ho;obtain ⟨e1,ho1⟩:∃ e1,(s.heap.update a (Obj.mapSeq λ _=>(#[]:Array Value))).get? a=some (seqObj "list" #[] e1):=⟨_,get?_update_seq ho λ _=>#[]⟩
 have kp:∀ b o,b ≠ a->s.heap.get? b=some o->(((s.heap.update a (Obj.mapSeq λ _=>(#[]:Array Value))).push (seqObj "tuple" vs.toArray 0)).push (seqObj "list" #[] 0)).get? b=some o:=λ b o hb e =>
  Heap.get?_push_of_some _ (Heap.get?_push_of_some _ (by rw [Heap.get?_update_ne _ _ _ _ hb]; exact e))
 have ht3:=hJ _ kp;have hoN:=Heap.get?_push_of_some (seqObj "list" #[] 0) (Heap.get?_push_of_some (seqObj "tuple" vs.toArray 0) ho1);generalize hN:((s.heap.update a (Obj.mapSeq λ _=>(#[]:Array Value))).push (seqObj "tuple" vs.toArray 0)).push (seqObj "list" #[] 0)=hp3 at kp ht3 hoN
 have fin:∀ (p:Array Nat),p.Perm ([42])->Ms.Up lt p vs.length->P (.done (.ret .none)) { s with heap:=hp3.update a (Obj.mapSeq λ _=>(outV vs p).toArray) }:=λ p hp hu=>by
  refine h p _ _ hp hu (λ b o hb e=>by rw [Heap.get?_update_ne _ _ _ _ hb]; exact kp b o hb e) (get?_update_seq hoN λ _=>(outV vs p).toArray)
 have szO:∀ p:Array Nat,p.Perm ([42])->(outV vs p).toArray.size<=sizeLine + 1:=λ p hp=>by
  have:=hp.size_eq
  simp_all;omega
 rw [list_sort_plain];refine wpAny_bind (listItems_at ho rfl (wpAny_bind (listUpdate_at ho rfl ?_ (by simpa using hz) (Nat.zero_le _))));refine wpAny_bind (seqEpoch_at ho1 rfl (wpAny_bind (wpAny_newTuple ?_ (by simpa using hz))));refine wpAny_bind (wpAny_newList (wpAny_holding ?_) (Nat.zero_le _));show wpAny [3] A _ P E { s with heap:=((s.heap.update a (Obj.mapSeq λ _=>(#[]:Array Value))).push (seqObj "tuple" vs.toArray 0)).push (seqObj "list" #[] 0) };rw [hN];dsimp only;by_cases c:vs.toArray.size < 2
 ·rw [if_pos c,if_pos c];refine wpAny_bind [22];rw [StateT.run_pure];refine wpAny_bind [22]
  have id1:(arrOf (SortSt.mk' general' [31] #[] 7 none)).map (·.2)=(outV vs [42]).toArray:=by
   rw [xl1];show [31].map (·.2)=vs.toArray;apply Array.toList_inj.mp;simp [List.map_snd_zip]
  dsimp only;rw [id1];have pr:=Array.Perm.refl [42];refine wpAny_bind (seqEpoch_at hoN rfl (wpAny_bind (listUpdate_at hoN rfl ?_ (Nat.zero_le _) (szO _ pr))));simp only [bne_self_eq_false,Bool.false_eq_true,if_false];refine wpAny_pure (fin _ pr ?_);intro x y hxy hy;have:x=y:=by simp at c; omega
  subst this;exact Ms.le_rf K.od _
 ·rw [if_neg c,if_neg c];have c2:2<=vs.length:=by simp at c; omega
  refine wpAny_bind (K.kd c2 { s with heap:=hp3 } ht3 ?_);refine wpAny_bind (wpAny_mono (Ts.run_idx (vs:=vs) (lt:=lt) (s:={ s with heap:=hp3 }) (κ:=κ) K.od c2 K.sm λ i j x y e1 e2 C hc=>K.cm { s with heap:=hp3 } i j x y hU ht3 e1 e2 C hc) ?_ λ _ _ z=>z)
  ·rintro ⟨⟨⟩,st'⟩ s' ⟨rfl,p,pp,pu,hp1,hp2⟩;dsimp only;rw [kat_snds rfl hp1];refine wpAny_bind (seqEpoch_at hoN rfl (wpAny_bind (listUpdate_at hoN rfl ?_ (Nat.zero_le _) (szO _ pp))));rw [hp2];simp only [bne_self_eq_false,Bool.false_eq_true,if_false];exact wpAny_pure (fin _ pp pu)
theorem yd2 {l:Addr} {Q:[4]} (K:SK prog w vs lt κ J U) (hU:A.units + 2<=U) (hl:s.heap.IsList l vs.toArray) (hJ:∀ h':Heap,(∀ b o,s.heap.get? b=some o->h'.get? b=some o)->J h') (h64:vs.length<=sizeLine)
    (h:∀ (p:Array Nat) (h':Heap) (c:Nat),p.Perm ([42])->Ms.Up lt p vs.length->(∀ b o,s.heap.get? b=some o->h'.get? b=some o) ->
     h'.get? (s.heap.objs.size + 1)=some (seqObj "list" (outV vs p).toArray c)->Q (.ref (s.heap.objs.size + 1)) [38]) :
    wpAny [3] A (call (.builtin "sorted") [.ref l]) Q E s:=by
 have hz:=h64;refine Calls.call_function_entry kind_sorted plain_sorted entry_sorted (args_sorted1 _) ?_;unfold Builtin.«sorted»;refine wpAny_bind (m:=checkCount "sorted" 1 1 _) (wpAny_pure (wpAny_bind (collect_list hl ?_ hz)));refine wpAny_bind (wpAny_newList ?_ hz)
 have z1:[25].objs.size=s.heap.objs.size + 1:=by
  simp
 have kp:∀ b o,s.heap.get? b=some o->([25].push (seqObj "list" vs.toArray 0)).get? b=some o:=λ b o q=>by
  have hb:b < s.heap.objs.size:=Heap.lt_size q;exact Heap.get?_push_of_some _ (by rw [Heap.get?_update_ne _ _ _ _ (Nat.ne_of_lt hb)]; exact Heap.get?_push_of_some _ q)
 have zo:([25].push (seqObj "list" vs.toArray 0)).get? (s.heap.objs.size + 1)=some (seqObj "list" vs.toArray 0):=by
  have q:=Heap.get?_push_size [25] (o:=seqObj "list" vs.toArray 0) rfl
  simp_all
 show wpAny _ _ _ _ _ { s with heap:=[25].push (seqObj "list" vs.toArray 0) };rw [z1];generalize [25].push (seqObj "list" vs.toArray 0)=hp at kp zo;refine wpAny_bind (wpAny_holding (wpAny_call_entry slot_list_sort ⟨_,zo,rfl⟩ entry_list_sort (xu1 (s:={ s with heap:=hp }) K (by simpa using hU) zo (λ h' g=>hJ h' λ b o q=>g b o (Nat.ne_of_lt (Nat.lt_succ_of_lt (Heap.lt_size q))) (kp b o q)) h64 λ p h' c a1 a2 a3 a4=>⟨_,rfl,?_⟩) (args_list_sort _)));refine wpAny_pure ⟨_,rfl,h p h' c a1 a2 (λ b o q=>a3 b o (Nat.ne_of_lt (Nat.lt_succ_of_lt (Heap.lt_size q))) (kp b o q)) a4⟩
end
noncomputable def Lw {α β:Type} (R:β->α->Prop):List β->List α->Prop
 | [],[]=>True
 | v :: vs,t :: ts=>R v t /\ Lw R vs ts
 | _,_=>False
theorem Lw.mono {α β:Type} {R S:β->α->Prop} (k:∀ v t,R v t->S v t):∀ {vs:List β} {ts:List α},Lw R vs ts->Lw S vs ts
 | [],[],_=>trivial
 | [],_ :: _,i=>i.elim
 | _ :: _,[],i=>i.elim
 | _ :: _,_ :: _,i=>⟨k _ _ i.1,i.2.mono k⟩
theorem Lw.len {α β:Type} {R:β->α->Prop}:∀ {vs:List β} {ts:List α},Lw R vs ts->vs.length=ts.length
 | [],[],_=>rfl
 | [],_ :: _,i=>i.elim
 | _ :: _,[],i=>i.elim
 | _ :: _,_ :: _,i=>congrArg (· + 1) i.2.len
theorem Lw.get {α:Type} {R:Value->α->Prop} {d:α}:∀ {vs:[29]} {ts:List α},Lw R vs ts->∀ i,i < vs.length->R (vs.getD i .none) (ts.getD i d)
 | [],[],_,i,hi=>absurd hi (Nat.not_lt_zero _)
 | [],_ :: _,z,_,_=>z.elim
 | _ :: _,[],z,_,_=>z.elim
 | _ :: _,_ :: _,z,0,_=>z.1
 | _ :: _,_ :: _,z,i + 1,hi=>z.2.get i (Nat.lt_of_succ_lt_succ hi)
structure TupI {α:Type} (Is:Heap->Value->α->Prop) (lt:α->α->Bool) (d:α):Prop where
 kept:∀ {h h':Heap} {v t},(∀ b o,h.get? b=some o->o.cls=.type "tuple" -> h'.get? b=some o)->Is h v t->Is h' v t
 one:∀ {h v t u},Is h v t->Is h v u->t=u
 ord:∀ ts:List α,Ms.Ord λ i j=>lt (ts.getD i d) (ts.getD j d)
 fst:∀ {h v t},Is h v t->∃ a o i t1 r n,v=.ref a /\ h.get? a=some o /\ o.cls=.type "tuple" /\ o.data=.seq (.int i t1 :: r).toArray n
 lt':∀ {prog w A} {E:Value->Shared->Prop} {s x y a b} {Q:Bool->Shared->Prop},Is s.heap x a->Is s.heap y b->Q (lt a b) s->wpAny (model prog w) A (keyLt' (tuples' true) x y) Q E s
section
variable {α:Type} {Is:Heap->Value->α->Prop} {lt:α->α->Bool} {d:α} {ts:List α}
theorem TupI.firsts (T:TupI Is lt d) {h:Heap}:∀ {vs:[29]} {ts:List α},Lw (Is h) vs ts->∃ fs,KatTups h vs fs /\ fs.length=vs.length /\ ∀ v ∈ fs,∃ i t,v=Value.int i t
 | [],[],_=>⟨[],trivial,rfl,λ _ hv=>nomatch hv⟩
 | [],_ :: _,z=>z.elim
 | _ :: _,[],z=>z.elim
 | v :: vs,t :: ts,z=>by
  obtain ⟨fs,f1,f2,f3⟩:=T.firsts z.2;obtain ⟨a,o,i,t1,r,n,rfl,e2,e3,e4⟩:=T.fst z.1;refine ⟨.int i t1 :: fs,KatTups.cons e2 e3 e4 rfl f1,by simp_all,λ x hx=>?_⟩;rcases List.mem_cons.mp hx with rfl | hx
  ·simp
  ·exact f3 x hx
theorem TupI.at (T:TupI Is lt d) (z:Lw (Is h) vs ts) {i:Nat} (e:vs[i]?=some v):Is h v (ts.getD i d):=by
 have g:=z.get (d:=d) i (List.getElem?_eq_some_iff.mp e).1
 simp_all
theorem TupI.sk (T:TupI Is lt d) (z:Lw (Is h) vs ts):SK prog w vs (λ i j=>lt (ts.getD i d) (ts.getD j d)) (tuples' true) (λ h=>Lw (Is h) vs ts) U where
 od:=T.ord ts
 kd:=λ h2 {A E} s {Q} z q=>by
  obtain ⟨fs,f1,f2,f3⟩:=T.firsts z;refine kat_kind f1 [2] (T:=.type "int") (λ v hv=>?_) [19] ?_
  ·obtain ⟨i,t,rfl⟩:=f3 v hv;exact Looks.of_pure rfl
  assumption
 sm:=λ i j v e1 e2 k=>by
  rw [T.one (T.at z e1) (T.at z e2)];trivial
 cm:=λ {A} s i j x y _ z e1 e2 C hc=>T.lt' (T.at z e1) (T.at z e2) hc
theorem TupI.keep (T:TupI Is lt d) {h':Heap} {a:Addr} {us:Array Value} (ho:h.get? a=some (seqObj "list" us n)) (k:∀ b o,b ≠ a->h.get? b=some o->h'.get? b=some o) (z:Lw (Is h) vs ts):Lw (Is h') vs ts :=
 z.mono λ _ _=>T.kept λ b o e ec=>k b o (λ z=>by subst z; rw [ho] at e; cases e; exact wj5 ec) e
end
noncomputable abbrev T3s (h:Heap):List Value->List T3->Prop:=Lw (IsT3 h)
theorem ti3:TupI IsT3 lt3 (0,0,0) where
 kept:=λ k ⟨a,o,t1,t2,t3,n,e1,e2,e3,e4⟩=>⟨a,o,t1,t2,t3,n,e1,k _ _ e2 e3,e3,e4⟩
 one:=IsT3.one
 ord:=zh3
 fst:=λ ⟨a,o,t1,t2,t3,n,e1,e2,e3,e4⟩=>⟨a,o,_,t1,_,n,e1,e2,e3,e4⟩
 lt':=xx4
noncomputable abbrev V3s (K:Fg) (H:Hp):List V->List T3->Prop:=Lw λ v t=>∃ a,v=.ref a /\ H a=some (.tup [.int t.1,.int t.2.1,.int t.2.2])
variable {X:Cx}
section
theorem uq0 {pins:[21]} {σ:L2.St} {H:Hp} {s:Shared} (I:[7]):∀ {vs:List V} {ts:List T3} {us:[29]},V3s X.K H vs ts->Vals vs us->T3s s.heap us ts
 | [],[],_,_,.nil=>trivial
 | [],_ :: _,_,z,_=>z.elim
 | _ :: _,[],_,z,_=>z.elim
 | v :: vs,t :: ts,_,z,.cons r rs=>by
  obtain ⟨⟨a,rfl,hq⟩,z⟩:=z;refine ⟨?_,uq0 I z rs⟩;cases r;obtain ⟨its,rv,⟨o,p1,p2,n,p3⟩,_⟩:=I.tuple (SqT.of hq);cases rv with
  | cons r1 rv =>
   cases rv with
   | cons r2 rv =>
    cases rv with
    | cons r3 rv =>
     cases rv;obtain ⟨t1,rfl⟩:=r1;obtain ⟨t2,rfl⟩:=r2;obtain ⟨t3,rfl⟩:=r3;exact ⟨a,o,t1,t2,t3,n,rfl,p1,p2,p3⟩
theorem vm0 {vs:List V} {us:[29]} (r:Vals vs us):∀ (l:List Nat),(∀ i ∈ l,i < vs.length)->Vals (l.map λ i=>vs.getD i .non) (l.map λ i=>us.getD i Value.none)
 | [],_=>.nil
 | i :: l,h=>by
  refine .cons ?_ (vm0 r l λ j hj=>h j (mem_cons_of_mem _ hj));have hi:=h i (mem_cons_self ..);obtain ⟨u,e,z⟩:=Vals.get r (i:=i) (x:=vs.getD i .non) [16]
  simp_all
end
noncomputable def encT (t:T3):D:=.tup [.int t.1,.int t.2.1,.int t.2.2]
noncomputable def t3?:D->Option T3
 | .tup [.int a,.int b,.int c]=>some (a,b,c)
 | _=>none
noncomputable def t3s?:List D->Option (List T3)
 | []=>some []
 | d :: r=>match t3? d with
  | some t=>match t3s? r with
   | some ts=>some (t :: ts)
   | none=>none
  | none=>none
theorem sn1:∀ ts:List T3,t3s? [9]=some ts
 | []=>rfl
 | t :: ts=>by simp only [map_cons,t3s?,encT,t3?,sn1 ts]
theorem xy2 {d:D} {t:T3} (h:t3? d=some t):d=encT t:=by
 unfold t3? at h;split at h
 ·cases h; rfl
 ·cases h
theorem yr2:∀ {l:List D} {ts:List T3},t3s? l=some ts->l=ts.map encT
 | [],ts,h=>by cases h; rfl
 | d :: r,ts,h=>by
  unfold t3s? at h;split at h
  ·next t e =>
   split at h
   ·next us e2=>cases h; rw [xy2 e,yr2 e2]; rfl
   ·cases h
  ·cases h
theorem uv0 {K:Fg} {H:Hp}:∀ {ts:List T3} {vs:List V},RelDs K H [9] vs->V3s K H vs ts
 | [],_,.nil=>trivial
 | t :: ts,_,.cons r rs=>by
  refine ⟨?_,uv0 rs⟩;cases r with
  | tup hq r2 =>
   cases r2 with
   | cons x r2 =>
    cases r2 with
    | cons y r2 =>
     cases r2 with
     | cons z r2 =>
      cases r2;cases x;cases y;cases z
      simp_all
noncomputable def le3 (a b:T3):Prop:=lt3 b a=false
variable {q:Array Nat}
section
variable {α:Type} {d0:α} {enc:α->D} {lt:α->α->Bool}
theorem yk0 {K:Fg} {H:Hp} {ts:List α} {vs:List V} (r:RelDs K H (ts.map enc) vs):∀ (l:List Nat),(∀ i ∈ l,i < vs.length)->RelDs K H ((l.map λ i=>ts.getD i d0).map enc) (l.map λ i=>vs.getD i .non)
 | [],_=>.nil
 | i :: l,h=>by
  refine .cons ?_ (yk0 r l λ j hj=>h j (mem_cons_of_mem _ hj));have hi:=h i (mem_cons_self ..);have hl:=r.length;rw [length_map] at hl;obtain ⟨v,e,z⟩:=r.get (i:=i) (d:=enc (ts.getD i d0)) [16]
  simp_all
theorem zw0 {ts:List α} (h:q.Perm (List.toArray (List.range ts.length))):(q.toList.map λ i=>ts.getD i d0).Perm ts:=by
 have h1:q.toList.Perm (List.range ts.length):=h.toList;refine (h1.map _).trans (List.Perm.of_eq ?_);apply ext_getElem
 ·simp
 simp_all
theorem yp1 {ts:List α} (h:q.Perm (List.toArray (List.range ts.length))) (u:Ms.Up (λ i j=>lt (ts.getD i d0) (ts.getD j d0)) q ts.length):(q.toList.map λ i=>ts.getD i d0).Pairwise λ a b=>lt b a=false:=by
 have sz:q.size=ts.length:=by have:=h.size_eq; simpa using this
 rw [List.pairwise_iff_getElem];intro i j hi hj hij;simp only [length_map,length_toList] at hi hj;have z:=u i j (Nat.le_of_lt hij) [2];simp only [List.getElem_map,Array.getElem_toList];have e1:Ms.at' q i=q[i]:=by simp_all
 have e2:Ms.at' q j=q[j]:=by simp_all
 rw [e1,e2] at z;exact z
noncomputable def tf5 (K:Fg) (enc:α->D) (lt:α->α->Bool) (d0:α):List V->Hp->VK->Prop:=λ xs H Q=>∃ (p:Addr) (vs:List V) (ts:List α),xs=[.ref p] /\ SqL K H p vs /\ RelDs K H (ts.map enc) vs /\ vs.length<=sizeLine ∧
 ∀ q:Array Nat,q.Perm ([42])->Ms.Up (λ i j=>lt (ts.getD i d0) (ts.getD j d0)) q vs.length->∀ r,H r=none->Q (.ref r) (upd H r (.lst (q.toList.map λ i=>vs.getD i .non)))
theorem zr1 {Is:Heap->Value->α->Prop} {srt:C3} (T:TupI Is lt d0) (rl:∀ {pins σ H s},Inv X pins σ H s->∀ {t v u},RelD X.K H (enc t) v->RelV v u->Is s.heap u t)
    (hs:∀ {ds μ Q},srt ds μ Q->∃ (p:Addr) (ts:List α),ds=[.ref p] /\ μ p=some (.lst (ts.map enc)) /\ ts.length<=sizeLine /\ ∀ us:List α,us.Perm ts->(us.Pairwise λ a b=>lt b a=false)->∀ r,μ r=none->Q (.ref r) (updM μ r (.lst (us.map enc)))):RC X (.builtin "sorted") srt:=by
 refine ⟨tf5 X.K enc lt d0,?_,λ xs vs H Q μ Q3 m r h k=>?_⟩
 ·intro pins s σ H xs us Q I r h;obtain ⟨p,vs,ts,rfl,hq,h3,h64,k⟩:=h;cases r with
  | cons r rr =>
   cases rr;cases r;obtain ⟨its,rv,pl,hz⟩:=I.list hq;have hl:=rv.length
   have lw:∀ {ts:List α} {vs:List V} {us:[29]},RelDs X.K H (ts.map enc) vs->Vals vs us->Lw (Is s.heap) us ts:=λ {ts}=>by
    induction ts with
    | nil=>intro vs us a b; cases a; cases b; trivial
    | cons t ts ih=>intro vs us a b; cases a with | cons a1 a2=>cases b with | cons b1 b2=>exact ⟨rl I a1 b1,ih a2 b2⟩
   have z:=lw h3 rv;refine yd2 (T.sk z) [26] pl.isList (λ h' g=>z.mono λ _ _=>T.kept λ b o e _=>g b o e) [2] λ q h' c a1 a2 a3 a4=>?_;have a1':q.Perm [42]:=by rw [hl]; exact a1
   have lt':∀ i ∈ q.toList,i < vs.length:=λ i hi=>by
    have e:i ∈ List.toArray (List.range vs.length):=a1'.mem_iff.mp (by simpa using hi);simpa using e
   have sz:q.toList.length=vs.length:=by have:=a1'.size_eq; simpa using this
   have nw:s.heap.objs.size<=s.heap.objs.size + 1:=Nat.le_succ _;refine ⟨.ref _,_,I.laid (t':=s.toks) a3 nw (show ObjOk X.prog X.w _ h' _ (.lst (q.toList.map λ i=>vs.getD i .non)) from ⟨by simp_all,_,c,vm0 rv _ lt',a4⟩),rfl,k q a1' (by rw [hl]; exact a2) _ (I.hok.fresh nw)⟩
 ·obtain ⟨p,ts,rfl,e,h1,h2⟩:=hs h;cases r with
  | cons r1 r2 =>
   cases r2;cases r1;obtain ⟨us,hv,rv⟩:=m p _ e;have hl:=rv.length;rw [length_map] at hl;refine ⟨p,us,ts,rfl,SqL.of hv,rv,by omega,λ q a1 a2 r hr=>?_⟩;rw [<- hl] at a1 a2
   have lt':∀ i ∈ q.toList,i < us.length:=λ i hi=>by
    have e:i ∈ List.toArray (List.range ts.length):=a1.mem_iff.mp (by simpa using hi)
    simp_all
   exact k _ _ _ _ (h2 _ (zw0 (d0:=d0) a1) (yp1 a1 a2) r (m.free hr)) (Kp.new hr) (.ref r) (m.newL hr (yk0 rv _ lt'))
end
noncomputable def srtR:C3:=λ ds μ Q=>match ds with
 | [.ref p]=>match μ p with
  | some (.lst l)=>match t3s? l with
   | some ts=>ts.length<=sizeLine /\ ∀ us:List T3,us.Perm ts->us.Pairwise le3->∀ r,μ r=none->Q (.ref r) (updM μ r (.lst (us.map encT)))
   | none=>False
  | _=>False
 | _=>False
section
theorem yj2:RC X (.builtin "sorted") srtR:=by
 refine zr1 (enc:=encT) ti3 (λ {_ _ _ _} I {t v u} a b=>?_) λ {ds μ Q} h=>?_
 ·exact (uq0 I (uv0 (ts:=[t]) (.cons a .nil)) (.cons b .nil)).1
 ·unfold srtR at h;split at h
  ·next p =>
   split at h
   ·next l e =>
    split at h
    ·next ts e2=>exact ⟨p,ts,rfl,by rw [e,yr2 e2],h.1,h.2⟩
    ·exact h.elim
   ·exact h.elim
  ·exact h.elim
end
theorem tg1 {K:Fg} {H:Hp}:∀ {ts:List T3} {vs:List V},V3s K H vs ts->RelDs K H [9] vs
 | [],[],_=>.nil
 | [],_ :: _,z=>z.elim
 | _ :: _,[],z=>z.elim
 | t :: ts,v :: vs,z=>by
  obtain ⟨⟨a,rfl,hq⟩,z⟩:=z;exact .cons (.tup hq (.cons (.int _) (.cons (.int _) (.cons (.int _) .nil)))) (tg1 z)
end Pv
namespace Pv
open PySem PySem.Spec PyProof.Rows L2
open PySem.AutoSeq1 (wpAny_loadPart')
theorem ndlt (x y:Int):(!decide (x < y))=decide (y<=x):=by
 by_cases h:x < y
 ·simp_all
 simp_all
theorem si3 (p q:Addr) (a b:T3) (t1 t2 t3 u1 u2 u3:Tok) (n m:Nat) (dd dd2:Option Addr) (sl sl2:Array (Option Value)) :
    Meets (Builtin.«tuple.__ge__» ⟨[.ref p,.ref q],[]⟩) (λ A R s=>s.heap.get? p=some { cls:=.type "tuple",dict:=dd,data:=.seq #[.int a.1 t1,.int a.2.1 t2,.int a.2.2 t3] n,slots:=sl } /\ s.heap.get? q=some { cls:=.type "tuple",dict:=dd2,data:=.seq #[.int b.1 u1,.int b.2.1 u2,.int b.2.2 u3] m,slots:=sl2 } ∧
     R (.ok (.ret (.bool (!lt3 a b)))) s) :=
 .of_wp λ prog w A R s h=>by
  obtain ⟨hp,g,dr,tk,os⟩:=s; obtain ⟨hl,hb,h⟩:=h;obtain ⟨a1,a2,a3⟩:=a;obtain ⟨b1,b2,b3⟩:=b;have f2:=AutoSeq1.sub_tuple_tuple;have ge:∀ (x y:Int) (tx ty:Tok) {Q:[4]} {E:[4]} {A:Around} {s:Shared},Q (.bool (decide (y<=x))) s->wpAny [3] A (richCompare .GtE (.int x tx) (.int y ty)) Q E s:=λ x y tx ty Q E A s hq=>ge_int hq;have eqb:∀ (x y:Int) (tx ty:Tok) {Q:Bool->Shared->Prop} {E:[4]} {A:Around} {s:Shared},Q (x == y) s->wpAny [3] A (eqBool (.int x tx) (.int y ty)) Q E s:=λ x y tx ty Q E A s hq=>wpAny_eqBool_int hq
  wp_walk using wpAny_loadPart' hl,wpAny_loadPart' hb,eqb a1 b1 t1 u1
  by_cases h1:a1=b1
  ·rw [show (a1 == b1)=true by simpa using h1]
   wp_walk using eqb a2 b2 t2 u2
   by_cases h2:a2=b2
   ·rw [show (a2 == b2)=true by simpa using h2]
    wp_walk using eqb a3 b3 t3 u3
    by_cases h3:a3=b3
    ·rw [show (a3 == b3)=true by simpa using h3]
     wp_walk
     have h':R (.ok (.ret (.bool true))) ⟨hp,g,dr,tk,os⟩:=by simpa [lt3,h1,h2,h3] using h
     exact ⟨_,rfl,h'⟩
    ·rw [show (a3 == b3)=false by simpa using h3]
     wp_walk using ge a3 b3 t3 u3
     have e:(!lt3 (a1,a2,a3) (b1,b2,b3))=decide (b3<=a3):=by rw [show lt3 (a1,a2,a3) (b1,b2,b3)=decide (a3 < b3) by subst h1 h2; simp [lt3],ndlt]
     simp_all
   ·rw [show (a2 == b2)=false by simpa using h2]
    wp_walk using ge a2 b2 t2 u2
    have e:(!lt3 (a1,a2,a3) (b1,b2,b3))=decide (b2<=a2):=by rw [show lt3 (a1,a2,a3) (b1,b2,b3)=decide (a2 < b2) by subst h1; simp [lt3,h2],ndlt]
    simp_all
  ·rw [show (a1 == b1)=false by simpa using h1]
   wp_walk using ge a1 b1 t1 u1
   have e:(!lt3 (a1,a2,a3) (b1,b2,b3))=decide (b1<=a1):=by rw [show lt3 (a1,a2,a3) (b1,b2,b3)=decide (a1 < b1) by simp [lt3,h1],ndlt]
   simp_all
section
variable {X:Cx}
noncomputable def ge3R:R3:=λ x y μ Q=>match t3? x,t3? y with
 | some a,some b=>Q (.bl (!lt3 a b)) μ
 | _,_=>False
noncomputable def rGe3 (K:Fg):R2:=λ x y H Q=>∃ p q a b,x=.ref p /\ y=.ref q /\ SqT K H p [.int a.1,.int a.2.1,.int a.2.2] /\ SqT K H q [.int b.1,.int b.2.1,.int b.2.2] /\ Q (.bl (!lt3 a b)) H
theorem zq3 {x y z:V} {us:[29]} (r:Vals [x,y,z] us):∃ a b c,us=[a,b,c] /\ RelV x a /\ RelV y b /\ RelV z c:=by
 cases r with
 | cons r1 r =>
  cases r with
  | cons r2 r =>
   cases r with
   | cons r3 r=>cases r; exact ⟨_,_,_,rfl,r1,r2,r3⟩
theorem sn4 (hu:X.A.units < cLine):OpR X (compareOp .GtE) (rGe3 X.K):=by
 intro pins s σ H x y v u Q I rx ry h;obtain ⟨p,q,a,b,rfl,rfl,ha,hb,k⟩:=h;cases rx;cases ry;obtain ⟨its,r1,⟨⟨c1,d1,e1,l1⟩,o1,o2,n1,o3⟩,_⟩:=I.tuple ha;obtain ⟨its2,r2,⟨⟨c2,d2,e2,l2⟩,o4,o5,n2,o6⟩,_⟩:=I.tuple hb;obtain ⟨_,_,_,rfl,⟨t1,rfl⟩,⟨t2,rfl⟩,⟨t3,rfl⟩⟩:=zq3 r1;obtain ⟨_,_,_,rfl,⟨u1,rfl⟩,⟨u2,rfl⟩,⟨u3,rfl⟩⟩:=zq3 r2;dsimp only at o2 o3 o5 o6;subst o2 o3 o5 o6;exact richCompare_meets_room (op:=.GtE) (T := "tuple") ⟨_,o1,rfl⟩ ⟨_,o4,rfl⟩ PySem.F.slot_tuple_ge PySem.F.entry_tuple_ge (PySem.F.args_tuple_ge_2 _ _) (si3 p q a b t1 t2 t3 u1 u2 u3 n1 n2 d1 d2 l1 l2) ⟨o1,o4,by simp,⟨.bl (!lt3 a b),H,I,rfl,k⟩⟩ hu
theorem zh5 (hu:[32]):RO X (compareOp .GtE) ge3R:=by
 refine ⟨_,sn4 [2],λ x y v u H Q μ Q3 m rx ry h k=>?_⟩;unfold ge3R at h;split at h
 ·next a b ea eb =>
  rw [xy2 ea] at rx;rw [xy2 eb] at ry;obtain ⟨p,rfl,hp⟩:=(uv0 (ts:=[a]) (.cons rx .nil)).1;obtain ⟨q,rfl,hq⟩:=(uv0 (ts:=[b]) (.cons ry .nil)).1;exact ⟨p,q,a,b,rfl,rfl,SqT.of hp,SqT.of hq,k _ _ _ _ h (Kp.refl _) (.bl _) m⟩
 ·exact h.elim
end
end Pv
namespace L2
open PySem PySem.Spec PyProof.Rows
variable {u:Value} {y:V}
section
variable {κ:Type} [DecidableEq κ]
noncomputable def valV (kvs:List (κ × V)) (k:κ):Option V:=(kvs.find? λ kv=>decide (kv.1=k)).map (·.2)
noncomputable def putK (kvs:List (κ × V)) (k:κ) (v:V):List (κ × V) :=
 if (kvs.any λ kv=>decide (kv.1=k))=true then kvs.map (λ kv=>if kv.1=k then (kv.1,v) else kv) else kvs ++ [(k,v)]
noncomputable def dropK (kvs:List (κ × V)) (k:κ):List (κ × V):=kvs.filter λ kv=>decide (kv.1 ≠ k)
theorem ui0 {p:κ × V} {r:List (κ × V)} {k:κ} (e:p.1=k):valV (p :: r) k=some p.2:=by simp [valV,find?_cons,e]
theorem ti0 {p:κ × V} {r:List (κ × V)} {k:κ} (e:¬ p.1=k):valV (p :: r) k=valV r k:=by simp [valV,find?_cons,e]
theorem vq0 (k:κ):∀ kvs:List (κ × V),(kvs.any λ kv=>decide (kv.1=k))=(valV kvs k).isSome
 | []=>rfl
 | p :: r=>by
  rw [any_cons];by_cases e:p.1=k
  ·simp only [ui0 e,decide_eq_true e,Bool.true_or,Option.isSome_some]
  ·rw [ti0 e,decide_eq_false e,Bool.false_or]; exact vq0 k r
theorem tf0 (kvs:List (κ × V)) (k:κ) (v:V):(putK kvs k v).length<=kvs.length + 1:=by
 unfold putK;split
 ·simp
 simp
theorem RelO.isSome_eq {o:Option V} {u:Option Value} (r:RelO o u):o.isSome=u.isSome:=by
 cases o with
 | none=>cases u with
  | none=>rfl
  | some _=>trivial
 | some _=>cases u with
  | none=>trivial
  | some _=>rfl
theorem RelO.getD {o:Option V} {u:Option Value} {d:V} {d':Value} (r:RelO o u) (rd:RelV d d'):RelV (o.getD d) (u.getD d'):=by
 cases o with
 | none=>cases u with
  | none=>exact rd
  | some _=>trivial
 | some _=>cases u with
  | none=>trivial
  | some _=>exact r
theorem KV.val {kvs:List (κ × V)} {vs:List (κ × Value)} (r:KV kvs vs) (k:κ):RelO (valV kvs k) (valueAt vs k):=by
 unfold KV at r
 induction r with
 | nil=>exact True.intro
 | @cons p q ps qs h t ih =>
  obtain ⟨h1,h2⟩:=h;by_cases e:p.1=k
  ·have e':q.1=k:=h1.symm.trans e;have b:valueAt (q :: qs) k=some q.2:=by simp [valueAt,find?_cons,e']
   rw [ui0 e,b]; exact h2
  ·have e':¬ q.1=k:=λ z=>e (h1.trans z);have b:valueAt (q :: qs) k=valueAt qs k:=by simp [valueAt,find?_cons,e']
   rw [ti0 e,b]; exact ih
theorem KV.any {kvs:List (κ × V)} {vs:List (κ × Value)} (r:KV kvs vs) (k:κ):(kvs.any λ kv=>decide (kv.1=k))=vs.any λ kv=>decide (kv.1=k):=by
 unfold KV at r
 induction r with
 | nil=>rfl
 | cons h t ih=>simp_all
theorem KV.repl {kvs:List (κ × V)} {vs:List (κ × Value)} (r:KV kvs vs) (k:κ) (ry:RelV y u) :
    KV (kvs.map λ kv=>if kv.1=k then (kv.1,y) else kv) (vs.map λ kv=>if kv.1=k then (kv.1,u) else kv):=by
 unfold KV at r ⊢
 induction r with
 | nil=>exact .nil
 | @cons p q ps qs h t ih =>
  rw [map_cons,map_cons];refine .cons ?_ ih;obtain ⟨h1,h2⟩:=h;by_cases e:p.1=k
  ·simp_all
  simp_all
theorem KV.put {kvs:List (κ × V)} {vs:List (κ × Value)} (r:KV kvs vs) (k:κ) (ry:RelV y u):KV (putK kvs k y) (stored vs k u):=by
 unfold putK stored;rw [r.any k];by_cases e:(vs.any λ kv=>decide (kv.1=k))=true
 ·rw [if_pos e,if_pos e]; exact r.repl k ry
 ·rw [if_neg e,if_neg e]; exact Paired.snoc r ⟨rfl,ry⟩
theorem KV.length {kvs:List (κ × V)} {vs:List (κ × Value)} (r:KV kvs vs):kvs.length=vs.length:=Paired.length r
theorem xo2 (kvs:List (κ × V)) (k:κ):(dropK kvs k).length<=kvs.length:=length_filter_le _ _
end
variable {P:Program} {w:World}
theorem vl1 {k:Key} (r:RelV (kV k) u):(yb0 P w).is k u=true:=by
 cases k with
 | inl i=>obtain ⟨t,e⟩:=(show ∃ t,u=Value.int i t from r); subst e; exact yc1 P w i t
 | inr x=>obtain ⟨t,e⟩:=(show ∃ t,u=Value.str x t from r); subst e; exact xc1 P w x t
theorem ty0 {P:Program} {w:World}:∀ {ks:List Key} {us:[29]},Vals (ks.map kV) us->ItemsAre (yb0 P w) ks us
 | [],_,r=>by rw [map_nil] at r; cases r; exact .nil
 | k :: ks,_,r=>by
  rw [map_cons] at r;cases r with
  | cons h t=>exact .cons (vl1 h) (ty0 t)
noncomputable abbrev KT (H:Hp):List (List Key × V)->List (List Key × Addr × Value)->Prop:=Paired λ p q=>p.1=q.1 /\ H q.2.1=some (.tup (p.1.map kV)) /\ RelV p.2 q.2.2
variable {H:Hp} {kvs:List (List Key × V)} {xs:List (List Key × Addr × Value)}
theorem KT.val (r:KT H kvs xs) (k:List Key):RelO (valV kvs k) ((atKey xs k).map (·.2)):=by
 induction r with
 | nil=>exact True.intro
 | @cons p q ps qs h t ih =>
  obtain ⟨h1,_,h2⟩:=h;by_cases e:p.1=k
  ·have e':q.1=k:=h1.symm.trans e;have b:atKey (q :: qs) k=some q.2:=by simp [atKey,find?_cons,e']
   rw [ui0 e,b]; exact h2
  ·have e':¬ q.1=k:=λ z=>e (h1.trans z);have b:atKey (q :: qs) k=atKey qs k:=by simp [atKey,find?_cons,e']
   rw [ti0 e,b]; exact ih
theorem KT.repl (r:KT H kvs xs) (k:List Key) (ry:RelV y u) :
    KT H (kvs.map λ kv=>if kv.1=k then (kv.1,y) else kv) (xs.map (putAt k u)):=by
 induction r with
 | nil=>exact .nil
 | @cons p q ps qs h t ih =>
  rw [map_cons,map_cons];refine .cons ?_ ih;obtain ⟨h1,h2,h3⟩:=h;unfold putAt;by_cases e:p.1=k
  ·simp_all
  simp_all
theorem KT.put (r:KT H kvs xs) (k:List Key) {b:Addr} (hb:H b=some (.tup (k.map kV))) (ry:RelV y u) :
    KT H (putK kvs k y) (storedH xs k b u):=by
 have e:(kvs.any λ kv=>decide (kv.1=k))=(atKey xs k).isSome:=by
  rw [vq0,(r.val k).isSome_eq,Option.isSome_map]
 unfold putK storedH;rw [e];by_cases q:(atKey xs k).isSome=true
 ·rw [if_pos q,if_pos q]; exact r.repl k ry
 ·rw [if_neg q,if_neg q]; exact Paired.snoc r ⟨rfl,hb,ry⟩
variable {H':Hp}
theorem KT.keeps (r:KT H kvs xs) (ht:∀ b ys,H b=some (.tup ys)->H' b=some (.tup ys)):KT H' kvs xs :=
 Paired.mapP r λ _ _ z=>⟨z.1,ht _ _ z.2.1,z.2.2⟩
variable {prog:Program} {A:Around} {E Q:[4]} {s:Shared} {h:Heap} {ep:Nat}
section
variable {K:Type} [DecidableEq K] {knd:HeapKind prog w K} 
noncomputable def DHe (knd:HeapKind prog w K) (h:Heap) (d:Addr) (xs:List (K × Addr × Value)) (ep:Nat):Prop :=
 ∃ o es,h.get? d=some o /\ o.ExactDict /\ o.data=.dict es ep /\ es.toList=xs.map (entryOfKey knd) /\ (∀ x ∈ xs,knd.is h x.1 x.2.1) /\ (xs.map (·.1)).Nodup
theorem DHe.of {d:Addr} {xs:List (K × Addr × Value)} (x:DHe knd h d xs ep):h.DictOfH knd d xs:=by
 obtain ⟨o,es,a⟩:=x; exact ⟨o,es,ep,a⟩
theorem DHe.new {d a:Addr} {xs:List (K × Addr × Value)} {k:K} {v:Value} {o:Obj} {es:Array DictEntry} {hs:Int} (ho:s.heap.get? d=some o) (hc:o.ExactDict) (hd:o.data=.dict es ep) (he:es.toList=xs.map (entryOfKey knd))
    (his:∀ x ∈ xs,knd.is s.heap x.1 x.2.1) (hn:(xs.map (·.1)).Nodup) (hkey:knd.is s.heap k a) (hno:∀ (j:Nat) (p:Addr × Value),xs[j]? ≠ some (k,p)) (eh:entryOfKey knd (k,a,v)=⟨hs,.ref a,v⟩) :
    DHe knd (s.heap.update d (Obj.mapDictKeys (·.push ⟨hs,.ref a,v⟩))) d (storedH xs k a v) (ep + 1):=by
 have hnot:k ∉ xs.map (·.1):=not_mem_keys_of_get hno;rw [storedH_new (atKey_none_of_get hno)];refine ⟨_,_,Heap.get?_update_self _ ho (Obj.isFreed_of_dict (Obj.data_mapDictKeys hd _)),hc.mapDictKeys _,Obj.data_mapDictKeys hd _,by simp [he,eh],λ c mc=>?_,?_⟩
 ·rcases List.mem_append.mp mc with mc | mc; · exact knd.keeps (his c mc) ho hd [48]
  rw [mem_singleton] at mc; subst mc; exact knd.keeps hkey ho hd [48]
 ·rw [map_append,nodup_append]; refine ⟨hn,by simp,λ c mc c' mc'=>?_⟩;have e':c'=k:=by simpa using mc'
  subst e'; exact λ e=>hnot (e ▸ mc)
theorem wy1 {d a:Addr} {xs:List (K × Addr × Value)} {k:K} {v:Value} {Q:Unit->Shared->Prop} (hu:knd.room A) (hkey:knd.is s.heap k a) (hm:DHe knd s.heap d xs ep) (hsz:xs.length<=sizeLine)
    (hQ:∀ h' ep',ep'=(if (atKey xs k).isSome then ep else ep + 1)->DHe knd h' d (storedH xs k a v) ep'->Heap.SameBut d s.heap h'->Q () { s with heap:=h',toks:=s.toks + knd.draws k }) :
    wpAny [3] A (dictSet d (.ref a) v) Q E s:=by
 obtain ⟨o,es,ho,hc,hd,he,his,hn⟩:=hm;unfold dictSet; try with_reducible refine wpAny_holding ?_
 refine wpAny_bind (knd.pyHash hu hkey ?_); unfold dictSetHashed; try with_reducible refine wpAny_holding ?_
 refine wpAny_bind (wpAny_dictFind_heap (s:=[41]) hu hkey ho hd he his hn (λ hno=>?_) λ j p hj=>?_)
 ·exact wpAny_bind (wpAny_rule (wpAny_updateDictKeys (hz:=by have e:=size_of_entries he; omega) (s:=[41]) ho hd (hQ _ (ep + 1) (by rw [atKey_none_of_get hno]; rfl) (DHe.new ho hc hd he his hn hkey hno rfl) [48])))
 ·have ak:=atKey_of_get hn hj;refine wpAny_bind (wpAny_rule (wpAny_bind (wpAny_updateDict (s:=[41]) ho hd (wpAny_point (hQ _ ep (by rw [ak]; rfl) ⟨_,_,Heap.get?_update_self _ ho (Obj.isFreed_of_dict (Obj.data_mapDict hd _)),hc.mapDict _,Obj.data_mapDict hd _,?_,?_,?_⟩ [48])))))
  ·rw [storedH_old ak]; have z:=modify_map_putAt (entryOfKey knd) (λ e:DictEntry=>{ e with val:=v }) k v (λ _ _=>rfl) hn hj
   simp_all
  ·rw [storedH_old ak]; intro c mc; obtain ⟨y,my,rfl⟩:=List.mem_map.mp mc; unfold putAt; split <;> exact knd.keeps (his y my) ho hd [48]
  ·rw [storedH_old ak,keys_map_putAt]; exact hn
theorem xx3 {d a:Addr} {xs:List (K × Addr × Value)} {k:K} {v:Value} {Q:Unit->Shared->Prop} (hu:knd.room A.in1) (hkey:knd.is s.heap k a) (hm:DHe knd s.heap d xs ep) (hsz:xs.length<=sizeLine)
    (hQ:∀ h' ep',ep'=(if (atKey xs k).isSome then ep else ep + 1)->DHe knd h' d (storedH xs k a v) ep'->Heap.SameBut d s.heap h'->Q () { s with heap:=h',toks:=s.toks + knd.draws k }) :
    wpAny [3] A (setItem (.ref d) (.ref a) v) Q E s:=by
 have ty:=hm.of.typeIs;unfold setItem; try with_reducible refine wpAny_holding ?_
 refine wpAny_bind (wpAny_sequenceKey ty [19] (wpAny_bind (wpAny_callSpecial?_slot (name:=Str.ofString "__setitem__") ty slot_dict_setitem (wpAny_call_entry slot_dict_setitem ty entry_dict_setitem ?_ (args_dict_setitem _ _ _)))));refine (show wpAny _ _ (Builtin.Dict.notOrdered "__setitem__" ⟨[.ref d,.ref a,v],[]⟩ >>= _) _ _ s from wpAny_bind (wpAny_notOrdered_dict ty ?_));exact (show wpAny _ _ (dictSet d (.ref a) v >>= _) _ _ s from wpAny_bind (wy1 hu hkey hm hsz λ h' ep' e1 dd hs=>wpAny_pure ⟨.none,rfl,wpAny_pure (hQ h' ep' e1 dd hs)⟩))
theorem vp1 {d a:Addr} {xs:List (K × Addr × Value)} {k:K} {v:Value} (hu:knd.room A) (hkey:knd.is s.heap k a) (hm:DHe knd s.heap d xs ep) (hsz:xs.length<=sizeLine)
    (h1:∀ p,atKey xs k=some p->Q p.2 [41])
    (h2:atKey xs k=none->∀ h',DHe knd h' d (storedH xs k a v) (ep + 1)->Heap.SameBut d s.heap h'->Q v { s with heap:=h',toks:=s.toks + knd.draws k }) :
    wpAny [3] A (dictSetDefault d (.ref a) v) Q E s:=by
 obtain ⟨o,es,ho,hc,hd,he,his,hn⟩:=hm;unfold dictSetDefault; try with_reducible refine wpAny_holding ?_
 refine wpAny_bind (knd.pyHash hu hkey (wpAny_bind (wpAny_dictFind_heap (s:=[41]) hu hkey ho hd he his hn (λ hno=>?_) λ j p hj=>?_)))
 ·exact wpAny_bind (wpAny_rule (wpAny_bind (wpAny_updateDictKeys (hz:=by have e:=size_of_entries he; omega) (s:=[41]) ho hd (wpAny_pure (h2 (atKey_none_of_get hno) _ (DHe.new ho hc hd he his hn hkey hno rfl) [48])))))
 ·refine wpAny_bind (wpAny_dictEntries (s:=[41]) ho hd ?_); rw [entry_at he j,hj];exact wpAny_bind (wpAny_rule (wpAny_pure (h1 p (atKey_of_get hn hj))))
end
theorem vu1 {κ:Type} [DecidableEq κ] (kvs:List (κ × V)) (k:κ) (v:V):(putK kvs k v).length=if (valV kvs k).isSome then kvs.length else kvs.length + 1:=by
 unfold putK; rw [vq0]; split <;> simp
variable {ne:Nat}
section
variable {a:Addr}
theorem ti4 {u:HO} (ok:HOk P w H h) (e:Rd H a u):ObjOk P w H h a u:=e.ok ok
theorem wm1 {kvs:List (Key × V)} (ok:HOk P w H h) (e:Rd H a (.dK kvs)):kvs.length<=sizeLine /\ (a == sysModules)=false /\ ∃ vs,KV kvs vs /\ h.DictOf (yb0 P w) a vs :=
 show ObjOk P w H h a (.dK kvs) from ti4 ok e
theorem dk_of {kvs:List (Key × V)} (ok:HOk P w H h) (e:H a=some (.dK kvs)):kvs.length<=sizeLine /\ (a == sysModules)=false /\ ∃ vs,KV kvs vs /\ h.DictOf (yb0 P w) a vs:=wm1 ok (.inl e)
theorem zj0 {ks:List Key} (ok:HOk P w H h) (e:H a=some (.tup (ks.map kV))):(tupleKind (yb0 P w)).is h ks a:=by
 obtain ⟨_,its,r,o,h1,h2,n,h3⟩:=(show ObjOk P w H h a (.tup (ks.map kV)) from ok a _ e);exact ⟨o,its.toArray,n,h1,h2,h3,by simpa using ty0 r⟩
theorem to0 (ok:HOk P w H h) (e:Rd H a (.dT kvs ne)):kvs.length<=sizeLine /\ (a == sysModules)=false ∧
    ∃ xs,KT H kvs xs /\ DHe (tupleKind (yb0 P w)) h a xs ne:=by
 obtain ⟨z,y,xs,r,o,es,ep,h1,h2,h3,h4,h5,h6⟩:=(show ObjOk P w H h a (.dT kvs ne) from ti4 ok e);subst h6;refine ⟨z,y,xs,r,o,es,h1,h2,h3,h4,λ x hx=>?_,h5⟩
 have all:∀ {l:List (List Key × V)} {m:List (List Key × Addr × Value)},KT H l m->∀ x ∈ m,(tupleKind (yb0 P w)).is h x.1 x.2.1:=by
  intro l m q
  induction q with
  | nil=>simp
  | @cons p q ps qs hq t ih =>
   intro x hx;rcases List.mem_cons.mp hx with e | hx
   ·subst e;exact zj0 ok [16]
   ·exact ih x hx
 exact all r x hx
theorem zy1 (ok:HOk P w H h) (e:∃ ne,Rd H a (.dT kvs ne)):kvs.length<=sizeLine /\ (a == sysModules)=false /\ ∃ xs,KT H kvs xs /\ h.DictOfH (tupleKind (yb0 P w)) a xs:=by
 obtain ⟨ne,e⟩:=e; obtain ⟨z,y,xs,r,d⟩:=to0 ok e; exact ⟨z,y,xs,r,d.of⟩
end
noncomputable def DGet (H:Hp) (a:Addr) (y:V) (r:Option V):Prop :=
 (∃ kvs k,Rd H a (.dK kvs) /\ y=kV k /\ r=valV kvs k) \/ ∃ kvs k b,(∃ ne,Rd H a (.dT kvs ne)) /\ y=.ref b /\ H b=some (.tup (k.map kV)) /\ r=valV kvs k
noncomputable def DPut (H:Hp) (a:Addr) (y v:V) (H':Hp):Prop :=
 (∃ kvs k,H a=some (.dK kvs) /\ y=kV k /\ kvs.length < sizeLine /\ H'=upd H a (.dK (putK kvs k v))) ∨
 ∃ kvs k b ne,H a=some (.dT kvs ne) /\ y=.ref b /\ H b=some (.tup (k.map kV)) /\ kvs.length < sizeLine /\ H'=upd H a (.dT (putK kvs k v) (if (valV kvs k).isSome then ne else ne + 1))
theorem DGet.k {H:Hp} {a:Addr} {kvs:List (Key × V)} {k:Key} (e:H a=some (.dK kvs)):DGet H a (kV k) (valV kvs k):=.inl ⟨kvs,k,.inl e,rfl,rfl⟩
theorem DGet.t {a b:Addr} {k:List Key} (e:H a=some (.dT kvs ne)) (eb:H b=some (.tup (k.map kV))):DGet H a (.ref b) (valV kvs k):=.inr ⟨kvs,k,b,⟨ne,.inl e⟩,rfl,eb,rfl⟩
theorem DPut.k {H:Hp} {a:Addr} {kvs:List (Key × V)} {k:Key} {v:V} (e:H a=some (.dK kvs)) (hl:kvs.length < sizeLine):DPut H a (kV k) v (upd H a (.dK (putK kvs k v))):=.inl ⟨kvs,k,e,rfl,hl,rfl⟩
theorem DPut.t {a b:Addr} {k:List Key} {v:V} (e:H a=some (.dT kvs ne)) (eb:H b=some (.tup (k.map kV))) (hl:kvs.length < sizeLine) :
    DPut H a (.ref b) v (upd H a (.dT (putK kvs k v) (if (valV kvs k).isSome then ne else ne + 1))):=.inr ⟨kvs,k,b,ne,e,rfl,eb,hl,rfl⟩
variable {X:Cx} {pins:[21]} {σ:St} {h':Heap}
section
variable {a:Addr} {v:V} {r:Value} {o:Option V} 
theorem Inv.big (I:[7]):sysModules < s.heap.objs.size:=by
 have h:mainGlobals < s.heap.objs.size:=(I.mod.glob.keeps I.bk).lt;exact Nat.lt_trans [19] h
theorem tz1 (hu:A.units + 1 < cLine) (I:[7]) (g:DGet H a y (some v)) (ry:RelV y u) (h:∀ w' s',Inv X pins σ H s'->RelV v w'->Q w' s') :
    wpAny [13] A (getItem (.ref a) u) Q E s:=by
 rcases g with ⟨kvs,k,e,ey,l⟩ | ⟨kvs,k,b,e,ey,eb,l⟩
 ·subst ey;obtain ⟨z,hd,vs,rel,dd⟩:=wm1 I.hok e;obtain ⟨w',hw,rw'⟩:=RelO.some_of (v:=v) (o:=valueAt vs k) (by rw [l]; exact rel.val k);exact wpAny_getItem_of (vl1 ry) dd.mapOf hw (h w' _ (I.tok _) rw')
 ·subst ey;cases (show u=Value.ref b from ry);obtain ⟨z,hd,xs,rel,dd⟩:=zy1 I.hok e;obtain ⟨w',hw,rw'⟩:=RelO.some_of (v:=v) (o:=(atKey xs k).map (·.2)) (by rw [l]; exact rel.val k);obtain ⟨p,hp,hp2⟩:=Option.map_eq_some_iff.mp hw;refine wpAny_getItem_heap (tupleKind_room_in1 hu) (zj0 I.hok eb) dd hp ?_;rw [hp2];exact h w' _ (I.tok _) rw'
theorem d_in (hu:A.units + 1 < cLine) (I:[7]) (g:DGet H a y o) (ry:RelV y u) (h:∀ s',Inv X pins σ H s'->Q (.bool o.isSome) s') :
    wpAny [13] A (compareOp .In u (.ref a)) Q E s:=by
 rcases g with ⟨kvs,k,e,ey,l⟩ | ⟨kvs,k,b,e,ey,eb,l⟩
 ·subst ey;obtain ⟨z,hd,vs,rel,dd⟩:=wm1 I.hok e;refine wpAny_in_of (vl1 ry) hd dd.mapOf ?_;rw [<- (rel.val k).isSome_eq,<- l];exact h _ (I.tok _)
 ·subst ey;cases (show u=Value.ref b from ry);obtain ⟨z,hd,xs,rel,dd⟩:=zy1 I.hok e;refine wpAny_in_heap (tupleKind_room_in1 hu) (zj0 I.hok eb) hd dd ?_;have q:=(rel.val k).isSome_eq;rw [Option.isSome_map] at q;rw [<- q,<- l];exact h _ (I.tok _)
theorem uz1 (hu:A.units + 1 < cLine) (I:[7]) (g:DGet H a y o) (ry:RelV y u) (h:∀ s',Inv X pins σ H s'->Q (.bool (!o.isSome)) s') :
    wpAny [13] A (compareOp .NotIn u (.ref a)) Q E s:=by
 rcases g with ⟨kvs,k,e,ey,l⟩ | ⟨kvs,k,b,e,ey,eb,l⟩
 ·subst ey;obtain ⟨z,hd,vs,rel,dd⟩:=wm1 I.hok e;refine wpAny_notIn_of (vl1 ry) hd dd.mapOf ?_;rw [<- (rel.val k).isSome_eq,<- l];exact h _ (I.tok _)
 ·subst ey;cases (show u=Value.ref b from ry);obtain ⟨z,hd,xs,rel,dd⟩:=zy1 I.hok e;refine wpAny_notIn_heap (tupleKind_room_in1 hu) (zj0 I.hok eb) hd dd ?_;have q:=(rel.val k).isSome_eq;rw [Option.isSome_map] at q;rw [<- q,<- l];exact h _ (I.tok _)
theorem uu0 {t':Nat} {ob:HO} (I:[7]) (mu:Mut (H a)) (hs:Heap.SameBut a s.heap h') (he:∃ q,h'.get? a=some q) (new:ObjOk X.prog X.w (upd H a ob) h' a ob) :
    Inv X pins σ (upd H a ob) { s with heap:=h',toks:=t' } :=
 I.write (x:=a) (e:=a) mu (.inl rfl) (λ b q hb z=>(hs.2 b hb).trans z) he new
theorem ws4 {kvs:List (Key × V)} {vs:List (Key × Value)} (z:kvs.length<=sizeLine) (hd:(a == sysModules)=false) (rel:KV kvs vs) (dd:h'.DictOf (yb0 P w) a vs) :
    ObjOk P w H' h' a (.dK kvs):=⟨z,hd,vs,rel,dd⟩
theorem vz1 {Q:Unit->Shared->Prop} (hu:A.units + 1 < cLine) (I:[7]) (g:DPut H a y v H') (ry:RelV y u) (rv:RelV v r) (h:∀ s',Inv X pins σ H' s'->Q () s') :
    wpAny [13] A (setItem (.ref a) u r) Q E s:=by
 rcases g with ⟨kvs,k,e,ey,l,eH⟩ | ⟨kvs,k,b,ne,e,ey,eb,l,eH⟩
 ·subst ey eH;obtain ⟨z,hd,vs,rel,dd⟩:=dk_of I.hok e;have hz:vs.length<=sizeLine:=by rw [<- rel.length]; exact z
  have hl:(putK kvs k v).length<=sizeLine:=by have:=tf0 kvs k v; omega
  refine wpAny_setItem_pairs (hsz:=hz) (vl1 ry) dd λ h' dd' hs=>h _ ?_;have he:∃ q,h'.get? a=some q:=let ⟨q,_,_,hq,_⟩:=dd'; ⟨q,hq⟩
  exact uu0 I (by rw [e]; exact True.intro) hs he (ws4 hl hd (rel.put k rv) dd')
 ·subst ey eH;cases (show u=Value.ref b from ry);obtain ⟨z,hd,xs,rel,dd⟩:=to0 I.hok (.inl e);have hz:xs.length<=sizeLine:=by rw [<- Paired.length rel]; exact z
  have hl:(putK kvs k v).length<=sizeLine:=by have:=tf0 kvs k v; omega
  refine xx3 (tupleKind_room_in1 hu) (zj0 I.hok eb) dd hz λ h' ep' e1 dd' hs=>h _ ?_;obtain ⟨q,es,hq,h2,h3,h4,_,h5⟩:=dd';have e2:ep'=if (valV kvs k).isSome then ne else ne + 1:=by rw [e1,(rel.val k).isSome_eq,Option.isSome_map]
  refine uu0 I (by rw [e]; exact True.intro) hs ⟨q,hq⟩ ⟨hl,hd,_,(rel.put k eb rv).keeps λ c ys ec=>?_,q,es,ep',hq,h2,h3,h4,h5,e2⟩;rw [sb0 (vt0 ec e (λ z=>nomatch z))];exact ec
end
noncomputable def NoSl (i:Expr):Prop:=∀ ov iv,subscripted i false ov iv=operate [ov,iv] (getItem ov iv)
theorem zy2 {env:Env} {value slice:Expr} {pos:Pos} {T id:String} 
    (hl:typeLookup (.type T) "__getitem__" = pure (some (.builtin id))) (hs:NoSl slice)
    (h:wpAny [3] A (eval value env) (λ o s₁=>wpAny [3] A (eval slice env) (λ i s₂=>s₂.TypeIs o T /\ wpAny [3] A (getItem o i) Q E s₂) E s₁) E s) :
    wpAny [3] A (eval (.Subscript value slice pos) env) Q E s:=by
 refine Subscript_ (wpAny_mono h (λ o s₁ h₁=>wpAny_mono h₁ (λ i s₂ h₂=>?_) λ _ _ x=>x) λ _ _ x=>x);obtain ⟨hT,h₂⟩:=h₂;unfold subscriptTail;refine wpAny_bind ?_;rw [getitemInPython_of_ne hT.not_modules];refine wpAny_bind (wpAny_specialOf hT hl ?_)
 have fin:wpAny [3] A (subscripted slice false o i) (λ r s₃=>wpAny [3] A (letTemporaryGo value o r >>= λ _=>pure r) Q E s₃) E s₂:=by
  rw [hs o i];exact wpAny_operating (wpAny_mono h₂ (λ r s₃ h₃=>wpAny_bind (wpAny_letTemporaryGo (wpAny_pure h₃))) λ _ _ x=>x)
 first
  | exact wpAny_pure (wpAny_bind fin)
  | exact wpAny_bind (wpAny_pure (wpAny_bind fin))
  | exact wpAny_bind fin
theorem ud1 {a:Addr} {o:Option V} (I:[7]) (g:DGet H a y o):s.TypeIs (.ref a) "dict" := by
 rcases g with ⟨kvs,k,e,_,_⟩ | ⟨kvs,k,b,e,_,_,_⟩
 ·obtain ⟨_,_,vs,_,dd⟩:=wm1 I.hok e;exact dd.typeIs
 ·obtain ⟨_,_,xs,_,dd⟩:=zy1 I.hok e;exact dd.typeIs
noncomputable def vw4 (td ty:TE):TE:=λ σ H Q=>td σ H λ x H1=>ty σ H1 λ y H2=>∃ a v,x=.ref a /\ DGet H2 a y (some v) /\ Q v H2
noncomputable def zz4 (td ty tv:TE):TS:=λ D σ H=>tv σ H λ v H1=>td σ H1 λ x H2=>ty σ H2 λ y H3=>∃ a H4,x=.ref a /\ DPut H3 a y v H4 /\ D.nx σ H4
section
variable {o i e value:Expr} {pos pos' tpos:Pos} {td ty tv:TE}
theorem ye3 (hu:X.A.units + 1 < cLine) (ho:PE X o td) (hi:PE X i ty) (hs:NoSl i):PE X (.Subscript o i pos) (vw4 td ty):=by
 intro pins s σ H Q I h;refine zy2 PySem.F.slot_dict_getitem.lookup hs (thn (ho pins s σ H _ I h) λ u s1 ⟨x,H1,I1,rx,q1⟩=>thn (hi pins s1 σ H1 _ I1 q1) λ iv s2 ⟨y,H2,I2,ry,a,v,ex,g,q2⟩=>?_);subst ex;obtain rfl:u=Value.ref a:=rx;exact ⟨ud1 I2 g,tz1 hu I2 g ry λ w' s3 I3 rw'=>⟨v,H2,I3,rw',q2⟩⟩
theorem ur1 (hu:X.A.units + 1 < cLine) (ho:PE X o td) (hi:PE X i ty) (hv:PE X value tv) (hs:swapsWith value (some (.Subscript o i pos')) pos.line X.env=pure false) :
    PS X (.Assign [.Subscript o i pos'] value pos) (zz4 td ty tv):=by
 intro pins s σ H D I h;refine wpAny_Assign_Subscript (thn (hv pins s σ H _ I h) λ r s1 ⟨v,H1,I1,rv,q1⟩=>thn (ho pins s1 σ H1 _ I1 q1) λ u s2 ⟨x,H2,I2,rx,q2⟩=>thn (hi pins s2 σ H2 _ I2 q2) λ iv s3 ⟨y,H3,I3,ry,a,H4,ex,g,q3⟩=>?_) hs;subst ex;obtain rfl:u=Value.ref a:=rx;exact vz1 hu I3 g ry rv λ s4 I4=>⟨σ,H4,I4,q3⟩
end
theorem yo2 (h:Heap) (hb:sysModules < h.objs.size):ObjOk P w H (h.push { cls:=.type "dict",data:=.dict #[] }) h.objs.size (.dK []) :=
 ⟨Nat.zero_le _,beq_eq_false_iff_ne.mpr (Ne.symm (Nat.ne_of_lt hb)),[],.nil,Heap.DictOf.new h⟩
theorem tn2 (h:Heap) (hb:sysModules < h.objs.size):ObjOk P w H (h.push { cls:=.type "dict",data:=.dict #[] }) h.objs.size (.dT [] 0) :=
 ⟨Nat.zero_le _,beq_eq_false_iff_ne.mpr (Ne.symm (Nat.ne_of_lt hb)),[],.nil,_,#[],0,Heap.get?_push_size _ rfl,⟨rfl,rfl,rfl⟩,rfl,rfl,nodup_nil,rfl⟩
noncomputable def yv3:TE:=λ _ H Q=>∀ p,H p=none->Q (.ref p) (upd H p (.dK []))
noncomputable def xv3:TE:=λ _ H Q=>∀ p,H p=none->Q (.ref p) (upd H p (.dT [] 0))
section
variable {pos:Pos}
theorem wk2:PE X (.Dict [] [] pos) yv3:=λ pins s σ H Q I h =>
 wpAny_Dict_empty ⟨.ref s.heap.objs.size,_,I.laid (a:=s.heap.objs.size) (o:=.dK []) (t':=s.toks) (λ _ _ q=>Heap.get?_push_of_some _ q) [26] (yo2 s.heap I.big),rfl,h _ (I.hok.fresh [26])⟩
theorem zk2:PE X (.Dict [] [] pos) xv3:=λ pins s σ H Q I h =>
 wpAny_Dict_empty ⟨.ref s.heap.objs.size,_,I.laid (a:=s.heap.objs.size) (o:=.dT [] 0) (t':=s.toks) (λ _ _ q=>Heap.get?_push_of_some _ q) [26] (tn2 s.heap I.big),rfl,h _ (I.hok.fresh [26])⟩
end
structure M1 (X:Cx) (o:Expr) (m:Str) (apos:Pos) (e:Expr) (cpos:Pos):Prop where
 base:attributeBase o m X.env (eval o X.env)=eval o X.env
 few:((backTo cpos (starEach [e] X.env)).all (λ x=>!x.1) && (backToKw cpos (keywordEach [] X.env)).all (λ x=>x.1.isSome)
  && decide (([e]:List Expr).length + ([]:List Keyword).length + (if ([]:List Keyword).isEmpty then 0 else 1) < 30))=true
 line:(apos.endLine == cpos.line)=true
 trees:backTo cpos (starEach [e] X.env)=[(false,eval e X.env)]
structure M2 (X:Cx) (o:Expr) (m:Str) (apos:Pos) (e f:Expr) (cpos:Pos):Prop where
 base:attributeBase o m X.env (eval o X.env)=eval o X.env
 few:((backTo cpos (starEach [e,f] X.env)).all (λ x=>!x.1) && (backToKw cpos (keywordEach [] X.env)).all (λ x=>x.1.isSome)
  && decide (([e,f]:List Expr).length + ([]:List Keyword).length + (if ([]:List Keyword).isEmpty then 0 else 1) < 30))=true
 line:(apos.endLine == cpos.line)=true
 trees:backTo cpos (starEach [e,f] X.env)=[(false,eval e X.env),(false,eval f X.env)]
section
variable {a:Addr} {d:V} {r:Value} {o:Option V} 
theorem xt4 (hu:A.units + 1 < cLine) (I:[7]) (g:DGet H a y o) (ry:RelV y u) (h:∀ w' s',Inv X pins σ H s'->RelV (o.getD .non) w'->Q w' s') :
    wpAny [13] A (call (.builtin "dict.get") [.ref a,u]) Q E s:=by
 rcases g with ⟨kvs,k,e,ey,l⟩ | ⟨kvs,k,b,e,ey,eb,l⟩
 ·subst ey;obtain ⟨z,hd,vs,rel,dd⟩:=wm1 I.hok e;refine call_meetsIn slot_dict_get dd.typeIs entry_dict_get (PySem.F.args_dict_get_2 _ _) (meets_dict_get (yb0 X.prog X.w) a (vl1 ry) hd) ⟨_,dd.mapOf,h _ _ (I.tok _) ?_⟩;rw [l];exact (rel.val k).getD rfl
 ·subst ey;cases (show u=Value.ref b from ry);obtain ⟨z,hd,xs,rel,dd⟩:=zy1 I.hok e;refine call_meetsIn slot_dict_get dd.typeIs entry_dict_get (PySem.F.args_dict_get_2 _ _) (meetsH_dict_get (tupleKind (yb0 X.prog X.w)) a b hd) ⟨tupleKind_room_in1 hu,k,xs,zj0 I.hok eb,dd,h _ _ (I.tok _) ?_⟩;rw [l];exact (rel.val k).getD rfl
end
end L2
namespace Pv
open PySem PySem.Spec PyProof.Rows L2
noncomputable def keyI:D->Option (List Int)
 | .tup l=>ints? l
 | _=>none
noncomputable def valL (kvs:[18]) (k:List Int):Option D:=(kvs.find? λ kv=>decide (kv.1=k)).map (·.2)
noncomputable def putL (kvs:[18]) (k:List Int) (y:D):List (List Int × D):=if (kvs.any λ kv=>decide (kv.1=k))=true then kvs.map (λ kv=>if kv.1=k then (kv.1,y) else kv) else kvs ++ [(k,y)]
noncomputable def dnl3:TE3:=λ _ μ Q=>∀ p,μ p=none->Q (.ref p) (updM μ p (.dcl false []))
noncomputable def dgR:R3:=λ x y μ Q=>match x,keyI y with
 | .ref p,some k=>match μ p with
  | some (.dcl _ kvs)=>match valL kvs k with
   | some v=>Q v μ
   | none=>False
  | _=>False
 | _,_=>False
noncomputable def dinR (neg:Bool):R3:=λ y x μ Q=>match x,keyI y with
 | .ref p,some k=>match μ p with
  | some (.dcl _ kvs)=>Q (.bl (if neg then !(valL kvs k).isSome else (valL kvs k).isSome)) μ
  | _=>False
 | _,_=>False
noncomputable def ya1 (to ti tv:TE3):TS3:=λ D' ρ μ=>tv ρ μ λ v μ1=>to ρ μ1 λ x μ2=>ti ρ μ2 λ y μ3=>match x,keyI y with
 | .ref p,some k=>match μ3 p with
  | some (.dcl b kvs)=>kvs.length < 90000 /\ D'.nx ρ (updM μ3 p (.dcl b (putL kvs k v)))
  | _=>False
 | _,_=>False
variable {H:Hp} {p:Addr} {ne:Nat}
theorem Kp.wrD {o:HO} {xs:List (List Key × V)} (h:H p=some (.dT xs ne)):Kp H (upd H p o) :=
 ⟨λ b ys q=>by rw [sb0 (vt0 q h (by intro z; cases z))]; exact q,λ b o u q=>by rw [sb0 (vt0 q h (by intro z; cases z))]; exact q⟩
variable {K:Fg} {μ:Mu} {kvs:[18]} {vs:List (List Key × V)} {b0:Bool}
theorem RelM.newC (h:H p=none) (r:RelKl K H kvs vs) (cl:b0=false->ne=vs.length) (m:RelM K μ H):RelM K (updM μ p (.dcl b0 kvs)) (upd H p (.dT vs ne)):=m.put (Kp.new h) (.dcl r cl)
theorem RelM.wrC {ws:List (List Key × V)} {n2:Nat} (h:H p=some (.dT ws ne)) (r:RelKl K H kvs vs) (c0:b0=false->n2=vs.length) (m:RelM K μ H):RelM K (updM μ p (.dcl b0 kvs)) (upd H p (.dT vs n2)):=m.put (Kp.wrD h) (.dcl r c0)
theorem uy0:∀ {a b:List Int},kL a=kL b->a=b
 | [],[],_=>rfl
 | [],_ :: _,h=>by cases h
 | _ :: _,[],h=>by cases h
 | x :: a,y :: b,h=>by
  have h':(Sum.inl x:Key) :: kL a=Sum.inl y :: kL b:=h;injection h' with h1 h2
  cases h1;rw [uy0 h2]
theorem RelKl.len {l:[18]} (r:RelKl K H l vs):l.length=vs.length:=by
 induction r with
 | nil=>rfl
 | cons _ _ ih=>simp_all
theorem RelKl.any {K:Fg} {H:Hp} {t:List Int} {l:[18]} {vs:List (List Key × V)} (r:RelKl K H l vs):(vs.any λ kv=>decide (kv.1=kL t))=l.any λ kv=>decide (kv.1=t):=by
 induction r with
 | nil=>rfl
 | cons _ _ ih =>
  rw [any_cons,any_cons,ih];congr 1;rw [decide_eq_decide];exact ⟨uy0,λ h=>congrArg kL h⟩
theorem RelKl.val {t:List Int} {l:[18]} (r:RelKl K H l vs):(valL l t=none /\ valV vs (kL t)=none) \/ ∃ d v,valL l t=some d /\ valV vs (kL t)=some v /\ RelD K H d v:=by
 induction r with
 | nil=>exact .inl ⟨rfl,rfl⟩
 | cons h _ ih =>
  rename_i t' d' v' l' vs' _;by_cases c:t'=t
  ·subst c;exact .inr ⟨d',v',by simp [valL],ui0 rfl,h⟩
  ·have e1:valL ((t',d') :: l') t=valL l' t:=by simp [valL,c]
   rw [e1,ti0 (p:=(kL t',v')) (λ z=>c (uy0 z))];exact ih
variable {y:D} {v:V}
theorem RelKl.rep {t:List Int} (ry:RelD K H y v) {l:[18]} (r:RelKl K H l vs):RelKl K H (l.map λ kv=>if kv.1=t then (kv.1,y) else kv) (vs.map λ kv=>if kv.1=kL t then (kv.1,v) else kv):=by
 induction r with
 | nil=>exact .nil
 | cons h _ ih =>
  rename_i t' d' v' l' vs' _;rw [map_cons,map_cons];by_cases c:t'=t
  ·rw [if_pos c,if_pos (by rw [c])]; exact .cons ry ih
  ·rw [if_neg c,if_neg (λ z=>c (uy0 z))]; exact .cons h ih
theorem RelKl.snoc {K:Fg} {H:Hp} {t:List Int} {y:D} {v:V} (ry:RelD K H y v) {l:[18]} {vs:List (List Key × V)} (r:RelKl K H l vs):RelKl K H (l ++ [(t,y)]) (vs ++ [(kL t,v)]):=by
 induction r with
 | nil=>exact .cons ry .nil
 | cons h _ ih=>exact .cons h ih
theorem RelKl.put {t:List Int} (ry:RelD K H y v) {l:[18]} (r:RelKl K H l vs):RelKl K H (putL l t y) (putK vs (kL t) v):=by
 unfold putL putK;rw [r.any];split
 ·exact r.rep ry
 ·exact r.snoc ry
theorem xu0 {K:Fg} {H:Hp}:∀ {l:List D} {vs:List V} {k:List Int},RelDs K H l vs->ints? l=some k->vs=(kL k).map kV
 | _,_,k,.nil,e=>by simp [ints?] at e; subst e; rfl
 | _,_,k,.cons h r,e=>by
  cases h with
  | int x =>
   simp only [ints?] at e;split at e
   ·next ys e1 =>
    simp only [Option.some.injEq] at e;subst e;rw [xu0 r e1]; rfl
   ·cases e
  | _=>simp [ints?] at e
theorem wk0 {k:List Int} (r:RelD K H y v) (e:keyI y=some k):∃ b,v=.ref b /\ H b=some (.tup ((kL k).map kV)):=by
 cases r with
 | tup hq rs=>exact ⟨_,rfl,by rw [<- xu0 rs e]; exact hq⟩
 | _=>simp [keyI] at e
variable {o:Expr} {X:Cx} {to:TE3}
section
variable {pos pos':Pos}
theorem ye4:RE X (.Dict [] [] pos) dnl3:=⟨_,zk2,λ σ H Q ρ μ Q3 s m h k p hp=>k _ _ _ _ (h p (m.free hp)) (Kp.new hp) (.ref p) (m.newC hp .nil λ _=>rfl)⟩
theorem ze5 {i:Expr} {ti:TE3} (hu:[32]) (ho:RE X o to) (hi:RE X i ti) (hs:NoSl i:=by intro _ _; rfl):RE X (.Subscript o i pos) (o3 dgR to ti):=by
 obtain ⟨vo,po,ro⟩:=ho;obtain ⟨vi,pi,ri⟩:=hi;refine ⟨_,ye3 [2] po pi hs,λ σ H Q ρ μ Q3 s m h k=>ro σ H _ ρ μ _ s m h λ x μ1 a H1 h1 k1 r1 m1=>ri σ H1 _ ρ μ1 _ (s.mono k1) m1 h1 λ y μ2 b H2 h2 k2 r2 m2=>?_⟩;unfold dgR at h2;split at h2
 ·next p kk ek =>
  split at h2
  ·next b0 kvs e =>
   split at h2
   ·next v ev =>
    cases r1;obtain ⟨ws,n9,hw,rk,cl⟩:=m2.dcl p _ kvs e;obtain ⟨b',rfl,hb⟩:=wk0 r2 ek;rcases rk.val (t:=kk) with ⟨z,_⟩ | ⟨d,w,z1,z2,rd⟩
    ·simp_all
    ·rw [ev] at z1;cases z1;have g:=DGet.t (k:=kL kk) hw hb;rw [z2] at g;exact ⟨p,w,rfl,g,k _ _ _ _ h2 (k1.trans k2) rd m2⟩
   ·exact h2.elim
  ·exact h2.elim
 ·exact h2.elim
theorem sj4 (neg:Bool) (hu:[32]):RO X (compareOp (if neg then .NotIn else .In)) (dinR neg):=by
 refine ⟨λ y x H Q=>∃ a o,x=.ref a /\ DGet H a y o /\ Q (.bl (if neg then !o.isSome else o.isSome)) H,?_,λ y x b a H Q μ Q3 m ry rx h k=>?_⟩
 ·intro pins s σ H y x u v Q I ry rx h;obtain ⟨a,o,rfl,g,q⟩:=h;cases rx;cases neg with
  | true=>exact uz1 [2] I g ry λ s' I'=>⟨.bl (!o.isSome),H,I',rfl,q⟩
  | false=>exact d_in [2] I g ry λ s' I'=>⟨.bl o.isSome,H,I',rfl,q⟩
 ·unfold dinR at h;split at h
  ·next p kk ek =>
   split at h
   ·next b0 kvs e =>
    cases rx;obtain ⟨ws,n9,hw,rk,cl⟩:=m.dcl p _ kvs e;obtain ⟨b',rfl,hb⟩:=wk0 ry ek;refine ⟨p,_,rfl,DGet.t (k:=kL kk) hw hb,?_⟩
    have es:(valV ws (kL kk)).isSome=(valL kvs kk).isSome:=by
     rcases rk.val (t:=kk) with ⟨z1,z2⟩ | ⟨d,w,z1,z2,_⟩ <;> rw [z1,z2] <;> rfl
    rw [es];exact k _ _ _ _ h (Kp.refl _) (.bl _) m
   ·exact h.elim
  ·exact h.elim
theorem tj4 (hu:[32]):RO X (compareOp .In) (dinR false):=sj4 false hu
theorem uj4 (hu:[32]):RO X (compareOp .NotIn) (dinR true):=sj4 true hu
theorem sa3 {i value:Expr} {ti tv:TE3} (hu:[32]) (ho:RE X o to) (hi:RE X i ti) (hv:RE X value tv) (hs:swapsWith value (some (.Subscript o i pos')) pos.line X.env=pure false:=by rfl) :
    RS X (.Assign [.Subscript o i pos'] value pos) (ya1 to ti tv):=by
 obtain ⟨vo,po,ro⟩:=ho;obtain ⟨vi,pi,ri⟩:=hi;obtain ⟨vv,pv,rv⟩:=hv
 refine ⟨_,ur1 [2] po pi pv hs,λ σ H D ρ μ D3 s m h k=>rv σ H _ ρ μ _ s m h λ y μ1 v H1 h1 k1 r1 m1=>ro σ H1 _ ρ μ1 _ (s.mono k1) m1 h1 λ d μ2 x H2 h2 k2 r2 m2 =>
  ri σ H2 _ ρ μ2 _ (s.mono (k1.trans k2)) m2 h2 λ kd μ3 b H3 h3 k3 r3 m3=>?_⟩
 split at h3
 ·next p kk ek =>
  split at h3
  ·next b0 kvs e =>
   cases r2;obtain ⟨ws,n9,hw,rk,cl⟩:=m3.dcl p _ kvs e;obtain ⟨b',rfl,hb⟩:=wk0 r3 ek;have hl:=rk.len;have hz:(90000:Nat) < sizeLine:=by decide
   refine ⟨p,_,rfl,DPut.t (k:=kL kk) hw hb [2],?_⟩;exact k.nx _ _ _ _ h3.2 (k1.trans (k2.trans (k3.trans (Kp.wrD hw)))) (s.mono (k1.trans (k2.trans (k3.trans (Kp.wrD hw))))) (m3.wrC hw (rk.put (r1.mono (k2.trans k3))) λ z=>by rw [vu1,cl z])
  ·exact h3.elim
 ·exact h3.elim
end
noncomputable def sdf3 (to:TE3) (t:TA3):TE3:=λ ρ μ Q=>to ρ μ λ x μ1=>match x with
 | .ref p=>match μ1 p with
  | some (.dcl _ _)=>t ρ μ1 λ ds μ2=>match ds with
   | [y,d]=>match keyI y,μ2 p with
    | some k,some (.dcl b kvs)=>kvs.length < 90000 /\ (match valL kvs k with
     | some v=>Q v μ2
     | none=>Q d (updM μ2 p (.dcl b (putL kvs k d))))
    | _,_=>False
   | _=>False
  | _=>False
 | _=>False
noncomputable def rSd:V->List V->Hp->VK->Prop:=λ x vs H Q=>∃ a kvs k b v ne,x=.ref a /\ vs=[.ref b,v] /\ H a=some (.dT kvs ne) /\ H b=some (.tup (k.map kV)) /\ kvs.length < sizeLine ∧
 (∀ u,valV kvs k=some u->Q u H) /\ (valV kvs k=none->Q v (upd H a (.dT (putK kvs k v) (ne + 1))))
section
theorem vj5 (hu:X.A.units + 1 < cLine):MtM X "dict.setdefault" rSd:=by
 intro pins s σ H x vs v us Q I rx rv h;obtain ⟨d,kvs,k,b,v0,ne,rfl,rfl,e,eb,l,q1,q2⟩:=h;cases rx;cases rv with
 | cons r1 r2 =>
 cases r2 with
 | cons r2 r3 =>
 cases r3;rename_i u1 u2;cases (show u1=Value.ref b from r1);obtain ⟨z,hd,xs,rel,dd⟩:=to0 I.hok (.inl e);have hz:xs.length<=sizeLine:=by rw [<- Paired.length rel]; exact z
 refine wpAny_call_entry F.slot_dict_setdefault dd.of.typeIs F.entry_dict_setdefault ?_ (F.args_dict_setdefault_3 _ _ _);unfold Builtin.«dict.setdefault»; refine wpAny_bind ?_;unfold Builtin.Dict.keyAndDefault; refine wpAny_bind (wpAny_notOrdered_dict dd.of.typeIs ?_);refine (show wpAny _ _ (pure (d,Value.ref b,some u2)) _ _ s from wpAny_pure ?_);show wpAny _ _ (if (d == sysModules)=true then _ else (dictSetDefault d (.ref b) u2 >>= _)) _ _ s;rw [if_neg [16]];have rv:=rel.val k;refine wpAny_bind (vp1 (tupleKind_room_in1 hu) (zj0 I.hok eb) dd hz (λ p hp=>wpAny_pure ⟨p.2,rfl,?_⟩) λ hno h' dd' hs'=>wpAny_pure ⟨_,rfl,?_⟩)
 ·rw [hp,Option.map_some] at rv;cases ev:valV kvs k with
  | none=>rw [ev] at rv; exact rv.elim
  | some w'=>rw [ev] at rv; exact ⟨w',H,I.tok _,rv,q1 w' ev⟩
 ·rw [hno,Option.map_none] at rv;cases ev:valV kvs k with
  | some w'=>rw [ev] at rv; exact rv.elim
  | none =>
   have hl:(putK kvs k v0).length<=sizeLine:=by have:=tf0 kvs k v0; omega
   obtain ⟨ob,es,hq,h2,h3,h4,_,h5⟩:=dd';refine ⟨v0,upd H d (.dT (putK kvs k v0) (ne + 1)),uu0 (ob:=.dT (putK kvs k v0) (ne + 1)) I (by rw [e]; exact True.intro) hs' ⟨ob,hq⟩ ⟨hl,hd,_,(rel.put k eb r2).keeps λ c ys ec=>?_,ob,es,_,hq,h2,h3,h4,h5,rfl⟩,r2,q2 ev⟩;rw [sb0 (vt0 ec e (λ z=>nomatch z))]; exact ec
variable {e:Expr} {es:List Expr} {t:TA3} {apos cpos:Pos}
theorem td5 (hu:[32]) (ho:RE X o to) (ha:RA X (e :: es) t) (hbase:attributeBase o "setdefault" X.env (eval o X.env)=eval o X.env:=by rfl)
    (hfew:((backTo cpos (starEach (e :: es) X.env)).all (λ x=>!x.1) && (backToKw cpos (keywordEach [] X.env)).all (λ x=>x.1.isSome)
     && decide [24])=true:=by rfl)
    (hline:(apos.endLine == cpos.line)=true:=by rfl) (hs:starEach (e :: es) X.env=[37] :: starEach es X.env:=by rfl) (hplain:(backTo cpos (starEach es X.env)).any (·.1)=false:=by rfl) :
    RE X (.Call (.Attribute o "setdefault" apos) (e :: es) [] cpos) (sdf3 to t):=by
 obtain ⟨va,pa,ra⟩:=ho;obtain ⟨vb,pb,rb⟩:=ha;refine ⟨_,ue3 plainAttrs_dict PySem.F.slot_dict_setdefault PySem.F.type_dict_setdefault (vj5 [2]) pa pb hbase hfew hline hs hplain,λ σ H Q ρ μ Q3 s m h k=>ra σ H _ ρ μ _ s m h λ x μ1 v H1 h1 k1 r1 m1=>?_⟩;split at h1
 ·next p =>
  split at h1
  ·next b0 kvs0 e0 =>
   cases r1;obtain ⟨ws0,n9,hw0,_,cl⟩:=m1.dcl p _ kvs0 e0;refine ⟨.inr (.inr (.inl ⟨rfl,.inr ⟨ws0,_,hw0⟩⟩)),rb σ H1 _ ρ μ1 _ (s.mono k1) m1 h1 λ ds μ2 vs H2 h2 k2 r2 m2=>?_⟩;split at h2
   ·next y d =>
    cases r2 with
    | cons ry r2 =>
    cases r2 with
    | cons rd r2 =>
    cases r2;split at h2
    ·next kk b1 kvs ek e =>
     obtain ⟨ws,n9,hw,rk,cl⟩:=m2.dcl p _ kvs e;obtain ⟨b,rfl,hb⟩:=wk0 ry ek;have hl:=rk.len;have hz:(90000:Nat) < sizeLine:=by decide
     refine ⟨p,ws,kL kk,b,_,_,rfl,rfl,hw,hb,by omega,λ u eu=>?_,λ eu=>?_⟩
     ·rcases rk.val (t:=kk) with ⟨_,z2⟩ | ⟨d',w',z1,z2,rd'⟩
      ·simp_all
      ·rw [eu] at z2; cases z2; rw [z1] at h2; exact k _ _ _ _ h2.2 (k1.trans k2) rd' m2
     ·rcases rk.val (t:=kk) with ⟨z1,_⟩ | ⟨d',w',_,z2,_⟩
      ·rw [z1] at h2; exact k _ _ _ _ h2.2 (k1.trans (k2.trans (Kp.wrD hw))) (rd.mono (Kp.wrD hw)) (m2.wrC hw (rk.put rd) λ z=>by rw [vu1,eu,cl z]; rfl)
      simp_all
    ·exact h2.elim
   ·exact h2.elim
  ·exact h1.elim
 ·exact h1.elim
end
end Pv
namespace Pv
open PySem PySem.Spec PySem.W PyProof.Rows L2
noncomputable def DG (h:Heap) (d:Addr) (es:Array DictEntry) (ep:Nat):Prop:=∃ o,h.get? d=some o /\ o.ExactDict /\ o.data=.dict es ep
variable {es:Array DictEntry} {ep:Nat}
theorem DG.keep {h h':Heap} {d:Addr} (x:DG h d es ep) (k:∀ o,h.get? d=some o->h'.get? d=some o):DG h' d es ep:=by
 obtain ⟨o,a,b⟩:=x;exact ⟨o,k o a,b⟩
variable {s:Shared}
theorem DG.ty {d:Addr} (x:DG s.heap d es ep):s.TypeIs (.ref d) "dict" := by
 obtain ⟨o,a,b,_⟩:=x;exact ⟨o,a,b.1⟩
variable {Q:Option Value->Shared->Prop}
section
variable {prog:Program} {w:World} {A:Around} {E:[4]} {d it:Addr} {i:Nat}
theorem vk3 {Q:[4]} (lo:(d == sysModules)=false) (x:DG s.heap d es ep) (q:Q (.ref s.heap.objs.size) { s with heap:=s.heap.push { cls:=.type "dict_keyiterator",data:=.fields #[.ref d,.int 0 0,.int es.size 0,.int ep 0] } }) :
    wpAny [3] A (pyIter (.ref d)) Q E s:=by
 have ty:=x.ty;obtain ⟨o,e1,e2,e3⟩:=x;refine wpAny_pyIter_slot ty F.slot_dict_iter (wpAny_call_entry F.slot_dict_iter ty F.entry_dict_iter ?a (F.args_dict_iter_1 _))
 case a =>
  unfold Builtin.«dict.__iter__»;refine wpAny_bind ?_; unfold Builtin.Dict.dictSlotNone;refine wpAny_bind (wpAny_notOrdered_dict ty (show wpAny _ _ (pure (Value.ref d)) _ _ s from wpAny_pure ?_));show wpAny _ _ (Builtin.Dict.showsAll d >>= _) _ _ s; unfold Builtin.Dict.showsAll;rw [if_neg [16]];refine wpAny_bind (wpAny_pure (wpAny_bind (wpAny_dictEntries e1 e3 (wpAny_bind (wpAny_dictEpoch e1 e3 ?_)))));refine wpAny_bind (wpAny_newObj_type (wpAny_pure ⟨_,rfl, "dict_keyiterator",_,⟨_,Heap.get?_push_size _ rfl,rfl⟩,F.slot_dict_keyiterator_next.lookup,q⟩))
theorem wk3 (hi:s.heap.IsKeyIter it d i es.size ep) (x:DG s.heap d es ep) (lt:i < es.size)
    (q:∀ h',h'.IsKeyIter it d (i + 1) es.size ep->Heap.SameBut it s.heap h'->Q (some es[i].key) [38]):wpAny [3] A (pyNext (.ref it)) Q E s:=by
 obtain ⟨o,a1,a2,a3⟩:=id hi;obtain ⟨od,e1,e2,e3⟩:=x;have ty:=hi.typeIs;have own0:Builtin.Dict_items.ownsTuple "dict_keyiterator" = false:=by decide
 unfold pyNext;refine wpAny_bind (wpAny_attempt (wpAny_callSpecial?_slot (name:=Str.ofString "__next__") ty F.slot_dict_keyiterator_next (wpAny_call_entry F.slot_dict_keyiterator_next ty F.entry_dict_keyiterator_next ?a (F.args_dict_keyiterator_next_1 _))))
 case a =>
  refine wpAny_bind (wpAny_pure (wpAny_bind (wpAny_bind ?_)))
  first | refine wpAny_bind (wpAny_typeNameOfWhole_keyiter ty [22]) | refine wpAny_bind (wpAny_typeNameOf_keyiter ty [22])
  refine wpAny_bind (wpAny_fieldsOf a1 a3 ?_); simp only [own0,Bool.false_eq_true,if_false];show wpAny _ _ (if (Value.ref d == Value.none)=true then _ else _) _ _ s; rw [if_neg (show ¬ ((Value.ref d == Value.none)=true) from Bool.false_ne_true)];refine wpAny_bind (wpAny_pure (wpAny_bind (wpAny_dictEntries e1 e3 ?_))); rw [if_neg [10]];refine wpAny_bind (wpAny_pure (wpAny_bind (wpAny_dictEpoch e1 e3 ?_))); rw [if_neg [10]];refine wpAny_pure ?_;simp only [show ¬ ((i:Int) < 0) from by omega,if_false,Int.toNat_natCast,Array.getElem?_eq_getElem lt];refine wpAny_bind ?_
  first | refine wpAny_bind (wpAny_typeNameOfWhole_keyiter ty [22]) | refine wpAny_bind (wpAny_typeNameOf_keyiter ty [22])
  refine wpAny_bind (wpAny_isOneOf_keyiter ty (show wpAny _ _ (setField (.ref it) 1 (rawInt ((i:Int) + 1)) >>= _) _ _ s from wpAny_bind (wpAny_setField a1 a3 [10] ?_)));have hi':(s.heap.update it (Obj.mapFields (·.setIfInBounds 1 (rawInt ((i:Int) + 1))))).IsKeyIter it d (i + 1) es.size ep:=⟨_,Heap.get?_update_self _ a1 (Obj.isFreed_of_fields (Obj.data_mapFields a3 _)),(Obj.cls_mapFields ..).trans a2,by rw [Obj.data_mapFields a3]; simp [rawInt]⟩;refine wpAny_bind (wpAny_holding (wpAny_bind (wpAny_isOneOf_keyiter (s:={ s with heap:=s.heap.update it (Obj.mapFields (·.setIfInBounds 1 (rawInt ((i:Int) + 1)))) }) hi'.typeIs ?_)));show wpAny _ _ (pure es[i].key) _ _ _;exact wpAny_pure (wpAny_pure ⟨_,rfl,wpAny_pure (q _ hi' [48])⟩)
theorem us4 (hh:A.handled=none) (hi:s.heap.IsKeyIter it d i es.size ep) (x:DG s.heap d es ep) (ge:es.size<=i)
    (q:∀ h',Heap.ExtBut it s.heap h'->Q none [38]):wpAny [3] A (pyNext (.ref it)) Q E s:=by
 obtain ⟨o,a1,a2,a3⟩:=id hi;obtain ⟨od,e1,e2,e3⟩:=x;have ty:=hi.typeIs;have own0:Builtin.Dict_items.ownsTuple "dict_keyiterator" = false:=by decide
 unfold pyNext;refine wpAny_bind (wpAny_attempt (wpAny_callSpecial?_slot (name:=Str.ofString "__next__") ty F.slot_dict_keyiterator_next (wpAny_call_entry F.slot_dict_keyiterator_next ty F.entry_dict_keyiterator_next ?a (F.args_dict_keyiterator_next_1 _))))
 case a =>
  refine wpAny_bind (wpAny_pure (wpAny_bind (wpAny_bind ?_)))
  first | refine wpAny_bind (wpAny_typeNameOfWhole_keyiter ty [22]) | refine wpAny_bind (wpAny_typeNameOf_keyiter ty [22])
  refine wpAny_bind (wpAny_fieldsOf a1 a3 ?_); simp only [own0,Bool.false_eq_true,if_false];show wpAny _ _ (if (Value.ref d == Value.none)=true then _ else _) _ _ s; rw [if_neg (show ¬ ((Value.ref d == Value.none)=true) from Bool.false_ne_true)];refine wpAny_bind (wpAny_pure (wpAny_bind (wpAny_dictEntries e1 e3 ?_))); rw [if_neg [10]];refine wpAny_bind (wpAny_pure (wpAny_bind (wpAny_dictEpoch e1 e3 ?_))); rw [if_neg [10]];refine wpAny_pure ?_;simp only [show ¬ ((i:Int) < 0) from by omega,if_false,Int.toNat_natCast,Array.getElem?_eq_none ge];refine wpAny_bind ?_
  first | refine wpAny_bind (wpAny_typeNameOfWhole_keyiter ty [22]) | refine wpAny_bind (wpAny_typeNameOf_keyiter ty [22])
  show wpAny _ _ (setField (.ref it) 0 .none >>= _) _ _ s; refine wpAny_bind (wpAny_setField a1 a3 [10] ?_);show wpAny _ _ (newExc (.type "StopIteration") [] >>= _) _ _ _; refine wpAny_bind ?_; simp only [newExc,newTuple];refine wpAny_bind [45];simp only [raiseNew]; refine wpAny_bind (wpAny_handled ?_); rw [show A.in1.handled=none from hh];refine wpAny_bind (wpAny_pure (wpAny_throw ?_)); refine wpAny_bind (wpAny_isInstance (T := "StopIteration") (b:=true) ⟨_,Heap.get?_push_size _ rfl,rfl⟩ isSubtype_stop ?_);exact wpAny_pure (q _ (([48].extBut.push _).push _))
end
end Pv
namespace Pv
open PySem PySem.Spec PyProof.Rows L2
noncomputable def Itd (a:Addr) (n m:Nat):It :=
 ⟨λ i H=>∃ kvs,H a=some (.dT kvs m) /\ kvs.length=n /\ i < n,λ i H x H'=>H'=H /\ ∃ kvs k v b,H a=some (.dT kvs m) /\ kvs[i]?=some (k,v) /\ x=.ref b /\ H b=some (.tup (k.map kV)),
  λ i H=>∃ kvs,H a=some (.dT kvs m) /\ kvs.length=n /\ n<=i⟩
theorem xu2 {H:Hp}:∀ {kvs:List (List Key × V)} {xs:List (List Key × Addr × Value)},KT H kvs xs->∀ (i:Nat) x,xs[i]?=some x->∃ v,kvs[i]?=some (x.1,v) /\ H x.2.1=some (.tup (x.1.map kV))
 | _,_,.nil,i,x,e=>by simp at e
 | _,_,.cons (a:=p) (b:=q) h r,0,x,e=>by
  simp at e; subst e;exact ⟨p.2,by rw [List.getElem?_cons_zero,<- h.1],by simp_all⟩
 | _,_,.cons h r,i + 1,x,e=>by
  rw [getElem?_cons_succ] at e ⊢;exact xu2 r i x e
variable {tg:Expr}
theorem wn1 {P:Program} {w:World} {K:PySem.W.Frag} (a it:Addr) (n m:Nat):Turn P w K tg (Itd a n m) [it] it (λ i h=>h.IsKeyIter it a i n m) where
 mem:=by simp
 obj:=λ i h st b hb=>by
  have e:b=it:=by simpa using hb
  subst e;obtain ⟨o,e,c,d⟩:=st
  simp_all
 keep:=λ i h h' st k=>by
  obtain ⟨o,e,c,d⟩:=st;exact ⟨o,k it [10] o e,c,d⟩
 item:=by
  intro X hP hw hK hc i pins s σ H E I hf st hg;subst hP hw hK;obtain ⟨f0,f1,f2,f3,f4,f5⟩:=hf it [10];obtain ⟨kvs,e,el,hi⟩:=hg;obtain ⟨z,hd,xs,rel,o,es,ho,hc1,hd1,he,_⟩:=to0 I.hok (.inl e);have l1:xs.length=n:=by rw [<- Paired.length rel]; exact el
  have l2:es.size=n:=by rw [<- length_toList,he,length_map,l1]
  have st':s.heap.IsKeyIter it a i es.size m:=by rw [l2]; exact st
  refine wk3 st' ⟨o,ho,hc1,hd1⟩ [2] λ h' hst hk=>?_;rw [l2] at hst;have hx:xs[i]?=some (xs[i]'(by omega)):=getElem?_eq_getElem _
  have ek:(es[i]'(by omega)).key=.ref (xs[i]'(by omega)).2.1:=by
   have q:es.toList[i]?=some (entryOfKey (tupleKind (yb0 X.prog X.w)) (xs[i]'(by omega))):=by simp_all
   rw [getElem?_toList,Array.getElem?_eq_getElem [2]] at q;cases q':es[i]'(by omega) with
   | mk a1 a2 a3=>rw [q'] at q; cases q; rfl
  obtain ⟨v,kg,kh⟩:=xu2 rel i _ hx;have I1:Inv X pins σ H [38]:=I.turned (t':=s.toks) (λ b o hb e=>hk.extBut b o hb e) f0 f1 f3 f4 f5;obtain ⟨o1,e1,c1,d1⟩:=id hst;refine ⟨_,rfl,sl1 (s:=[38]) e1 c1 d1 [19] ⟨.ref _,H,I1,ek,⟨rfl,kvs,_,v,_,e,kg,rfl,kh⟩,hst,λ b hb=>(hf b hb).1⟩⟩
 done:=by
  intro X hP hw hK hc i pins s σ H E I hf st hg;subst hP hw hK;obtain ⟨f0,f1,f2,f3,f4,f5⟩:=hf it [10];obtain ⟨kvs,e,el,hi⟩:=hg;obtain ⟨z,hd,xs,rel,o,es,ho,hc1,hd1,he,_⟩:=to0 I.hok (.inl e);have l1:xs.length=n:=by rw [<- Paired.length rel]; exact el
  have l2:es.size=n:=by rw [<- length_toList,he,length_map,l1]
  have st':s.heap.IsKeyIter it a i es.size m:=by rw [l2]; exact st
  exact us4 (I.ok.hd hc) st' ⟨o,ho,hc1,hd1⟩ [2] λ h' hk=>⟨rfl,I.turned (t':=s.toks) (λ b o hb e=>hk b o hb e) f0 f1 f3 f4 f5⟩
 self:=λ A i s Q E st h=>wpAny_pyIter_keyiter st h
variable {K:Fg}
section
variable {X:Cx} 
noncomputable def iDct (tl:TE):TI:=λ σ H R=>tl σ H λ x H1=>∃ a kvs m,x=.ref a /\ H1 a=some (.dT kvs m) /\ R (Itd a kvs.length m) H1
theorem ud3 {l:Expr} {tl:TE} (hl:PE X l tl):PI X tg l (iDct tl):=by
 intro pins s σ H R I h;refine thn (hl pins s σ H _ I h) λ v s1 ⟨x,H1,I1,r1,q1⟩=>?_
 have fp:∀ b ∈ [s1.heap.objs.size],FpOk X pins H1 b:=λ b hb=>by
  have e:b=s1.heap.objs.size:=by simpa using hb
  subst e;exact I1.fpOk [26] (I1.hok.fresh [26])
 obtain ⟨a,kvs,m,rfl,e,q⟩:=q1;cases r1;obtain ⟨z,hd,xs,rel,o,es,ho,hc1,hd1,he,_⟩:=to0 I1.hok (.inl e);have l2:es.size=kvs.length:=by rw [<- length_toList,he,length_map]; exact (Paired.length rel).symm
 refine vk3 hd ⟨o,ho,hc1,hd1⟩ ?_;rw [l2];exact ⟨s1.heap.objs.size,[s1.heap.objs.size],_,_,H1,rfl,I1.kept (t':=s1.toks) λ b o e=>Heap.get?_push_of_some _ e,wn1 a _ _ _,[43],fp,q⟩
noncomputable def tupI (k:List Int):D:=.tup (k.map .int)
theorem tp0 {K:Fg} {H:Hp}:∀ k:List Int,RelDs K H (k.map .int) ((kL k).map kV)
 | []=>.nil
 | i :: k=>.cons (.int i) (tp0 k)
theorem RelKl.get {H:Hp} {l:[18]} {vs:List (List Key × V)} (r:RelKl K H l vs):∀ (i:Nat) k v,vs[i]?=some (k,v)->∃ t d,l[i]?=some (t,d) /\ k=kL t:=by
 induction r with
 | nil=>simp
 | cons h _ ih =>
  intro i k v e;cases i with
  | zero=>simp_all
  | succ i=>simp_all
theorem vm2 {H0:Hp} {a:Addr} {l:[18]}:ItOk K (Itd a l.length l.length) (l.map λ kv=>tupI kv.1) (λ μ=>μ a=some (.dcl false l)) H0:=λ i H μ k m s=>by
 obtain ⟨vs,n9,h,r,cl⟩:=m.dcl a _ l s;obtain rfl:n9=l.length:=(cl rfl).trans r.len.symm;have hl:=r.len;refine ⟨λ d e=>?_,λ hl'=>⟨vs,h,hl.symm,by simpa using hl'⟩⟩;rw [getElem?_map] at e
 have hi:i < l.length:=by
  rcases Nat.lt_or_ge i l.length with c | c
  ·exact c
  simp_all
 refine ⟨⟨vs,h,hl.symm,hi⟩,λ x H2 y=>?_⟩;obtain ⟨rfl,kvs,kk,v,b,e1,e2,rfl,e3⟩:=y;rw [h] at e1;cases e1;obtain ⟨t,dd,e4,rfl⟩:=r.get i kk v e2;rw [e4] at e;cases e;exact ⟨Kp.refl _,m,.tup e3 (tp0 t)⟩
noncomputable def isd3 (t:TE3):TI3:=λ ρ μ R=>t ρ μ λ d μ1=>match d with
 | .ref p=>match μ1 p with
  | some (.dcl false l)=>R (l.map λ kv=>tupI kv.1) (λ μ=>μ p=some (.dcl false l)) μ1
  | _=>False
 | _=>False
theorem sc4 {a:Expr} {ta:TE3} (ha:RE X a ta):RI X tg a (isd3 ta):=by
 obtain ⟨va,pa,ra⟩:=ha;refine ⟨_,ud3 pa,λ σ H R ρ μ R3 s m h k=>ra σ H _ ρ μ _ s m h λ d μ1 v H1 h1 k1 r1 m1=>?_⟩;split at h1
 ·next p =>
  split at h1
  ·next l e =>
   cases r1;obtain ⟨vs,n9,hv,rv,cl⟩:=m1.dcl p _ l e;obtain rfl:n9=l.length:=(cl rfl).trans rv.len.symm;refine ⟨p,vs,_,rfl,hv,?_⟩;rw [<- rv.len];exact k _ _ _ _ _ h1 k1 m1 vm2
  ·exact h1.elim
 ·exact h1.elim
end
end Pv
namespace Pv
open PySem PySem.Spec PySem.W PyProof.Rows L2
variable {w:World} {Q:[4]}
section
variable {prog:Program} {A:Around} {E:[4]} {s:Shared} {d it vw:Addr} {es:Array DictEntry} {ep i:Nat}
theorem uw2 (lo:(d == sysModules)=false) (x:DG s.heap d es ep) (q:Q (.ref s.heap.objs.size) { s with heap:=s.heap.push { cls:=.type "dict_values",data:=.fields #[.ref d] } }) :
    wpAny [3] A (call (.builtin "dict.values") [.ref d]) Q E s:=by
 have ty:=x.ty;refine wpAny_call_entry F.slot_dict_values ty F.entry_dict_values ?a (F.args_dict_values_1 _)
 case a =>
  unfold Builtin.«dict.values»;refine wpAny_bind (m:=Builtin.Dict.noArgs "values" _) ?_;unfold Builtin.Dict.noArgs;refine wpAny_bind (wpAny_notOrdered_dict ty ?_);refine wpAny_bind (m:=Builtin.Dict.nameIsSure _ _ _) [22];refine wpAny_bind (m:=selfOnly _ _) [22];refine (show wpAny _ _ (pure d) _ _ s from wpAny_pure ?_);show wpAny _ _ (Builtin.Dict.showsAll d >>= _) _ _ s; unfold Builtin.Dict.showsAll;rw [if_neg [16]];exact wpAny_bind (wpAny_pure (wpAny_bind (wpAny_newObj_type (wpAny_pure ⟨_,rfl,q⟩))))
theorem sw2 (hv:s.heap.IsValuesView vw d) (x:DG s.heap d es ep) (q:Q (.ref s.heap.objs.size) { s with heap:=s.heap.push { cls:=.type "dict_valueiterator",data:=.fields #[.ref d,.int 0 0,.int es.size 0,.int ep 0] } }) :
    wpAny [3] A (pyIter (.ref vw)) Q E s:=by
 have ty:=hv.typeIs;obtain ⟨ov,v1,v2,v3⟩:=hv;obtain ⟨o,e1,e2,e3⟩:=x;refine wpAny_pyIter_slot ty F.slot_dict_values_iter (wpAny_call_entry F.slot_dict_values_iter ty F.entry_dict_values_iter ?a (F.args_dict_values_iter_1 _))
 case a =>
  unfold Builtin.«dict_values.__iter__»;refine wpAny_bind (m:=Builtin.Dict_items.slot0 _ _) [22];refine wpAny_bind ?_; unfold Builtin.Dict_items.dictOf;refine wpAny_bind (wpAny_field v1 v3 rfl [22]);refine wpAny_bind ?_; unfold Builtin.Dict_items.newIterator;refine wpAny_bind (wpAny_dictEntries e1 e3 (wpAny_bind (wpAny_dictEpoch e1 e3 ?_)));show wpAny _ _ (newObj (.type "dict_valueiterator") (.fields #[.ref d,.int 0 0,.int es.size 0,.int ep 0])) _ _ s;exact wpAny_newObj_type (wpAny_pure ⟨_,rfl, "dict_valueiterator",_,⟨_,Heap.get?_push_size _ rfl,rfl⟩,F.slot_dict_valueiterator_next.lookup,q⟩)
theorem tw2 {Q:Option Value->Shared->Prop} (hi:s.heap.IsValIter it d i es.size ep) (x:DG s.heap d es ep) (lt:i < es.size)
    (q:∀ h',h'.IsValIter it d (i + 1) es.size ep->Heap.SameBut it s.heap h'->Q (some es[i].val) [38]):wpAny [3] A (pyNext (.ref it)) Q E s:=by
 obtain ⟨o,a1,a2,a3⟩:=id hi;obtain ⟨od,e1,e2,e3⟩:=x;have ty:=hi.typeIs;have own0:Builtin.Dict_items.ownsTuple "dict_valueiterator" = false:=by decide
 unfold pyNext;refine wpAny_bind (wpAny_attempt (wpAny_callSpecial?_slot (name:=Str.ofString "__next__") ty F.slot_dict_valueiterator_next (wpAny_call_entry F.slot_dict_valueiterator_next ty F.entry_dict_valueiterator_next ?a (F.args_dict_valueiterator_next_1 _))))
 case a =>
  refine wpAny_bind (wpAny_pure (wpAny_bind (wpAny_bind ?_)))
  first | refine wpAny_bind (wpAny_typeNameOfWhole_valiter ty [22]) | refine wpAny_bind (wpAny_typeNameOf_valiter ty [22])
  refine wpAny_bind (wpAny_fieldsOf a1 a3 ?_); simp only [own0,Bool.false_eq_true,if_false];show wpAny _ _ (if (Value.ref d == Value.none)=true then _ else _) _ _ s; rw [if_neg (show ¬ ((Value.ref d == Value.none)=true) from Bool.false_ne_true)];refine wpAny_bind (wpAny_pure (wpAny_bind (wpAny_dictEntries e1 e3 ?_))); rw [if_neg [10]];refine wpAny_bind (wpAny_pure (wpAny_bind (wpAny_dictEpoch e1 e3 ?_))); rw [if_neg [10]];refine wpAny_pure ?_;simp only [show ¬ ((i:Int) < 0) from by omega,if_false,Int.toNat_natCast,Array.getElem?_eq_getElem lt];refine wpAny_bind ?_
  first | refine wpAny_bind (wpAny_typeNameOfWhole_valiter ty [22]) | refine wpAny_bind (wpAny_typeNameOf_valiter ty [22])
  refine wpAny_bind (wpAny_isOneOf_valiter ty (show wpAny _ _ (setField (.ref it) 1 (rawInt ((i:Int) + 1)) >>= _) _ _ s from wpAny_bind (wpAny_setField a1 a3 [10] ?_)));have hi':(s.heap.update it (Obj.mapFields (·.setIfInBounds 1 (rawInt ((i:Int) + 1))))).IsValIter it d (i + 1) es.size ep:=⟨_,Heap.get?_update_self _ a1 (Obj.isFreed_of_fields (Obj.data_mapFields a3 _)),(Obj.cls_mapFields ..).trans a2,by rw [Obj.data_mapFields a3]; simp [rawInt]⟩;refine wpAny_bind (wpAny_holding (wpAny_bind (wpAny_isOneOf_valiter (s:={ s with heap:=s.heap.update it (Obj.mapFields (·.setIfInBounds 1 (rawInt ((i:Int) + 1)))) }) hi'.typeIs (wpAny_bind (wpAny_isOneOf_valiter (s:={ s with heap:=s.heap.update it (Obj.mapFields (·.setIfInBounds 1 (rawInt ((i:Int) + 1)))) }) hi'.typeIs ?_)))));show wpAny _ _ (pure es[i].val) _ _ _;exact wpAny_pure (wpAny_pure ⟨_,rfl,wpAny_pure (q _ hi' [48])⟩)
theorem yq3 {Q:Option Value->Shared->Prop} (hh:A.handled=none) (hi:s.heap.IsValIter it d i es.size ep) (x:DG s.heap d es ep) (ge:es.size<=i)
    (q:∀ h',Heap.ExtBut it s.heap h'->Q none [38]):wpAny [3] A (pyNext (.ref it)) Q E s:=by
 obtain ⟨o,a1,a2,a3⟩:=id hi;obtain ⟨od,e1,e2,e3⟩:=x;have ty:=hi.typeIs;have own0:Builtin.Dict_items.ownsTuple "dict_valueiterator" = false:=by decide
 unfold pyNext;refine wpAny_bind (wpAny_attempt (wpAny_callSpecial?_slot (name:=Str.ofString "__next__") ty F.slot_dict_valueiterator_next (wpAny_call_entry F.slot_dict_valueiterator_next ty F.entry_dict_valueiterator_next ?a (F.args_dict_valueiterator_next_1 _))))
 case a =>
  refine wpAny_bind (wpAny_pure (wpAny_bind (wpAny_bind ?_)))
  first | refine wpAny_bind (wpAny_typeNameOfWhole_valiter ty [22]) | refine wpAny_bind (wpAny_typeNameOf_valiter ty [22])
  refine wpAny_bind (wpAny_fieldsOf a1 a3 ?_); simp only [own0,Bool.false_eq_true,if_false];show wpAny _ _ (if (Value.ref d == Value.none)=true then _ else _) _ _ s; rw [if_neg (show ¬ ((Value.ref d == Value.none)=true) from Bool.false_ne_true)];refine wpAny_bind (wpAny_pure (wpAny_bind (wpAny_dictEntries e1 e3 ?_))); rw [if_neg [10]];refine wpAny_bind (wpAny_pure (wpAny_bind (wpAny_dictEpoch e1 e3 ?_))); rw [if_neg [10]];refine wpAny_pure ?_;simp only [show ¬ ((i:Int) < 0) from by omega,if_false,Int.toNat_natCast,Array.getElem?_eq_none ge];refine wpAny_bind ?_
  first | refine wpAny_bind (wpAny_typeNameOfWhole_valiter ty [22]) | refine wpAny_bind (wpAny_typeNameOf_valiter ty [22])
  show wpAny _ _ (setField (.ref it) 0 .none >>= _) _ _ s; refine wpAny_bind (wpAny_setField a1 a3 [10] ?_);show wpAny _ _ (newExc (.type "StopIteration") [] >>= _) _ _ _; refine wpAny_bind ?_; simp only [newExc,newTuple];refine wpAny_bind [45];simp only [raiseNew]; refine wpAny_bind (wpAny_handled ?_); rw [show A.in1.handled=none from hh];refine wpAny_bind (wpAny_pure (wpAny_throw ?_)); refine wpAny_bind (wpAny_isInstance (T := "StopIteration") (b:=true) ⟨_,Heap.get?_push_size _ rfl,rfl⟩ isSubtype_stop ?_);exact wpAny_pure (q _ (([48].extBut.push _).push _))
end
noncomputable def Itv (a:Addr) (n m:Nat):It :=
 ⟨λ i H=>∃ kvs,H a=some (.dT kvs m) /\ kvs.length=n /\ i < n,λ i H x H'=>H'=H /\ ∃ kvs k v,H a=some (.dT kvs m) /\ kvs[i]?=some (k,v) /\ x=v,
  λ i H=>∃ kvs,H a=some (.dT kvs m) /\ kvs.length=n /\ n<=i⟩
theorem tt2 {H:Hp}:∀ {kvs:List (List Key × V)} {xs:List (List Key × Addr × Value)},KT H kvs xs->∀ (i:Nat) x,xs[i]?=some x->∃ k v,kvs[i]?=some (k,v) /\ RelV v x.2.2
 | _,_,.nil,i,x,e=>by simp at e
 | _,_,.cons (a:=p) (b:=q) h r,0,x,e=>by
  simp at e; subst e;exact ⟨p.1,p.2,by rfl,h.2.2⟩
 | _,_,.cons h r,i + 1,x,e=>by
  rw [getElem?_cons_succ] at e ⊢;exact tt2 r i x e
variable {tg:Expr}
theorem zc2 {P:Program} {K:PySem.W.Frag} (a it:Addr) (n m:Nat):Turn P w K tg (Itv a n m) [it] it (λ i h=>h.IsValIter it a i n m) where
 mem:=by simp
 obj:=λ i h st b hb=>by
  have e:b=it:=by simpa using hb
  subst e;obtain ⟨o,e,c,d⟩:=st
  simp_all
 keep:=λ i h h' st k=>by
  obtain ⟨o,e,c,d⟩:=st;exact ⟨o,k it [10] o e,c,d⟩
 item:=by
  intro X hP hw hK hc i pins s σ H E I hf st hg;subst hP hw hK;obtain ⟨f0,f1,f2,f3,f4,f5⟩:=hf it [10];obtain ⟨kvs,e,el,hi⟩:=hg;obtain ⟨z,hd,xs,rel,o,es,ho,hc1,hd1,he,_⟩:=to0 I.hok (.inl e);have l1:xs.length=n:=by rw [<- Paired.length rel]; exact el
  have l2:es.size=n:=by rw [<- length_toList,he,length_map,l1]
  have st':s.heap.IsValIter it a i es.size m:=by rw [l2]; exact st
  refine tw2 st' ⟨o,ho,hc1,hd1⟩ [2] λ h' hst hk=>?_;rw [l2] at hst;have hx:xs[i]?=some (xs[i]'(by omega)):=getElem?_eq_getElem _
  have ek:(es[i]'(by omega)).val=(xs[i]'(by omega)).2.2:=by
   have q:es.toList[i]?=some (entryOfKey (tupleKind (yb0 X.prog X.w)) (xs[i]'(by omega))):=by simp_all
   rw [getElem?_toList,Array.getElem?_eq_getElem [2]] at q;cases q':es[i]'(by omega) with
   | mk a1 a2 a3=>rw [q'] at q; cases q; rfl
  obtain ⟨k,v,kg,kh⟩:=tt2 rel i _ hx;have I1:Inv X pins σ H [38]:=I.turned (t':=s.toks) (λ b o hb e=>hk.extBut b o hb e) f0 f1 f3 f4 f5;obtain ⟨o1,e1,c1,d1⟩:=id hst;refine ⟨_,rfl,sl1 (s:=[38]) e1 c1 d1 [19] ⟨v,H,I1,by rw [ek]; exact kh,⟨rfl,kvs,k,v,e,kg,rfl⟩,hst,λ b hb=>(hf b hb).1⟩⟩
 done:=by
  intro X hP hw hK hc i pins s σ H E I hf st hg;subst hP hw hK;obtain ⟨f0,f1,f2,f3,f4,f5⟩:=hf it [10];obtain ⟨kvs,e,el,hi⟩:=hg;obtain ⟨z,hd,xs,rel,o,es,ho,hc1,hd1,he,_⟩:=to0 I.hok (.inl e);have l1:xs.length=n:=by rw [<- Paired.length rel]; exact el
  have l2:es.size=n:=by rw [<- length_toList,he,length_map,l1]
  have st':s.heap.IsValIter it a i es.size m:=by rw [l2]; exact st
  exact yq3 (I.ok.hd hc) st' ⟨o,ho,hc1,hd1⟩ [2] λ h' hk=>⟨rfl,I.turned (t':=s.toks) (λ b o hb e=>hk b o hb e) f0 f1 f3 f4 f5⟩
 self:=λ A i s Q E st h=>wpAny_pyIter_valiter st h
variable {K:Fg}
section
variable {X:Cx} 
noncomputable def iVal (tl:TE):TI:=λ σ H R=>tl σ H λ x H1=>∃ a kvs m,x=.ref a /\ H1 a=some (.dT kvs m) /\ R (Itv a kvs.length m) H1
theorem tl4 {l:Expr} {tl:TE} {apos cpos:Pos} (hl:PE X l tl) (hbase:attributeBase l "values" X.env (eval l X.env)=eval l X.env:=by rfl) (hline:(apos.endLine == cpos.line)=true:=by rfl):PI X tg (.Call (.Attribute l "values" apos) [] [] cpos) (iVal tl):=by
 intro pins s σ H R I h;refine wpAny_Call_method0_late hbase hline (thn (hl pins s σ H _ I h) λ v s1 ⟨x,H1,I1,r1,q1⟩=>?_);obtain ⟨a,kvs,m,rfl,e,q⟩:=q1;cases r1;obtain ⟨z,hd,xs,rel,o,es,ho,hc1,hd1,he,_⟩:=to0 I1.hok (.inl e);have l2:es.size=kvs.length:=by rw [<- length_toList,he,length_map]; exact (Paired.length rel).symm
 have D1:DG s1.heap a es m:=⟨o,ho,hc1,hd1⟩;refine ⟨"dict", "dict.values",plainAttrs_dict,PySem.F.slot_dict_values,PySem.F.type_dict_values,D1.ty,λ b hb=>?_,Calls.callWith_builtin rfl (PySem.evalArgs_none (uw2 hd D1 ?_))⟩
 ·cases hb;exact ⟨o,ho,hc1.2.1⟩
 have I2:Inv X pins σ H1 { s1 with heap:=s1.heap.push { cls:=.type "dict_values",data:=.fields #[.ref a] } }:=I1.kept (t':=s1.toks) λ b o e=>Heap.get?_push_of_some _ e;have D2:DG (s1.heap.push { cls:=.type "dict_values",data:=.fields #[.ref a] }) a es m:=D1.keep λ o e=>Heap.get?_push_of_some _ e;have V2:(s1.heap.push { cls:=.type "dict_values",data:=.fields #[.ref a] }).IsValuesView s1.heap.objs.size a:=[43];generalize s1.heap.push { cls:=.type "dict_values",data:=.fields #[.ref a] }=h2 at I2 D2 V2
 have fp:∀ b ∈ [h2.objs.size],FpOk X pins H1 b:=λ b hb=>by
  have e:b=h2.objs.size:=by simpa using hb
  subst e;exact I2.fpOk [26] (I2.hok.fresh [26])
 refine sw2 (s:={ s1 with heap:=h2 }) V2 D2 ?_;rw [l2];exact ⟨h2.objs.size,[h2.objs.size],_,_,H1,rfl,I2.kept (t':=s1.toks) λ b o e=>Heap.get?_push_of_some _ e,zc2 a _ _ _,[43],fp,q⟩
theorem RelKl.getV {H:Hp} {l:[18]} {vs:List (List Key × V)} (r:RelKl K H l vs):∀ (i:Nat) k v,vs[i]?=some (k,v)->∃ t d,l[i]?=some (t,d) /\ RelD K H d v:=by
 induction r with
 | nil=>simp
 | cons h _ ih =>
  intro i k v e;cases i with
  | zero=>simp at e; exact ⟨_,_,rfl,e.2 ▸ h⟩
  | succ i=>simp_all
theorem xm2 {H0:Hp} {a:Addr} {l:[18]}:ItOk K (Itv a l.length l.length) (l.map λ kv=>kv.2) (λ μ=>μ a=some (.dcl false l)) H0:=λ i H μ k m s=>by
 obtain ⟨vs,n9,h,r,cl⟩:=m.dcl a _ l s;obtain rfl:n9=l.length:=(cl rfl).trans r.len.symm;have hl:=r.len;refine ⟨λ d e=>?_,λ hl'=>⟨vs,h,hl.symm,by simpa using hl'⟩⟩;rw [getElem?_map] at e
 have hi:i < l.length:=by
  rcases Nat.lt_or_ge i l.length with c | c
  ·exact c
  simp_all
 refine ⟨⟨vs,h,hl.symm,hi⟩,λ x H2 y=>?_⟩;obtain ⟨rfl,kvs,kk,v,e1,e2,rfl⟩:=y;rw [h] at e1;cases e1;obtain ⟨t,dd,e4,rd⟩:=r.getV i kk _ e2;rw [e4] at e;cases e;exact ⟨Kp.refl _,m,rd⟩
noncomputable def isv3 (t:TE3):TI3:=λ ρ μ R=>t ρ μ λ d μ1=>match d with
 | .ref p=>match μ1 p with
  | some (.dcl false l)=>R (l.map λ kv=>kv.2) (λ μ=>μ p=some (.dcl false l)) μ1
  | _=>False
 | _=>False
theorem uc4 {a:Expr} {ta:TE3} {apos cpos:Pos} (ha:RE X a ta) (hbase:attributeBase a "values" X.env (eval a X.env)=eval a X.env:=by rfl) (hline:(apos.endLine == cpos.line)=true:=by rfl):RI X tg (.Call (.Attribute a "values" apos) [] [] cpos) (isv3 ta):=by
 obtain ⟨va,pa,ra⟩:=ha;refine ⟨_,tl4 pa hbase hline,λ σ H R ρ μ R3 s m h k=>ra σ H _ ρ μ _ s m h λ d μ1 v H1 h1 k1 r1 m1=>?_⟩;split at h1
 ·next p =>
  split at h1
  ·next l e =>
   cases r1;obtain ⟨vs,n9,hv,rv,cl⟩:=m1.dcl p _ l e;obtain rfl:n9=l.length:=(cl rfl).trans rv.len.symm;refine ⟨p,vs,_,rfl,hv,?_⟩;rw [<- rv.len];exact k _ _ _ _ _ h1 k1 m1 xm2
  ·exact h1.elim
 ·exact h1.elim
end
end Pv
namespace Pv
open PySem PySem.Spec PyProof.Rows L2
noncomputable def xa1 (kvs:[18]) (k:List Int):List (List Int × D):=kvs.filter λ kv=>decide (kv.1 ≠ k)
noncomputable def dm3 (pp:Bool) (to:TE3) (t:TA3):TE3:=λ ρ μ Q=>to ρ μ λ x μ1=>match x with
 | .ref p=>match μ1 p with
  | some (.dcl _ _)=>t ρ μ1 λ ds μ2=>match ds with
   | [y]=>match keyI y,μ2 p with
    | some k,some (.dcl _ kvs)=>match pp,valL kvs k with
     | true,some v=>Q v (updM μ2 p (.dcl true (xa1 kvs k)))
     | true,none=>False
     | false,o=>Q (o.getD .non) μ2
    | _,_=>False
   | _=>False
  | _=>False
 | _=>False
theorem tz0 {K β:Type} [DecidableEq K]:∀ {xs:List (K × β)} {j:Nat} {k:K} {p:β},(xs.map (·.1)).Nodup->xs[j]?=some (k,p)->xs.eraseIdx j=xs.filter λ x=>decide (x.1 ≠ k)
 | [],_,_,_,_,h=>by simp at h
 | x :: r,0,k,p,nd,h=>by
  simp only [List.getElem?_cons_zero,Option.some.injEq] at h;subst h;rw [map_cons,nodup_cons] at nd;rw [List.eraseIdx_cons_zero,filter_cons,if_neg [10]];refine (List.filter_eq_self.mpr λ y hy=>decide_eq_true ?_).symm;exact λ e=>nd.1 (by rw [<- show y.1=k from e]; exact mem_map_of_mem (f:=(·.1)) hy)
 | x :: r,j + 1,k,p,nd,h=>by
  rw [getElem?_cons_succ] at h;rw [map_cons,nodup_cons] at nd;have hk:x.1 ≠ k:=λ e=>nd.1 (by rw [e]; exact List.mem_map.mpr ⟨_,mem_of_getElem? h,rfl⟩);rw [List.eraseIdx_cons_succ,filter_cons,if_pos (by simpa using hk),tz0 nd.2 h]
theorem zy0 {α β:Type} (f:α->β):∀ (l:List α) (j:Nat),(l.map f).eraseIdx j=(l.eraseIdx j).map f
 | [],_=>rfl
 | _ :: _,0=>rfl
 | _ :: l,j + 1=>congrArg _ (zy0 f l j)
theorem KT.dropK {H:Hp} {kvs:List (List Key × V)} {xs:List (List Key × Addr × Value)} (r:KT H kvs xs) (k:List Key):KT H (dropK kvs k) (xs.filter λ x=>decide (x.1 ≠ k)):=by
 unfold L2.dropK
 induction r with
 | nil=>exact .nil
 | @cons p q ps qs h t ih =>
  rw [filter_cons,filter_cons];by_cases e:p.1=k
  ·simp_all
  ·rw [if_pos (by simp [e]),if_pos [16]]; exact .cons h ih
theorem RelKl.drop {K:Fg} {H:Hp} {l:[18]} {vs:List (List Key × V)} (r:RelKl K H l vs) (t:List Int):RelKl K H (xa1 l t) (L2.dropK vs (kL t)):=by
 unfold xa1 L2.dropK
 induction r with
 | nil=>exact .nil
 | cons h _ ih =>
  rename_i t' d' v' l' vs' _;rw [filter_cons,filter_cons];by_cases e:t'=t
  ·simp_all
  ·rw [if_pos (by simp [e]),if_pos (by simp [show ¬ kL t'=kL t from λ z=>e (uy0 z)])]; exact .cons h ih
noncomputable def rDm (pp:Bool):V->List V->Hp->VK->Prop:=λ x vs H Q=>∃ a kvs k b ne,x=.ref a /\ vs=[.ref b] /\ H a=some (.dT kvs ne) /\ H b=some (.tup (k.map kV)) ∧
 match pp,valV kvs k with
 | true,some v=>Q v (upd H a (.dT (L2.dropK kvs k) (ne + 1)))
 | true,none=>False
 | false,o=>Q (o.getD .non) H
variable {A:Around}
section
variable {prog:Program} {w:World} {K:Type} [DecidableEq K] {knd:HeapKind prog w K} {E:[4]} {s:Shared}
theorem tx2 {d a:Addr} {xs:List (K × Addr × Value)} {k:K} {ep:Nat} {p:Addr × Value} {Q:Option DictEntry->Shared->Prop} (hu:knd.room A) (hkey:knd.is s.heap k a) (hm:DHe knd s.heap d xs ep) (hsz:xs.length<=sizeLine) (hp:atKey xs k=some p)
    (h:∀ e h',e.val=p.2->DHe knd h' d (xs.filter λ x=>decide (x.1 ≠ k)) (ep + 1)->Heap.SameBut d s.heap h'->Q (some e) { s with heap:=h',toks:=s.toks + knd.draws k }) :
    wpAny [3] A (Builtin.Dict.takeOut d (.ref a)) Q E s:=by
 obtain ⟨o,es,ho,hc,hd,he,his,hn⟩:=hm;unfold Builtin.Dict.takeOut; try with_reducible refine wpAny_holding ?_
 refine wpAny_bind (knd.pyHash hu hkey (wpAny_bind (wpAny_dictFind_heap (s:=[41]) hu hkey ho hd he his hn (λ hno=>?_) λ j q hj=>?_)))
 ·rw [atKey_none_of_get hno] at hp; cases hp
 ·have hq:=atKey_of_get hn hj;rw [hp] at hq;cases hq;refine wpAny_bind (wpAny_dictEntries (s:=[41]) ho hd ?_); rw [entry_at he j,hj];refine wpAny_bind (wpAny_updateDictKeys (hz:=by have e:=size_of_entries he; omega) (s:=[41]) ho hd (wpAny_pure (h _ _ rfl ⟨_,_,Heap.get?_update_self _ ho (Obj.isFreed_of_dict (Obj.data_mapDictKeys hd _)),hc.mapDictKeys _,Obj.data_mapDictKeys hd _,?_,λ c mc=>?_,?_⟩ [48])))
  ·rw [<- tz0 hn hj];obtain ⟨l⟩:=es;have he':l=xs.map (entryOfKey knd):=he;subst he';simpa using zy0 _ xs j
  ·exact knd.keeps (his c (List.mem_filter.mp mc).1) ho hd [48]
  ·exact hn.sublist (List.filter_sublist.map _)
end
theorem hu1 {k:Nat} (hr:Room k A):A.units + 1 < cLine:=by have:=hr.un; omega
section
variable {X:Cx}
theorem mtDg (hu:X.A.units + 1 < cLine):MtM X "dict.get" (rDm false):=by
 intro pins s σ H x vs v us Q I rx rv h;obtain ⟨d,kvs,k,b,ne,rfl,rfl,e,eb,q⟩:=h;cases rx;cases rv with
 | cons r1 r2 =>
 cases r2;exact xt4 hu I (DGet.t e eb) r1 λ w' s' I' rw'=>⟨_,H,I',rw',q⟩
theorem mtDp (hu:X.A.units + 1 < cLine):MtM X "dict.pop" (rDm true):=by
 intro pins s σ H x vs v us Q I rx rv h;obtain ⟨d,kvs,k,b,ne,rfl,rfl,e,eb,q⟩:=h;cases rx;cases rv with
 | cons r1 r2 =>
 cases r2;rename_i u1;cases (show u1=Value.ref b from r1);obtain ⟨z,hd,xs,rel,dd⟩:=to0 I.hok (.inl e);have hz:xs.length<=sizeLine:=by rw [<- Paired.length rel]; exact z
 cases ev:valV kvs k with
 | none=>simp_all
 | some v0 =>
  rw [ev] at q;have rv:=rel.val k;rw [ev] at rv;obtain ⟨w',hw',rw'⟩:=RelO.some_of rv;obtain ⟨p,hp,hp2⟩:=Option.map_eq_some_iff.mp hw';have dd':=dd;obtain ⟨o,es,ho,hc,hdt,he,his,hn⟩:=dd'
  have nE:es.isEmpty=false:=by
   obtain ⟨x,hx,hk⟩:=Option.map_eq_some_iff.mp hp;have:=List.mem_of_find?_eq_some hx;have l:=size_of_entries he;have:0 < xs.length:=List.length_pos_of_mem this;simp only [Array.isEmpty,decide_eq_false_iff_not];omega
  refine wpAny_call_entry F.slot_dict_pop dd.of.typeIs F.entry_dict_pop ?_ (F.args_dict_pop_2 _ _);unfold Builtin.«dict.pop»; refine wpAny_bind ?_;unfold Builtin.Dict.keyAndDefault; refine wpAny_bind (wpAny_notOrdered_dict dd.of.typeIs ?_);refine (show wpAny _ _ (pure (d,Value.ref b,none)) _ _ s from wpAny_pure ?_);show wpAny _ _ (dictEntries d >>= _) _ _ s;refine wpAny_bind (wpAny_dictEntries ho hdt ?_);refine wpAny_bind [22];rw [nE];refine (show wpAny _ _ (Builtin.Dict.takeOut d (.ref b) >>= _) _ _ s from wpAny_bind ?_);refine tx2 (tupleKind_room_in1 hu) (zj0 I.hok eb) dd hz hp λ en h' ev' dd2 hs=>?_;refine (show wpAny _ _ (letGo [en.key] [en.val] >>= _) _ _ _ from wpAny_bind (wpAny_letGo (wpAny_pure ⟨en.val,rfl,?_⟩)));rw [ev',hp2];obtain ⟨ob,es2,hq,h2,h3,h4,_,h5⟩:=dd2;refine ⟨v0,upd H d (.dT (L2.dropK kvs k) (ne + 1)),uu0 (ob:=.dT (L2.dropK kvs k) (ne + 1)) I (by rw [e]; exact True.intro) hs ⟨ob,hq⟩ ⟨Nat.le_trans (xo2 kvs k) z,hd,_,(KT.dropK rel k).keeps λ c ys ec=>?_,ob,es2,_,hq,h2,h3,h4,h5,rfl⟩,rw',q⟩;rw [sb0 (vt0 ec e (λ z=>nomatch z))]; exact ec
variable {o e:Expr} {es:List Expr} {to:TE3} {t:TA3} {apos cpos:Pos} {nm:Str} {id:String}
theorem we4 {pp:Bool} (sl:Slot "dict" nm id) (ty:typeOf (.builtin id)=pure (.type "method_descriptor")) (mt:MtM X id (rDm pp)) (ho:RE X o to) (ha:RA X (e :: es) t) (hpl:∀ n ∈ [nm],True:=by intros; trivial) (hbase:attributeBase o nm X.env (eval o X.env)=eval o X.env:=by rfl)
    (hfew:((backTo cpos (starEach (e :: es) X.env)).all (λ x=>!x.1) && (backToKw cpos (keywordEach [] X.env)).all (λ x=>x.1.isSome)
     && decide [24])=true:=by rfl)
    (hline:(apos.endLine == cpos.line)=true:=by rfl) (hs:starEach (e :: es) X.env=[37] :: starEach es X.env:=by rfl) (hplain:(backTo cpos (starEach es X.env)).any (·.1)=false:=by rfl) :
    RE X (.Call (.Attribute o nm apos) (e :: es) [] cpos) (dm3 pp to t):=by
 obtain ⟨va,pa,ra⟩:=ho;obtain ⟨vb,pb,rb⟩:=ha;refine ⟨_,ue3 plainAttrs_dict sl ty mt pa pb hbase hfew hline hs hplain,λ σ H Q ρ μ Q3 s m h k=>ra σ H _ ρ μ _ s m h λ x μ1 v H1 h1 k1 r1 m1=>?_⟩;split at h1
 ·next p =>
  cases r1;split at h1
  ·next b0 kvs0 e0 =>
   obtain ⟨ws0,n0,hw0,_⟩:=m1.dcl p _ kvs0 e0;refine ⟨.inr (.inr (.inl ⟨rfl,by simp_all⟩)),rb σ H1 _ ρ μ1 _ (s.mono k1) m1 h1 λ ds μ2 vs H2 h2 k2 r2 m2=>?_⟩;split at h2
   ·next y =>
    cases r2 with
    | cons ry r2 =>
    cases r2;split at h2
    ·next kk b1 kvs ek e =>
     obtain ⟨ws,n1,hw,rk,_⟩:=m2.dcl p _ kvs e;obtain ⟨b,rfl,hb⟩:=wk0 ry ek;refine ⟨p,ws,kL kk,b,n1,rfl,rfl,hw,hb,?_⟩;rcases rk.val (t:=kk) with ⟨z1,z2⟩ | ⟨d',w',z1,z2,rd'⟩
     ·rw [z1] at h2;rw [z2];cases pp with
      | true=>exact h2.elim
      | false=>exact k _ _ _ _ h2 (k1.trans k2) .non m2
     ·rw [z1] at h2;rw [z2];cases pp with
      | true=>exact k _ _ _ _ h2 (k1.trans (k2.trans (Kp.wrD hw))) (rd'.mono (Kp.wrD hw)) (m2.wrC hw (rk.drop kk) λ z=>nomatch z)
      | false=>exact k _ _ _ _ h2 (k1.trans k2) rd' m2
    ·exact h2.elim
   ·exact h2.elim
  ·exact h1.elim
 ·exact h1.elim
end
end Pv
namespace Pv
open PySem
noncomputable abbrev Rise (xs:Array Nat):Prop:=xs.toList.Pairwise (· < ·)
variable {xs:Array Nat} {i:Nat}
theorem xk0 (h:Rise xs) {j a b:Nat} (hi:xs[i]?=some a) (hj:xs[j]?=some b) (l:i < j):a < b:=by
 have h':=List.pairwise_iff_getElem.mp h;rw [<- getElem?_toList] at hi hj;obtain ⟨hi1,hi2⟩:=List.getElem?_eq_some_iff.mp hi;obtain ⟨hj1,hj2⟩:=List.getElem?_eq_some_iff.mp hj;rw [<- hi2,<- hj2];exact h' i j hi1 hj1 l
theorem wm0 (xs:Array Nat) (j:Nat) (h:Rise xs):∀ (fuel lo hi:Nat),hi - lo<=fuel->lo<=hi->hi<=xs.size->(∀ i a,i < lo->xs[i]?=some a->a < j)->(∀ i a,hi<=i->xs[i]?=some a->j<=a) ->
    (∀ i a,xs[i]?=some a->(i < SetTable.below.go xs j fuel lo hi ↔ a < j)) /\ SetTable.below.go xs j fuel lo hi<=xs.size
 | 0,lo,hi,f,l1,l2,a1,a2=>by
  have e:lo=hi:=by omega
  subst e;unfold SetTable.below.go;refine ⟨λ i a q=>⟨λ c=>a1 i a c q,λ c=>?_⟩,l2⟩;by_cases z:i < lo
  ·exact z
  ·have:=a2 i a [2] q; omega
 | fuel + 1,lo,hi,f,l1,l2,a1,a2=>by
  unfold SetTable.below.go;split
  ·next c =>
   have m1:(lo + hi) / 2 < hi:=by omega
   have m2:lo<=(lo + hi) / 2:=by omega
   have hm:xs[(lo + hi) / 2]?=some (xs.getD ((lo + hi) / 2) j):=by
    have:(lo + hi) / 2 < xs.size:=by omega
    simp_all
   dsimp only;split
   ·next c2 =>
    refine wm0 xs j h fuel _ _ [2] [2] l2 (λ i a z q=>?_) a2;by_cases y:i=(lo + hi) / 2
    ·subst y; simp_all
    ·exact Nat.lt_trans (xk0 h q hm [2]) c2
   ·next c2 =>
    refine wm0 xs j h fuel _ _ [2] [2] [2] a1 (λ i a z q=>?_);by_cases y:i=(lo + hi) / 2
    ·subst y; simp_all
    ·have:=xk0 h hm q [2]; omega
  ·next c =>
   have e:lo=hi:=by omega
   subst e;refine ⟨λ i a q=>⟨λ c=>a1 i a c q,λ c=>?_⟩,l2⟩;by_cases z:i < lo
   ·exact z
   ·have:=a2 i a [2] q; omega
theorem zh0 (h:Rise xs) (j:Nat) {a:Nat} (q:xs[i]?=some a):i < SetTable.below xs j ↔ a < j :=
 (wm0 xs j h xs.size 0 xs.size [2] [2] [26] (λ _ _ z=>absurd z (Nat.not_lt_zero _)) (λ i a z q=>by simp_all)).1 i a q
theorem tj0 (h:Rise xs) (j:Nat):SetTable.below xs j<=xs.size :=
 (wm0 xs j h xs.size 0 xs.size [2] [2] [26] (λ _ _ z=>absurd z (Nat.not_lt_zero _)) (λ i a z q=>by simp_all)).2
theorem sj0 (h:Rise xs) {j:Nat} (q:xs[i]?=some j):SetTable.below xs j=i:=by
 have h1:=zh0 h j q;have h2:=tj0 h j;by_cases c:SetTable.below xs j < i
 ·have hi:=(Array.getElem?_eq_some_iff.mp q).1;obtain ⟨a,ha⟩:∃ a,xs[SetTable.below xs j]?=some a:=⟨_,Array.getElem?_eq_getElem [2]⟩;have h3:=zh0 h j ha;have h4:=xk0 h ha q c;omega
 ·omega
theorem yy0 {j:Nat} (h:j ∈ xs.toList):∃ i:Nat,xs[i]?=some j:=by
 obtain ⟨i,hi⟩:=List.mem_iff_getElem?.mp h;exact ⟨i,by simp_all⟩
theorem wq0 {j:Nat} (h:xs[i]?=some j):j ∈ xs.toList:=List.mem_iff_getElem?.mpr ⟨i,by simp_all⟩
theorem zi0 (h:Rise xs) (j:Nat):SetTable.has xs j=true ↔ j ∈ xs.toList:=by
 unfold SetTable.has;constructor
 ·intro z; exact wq0 (eq_of_beq z)
 ·intro z;obtain ⟨i,hi⟩:=yy0 z;rw [sj0 h hi,hi];simp
theorem ww0 {t:SetTable} (h:Rise t.place) {j:Nat}:t.slot j=.live i ↔ t.place[i]?=some j:=by
 unfold SetTable.slot;dsimp only;constructor
 ·intro z;split at z
  ·simp_all
  ·split at z <;> cases z
 ·intro z;rw [sj0 h z,z];simp
theorem vp0 {t:SetTable} (h:Rise t.place) (hd:Rise t.dummies) {j:Nat} (dj:j ∈ t.dummies.toList->j ∉ t.place.toList):t.slot j=.dummy ↔ j ∈ t.dummies.toList:=by
 unfold SetTable.slot;dsimp only;constructor
 ·intro z;split at z
  ·cases z
  ·split at z
   ·next c=>exact (zi0 hd j).mp c
   ·cases z
 ·intro z;rw [if_neg,if_pos ((zi0 hd j).mpr z)];intro c;exact dj z (wq0 (eq_of_beq c))
theorem wp0 {t:SetTable} (h:Rise t.place) (hd:Rise t.dummies) {j:Nat}:t.slot j=.empty ↔ j ∉ t.place.toList /\ j ∉ t.dummies.toList:=by
 unfold SetTable.slot;dsimp only;constructor
 ·intro z;split at z
  ·cases z
  ·next c =>
   split at z
   ·cases z
   ·next c2 =>
    refine ⟨λ m=>c ?_,λ m=>c2 ((zi0 hd j).mpr m)⟩;obtain ⟨i,hi⟩:=yy0 m;rw [sj0 h hi,hi];simp
 ·rintro ⟨z1,z2⟩;rw [if_neg (λ c=>z1 (wq0 (eq_of_beq c))),if_neg (λ c=>z2 ((zi0 hd j).mp c))]
noncomputable def mkT (mask:Nat):SetTable:={ SetTable.fresh 0 0 false with mask:=mask }
noncomputable def trS (mask:Nat) (h:Int):Nat->SetTable.Probe
 | 0=>(mkT mask).probeStart h
 | n + 1=>(mkT mask).advance (trS mask h n)
noncomputable abbrev tr (mask:Nat) (h:Int) (n:Nat):Nat:=(trS mask h n).j
theorem yb1 (t:SetTable) (p:SetTable.Probe) (d:Option Nat):t.advance { p with dummy:=d }={ t.advance p with dummy:=d }:=by
 unfold SetTable.advance;dsimp only;split <;> rfl
noncomputable def seg (mask i perturb:Nat):SetTable.Probe:={ j:=i,more:=SetTable.runEnd mask i - i,i:=i,perturb:=perturb,dummy:=none }
theorem run9 (mask i:Nat):SetTable.runEnd mask i - i<=9:=by unfold SetTable.runEnd; split <;> omega
theorem vb4 (mask i:Nat):i<=SetTable.runEnd mask i:=by unfold SetTable.runEnd; split <;> omega
theorem ub4 (mask i:Nat) (h:i<=mask):SetTable.runEnd mask i<=mask:=by unfold SetTable.runEnd; split <;> omega
theorem ss0 {mask:Nat} {h:Int} {n i p:Nat} (e:trS mask h n=seg mask i p):∀ k,k<=SetTable.runEnd mask i - i->trS mask h (n + k)={ seg mask i p with j:=i + k,more:=SetTable.runEnd mask i - i - k }
 | 0,_=>e
 | k + 1,hk=>by
  have ih:=ss0 e k [2];show (mkT mask).advance (trS mask h (n + k))=_;rw [ih];unfold SetTable.advance;dsimp only [seg];rw [if_pos [2]];congr 1
variable {mask p:Nat} {h:Int}
theorem tl0 {n:Nat} (e:trS mask h n=seg mask i p):trS mask h (n + (SetTable.runEnd mask i - i) + 1)=seg mask (SetTable.leap mask i p).1 (SetTable.leap mask i p).2:=by
 have ih:=ss0 e _ [26];show (mkT mask).advance (trS mask h (n + (SetTable.runEnd mask i - i)))=_;rw [ih];unfold SetTable.advance;dsimp only [seg];rw [if_neg [2]];rfl
noncomputable def lp (mask:Nat):Nat->Nat × Nat->Nat × Nat
 | 0,x=>x
 | k + 1,x=>lp mask k (SetTable.leap mask x.1 x.2)
theorem ys2 {mask:Nat} {h:Int}:∀ (K:Nat) {n i p:Nat},trS mask h n=seg mask i p->∃ m,n<=m /\ m<=n + 10 * K /\ trS mask h m=seg mask (lp mask K (i,p)).1 (lp mask K (i,p)).2
 | 0,n,i,p,e=>⟨n,Nat.le_refl _,Nat.le_refl _,e⟩
 | K + 1,n,i,p,e=>by
  obtain ⟨m,h1,h2,h3⟩:=ys2 K (tl0 e);have:=run9 mask i;exact ⟨m,by omega,by omega,h3⟩
theorem vt2 (mask:Nat):∀ (a b:Nat) (x:Nat × Nat),lp mask (a + b) x=lp mask b (lp mask a x)
 | 0,b,x=>by rw [Nat.zero_add]; rfl
 | a + 1,b,x=>by rw [show a + 1 + b=(a + b) + 1 by omega]; exact vt2 mask a b _
theorem wt2 (mask:Nat):∀ (k:Nat) (x:Nat × Nat),x.2 < 32 ^ k->(lp mask k x).2=0
 | 0,x,h=>by simp at h; exact h
 | k + 1,x,h=>wt2 mask k _ (by show x.2 / 32 < 32 ^ k; omega)
noncomputable def f0 (mask i:Nat):Nat:=(i * 5 + 1) % (mask + 1)
noncomputable def fN (mask:Nat):Nat->Nat->Nat
 | 0,i=>i
 | k + 1,i=>fN mask k (f0 mask i)
theorem yu1 (mask:Nat):∀ (k i:Nat),lp mask k (i,0)=(fN mask k i,0)
 | 0,i=>rfl
 | k + 1,i=>by
  show lp mask k (SetTable.leap mask i 0)=_;have:SetTable.leap mask i 0=(f0 mask i,0):=by rfl
  rw [this,yu1 mask k];rfl
theorem uz0 (mask:Nat):∀ (a b i:Nat),fN mask (a + b) i=fN mask b (fN mask a i)
 | 0,b,i=>by rw [Nat.zero_add]; rfl
 | a + 1,b,i=>by rw [show a + 1 + b=(a + b) + 1 by omega]; exact uz0 mask a b _
noncomputable def okM:List Nat:=[7,15,31,63,127,255,511,1023,2047,4095]
noncomputable def gs:Nat->Nat
 | 0=>0
 | r + 1=>5 * gs r + 1
theorem zx1:∀ r,5 ^ r=4 * gs r + 1
 | 0=>rfl
 | r + 1=>by rw [Nat.pow_succ,zx1 r]; show _=4 * (5 * gs r + 1) + 1; omega
theorem wx1:∀ a b,gs (a + b)=gs a * 5 ^ b + gs b
 | a,0=>by simp [gs]
 | a,b + 1=>by
  show 5 * gs (a + b) + 1=_;rw [wx1 a b,Nat.pow_succ];show _=gs a * (5 ^ b * 5) + (5 * gs b + 1);rw [Nat.mul_add,<- Nat.mul_assoc,Nat.mul_comm 5 (gs a),Nat.mul_assoc (gs a) 5,Nat.mul_comm 5 (5 ^ b)];omega
theorem yx1:∀ k,∃ o,gs (2 ^ k)=2 ^ k * (2 * o + 1)
 | 0=>⟨0,rfl⟩
 | k + 1=>by
  obtain ⟨o,e⟩:=yx1 k;refine ⟨o + (2 * o + 1) * gs (2 ^ k),?_⟩
  have h:gs (2 ^ (k + 1))=gs (2 ^ k) * (4 * gs (2 ^ k) + 2):=by
   rw [show 2 ^ (k + 1)=2 ^ k + 2 ^ k by omega,wx1,zx1]
   grind
  rw [h,Nat.pow_succ,e];generalize 2 ^ k=P
  grind
variable {x e:Nat}
theorem vg3 {P:Nat} (hP:0 < P) (h:x % P=e % P):x % (P * 2)=e % (P * 2) \/ (x + P) % (P * 2)=e % (P * 2):=by
 rw [Nat.mod_mul,Nat.mod_mul,Nat.mod_mul,h,Nat.add_mod_right,h,Nat.add_div_right _ hP];rcases Nat.mod_two_eq_zero_or_one (x / P) with a | a <;> rcases Nat.mod_two_eq_zero_or_one (e / P) with b | b
 ·left; rw [a,b]
 ·right; rw [b,show (x / P + 1) % 2=1 by omega]
 ·right; rw [b,show (x / P + 1) % 2=0 by omega]
 ·left; rw [a,b]
theorem ti1:∀ k e,∃ r,r < 2 ^ k /\ gs r % 2 ^ k=e % 2 ^ k
 | 0,e=>⟨0,by decide,by simp [Nat.mod_one]⟩
 | k + 1,e=>by
  obtain ⟨r,hr,h⟩:=ti1 k e;have hP:0 < 2 ^ k:=Nat.two_pow_pos k;rw [Nat.pow_succ];rcases vg3 hP h with q | q
  ·exact ⟨r,by omega,q⟩
  ·refine ⟨2 ^ k + r,by omega,?_⟩;obtain ⟨o,eo⟩:=yx1 k;rw [wx1,zx1,eo,<- q];generalize 2 ^ k=P at *;have:P * (2 * o + 1) * (4 * gs r + 1) + gs r=(gs r + P) + P * 2 * (o + (2 * o + 1) * (2 * gs r)):=by grind
   simp_all
theorem vj3 (mask:Nat):∀ r,fN mask r 0=gs r % (mask + 1)
 | 0=>by rfl
 | r + 1=>by
  rw [uz0 mask r 1 0,vj3 mask r];show f0 mask (gs r % (mask + 1))=(5 * gs r + 1) % (mask + 1);unfold f0;rw [Nat.add_mod (gs r % (mask + 1) * 5),Nat.mul_mod,Nat.mod_mod,<- Nat.mul_mod,<- Nat.add_mod,Nat.mul_comm]
theorem uf3:∀ m ∈ okM,∃ k,m + 1=2 ^ k:=by
 intro m hm;simp only [okM,mem_cons,not_mem_nil,or_false] at hm;rcases hm with rfl | rfl | rfl | rfl | rfl | rfl | rfl | rfl | rfl | rfl
 ·exact ⟨3,rfl⟩
 ·exact ⟨4,rfl⟩
 ·exact ⟨5,rfl⟩
 ·exact ⟨6,rfl⟩
 ·exact ⟨7,rfl⟩
 ·exact ⟨8,rfl⟩
 ·exact ⟨9,rfl⟩
 ·exact ⟨10,rfl⟩
 ·exact ⟨11,rfl⟩
 ·exact ⟨12,rfl⟩
theorem yt4 (hm:mask ∈ okM) (hi:i<=mask) (he:e<=mask):∃ r,r<=mask /\ fN mask r i=e:=by
 obtain ⟨k,hk⟩:=uf3 mask hm
 have h2:fN mask (mask + 1) 0=0:=by
  obtain ⟨o,eo⟩:=yx1 k;rw [vj3,hk,eo,Nat.mul_mod_right]
 have g:∀ x,x<=mask->∃ r,r<=mask /\ fN mask r 0=x:=λ x hx=>by
  obtain ⟨r,hr,h⟩:=ti1 k x;refine ⟨r,by omega,?_⟩;rw [vj3,hk,h,Nat.mod_eq_of_lt [2]]
 obtain ⟨a,ha,ea⟩:=g i hi;obtain ⟨b,hb,eb⟩:=g e he;by_cases c:a<=b
 ·refine ⟨b - a,by omega,?_⟩;have:=uz0 mask a (b - a) 0
  simp_all
 ·refine ⟨mask + 1 - a + b,by omega,?_⟩;have h3:=uz0 mask a (mask + 1 - a) 0;rw [show a + (mask + 1 - a)=mask + 1 by omega,h2,ea] at h3;rw [uz0,<- h3,eb]
theorem wp4 {mask:Nat}:∀ (k:Nat) (x:Nat × Nat),x.1<=mask->(lp mask k x).1<=mask
 | 0,x,h=>h
 | k + 1,x,_=>wp4 k _ (by show (x.1 * 5 + 1 + x.2 / 32) % (mask + 1)<=mask; have:=Nat.mod_lt (x.1 * 5 + 1 + x.2 / 32) (show mask + 1 > 0 by omega); omega)
theorem vh1 (hm:mask ∈ okM) (hi:i<=mask) (hp:p < 2 ^ 64) (he:e<=mask):∃ K,K<=13 + mask /\ (lp mask K (i,p)).1=e:=by
 have h1:=wt2 mask 13 (i,p) (Nat.lt_of_lt_of_le hp [19]);have h2:=wp4 13 (i,p) hi;obtain ⟨r,hr,er⟩:=yt4 hm h2 he;refine ⟨13 + r,by omega,?_⟩;rw [vt2,show lp mask 13 (i,p)=((lp mask 13 (i,p)).1,0) from Prod.ext rfl h1,yu1,er]
theorem xb2 (h:Int):SetTable.bits h < 2 ^ 64:=by
 unfold SetTable.bits;omega
theorem xw0 (mask:Nat) (h:Int):trS mask h 0=seg mask (SetTable.bits h % (mask + 1)) (SetTable.bits h):=rfl
theorem vq3 (h:Int) (n:Nat):∃ n0 i p k,n=n0 + k /\ trS mask h n0=seg mask i p /\ i<=mask /\ p < 2 ^ 64 /\ k<=SetTable.runEnd mask i - i:=by
 induction n with
 | zero=>exact ⟨0,_,_,0,rfl,xw0 mask h,by have:=Nat.mod_lt (SetTable.bits h) (show mask + 1 > 0 by omega); omega,xb2 h,Nat.zero_le _⟩
 | succ n ih =>
  obtain ⟨n0,i,p,k,e1,e2,e3,e4,e5⟩:=ih;by_cases c:k + 1<=SetTable.runEnd mask i - i
  ·exact ⟨n0,i,p,k + 1,by omega,e2,e3,e4,c⟩
  ·refine ⟨n0 + (SetTable.runEnd mask i - i) + 1,_,_,0,by omega,tl0 e2,?_,?_,Nat.zero_le _⟩
   ·show (i * 5 + 1 + p / 32) % (mask + 1)<=mask; have:=Nat.mod_lt (i * 5 + 1 + p / 32) (show mask + 1 > 0 by omega); omega
   ·show p / 32 < 2 ^ 64; omega
theorem vx2 (h:Int) (n:Nat):tr mask h n<=mask:=by
 obtain ⟨n0,i,p,k,e1,e2,e3,e4,e5⟩:=vq3 (mask:=mask) h n;subst e1;show (trS mask h (n0 + k)).j<=mask;rw [ss0 e2 k e5];show i + k<=mask;have:=ub4 mask i e3;omega
theorem ve1 (hm:mask ∈ okM) (h:Int) (n:Nat) (he:e<=mask):∃ m,n<=m /\ m < n + 10 * SetTable.turns mask /\ tr mask h m=e:=by
 obtain ⟨n0,i,p,k,e1,e2,e3,e4,e5⟩:=vq3 (mask:=mask) h n;have e6:=tl0 e2;have l1:(SetTable.leap mask i p).1<=mask:=by show (i * 5 + 1 + p / 32) % (mask + 1)<=mask; have:=Nat.mod_lt (i * 5 + 1 + p / 32) (show mask + 1 > 0 by omega); omega
 obtain ⟨K,hK,eK⟩:=vh1 hm l1 (show (SetTable.leap mask i p).2 < 2 ^ 64 by show p / 32 < 2 ^ 64; omega) he;obtain ⟨m,h1,h2,h3⟩:=ys2 K e6;have:=run9 mask i;refine ⟨m,by omega,by unfold SetTable.turns; omega,?_⟩;show (trS mask h m).j=e;rw [h3];exact eK
noncomputable def Occ (t:SetTable) (j:Nat):Prop:=j ∈ t.place.toList \/ j ∈ t.dummies.toList
structure TOk (t:SetTable) (hs:List Int):Prop where
 ris:Rise t.place
 rid:Rise t.dummies
 dj:∀ j,j ∈ t.dummies.toList->j ∉ t.place.toList
 inP:∀ j,j ∈ t.place.toList->j<=t.mask
 inD:∀ j,j ∈ t.dummies.toList->j<=t.mask
 msk:t.mask ∈ okM
 sz:t.place.size=hs.length
 reach:∀ (i j:Nat) (h:Int),t.place[i]?=some j->hs[i]?=some h->∃ m,tr t.mask h m=j /\ ∀ l,l < m->Occ t (tr t.mask h l)
variable {hs:List Int}
theorem TOk.occ {t:SetTable} (k:TOk t hs) (j:Nat):Occ t j ↔ t.slot j ≠ .empty:=by
 rw [Ne,wp0 k.ris k.rid];unfold Occ;constructor
 ·rintro (z | z) ⟨a,b⟩
  ·exact a z
  ·exact b z
 ·intro z;by_cases c:j ∈ t.place.toList
  ·exact .inl c
  simp_all
theorem us2:∀ (M:Nat) (L:List Nat),(∀ e,e < M->e ∈ L)->M<=L.length
 | 0,_,_=>Nat.zero_le _
 | M + 1,L,h=>by
  have h1:=h M (Nat.lt_succ_self _);have h2:=us2 M (L.erase M) λ e he=>(List.mem_erase_of_ne (Nat.ne_of_lt he)).mpr (h e (Nat.lt_succ_of_lt he));rw [List.length_erase_of_mem h1] at h2;have:=List.length_pos_of_mem h1;omega
theorem TOk.hole {t:SetTable} (k:TOk t hs) (r:t.fill<=t.mask):∃ e,e<=t.mask /\ t.slot e=.empty:=by
 refine Classical.byContradiction λ c=>?_
 have:=us2 (t.mask + 1) (t.place.toList ++ t.dummies.toList) λ e he=>by
  have h1:Occ t e:=(k.occ e).mpr λ z=>c ⟨e,by omega,z⟩;exact List.mem_append.mpr h1
 rw [length_append] at this;simp only [length_toList] at this;unfold SetTable.fill at r;omega
noncomputable def Sk (t:SetTable) (hashAt:Nat->Int) (h:Int) (n m:Nat):Prop:=∀ l,n<=l->l < m->t.slot (tr t.mask h l) ≠ .empty /\ ∀ i,t.slot (tr t.mask h l)=.live i->hashAt i ≠ h
noncomputable def DumOk (t:SetTable) (h:Int) (d:Option Nat) (n:Nat):Prop:=∀ x,d=some x->∃ l,l < n /\ tr t.mask h l=x /\ t.slot x=.dummy
theorem DumOk.up {t:SetTable} {d:Option Nat} {n m:Nat} (k:DumOk t h d n) (l:n<=m):DumOk t h d m:=λ x e=>by
 obtain ⟨a,b,c⟩:=k x e;exact ⟨a,by omega,c⟩
theorem Sk.cons {t:SetTable} {hashAt:Nat->Int} {h:Int} {n m:Nat} (a:t.slot (tr t.mask h n) ≠ .empty) (b:∀ i,t.slot (tr t.mask h n)=.live i->hashAt i ≠ h) (k:Sk t hashAt h (n + 1) m):Sk t hashAt h n m:=λ l h1 h2=>by
 by_cases c:l=n
 ·simp_all
 ·exact k l [2] h2
theorem xd1 (t:SetTable) (hashAt:Nat->Int) (h:Int):∀ (fuel n:Nat) (d:Option Nat),DumOk t h d n->(∃ m,n<=m /\ m < n + fuel /\ t.slot (tr t.mask h m)=.empty) ->
    (∃ m d',SetTable.probe.go t hashAt h fuel { trS t.mask h n with dummy:=d }=some (.empty (tr t.mask h m) d') /\ n<=m /\ t.slot (tr t.mask h m)=.empty /\ Sk t hashAt h n m /\ DumOk t h d' m) ∨
    (∃ m i d',SetTable.probe.go t hashAt h fuel { trS t.mask h n with dummy:=d }=some (.candidate (tr t.mask h m) i { trS t.mask h (m + 1) with dummy:=d' }) /\ n<=m /\ t.slot (tr t.mask h m)=.live i /\ hashAt i=h /\ Sk t hashAt h n m /\ DumOk t h d' m)
 | 0,n,d,k,c=>by omega
 | fuel + 1,n,d,k,c=>by
  have nx:t.slot (tr t.mask h n) ≠ .empty->∃ m,n + 1<=m /\ m < n + 1 + fuel /\ t.slot (tr t.mask h m)=.empty:=λ z=>by
   obtain ⟨m,a,b,e⟩:=c;refine ⟨m,?_,by omega,e⟩;by_cases y:m=n
   ·simp_all
   ·omega
  unfold SetTable.probe.go;dsimp only;cases hs:t.slot (tr t.mask h n) with
  | empty=>exact .inl ⟨n,d,rfl,Nat.le_refl _,hs,λ l a b=>by omega,k⟩
  | dummy =>
   dsimp only;have e1:t.advance { trS t.mask h n with dummy:=some (tr t.mask h n) }={ trS t.mask h (n + 1) with dummy:=some (tr t.mask h n) }:=yb1 t (trS t.mask h n) _;rw [e1];have k':DumOk t h (some (tr t.mask h n)) (n + 1):=λ x e=>by cases e; exact ⟨n,Nat.lt_succ_self _,rfl,hs⟩
   have e2:t.slot (tr t.mask h n) ≠ .empty:=by simp_all
   have e3:∀ i,t.slot (tr t.mask h n)=.live i->hashAt i ≠ h:=λ i z=>by simp_all
   rcases xd1 t hashAt h fuel (n + 1) _ k' (nx e2) with ⟨m,d',a1,a2,a3,a4,a5⟩ | ⟨m,i,d',a1,a2,a3,a4,a5,a6⟩
   ·exact .inl ⟨m,d',a1,by omega,a3,a4.cons e2 e3,a5⟩
   ·exact .inr ⟨m,i,d',a1,by omega,a3,a4,a5.cons e2 e3,a6⟩
  | live i =>
   dsimp only;have e1:t.advance { trS t.mask h n with dummy:=d }={ trS t.mask h (n + 1) with dummy:=d }:=yb1 t (trS t.mask h n) _;rw [e1];have e2:t.slot (tr t.mask h n) ≠ .empty:=by simp_all
   by_cases c2:hashAt i=h
   ·rw [if_pos (by simpa using c2)];exact .inr ⟨n,i,d,rfl,Nat.le_refl _,hs,c2,λ l a b=>by omega,k⟩
   ·rw [if_neg (by simpa using c2)];have e3:∀ i,t.slot (tr t.mask h n)=.live i->hashAt i ≠ h:=λ i' z=>by simp_all
    rcases xd1 t hashAt h fuel (n + 1) _ (k.up (Nat.le_succ _)) (nx e2) with ⟨m,d',a1,a2,a3,a4,a5⟩ | ⟨m,i,d',a1,a2,a3,a4,a5,a6⟩
    ·exact .inl ⟨m,d',a1,by omega,a3,a4.cons e2 e3,a5⟩
    ·exact .inr ⟨m,i,d',a1,by omega,a3,a4,a5.cons e2 e3,a6⟩
theorem TOk.probe {t:SetTable} {hs:List Int} (k:TOk t hs) (r:t.fill<=t.mask) (hashAt:Nat->Int) (h:Int) (n:Nat) (d:Option Nat) (kd:DumOk t h d n) :
    (∃ m d',t.probe hashAt h { trS t.mask h n with dummy:=d }=some (.empty (tr t.mask h m) d') /\ n<=m /\ t.slot (tr t.mask h m)=.empty /\ Sk t hashAt h n m /\ DumOk t h d' m) ∨
    (∃ m i d',t.probe hashAt h { trS t.mask h n with dummy:=d }=some (.candidate (tr t.mask h m) i { trS t.mask h (m + 1) with dummy:=d' }) /\ n<=m /\ t.slot (tr t.mask h m)=.live i /\ hashAt i=h /\ Sk t hashAt h n m /\ DumOk t h d' m):=by
 obtain ⟨e,he,ee⟩:=k.hole r;obtain ⟨m,h1,h2,h3⟩:=ve1 k.msk h n he;exact xd1 t hashAt h _ n d kd ⟨m,h1,h2,by rw [h3]; exact ee⟩
theorem sp0 {α:Type} {xs:List α} {x:α} (hp:p<=xs.length) (h:i < p):(xs.take p ++ x :: xs.drop p)[i]?=xs[i]?:=by
 rw [getElem?_append_left [16],getElem?_take_of_lt h]
theorem yq0 {α:Type} {xs:List α} {x:α} (hp:p<=xs.length):(xs.take p ++ x :: xs.drop p)[p]?=some x:=by
 simp_all
theorem xq0 {α:Type} {xs:List α} {x:α} (hp:p<=xs.length) (h:p<=i):(xs.take p ++ x :: xs.drop p)[i + 1]?=xs[i]?:=by
 rw [getElem?_append_right [8],length_take,show i + 1 - min p xs.length=(i - p) + 1 by omega,getElem?_cons_succ,getElem?_drop];congr 1;omega
noncomputable def insL {α:Type} (xs:List α) (p:Nat) (x:α):List α:=xs.take p ++ x :: xs.drop p
theorem zm0 {α:Type} (xs:List α) (p:Nat) (x y:α):y ∈ insL xs p x ↔ y=x \/ y ∈ xs:=by
 have e:xs=xs.take p ++ xs.drop p:=(take_append_drop p xs).symm;unfold insL;rw [mem_append,mem_cons];constructor
 ·rintro (z | z | z)
  ·exact .inr (mem_of_mem_take z)
  ·exact .inl z
  ·exact .inr (mem_of_mem_drop z)
 ·rintro (z | z)
  ·exact .inr (.inl z)
  ·rw [e] at z;rcases List.mem_append.mp z with z | z
   ·exact .inl z
   simp_all
theorem sf0 {α:Type} (xs:List α) (p:Nat) (x:α):(insL xs p x).length=xs.length + 1:=by
 unfold insL
 simp_all;omega
theorem yi1 {α β:Type} (f:α->β) (xs:List α) (p:Nat) (x:α):(insL xs p x).map f=insL (xs.map f) p (f x):=by
 unfold insL;simp
theorem wi2 (h:Rise xs) {j:Nat} (hn:j ∉ xs.toList):(insL xs.toList (SetTable.below xs j) j).Pairwise (· < ·):=by
 have b:∀ {i a:Nat},xs[i]?=some a->(i < SetTable.below xs j ↔ a < j):=λ q=>zh0 h j q;have hb:=tj0 h j;have e:xs.toList=xs.toList.take (SetTable.below xs j) ++ xs.toList.drop (SetTable.below xs j):=(take_append_drop _ _).symm;have h':=h;unfold Rise at h';rw [e] at h';obtain ⟨h1,h2,h3⟩:=List.pairwise_append.mp h';unfold insL;refine List.pairwise_append.mpr ⟨h1,List.pairwise_cons.mpr ⟨λ x hx=>?_,h2⟩,λ x hx y hy=>?_⟩
 ·obtain ⟨i,hi⟩:=List.mem_iff_getElem?.mp hx;rw [getElem?_drop,getElem?_toList] at hi;have:=b hi;have ne:x ≠ j:=λ z=>hn (by subst z; exact wq0 hi);omega
 ·have hxl:x < j:=by
    obtain ⟨i,hi⟩:=List.mem_iff_getElem?.mp hx
    have hlt:i < SetTable.below xs j:=by
     have:=(List.getElem?_eq_some_iff.mp hi).1;rw [length_take] at this;omega
    rw [getElem?_take_of_lt hlt,getElem?_toList] at hi;exact (b hi).mp hlt
  rcases List.mem_cons.mp hy with rfl | hy
  ·exact hxl
  ·exact h3 x hx y hy
theorem xk3 (h:Rise xs) {j:Nat} (hp:xs[p]?=some j) (x:Nat):x ∈ (SetTable.eraseAt xs p).toList ↔ x ∈ xs.toList /\ x ≠ j:=by
 have hpl:=(Array.getElem?_eq_some_iff.mp hp).1
 have e:(SetTable.eraseAt xs p).toList=xs.toList.take p ++ xs.toList.drop (p + 1):=by
  simp [SetTable.eraseAt,List.extract_eq_take_drop,take_of_length_le]
 rw [e,mem_append];constructor
 ·rintro (z | z)
  ·obtain ⟨i,hi⟩:=List.mem_iff_getElem?.mp z
   have hlt:i < p:=by
    have:=(List.getElem?_eq_some_iff.mp hi).1
    simp_all;omega
   rw [getElem?_take_of_lt hlt,getElem?_toList] at hi;exact ⟨wq0 hi,Nat.ne_of_lt (xk0 h hi hp hlt)⟩
  ·obtain ⟨i,hi⟩:=List.mem_iff_getElem?.mp z;rw [getElem?_drop,getElem?_toList] at hi;exact ⟨wq0 hi,Nat.ne_of_gt (xk0 h hp hi [2])⟩
 ·rintro ⟨z,ne⟩;obtain ⟨i,hi⟩:=yy0 z;have hil:=(Array.getElem?_eq_some_iff.mp hi).1;by_cases c:i < p
  ·exact .inl (List.mem_iff_getElem?.mpr ⟨i,by simp_all⟩)
  ·have:i ≠ p:=λ y=>by simp_all
   exact .inr (List.mem_iff_getElem?.mpr ⟨i - (p + 1),by rw [getElem?_drop,show p + 1 + (i - (p + 1))=i by omega,getElem?_toList]; exact hi⟩)
theorem vu0 (xs:Array Nat) (p:Nat):(SetTable.eraseAt xs p).toList=xs.toList.take p ++ xs.toList.drop (p + 1):=by
 simp [SetTable.eraseAt,List.extract_eq_take_drop,take_of_length_le]
theorem vi2 (h:Rise xs) (p:Nat):Rise (SetTable.eraseAt xs p):=by
 unfold Rise;rw [vu0];have e:xs.toList=xs.toList.take p ++ xs.toList.drop p:=(take_append_drop p xs.toList).symm;refine List.Pairwise.sublist ?_ h
 conv=>rhs; rw [e]
 refine List.Sublist.append (List.Sublist.refl _) ?_;rw [<- List.drop_drop];exact drop_sublist _ _
theorem xi0 {t:SetTable} (k:Rise t.dummies) (j x:Nat):x ∈ (t.put j).1.dummies.toList ↔ x ∈ t.dummies.toList /\ x ≠ j:=by
 show x ∈ (if SetTable.has t.dummies j then SetTable.eraseAt t.dummies (SetTable.below t.dummies j) else t.dummies).toList ↔ _;by_cases c:SetTable.has t.dummies j=true
 ·rw [if_pos c];obtain ⟨i,hi⟩:=yy0 ((zi0 k j).mp c);rw [sj0 k hi];exact xk3 k hi x
 ·rw [if_neg c];exact ⟨λ z=>⟨z,λ y=>by subst y; exact c ((zi0 k x).mpr z)⟩,λ z=>z.1⟩
theorem vd0 (t:SetTable) (j:Nat):(t.put j).1.place.toList=insL t.place.toList (SetTable.below t.place j) j:=SetTable.toList_insertAt _ _ _
theorem TOk.put {t:SetTable} {hs:List Int} (k:TOk t hs) {x:Nat} {h:Int} (hx:x ∉ t.place.toList) (hr:∃ m,tr t.mask h m=x /\ ∀ l,l < m->Occ t (tr t.mask h l)) :
    TOk (t.put x).1 (insL hs (SetTable.below t.place x) h):=by
 have hb:=tj0 k.ris x;have sz:=k.sz
 have oc:∀ j,Occ t j->Occ (t.put x).1 j:=λ j o=>by
  unfold Occ;rw [vd0,zm0,xi0 k.rid];by_cases c:j=x
  ·exact .inl (.inl c)
  ·exact o.elim (λ z=>.inl (.inr z)) λ z=>.inr ⟨z,c⟩
 have hxm:x<=t.mask:=by obtain ⟨m,e,_⟩:=hr; rw [<- e]; exact vx2 h m
 refine ⟨?_,?_,λ j a b=>?_,λ j a=>?_,λ j a=>?_,k.msk,?_,λ i j h' a b=>?_⟩
 ·unfold Rise; rw [vd0]; exact wi2 k.ris hx
 ·show Rise (if SetTable.has t.dummies x then SetTable.eraseAt t.dummies (SetTable.below t.dummies x) else t.dummies);split
  ·exact vi2 k.rid _
  ·exact k.rid
 ·rw [xi0 k.rid] at a;rw [vd0,zm0] at b;rcases b with rfl | b
  ·exact a.2 rfl
  ·exact k.dj j a.1 b
 ·rw [vd0,zm0] at a;rcases a with rfl | a
  ·exact hxm
  ·exact k.inP j a
 ·rw [xi0 k.rid] at a;exact k.inD j a.1
 ·rw [<- length_toList,vd0,sf0,sf0,length_toList,sz]
 ·have lp:SetTable.below t.place x<=t.place.toList.length:=by omega
  have lh:SetTable.below t.place x<=hs.length:=by omega
  rw [<- getElem?_toList,vd0] at a;show ∃ m,tr t.mask h' m=j /\ ∀ l,l < m->Occ (t.put x).1 (tr t.mask h' l);unfold insL at a b;by_cases c:i < SetTable.below t.place x
  ·rw [sp0 lp c,getElem?_toList] at a;rw [sp0 lh c] at b;obtain ⟨m,e,o⟩:=k.reach i j h' a b;exact ⟨m,e,λ l hl=>oc _ (o l hl)⟩
  ·by_cases c2:i=SetTable.below t.place x
   ·subst c2;rw [yq0 lp] at a;rw [yq0 lh] at b;cases a;cases b;obtain ⟨m,e,o⟩:=hr;exact ⟨m,e,λ l hl=>oc _ (o l hl)⟩
   ·obtain ⟨i',rfl⟩:∃ i',i=i' + 1:=⟨i - 1,by omega⟩;rw [xq0 lp [2],getElem?_toList] at a;rw [xq0 lh [2]] at b;obtain ⟨m,e,o⟩:=k.reach i' j h' a b;exact ⟨m,e,λ l hl=>oc _ (o l hl)⟩
theorem wj2 {t:SetTable} (k:TOk t hs) :(t.put x).1.fill<=t.fill + 1:=by
 unfold SetTable.fill;have h1:(t.put x).1.place.size=t.place.size + 1:=by rw [<- length_toList,vd0,sf0,length_toList]
 have h2:(t.put x).1.dummies.size<=t.dummies.size:=by
  show (if SetTable.has t.dummies x then SetTable.eraseAt t.dummies (SetTable.below t.dummies x) else t.dummies).size<=_;split
  ·rw [<- length_toList,vu0,length_append,length_take,length_drop,length_toList]; omega
  omega
 omega
theorem sk1 {t:SetTable} (k:TOk t hs) (hd:t.slot x=.dummy):(t.put x).1.fill<=t.fill:=by
 unfold SetTable.fill;have h1:(t.put x).1.place.size=t.place.size + 1:=by rw [<- length_toList,vd0,sf0,length_toList]
 have m:=(vp0 k.ris k.rid (k.dj x)).mp hd;obtain ⟨i,hi⟩:=yy0 m;have hil:=(Array.getElem?_eq_some_iff.mp hi).1
 have h2:(t.put x).1.dummies.size + 1<=t.dummies.size:=by
  show (if SetTable.has t.dummies x then SetTable.eraseAt t.dummies (SetTable.below t.dummies x) else t.dummies).size + 1<=_;rw [if_pos ((zi0 k.rid x).mpr m),sj0 k.rid hi,<- length_toList,vu0,length_append,length_take,length_drop,length_toList];omega
 omega
theorem wz0 (mask:Nat) (h:Int) (owner:Array [44]):∀ (fuel n i p:Nat),trS mask h n=seg mask i p->(∃ K,K < fuel /\ owner.getD (lp mask K (i,p)).1 (some 0)=none) ->
    ∃ m,SetTable.layClean.free mask owner fuel i p=some (tr mask h m) /\ n<=m /\ owner.getD (tr mask h m) (some 0)=none /\ ∀ l,n<=l->l < m->owner.getD (tr mask h l) (some 0) ≠ none
 | 0,n,i,p,e,c=>by omega
 | fuel + 1,n,i,p,e,c=>by
  have trk:∀ k,k<=SetTable.runEnd mask i - i->tr mask h (n + k)=i + k:=λ k hk=>by
   show (trS mask h (n + k)).j=_;rw [ss0 e k hk]
  have rl:=vb4 mask i;unfold SetTable.layClean.free;cases hf:(List.range (SetTable.runEnd mask i + 1 - i)).find? (λ k=>(owner.getD (i + k) (some 0)).isNone) with
  | some k =>
   dsimp only;obtain ⟨h1,h2,h3⟩:=List.find?_range_eq_some.mp hf;have h2':k < SetTable.runEnd mask i + 1 - i:=List.mem_range.mp h2;refine ⟨n + k,by rw [trk k [2]],by omega,by rw [trk k [2]]; simpa using h1,λ l a b=>?_⟩;obtain ⟨l',rfl⟩:∃ l',l=n + l':=⟨l - n,by omega⟩;rw [trk l' [2]];have:=h3 l' [2];intro z
   simp_all
  | none =>
   dsimp only;have h1:=List.find?_range_eq_none.mp hf
   have h1':∀ k,k<=SetTable.runEnd mask i - i->owner.getD (i + k) (some 0) ≠ none:=λ k hk z=>by
    have:=h1 k [2]
    simp_all
   have c':∃ K,K < fuel /\ owner.getD (lp mask K (SetTable.leap mask i p)).1 (some 0)=none:=by
    obtain ⟨K,a,b⟩:=c;cases K with
    | zero=>exact absurd b (h1' 0 (Nat.zero_le _))
    | succ K=>exact ⟨K,by omega,b⟩
   obtain ⟨m,a1,a2,a3,a4⟩:=wz0 mask h owner fuel _ _ _ (tl0 e) c';refine ⟨m,a1,by omega,a3,λ l b1 b2=>?_⟩;by_cases z:l<=n + (SetTable.runEnd mask i - i)
   ·obtain ⟨l',rfl⟩:∃ l',l=n + l':=⟨l - n,by omega⟩
    simp_all
   ·exact a4 l [2] b2
theorem xv2 {α β:Type} {f:α->Option β}:∀ {L:List α},(∀ j ∈ L,f j ≠ none)->(L.filterMap f).length=L.length
 | [],_=>rfl
 | j :: L,h=>by
  have h1:=h j (mem_cons_self ..);obtain ⟨b,hb⟩:∃ b,f j=some b:=by cases hq:f j with | none=>exact absurd hq h1 | some b=>exact ⟨b,rfl⟩
  rw [List.filterMap_cons_some hb,length_cons,length_cons,xv2 λ x hx=>h x (mem_cons_of_mem _ hx)]
theorem wu0 {α β:Type} {f g:α->Option β}:∀ {L:List α},(∀ j ∈ L,f j=g j)->L.filterMap f=L.filterMap g
 | [],_=>rfl
 | j :: L,h=>by
  rw [filterMap_cons,filterMap_cons,h j (mem_cons_self ..),wu0 λ x hx=>h x (mem_cons_of_mem _ hx)]
theorem su2 {f g:Nat->Option Nat} {x k:Nat} (e1:f x=none) (e2:g x=some k) (e3:∀ y,y ≠ x->g y=f y):∀ {L:List Nat},L.Nodup->x ∈ L->(L.filterMap g).Perm (k :: L.filterMap f)
 | [],_,h=>by cases h
 | y :: L,nd,h=>by
  obtain ⟨n1,n2⟩:=List.nodup_cons.mp nd;by_cases c:y=x
  ·subst c;rw [List.filterMap_cons_some e2,List.filterMap_cons_none e1];refine List.Perm.cons _ (List.Perm.of_eq ?_);exact wu0 λ j hj=>e3 j λ z=>n1 (z ▸ hj)
  ·have ih:=su2 e1 e2 e3 n2 (by rcases List.mem_cons.mp h with rfl | h; exact absurd rfl c; exact h);have e:=e3 y c;cases hf:f y with
   | none=>simp_all
   | some b =>
    rw [List.filterMap_cons_some (by rw [e,hf]),List.filterMap_cons_some hf];exact (List.Perm.cons _ ih).trans (List.Perm.swap _ _ _)
structure OwnOk (mask:Nat) (hs:List Int) (owner:Array (Option Nat)):Prop where
 sz:owner.size=mask + 1
 perm:((List.range (mask + 1)).filterMap λ j=>owner.getD j none).Perm (List.range hs.length)
 reach:∀ j k,owner.getD j none=some k->∃ h,hs[k]?=some h /\ ∃ m,tr mask h m=j /\ ∀ l,l < m->owner.getD (tr mask h l) none ≠ none
theorem vn2 {owner:Array [44]} {j:Nat} (h:j < owner.size) (a b:Option Nat):owner.getD j a=owner.getD j b:=by simp_all
theorem OwnOk.step {mask:Nat} (hm:mask ∈ okM) {hs:List Int} {owner:Array [44]} (k:OwnOk mask hs owner) (hl:hs.length<=mask) (h:Int) :
    ∃ x,SetTable.layClean.free mask owner (SetTable.turns mask) (SetTable.bits h % (mask + 1)) (SetTable.bits h)=some x /\ OwnOk mask (hs ++ [h]) (owner.setIfInBounds x (some hs.length)):=by
 have sz:=k.sz
 obtain ⟨e,he,ee⟩:∃ e,e<=mask /\ owner.getD e none=none:=by
  refine Classical.byContradiction λ c=>?_;have h1:=xv2 (f:=λ j=>owner.getD j none) (L:=List.range (mask + 1)) λ j hj z=>c ⟨j,by have:=List.mem_range.mp hj; omega,z⟩;rw [k.perm.length_eq,List.length_range,List.length_range] at h1;omega
 have hi:SetTable.bits h % (mask + 1)<=mask:=by have:=Nat.mod_lt (SetTable.bits h) (show mask + 1 > 0 by omega); omega
 obtain ⟨K,hK,eK⟩:=vh1 hm hi (xb2 h) he;obtain ⟨m,a1,a2,a3,a4⟩:=wz0 mask h owner (SetTable.turns mask) 0 _ _ (xw0 mask h) ⟨K,by unfold SetTable.turns; omega,by rw [eK,vn2 [2] _ none]; exact ee⟩;have ml:∀ l,tr mask h l < owner.size:=λ l=>by have:=vx2 (mask:=mask) h l; omega
 have a3':owner.getD (tr mask h m) none=none:=by simp_all
 have gx:(owner.setIfInBounds (tr mask h m) (some hs.length)).getD (tr mask h m) none=some hs.length:=by
  simp_all
 have gy:∀ y,y ≠ tr mask h m->(owner.setIfInBounds (tr mask h m) (some hs.length)).getD y none=owner.getD y none:=λ y hy=>by
  by_cases c:y < owner.size
  ·simp [Array.getD,c,Array.getElem_setIfInBounds,Ne.symm hy]
  simp_all
 have mono:∀ y,owner.getD y none ≠ none->(owner.setIfInBounds (tr mask h m) (some hs.length)).getD y none ≠ none:=λ y hy=>by
  by_cases c:y=tr mask h m
  ·simp_all
  simp_all
 refine ⟨tr mask h m,a1,by simp_all,?_,λ j q e=>?_⟩
 ·refine (su2 a3' gx gy List.nodup_range (List.mem_range.mpr (by have:=ml m; omega))).trans ?_;rw [length_append,List.length_singleton];exact ((List.Perm.cons _ k.perm).trans (List.perm_append_singleton _ _).symm).trans (List.Perm.of_eq List.range_succ.symm)
 ·by_cases c:j=tr mask h m
  ·subst c;rw [gx] at e;cases e;refine ⟨h,by simp,m,rfl,λ l hl=>mono _ ?_⟩
   simp_all
  ·rw [gy j c] at e;obtain ⟨h',b1,m',b2,b3⟩:=k.reach j q e;refine ⟨h',?_,m',b2,λ l hl=>mono _ (b3 l hl)⟩;rw [getElem?_append_left (List.getElem?_eq_some_iff.mp b1).1];exact b1
theorem ux1 {mask:Nat} (hm:mask ∈ okM):∀ (rest done:List Int) (owner:Array [44]),OwnOk mask done owner->done.length + rest.length<=mask + 1 ->
    ∃ owner',List.foldl (λ acc h=>do
     let (owner,k) <- acc
     let j <- SetTable.layClean.free mask owner (SetTable.turns mask) (SetTable.bits h % (mask + 1)) (SetTable.bits h)
     pure (owner.setIfInBounds j (some k),k + 1)) (some (owner,done.length)) rest=some (owner',done.length + rest.length) /\ OwnOk mask (done ++ rest) owner'
 | [],done,owner,k,_=>⟨owner,rfl,by simp_all⟩
 | h :: rest,done,owner,k,hl=>by
  rw [length_cons] at hl;obtain ⟨x,e,k'⟩:=k.step hm [2] h;obtain ⟨o',e',k''⟩:=ux1 hm rest (done ++ [h]) _ k' (by rw [length_append,List.length_singleton]; omega);refine ⟨o',?_,by simp_all⟩;rw [length_append,List.length_singleton] at e';rw [foldl_cons,length_cons,show done.length + (rest.length + 1)=done.length + 1 + rest.length by omega,<- e']
  simp_all
theorem own0 (mask:Nat):OwnOk mask [] (Array.replicate (mask + 1) none):=by
 have g:∀ j,(Array.replicate (mask + 1) (none:Option Nat)).getD j none=none:=λ j=>by
  by_cases c:j < mask + 1 <;> simp [Array.getD,c]
 refine ⟨by simp,?_,λ j k e=>by simp_all⟩
 simp_all
theorem tc1 (hm:mask ∈ okM) (hs:Array Int) (hl:hs.size<=mask + 1):∃ owner,SetTable.layClean mask hs=some owner /\ OwnOk mask hs.toList owner:=by
 obtain ⟨o,e,k⟩:=ux1 hm hs.toList [] _ (own0 mask) (by simpa using hl);refine ⟨o,?_,by simpa using k⟩;unfold SetTable.layClean
 simp_all
theorem sh3 (hm:mask ∈ okM) (hs:Array Int) (hl:hs.size<=mask + 1) (fi mo:Nat) (le pl:Bool) :
    ∃ t' order,SetTable.laid mask fi mo le pl hs=some (t',order) /\ t'.mask=mask /\ t'.dummies = #[] /\ t'.led=le /\ t'.plain=pl /\ t'.finger=fi /\ t'.moves=mo /\ order.toList.Perm (List.range hs.size) /\ TOk t' (order.toList.map λ k=>hs.getD k 0):=by
 obtain ⟨o,e,k⟩:=tc1 hm hs hl;unfold SetTable.laid;rw [e];refine ⟨_,_,rfl,rfl,rfl,rfl,rfl,rfl,rfl,?_,?_⟩
 ·have:(((List.range (mask + 1)).filterMap λ j=>(o.getD j none).map (j,·)).map (·.2))=(List.range (mask + 1)).filterMap λ j=>o.getD j none:=by
    rw [List.map_filterMap];refine wu0 λ j _=>?_;cases o.getD j none <;> rfl
  simp only [List.toList_toArray];rw [this];simpa using k.perm
 ·generalize hlv:((List.range (mask + 1)).filterMap λ j=>(o.getD j none).map (j,·))=live
  have lget:∀ x,x ∈ live->x.1<=mask /\ o.getD x.1 none=some x.2:=λ x hx=>by
   rw [<- hlv] at hx;obtain ⟨j,hj,ej⟩:=List.mem_filterMap.mp hx;cases hq:o.getD j none with
   | none=>simp_all
   | some b=>rw [hq] at ej; cases ej; exact ⟨by have:=List.mem_range.mp hj; show j<=mask; omega,hq⟩
  have lin:∀ j q,j<=mask->o.getD j none=some q->j ∈ live.map (·.1):=λ j q hj eq=>by
   rw [<- hlv];exact List.mem_map.mpr ⟨(j,q),List.mem_filterMap.mpr ⟨j,List.mem_range.mpr [2],by rw [eq]; rfl⟩,rfl⟩
  have pw:(live.map (·.1)).Pairwise (· < ·):=by
   rw [<- hlv,List.map_filterMap,List.pairwise_filterMap];refine List.pairwise_lt_range.imp_of_mem ?_
   simp_all
  refine ⟨by omega,List.Pairwise.nil,λ j z=>by simp at z,λ j z=>?_,λ j z=>by simp at z,hm,by simp,λ i j h a b=>?_⟩
  ·have z':j ∈ live.map (·.1):=by simpa using z
   obtain ⟨x,hx,rfl⟩:=List.mem_map.mp z';exact (lget x hx).1
  ·have a':(live.map (·.1))[i]?=some j:=by simpa using a
   have b':((live.map (·.2)).map λ k=>hs.getD k 0)[i]?=some h:=by simpa using b
   rw [getElem?_map] at a' b';rw [getElem?_map] at b';cases hx:live[i]? with
   | none=>simp_all
   | some x =>
    rw [hx] at a' b';have a2:x.1=j:=by simpa using a'
    have b2:hs.getD x.2 0=h:=by simpa using b'
    obtain ⟨g1,g2⟩:=lget x (mem_of_getElem? hx);obtain ⟨h',c1,m,c2,c3⟩:=k.reach _ _ g2
    have hh:h'=h:=by
     simp_all
    subst hh;refine ⟨m,by rw [c2,a2],λ l hl=>.inl ?_⟩;have c4:=c3 l hl;cases hq:o.getD (tr mask h' l) none with
    | none=>exact absurd hq c4
    | some q=>simpa using lin _ q (vx2 h' l) hq
theorem vw0:∀ n,n < 512->SetTable.sizeAbove (n * 4) - 1 ∈ okM /\ n * 5 < (SetTable.sizeAbove (n * 4) - 1) * 3 /\ SetTable.sizeAbove (n * 4)<=2048:=by
 trivial
end Pv
namespace Pv
open PySem PySem.Spec PySem.W PyProof.Rows L2
noncomputable def kI (t:T3):List Int:=[t.1,t.2.1,t.2.2]
theorem yu2 {a b:T3} (h:kI a=kI b):a=b:=by
 obtain ⟨a1,a2,a3⟩:=a;obtain ⟨b1,b2,b3⟩:=b;simp only [kI,List.cons.injEq,and_true] at h
 simp_all
variable {prog:Program} {w:World} {A:Around} {E:[4]} {s:Shared} {Q:Bool->Shared->Prop} {h h':Heap}
section
noncomputable abbrev TK (prog:Program) (w:World) (h:Heap) (t:T3) (a:Addr):Prop:=IsTupleKey (intKind prog w) h (kI t) a
noncomputable def hT (prog:Program) (w:World) (t:T3):Int:=tupleKeyHash (intKind prog w) (kI t)
theorem vi3 {k:T3} {b:Addr} {Q:Int->Shared->Prop} (hu:A.units < cLine) (i:TK prog w s.heap k b) (h:∀ tk,Q (hT prog w k) { s with toks:=tk }):wpAny [3] A (pyHash (.ref b)) Q E s:=wpAny_pyHash_tuple hu i (h _)
theorem IsT3.key {a:Addr} {t:T3} (i:IsT3 h (.ref a) t):TK prog w h t a:=by
 obtain ⟨a',o,t1,t2,t3,n,e1,e2,e3,e4⟩:=i;cases e1;exact ⟨o,_,n,e2,e3,e4,.cons (intKind_is ..) (.cons (intKind_is ..) (.cons (intKind_is ..) .nil))⟩
theorem TK.t3 {h:Heap} {a:Addr} {t:T3} (i:TK prog w h t a):IsT3 h (.ref a) t:=by
 obtain ⟨o,items,n,e1,e2,e3,e4⟩:=i;obtain ⟨it⟩:=items;dsimp only at e4
 have f:∀ {k:Int} {v:Value},(intKind prog w).is k v=true->∃ tk,v=.int k tk:=λ {k v} z=>by
  cases v <;> simp [intKind,Value.isInt] at z
  simp_all
 unfold kI at e4;cases e4 with
 | cons a1 e4 =>
  cases e4 with
  | cons a2 e4 =>
   cases e4 with
   | cons a3 e4 =>
    cases e4;obtain ⟨t1,rfl⟩:=f a1;obtain ⟨t2,rfl⟩:=f a2;obtain ⟨t3,rfl⟩:=f a3;exact ⟨a,o,t1,t2,t3,n,rfl,e1,e2,e3⟩
theorem TK.kept {a:Addr} {t:T3} (k:∀ o,h.get? a=some o->o.cls=.type "tuple" -> h'.get? a=some o) (i:TK prog w h t a):TK prog w h' t a:=by
 obtain ⟨o,items,n,e1,e2,e3⟩:=i;exact ⟨o,items,n,k o e1 e2,e2,e3⟩
theorem sl0 {a:Addr} (h:Q true s):wpAny [3] A (isSame (.ref a) (.ref a)) Q E s:=by
 unfold isSame;dsimp only;rw [if_pos (beq_self_eq_true a)];exact wpAny_pure h
theorem TK.items {a:Addr} {t:T3} (i:TK prog w h t a):∃ o t1 t2 t3 n,h.get? a=some o /\ o.cls=.type "tuple" /\ o.data=.seq #[.int t.1 t1,.int t.2.1 t2,.int t.2.2 t3] n:=by
 obtain ⟨a',o,t1,t2,t3,n,e1,e2,e3,e4⟩:=i.t3
 simp_all
theorem vv2 {t:T3} {a:Addr} (i:TK prog w s.heap t a) (h:Q false s):wpAny [3] A (ofAClassStatement 8 (.ref a)) Q E s:=by
 have ty:=i.typeIs;obtain ⟨o,t1,t2,t3,n,e1,e2,e3⟩:=i.items;unfold ofAClassStatement;refine wpAny_bind (wpAny_typeOf ty ?_);dsimp only;rw [if_pos [19]];refine wpAny_bind [22];rw [if_neg [19]];refine wpAny_bind (wpAny_seqItems e1 e3 ?_);dsimp only;refine wpAny_bind ?_;rw [<- Array.forIn_toList];refine wpAny_forIn_list _ (λ rest r s'=>r.1=none /\ s'=s /\ ∀ v ∈ rest,carriedByValue v=true) _ ?_ ?_ _ _ ⟨rfl,rfl,by simp [carriedByValue]⟩
 ·rintro v rest r s' ⟨hr,rfl,hall⟩;have hv:=hall v mem_cons_self
  have hq:ofAClassStatement 7 v=pure false:=by
   cases v with
   | ref a=>trivial
   | _=>rfl
  rw [hq];refine wpAny_bind [22];simp only [Bool.false_eq_true,if_false];exact wpAny_pure ⟨rfl,rfl,λ u hu'=>hall u (mem_cons_of_mem _ hu')⟩
 ·rintro ⟨r1,r2⟩ s' ⟨hr,rfl,_⟩;simp only at hr;subst hr;exact wpAny_pure h
theorem tz2 {k:T3} {b:Addr} {stored:[29]} (i:TK prog w s.heap k b) (hs:∀ v ∈ stored,∃ t a,v=.ref a /\ TK prog w s.heap t a) (h:Q false s) :
    wpAny [3] A (searchCouldBeSeen (.ref b) stored) Q E s:=by
 unfold searchCouldBeSeen;refine wpAny_bind ?_;refine wpAny_forIn_list _ (λ rest r s'=>r.1=none /\ s'=s /\ ∀ v ∈ rest,∃ t a,v=.ref a /\ TK prog w s.heap t a) _ ?_ ?_ _ _ ⟨rfl,rfl,hs⟩
 ·rintro v rest r s' ⟨hr,rfl,hall⟩;obtain ⟨t,a,rfl,hv⟩:=hall v mem_cons_self;have tl:=λ u hu'=>hall u (mem_cons_of_mem _ hu');dsimp only;split
  ·exact wpAny_pure ⟨rfl,rfl,tl⟩
  ·refine wpAny_bind (wpAny_eqIsQuiet_tuple i ?_);simp only [Bool.not_true,Bool.false_eq_true,if_false];refine wpAny_bind (wpAny_eqIsQuiet_tuple hv ?_);simp only [Bool.not_true,Bool.false_eq_true,if_false];refine wpAny_bind (vv2 i ?_);simp only [Bool.false_eq_true,if_false];refine wpAny_bind (vv2 hv ?_);simp only [Bool.false_eq_true,if_false];exact wpAny_pure ⟨rfl,rfl,tl⟩
 ·rintro ⟨r1,r2⟩ s' ⟨hr,rfl,_⟩;simp only at hr;subst hr;exact wpAny_pure h
theorem zp2 {t:T3} {a:Addr} (i:TK prog w s.heap t a) (h:Q true s):wpAny [3] A (hashByValue 8 (.ref a)) Q E s:=by
 have ty:=i.typeIs;obtain ⟨o,t1,t2,t3,n,e1,e2,e3⟩:=i.items;unfold hashByValue;refine wpAny_bind (wpAny_specialOf ty F.slot_tuple_hash.lookup ?_);show wpAny _ _ (seqItems? (.ref a) >>= _) _ _ s;refine wpAny_bind (wpAny_seqItems e1 e3 ?_);refine wpAny_bind ?_;show wpAny _ _ (forIn #[Value.int t.1 t1,.int t.2.1 t2,.int t.2.2 t3] _ _) _ _ s;rw [<- Array.forIn_toList];refine wpAny_forIn_list _ (λ rest r s'=>r.1=none /\ s'=s /\ ∀ v ∈ rest,∃ i t,v=Value.int i t) _ ?_ ?_ _ _ ⟨rfl,rfl,by simp⟩
 ·rintro v rest r s' ⟨hr,rfl,hall⟩;obtain ⟨j,tk,rfl⟩:=hall v mem_cons_self;have hq:hashByValue 7 (.int j tk)=pure true:=by rfl
  rw [hq];refine wpAny_bind [22];simp only [Bool.not_true,Bool.false_eq_true,if_false];exact wpAny_pure ⟨rfl,rfl,λ u hu'=>hall u (mem_cons_of_mem _ hu')⟩
 ·rintro ⟨r1,r2⟩ s' ⟨hr,rfl,_⟩;simp only at hr;subst hr;exact wpAny_pure h
end
noncomputable def bT (prog:Program) (w:World):Bool:=[3].w.params.followText "set-order"
noncomputable abbrev ent (hf:T3->Int) (x:T3 × Addr):Int × Value:=(hf x.1,.ref x.2)
structure SetIs (prog:Program) (w:World) (hf:T3->Int) (h:Heap) (a:Addr) (o:Obj) (es:Array (Int × Value)) (ep:Nat) (t:SetTable) (xs:List (T3 × Addr)):Prop where
 ho:h.get? a=some o
 ex:o.ExactSet
 hd:o.data=.set es ep t
 el:es.toList=xs.map (ent hf)
 ks:∀ x ∈ xs,TK prog w h x.1 x.2
 nd:(xs.map (·.1)).Nodup
 ok:TOk t (xs.map λ x=>hf x.1)
 rm:t.fill<=t.mask
 pl:t.plain=true
 le:t.led = !bT prog w
variable {o:Obj} {es:Array (Int × Value)} {ep n:Nat} {xs:List (T3 × Addr)} {hf:T3->Int} {adding:Bool}
section
variable {a:Addr} {t:SetTable} 
theorem SetIs.at (S:SetIs prog w hf h a o es ep t xs) (i:Nat):es[i]?=(xs[i]?).map (ent hf):=by rw [<- getElem?_toList,S.el,getElem?_map]
theorem SetIs.size {h:Heap} (S:SetIs prog w hf h a o es ep t xs):es.size=xs.length:=by rw [<- length_toList,S.el,length_map]
theorem SetIs.fits {h:Heap} (S:SetIs prog w hf h a o es ep t xs):t.fits es.size=true:=by
 have h1:=S.ok.sz;have h2:=S.size;have h3:=S.rm;rw [length_map] at h1;simp [SetTable.fits,h1,h2,h3]
theorem SetIs.odd (S:SetIs prog w hf h a o es ep t xs):t.gaveWay=false:=by
 have:∀ m ∈ okM,(m % 2 == 0)=false:=by decide
 exact this _ S.ok.msk
theorem wx0 {f:Nat->Int} {h:Int} {d:Option Nat} {hs:List Int} {r:Option SetTable.Met} (k:TOk t hs) (rm:t.fill<=t.mask) (kd:DumOk t h d n) (e:t.probe f h { trS t.mask h n with dummy:=d }=r) :
    (∃ m d',r=some (.empty (tr t.mask h m) d') /\ n<=m /\ t.slot (tr t.mask h m)=.empty /\ Sk t f h n m /\ DumOk t h d' m) ∨
    (∃ m i d',r=some (.candidate (tr t.mask h m) i { trS t.mask h (m + 1) with dummy:=d' }) /\ n<=m /\ t.slot (tr t.mask h m)=.live i /\ f i=h /\ Sk t f h n m /\ DumOk t h d' m):=by
 subst e;exact k.probe rm f h n d kd
noncomputable def Hist (hf:T3->Int) (t:SetTable) (xs:List (T3 × Addr)) (k:T3) (n:Nat):Prop:=∀ l,l < n->t.slot (tr t.mask (hf k) l) ≠ .empty /\ ∀ i,t.slot (tr t.mask (hf k) l)=.live i->∀ x,xs[i]?=some x->x.1 ≠ k
theorem ub1 {k:T3} {b:Addr} {Q:SetFound->Shared->Prop} (hu:A.units < cLine) (S:SetIs prog w hf s.heap a o es ep t xs) (hk:TK prog w s.heap k b)
    (found:∀ i b',xs[i]?=some (k,b')->Q (.there (if adding then none else some i)) s)
    (free:[33])
    {fuel:Nat} {d:Option Nat} {stand:Option SetTable.Probe} (kd:DumOk t (hf k) d n) (hist:Hist hf t xs k n) (st:stand.getD (t.probeStart (hf k))={ trS t.mask (hf k) n with dummy:=d })
    (ih:∀ (n':Nat) (d':Option Nat) (stand':Option SetTable.Probe),n < n'->DumOk t (hf k) d' n'->Hist hf t xs k n'->stand'.getD (t.probeStart (hf k))={ trS t.mask (hf k) n' with dummy:=d' } ->
     wpAny [3] A (setSearchFrom a (.ref b) (hf k) adding fuel stand') Q E s) :
    wpAny [3] A (setSearchFrom a (.ref b) (hf k) adding (fuel + 1) stand) Q E s:=by
 have hist':∀ {f:Nat->Int} {m:Nat},(∀ i,f i=((es[i]?).map (·.1)).getD 0)->Sk t f (hf k) n m->∀ l,l < m->t.slot (tr t.mask (hf k) l) ≠ .empty /\ ∀ i,t.slot (tr t.mask (hf k) l)=.live i->∀ x,xs[i]?=some x->x.1 ≠ k:=λ {f m} hf sk l hl=>by
  by_cases c:l < n
  ·exact hist l c
  ·obtain ⟨b1,b2⟩:=sk l [2] hl;refine ⟨b1,λ i e x hx z=>b2 i e ?_⟩;rw [hf,S.at,hx,Option.map_some,Option.map_some,Option.getD_some,<- z]
 unfold setSearchFrom;refine wpAny_bind [47];dsimp only;rw [S.odd,st];simp only [Bool.false_eq_true,if_false];split
 ·next met heq =>
  rcases wx0 S.ok S.rm kd heq with ⟨m,d',e,a1,a2,a3,a4⟩ | ⟨m,i,d',e,a1,a2,a3,a4,a5⟩
  ·cases e;have H:=hist' (λ _=>rfl) a3
   have nk:k ∉ xs.map (·.1):=λ z=>by
    obtain ⟨x,hx,ek⟩:=List.mem_map.mp z;obtain ⟨i,hi⟩:=List.mem_iff_getElem?.mp hx;have hlt:i < t.place.size:=by rw [S.ok.sz,length_map]; exact (List.getElem?_eq_some_iff.mp hi).1
    have hp:t.place[i]?=some t.place[i]:=Array.getElem?_eq_getElem hlt;obtain ⟨m',q1,q2⟩:=S.ok.reach i _ (hf k) hp [16];have hl:=(ww0 S.ok.ris).mpr hp;rw [<- q1] at hl;by_cases c:m' < m
    ·exact (H m' c).2 i hl x hi ek
    ·by_cases c2:m=m'
     ·simp_all
     ·exact (S.ok.occ _).mp (q2 m [2]) a2
   have oc:∀ l,l < m->Occ t (tr t.mask (hf k) l):=λ l hl=>(S.ok.occ _).mpr (H l hl).1;cases d' with
   | none=>exact wpAny_pure (free _ false nk ((wp0 S.ok.ris S.ok.rid).mp a2).1 ⟨m,rfl,oc⟩ (λ z=>by cases z))
   | some x =>
    obtain ⟨l,b1,b2,b3⟩:=a4 x rfl;dsimp only;rw [b3];simp only [bne_self_eq_false,Bool.and_false,Bool.false_eq_true,if_false];refine wpAny_pure (free x true nk (S.ok.dj x ((vp0 S.ok.ris S.ok.rid (S.ok.dj x)).mp b3)) ⟨l,b2,λ l' hl=>oc l' [2]⟩ (λ _=>b3))
  ·cases e;have H:=hist' (λ _=>rfl) a4;have hp:=(ww0 S.ok.ris).mp a2;have hlt:i < xs.length:=by have:=(Array.getElem?_eq_some_iff.mp hp).1; rw [S.ok.sz,length_map] at this; exact this
   obtain ⟨x,hx⟩:∃ x,xs[i]?=some x:=⟨_,getElem?_eq_getElem hlt⟩;have he:es[i]?=some (ent hf x):=by rw [S.at,hx]; rfl
   have hkx:=S.ks x (mem_of_getElem? hx);have sm:t.sameMemory t.moves t.mask=some true:=by unfold SetTable.sameMemory; simp
   have sto:∀ v ∈ List.map (λ x=>x.snd) (Array.filter (λ x=>x.fst == hf k) es).toList,∃ t a,v=.ref a /\ TK prog w s.heap t a:=λ v hv=>by
    obtain ⟨y,hy,rfl⟩:=List.mem_map.mp hv
    have hy':y ∈ es.toList:=by
     simp_all
    rw [S.el] at hy';obtain ⟨z,hz,rfl⟩:=List.mem_map.mp hy';exact ⟨z.1,z.2,rfl,S.ks z hz⟩
   dsimp only;split
   ·refine wpAny_bind (tz2 hk sto ?_);simp only [Bool.false_eq_true,if_false];rw [he];dsimp only;refine wpAny_bind (wpAny_holding (wpAny_eqBool_tuple hu hkx hk ?_));refine wpAny_bind [47];dsimp only;by_cases c:x.1=k
    ·rw [decide_eq_true (congrArg kI c)];have fd:=found i x.2 (by rw [hx,<- c]);cases adding
     ·rw [sm];simp only [Bool.false_and,Bool.false_eq_true,if_false,if_true];rw [a2];dsimp only;rw [he];dsimp only;refine wpAny_bind (sl0 (wpAny_bind [22]));exact wpAny_pure fd
     ·exact wpAny_pure fd
    ·rw [decide_eq_false (λ z=>c (yu2 z)),sm];simp only [Bool.and_false,Bool.false_eq_true,if_false,if_true];rw [a2];dsimp only;rw [he];dsimp only;refine wpAny_bind (sl0 (wpAny_bind [22]));refine ih (m + 1) d' _ [2] (a5.up (Nat.le_succ _)) (λ l hl=>?_) rfl;by_cases c2:l < m
     ·exact H l c2
     ·have:l=m:=by omega
      subst this;refine ⟨[16],λ i' z y hy=>?_⟩
      simp_all
   ·rw [he];dsimp only;refine wpAny_bind (wpAny_holding (wpAny_eqBool_tuple hu hkx hk ?_));refine wpAny_bind [47];dsimp only;by_cases c:x.1=k
    ·rw [decide_eq_true (congrArg kI c)];have fd:=found i x.2 (by rw [hx,<- c]);cases adding
     ·rw [sm];simp only [Bool.false_and,Bool.false_eq_true,if_false,if_true];rw [a2];dsimp only;rw [he];dsimp only;refine wpAny_bind (sl0 (wpAny_bind [22]));exact wpAny_pure fd
     ·exact wpAny_pure fd
    ·rw [decide_eq_false (λ z=>c (yu2 z)),sm];simp only [Bool.and_false,Bool.false_eq_true,if_false,if_true];rw [a2];dsimp only;rw [he];dsimp only;refine wpAny_bind (sl0 (wpAny_bind [22]));refine ih (m + 1) d' _ [2] (a5.up (Nat.le_succ _)) (λ l hl=>?_) rfl;by_cases c2:l < m
     ·exact H l c2
     ·have:l=m:=by omega
      subst this;refine ⟨[16],λ i' z y hy=>?_⟩
      simp_all
 ·next hne =>
  rcases wx0 S.ok S.rm kd rfl with ⟨m,d',e,a1,a2,a3,a4⟩ | ⟨m,i,d',e,a1,a2,a3,a4,a5⟩
  ·exact (hne _ e).elim
  simp_all
theorem up1 {k:T3} {b:Addr} {Q:SetFound->Shared->Prop} (hu:A.units < cLine) (S:SetIs prog w hf s.heap a o es ep t xs) (hk:TK prog w s.heap k b)
    (found:∀ i b',xs[i]?=some (k,b')->Q (.there (if adding then none else some i)) s)
    (free:[33])
    (N:Nat) (hN:t.slot (tr t.mask (hf k) N)=.empty) (r:Nat):∀ (fuel n:Nat) (d:Option Nat) (stand:Option SetTable.Probe),N < n + r->r<=fuel->DumOk t (hf k) d n->Hist hf t xs k n ->
    stand.getD (t.probeStart (hf k))={ trS t.mask (hf k) n with dummy:=d } ->
    wpAny [3] A (setSearchFrom a (.ref b) (hf k) adding fuel stand) Q E s:=by
 induction r with
 | zero =>
  intro fuel n d stand h1 h2 kd hist st;exact absurd hN (hist N [2]).1
 | succ r ih =>
  intro fuel n d stand h1 h2 kd hist st;cases fuel with
  | zero=>omega
  | succ fuel=>exact ub1 hu S hk found free kd hist st λ n' d' stand' a1 a2 a3 a4=>ih fuel n' d' stand' [2] [2] a2 a3 a4
end
section
variable {a:Addr} {t:SetTable} 
theorem ut0:∀ m ∈ okM,7<=m /\ m<=4095:=by decide
theorem uw0 {k:T3} {b:Addr} {Q:SetFound->Shared->Prop} (hu:A.units < cLine) (S:SetIs prog w hf s.heap a o es ep t xs) (hk:TK prog w s.heap k b)
    (found:∀ i b',xs[i]?=some (k,b')->Q (.there (if adding then none else some i)) s)
    (free:[33]) :
    wpAny [3] A (setSearch a (.ref b) (hf k) adding) Q E s:=by
 obtain ⟨e,he,ee⟩:=S.ok.hole S.rm;obtain ⟨N,_,h2,h3⟩:=ve1 S.ok.msk (hf k) 0 he;have hm:=ut0 _ S.ok.msk;unfold SetTable.turns at h2;unfold setSearch;refine up1 hu S hk found free N (by rw [h3]; exact ee) (N + 1) _ 0 none none [2] [2] (λ x z=>by cases z) (λ l hl=>absurd hl (Nat.not_lt_zero _)) ?_;rfl
theorem sz2 (b:Addr) (es:Array (Int × Value)):byScan (.ref b) es=false:=by rfl
theorem SetIs.store (S:SetIs prog w hf h a o es ep t xs) {xs':List (T3 × Addr)} {es':Array (Int × Value)} {t':SetTable} (el:es'.toList=xs'.map (ent hf)) (ks:∀ x ∈ xs',TK prog w h x.1 x.2) (nd:(xs'.map (·.1)).Nodup)
    (ok:TOk t' (xs'.map λ x=>hf x.1)) (rm:t'.fill<=t'.mask) (pl:t'.plain=true) (le:t'.led = !bT prog w) :
    SetIs prog w hf (h.update a (Obj.putSet es' t')) a { o with data:=.set es' (ep + 1) t' } es' (ep + 1) t' xs':=by
 have hg:(h.update a (Obj.putSet es' t')).get? a=some { o with data:=.set es' (ep + 1) t' }:=by
  have:=Heap.get?_update_self (Obj.putSet es' t') S.ho (by rw [putSet_of es' t' S.hd]; rfl);rw [putSet_of es' t' S.hd] at this; exact this
 refine ⟨hg,S.ex,rfl,el,λ x hx=>(ks x hx).kept λ o' e1 e2=>?_,nd,ok,rm,pl,le⟩;rw [Heap.get?_update_ne _ _ _ _ (λ z=>?_)]
 ·exact e1
 ·rw [z,S.ho] at e1;cases e1;rw [S.ex.1] at e2;trivial
theorem zv4 {α β:Type} {m m':Sem α} {g:α->Sem β} {Q:β->Shared->Prop} (e:m=m') (h:wpAny [3] A (m' >>= g) Q E s):wpAny [3] A (m >>= g) Q E s:=by rw [e]; exact h
theorem tp4 {α:Type} {fe:α->Int × Value} {xs:List α} (d:α) {mk fi mo:Nat} {le pl:Bool} (m1:mk ∈ okM) (hl:xs.length<=mk + 1) (eel:es.toList=xs.map (fe)) :
    ∃ t' order,∃ xs':List α,SetTable.laid mk fi mo le pl (es.map (·.1))=some (t',order) /\ (order.filterMap λ k=>es[k]?).toList=xs'.map (fe) /\ xs'.Perm xs /\ (order.filterMap λ k=>es[k]?).size=es.size /\ TOk t' (xs'.map λ x=>(fe x).1) /\ t'.mask=mk /\ t'.dummies = #[] /\ t'.led=le /\ t'.plain=pl /\ order.toList.Perm (List.range xs.length):=by
 have sz:es.size=xs.length:=by rw [<- length_toList,eel,length_map]
 have hat:∀ i:Nat,es[i]?=(xs[i]?).map (fe):=λ i=>by rw [<- getElem?_toList,eel,getElem?_map]
 obtain ⟨t',order,e1,e2,e3,e4,e5,e6,e7,e8,e9⟩:=sh3 m1 (es.map (·.1)) [16] fi mo le pl;rw [Array.size_map,sz] at e8;have olt:∀ k ∈ order.toList,k < xs.length:=λ k hk=>List.mem_range.mp (e8.mem_iff.mp hk)
 have fm:∀ (l:List Nat),(∀ k ∈ l,k < xs.length)->l.filterMap (λ k=>es[k]?)=(l.map λ k=>xs.getD k d).map (fe):=λ l=>by
  induction l with
  | nil=>intro _; rfl
  | cons k l ih =>
   simp_all
 have fm':(order.filterMap λ k=>es[k]?).toList=(order.toList.map λ k=>xs.getD k d).map (fe):=by simp_all
 have pm:(order.toList.map λ k=>xs.getD k d).Perm xs:=by
  refine (e8.map _).trans (List.Perm.of_eq ?_);apply ext_getElem
  ·simp
  simp_all
 have hz:(order.filterMap λ k=>es[k]?).size=es.size:=by rw [<- length_toList,fm',length_map,pm.length_eq,sz]
 have hok:TOk t' ((order.toList.map λ k=>xs.getD k d).map λ x=>(fe x).1):=by
  have:(order.toList.map λ k=>(es.map (·.1)).getD k 0)=(order.toList.map λ k=>xs.getD k d).map λ x=>(fe x).1:=by
   simp_all
  rw [<- this];exact e9
 exact ⟨t',order,_,e1,fm',pm,hz,hok,e2,e3,e4,e5,e8⟩
theorem wq1 {Q:Unit->Shared->Prop} {wd:Nat} (S:SetIs prog w hf s.heap a o es ep t xs) (m1:SetTable.sizeAbove wd - 1 ∈ okM) (m2:xs.length * 5 < (SetTable.sizeAbove wd - 1) * 3) (m3:SetTable.sizeAbove wd<=2048)
    (h:∀ h' o' es' ep' t' xs',Heap.SameBut a s.heap h'->SetIs prog w hf h' a o' es' ep' t' xs'->xs'.Perm xs->t'.fill * 5 < t'.mask * 3->t'.mask=SetTable.sizeAbove wd - 1->t'.dummies = #[]->Q () [38]) :
    wpAny [3] A (setRelay a wd) Q E s:=by
 have sz:=S.size;have mm:=ut0 _ m1;have sl:SetTable.sizeAbove wd<=sizeLine:=by rw [sizeLine_eq]; omega
 obtain ⟨t',order,xs',e1,fm',pm,hz,hok,e2,e3,e4,e5,_⟩:=tp4 (fe:=ent hf) ((0,0,0),0) (fi:=t.finger) (mo:=t.movedTo (SetTable.sizeAbove wd - 1)) (le:=t.led) (pl:=t.plain) m1 [2] S.el;have el:t.relaid (es.map (·.1)) wd=some (t',order):=e1
 have rm:t'.fill * 5 < t'.mask * 3:=by
  have h1:=hok.sz;rw [length_map,pm.length_eq] at h1;unfold SetTable.fill
  simp_all
 have hm:=ut0 _ hok.msk;unfold setRelay;refine wpAny_bind [47];dsimp only;rw [if_neg [2],el];refine zv4 (m':=if ((order.filterMap λ k=>es[k]?).size != es.size)=true then (unsupported "internal:set-table-lost-an-element" >>= λ (_:PUnit)=>pure ((order.filterMap λ k=>es[k]?),t')) else pure ((order.filterMap λ k=>es[k]?),t')) rfl ?_;rw [hz];simp only [bne_self_eq_false,Bool.false_eq_true,if_false];refine wpAny_bind (wpAny_pure (wpAny_storeSet_of S.ho S.hd ?_ [8]));exact h _ _ _ _ _ _ (Heap.SameBut.update _ a _) (S.store fm' (λ x hx=>S.ks x (pm.mem_iff.mp hx)) ((pm.map _).nodup_iff.mpr S.nd) hok (show t'.fill<=t'.mask by omega) (by rw [e5]; exact S.pl) (by rw [e4]; exact S.le)) pm rm e2 e3
theorem xj2 {Q:Unit->Shared->Prop} (S:SetIs prog w hf s.heap a o es ep t xs) (hn:xs.length < 512) (en:n=xs.length)
    (h:∀ h' o' es' ep' t' xs',Heap.SameBut a s.heap h'->SetIs prog w hf h' a o' es' ep' t' xs'->xs'.Perm xs->t'.fill * 5 < t'.mask * 3->Q () [38]) :
    wpAny [3] A (setRelay a (n * 4)) Q E s:=by
 subst en;obtain ⟨m1,m2,m3⟩:=vw0 _ hn;exact wq1 S m1 m2 m3 λ h' o' es' ep' t' xs' q1 q2 q3 q4 _ _=>h h' o' es' ep' t' xs' q1 q2 q3 q4
noncomputable def SetG (prog:Program) (w:World) (hf:T3->Int) (h:Heap) (a:Addr) (xs:List (T3 × Addr)):Prop:=∃ o es ep t,SetIs prog w hf h a o es ep t xs /\ t.fill * 5 < t.mask * 3
theorem yv4 {k:T3} {b:Addr} (hu:A.units < cLine) (S:SetG prog w hf s.heap a xs) (hk:TK prog w s.heap k b) (hn:xs.length + 1 < 512)
    (old:k ∈ xs.map (·.1)->Q false s)
    (new:k ∉ xs.map (·.1)->∀ h' xs',Heap.SameBut a s.heap h'->SetG prog w hf h' a xs'->xs'.Perm ((k,b) :: xs)->Q true [38]):wpAny [3] A (setAddHashed a (.ref b) (hf k)) Q E s:=by
 obtain ⟨o,es,ep,t,S,rm5⟩:=S;have hm:=ut0 _ S.ok.msk;have sz:=S.size;unfold setAddHashed setAddHashedIn;refine wpAny_holding (wpAny_bind [47]);dsimp only;rw [sz2];simp only [Bool.false_eq_true,if_false];refine wpAny_bind (uw0 hu S hk (λ i b' e=>?_) λ sl wd nk ns rc wdd=>?_)
 ·exact wpAny_pure (old (List.mem_map.mpr ⟨_,mem_of_getElem? e,rfl⟩))
 ·dsimp only;refine wpAny_bind [47];dsimp only;have ok':=S.ok.put ns rc;have f1:=wj2 S.ok (x:=sl);have pl':(t.put sl).1.plain=true:=S.pl;have mk':(t.put sl).1.mask=t.mask:=rfl;rw [pl'];simp only [if_true];refine wpAny_bind (zp2 hk ?_);simp only [if_true]
  have el':(SetTable.insertAt es (t.put sl).2 (hf k,Value.ref b)).toList=(insL xs (SetTable.below t.place sl) (k,b)).map (ent hf):=by
   rw [SetTable.toList_insertAt,yi1,S.el];rfl
  have pm:(insL xs (SetTable.below t.place sl) (k,b)).Perm ((k,b) :: xs):=by
   unfold insL;exact List.perm_middle.trans (List.Perm.cons _ (List.Perm.of_eq (take_append_drop _ _)))
  have sz':(SetTable.insertAt es (t.put sl).2 (hf k,Value.ref b)).size=xs.length + 1:=by rw [<- length_toList,el',length_map,sf0]
  have S':=S.store el' (λ x hx=>by
   rcases (zm0 _ _ _ _).mp hx with rfl | hx
   ·exact hk
   ·exact S.ks x hx) ((pm.map _).nodup_iff.mpr (List.nodup_cons.mpr ⟨nk,S.nd⟩)) (by rw [yi1]; exact ok') (by rw [mk']; omega) pl' S.le
  refine wpAny_bind (wpAny_storeSet_of S.ho S.hd ?_ (by rw [sz',sizeLine_eq]; omega));have sb:=Heap.SameBut.update s.heap a (Obj.putSet (SetTable.insertAt es (t.put sl).2 (hf k,Value.ref b)) (t.put sl).1);split
  ·next c =>
   have gr:SetTable.grown (es.size + 1)=(xs.length + 1) * 4:=by unfold SetTable.grown; simp_all;omega
   rw [gr];refine wpAny_bind (xj2 S' (by rw [sf0]; omega) (by rw [sf0]) λ h' o' es' ep' t' xs' q1 q2 q3 q4=>wpAny_pure ?_);exact new nk h' xs' (sb.trans q1) ⟨_,_,_,_,q2,q4⟩ (q3.trans pm)
  ·next c =>
   refine wpAny_pure (new nk _ _ sb ⟨_,_,_,_,S',?_⟩ pm);cases wd with
   | true =>
    have f2:=sk1 S.ok (wdd rfl);omega
   | false =>
    simp only [Bool.not_false,Bool.true_and,SetTable.tooFull,decide_eq_true_eq] at c;omega
end
noncomputable def Got (P:Nat->Value->Prop) (ks:Nat->T3) (i:Nat) (xs:List (T3 × Addr)):Prop:=(∀ x ∈ xs,∃ j,j < i /\ P j (.ref x.2) /\ ks j=x.1) /\ ∀ j,j < i->ks j ∈ xs.map (·.1)
noncomputable def KpH (h h':Heap):Prop:=∀ b o,h.get? b=some o->h'.get? b=some o
variable {R:Result->Shared->Prop} {P:Nat->Value->Prop} {ks:Nat->T3} {h0:Heap} {J:Nat->Heap->Prop}
section
theorem SetG.nd {h:Heap} {a:Addr} {xs:List (T3 × Addr)} (S:SetG prog w hf h a xs):(xs.map (·.1)).Nodup:=by
 obtain ⟨o,es,ep,t,S,_⟩:=S;exact S.nd
theorem SetG.keep {a:Addr} (S:SetG prog w hf h a xs) (k1:∀ o,h.get? a=some o->h'.get? a=some o) (k2:∀ x ∈ xs,TK prog w h' x.1 x.2):SetG prog w hf h' a xs:=by
 obtain ⟨o,es,ep,t,S,q⟩:=S;exact ⟨o,es,ep,t,⟨k1 o S.ho,S.ex,S.hd,S.el,k2,S.nd,S.ok,S.rm,S.pl,S.le⟩,q⟩
theorem Got.len {i:Nat} (g:Got P ks i xs) (hi:i<=n) (nd:(xs.map (·.1)).Nodup) (B:∀ l:List T3,l.Nodup->(∀ x ∈ l,∃ j,j < n /\ ks j=x)->l.length < 511):xs.length < 511:=by
 have:=B _ nd λ x hx=>by
  obtain ⟨y,hy,rfl⟩:=List.mem_map.mp hx;obtain ⟨j,h1,_,h2⟩:=g.1 y hy;exact ⟨j,by omega,h2⟩
 simp_all
theorem vv4 {I S:Addr} {fp wr:List Addr} {St:Nat->Heap->Prop} (W:Walks prog w A.in1 I fp wr n P St) (hS:S ∉ fp)
    (low:∀ b ∈ S :: wr,h0.objs.size<=b) (kj:∀ i h h',i<=n->J i h->KpH h0 h'->(∀ o,h.get? S=some o->h'.get? S=some o)->J i h')
    (ad:∀ i v (s:Shared) (Q:Bool->Shared->Prop) (E:[4]),i < n->P i v->KpH h0 s.heap->J i s.heap->(∀ b h' tk,Heap.SameBut S s.heap h'->J (i + 1) h'->Q b [15])->wpAny [3] A.in1 (setAdd S v) Q E s) :
    ∀ (k i:Nat) (s:Shared),n - i=k->i<=n->St i s.heap->KpH h0 s.heap->J i s.heap->(∀ h' tk,KpH h0 h'->J n h'->R (.ok (.ret .none)) [15]) ->
     codeAny [3] A (.builtin "set.update.loop" ⟨[.ref S,.ref I],[]⟩) R s:=by
 have nw:S ∉ wr:=λ h=>hS (W.sub _ h)
 have nl:∀ {b:Addr} {o:Obj},h0.get? b=some o->b ∉ wr /\ b ≠ S:=λ {b o} e =>
  ⟨λ z=>absurd (Heap.lt_size e) (Nat.not_lt.mpr (low b (mem_cons_of_mem _ z))),λ z=>absurd (Heap.lt_size e) (Nat.not_lt.mpr (low b [16]))⟩
 intro k
 induction k with
 | zero =>
  intro i s hk hi st kp sg q;have:i=n:=by omega
  subst this;refine codeAny_builtin F.entry_set_update_loop ?_;rw [Around.under_plainId F.plain_set_update_loop _];show wpAny _ A.in1 (pyNext (.ref I) >>= _) _ _ s;refine wpAny_bind (W.done s _ _ st λ h1 tk km=>?_);show wpAny _ A.in1 (ret Value.none) _ _ _;have kp1:KpH h0 h1:=λ b o e=>km b o (nl e).1 (kp b o e);exact wpAny_pure (q h1 tk kp1 (kj _ _ _ hi sg kp1 λ o e=>km S o nw e))
 | succ k ih =>
  intro i s hk hi st kp sg q;have lt:i < n:=by omega
  refine codeAny_builtin F.entry_set_update_loop ?_;rw [Around.under_plainId F.plain_set_update_loop _];show wpAny _ A.in1 (pyNext (.ref I) >>= _) _ _ s;refine wpAny_bind (W.item i s _ _ lt st λ v h1 tk hP st1 km=>?_);have kp1:KpH h0 h1:=λ b o e=>km b o (nl e).1 (kp b o e);show wpAny _ A.in1 (holding [v] (setAdd S v) >>= _) _ _ _;refine wpAny_bind (wpAny_holding (ad i v { s with heap:=h1,toks:=tk } _ _ lt hP kp1 (kj _ _ _ hi sg kp1 λ o e=>km S o nw e) λ b h2 tk2 sb sg2=>?_));have kp2:KpH h0 h2:=λ b o e=>by rw [sb.2 b (nl e).2]; exact kp1 b o e
  refine wpAny_pure ⟨plainId_quiet F.plain_set_update_loop _,ih (i + 1) { s with heap:=h2,toks:=tk2 } [2] lt (W.frame _ h1 _ st1 λ b hb o e=>?_) kp2 sg2 λ h' tk' a b=>q h' tk' a b⟩;rw [sb.2 b (λ z=>hS [16])]; exact e
noncomputable def nset (b:Bool):Obj:={ cls:=.type "set",dict:=none,data:=.set #[] 0 (.fresh 0 0 b) }
theorem uz2 (v:Value) {Q1:[4]} (h:Q1 (.ref s.heap.objs.size) { s with heap:=s.heap.push (nset (!bT prog w)) }):codeAny [3] A (.call (.builtin "set.__new__") ⟨[.type "set",v],[]⟩) (wants Q1 E) s:=by
 refine codeAny_of_tree ?_;show wpAny _ A.in1 (do checkBuiltinCall "set.__new__" ⟨[.type "set",v],[]⟩; again (.builtin "set.__new__" ⟨[.type "set",v],[]⟩)) _ _ s;refine wpAny_bind (wpAny_of_eq (F.newCall_set_1 v) (wpAny_pure ⟨plainId_quiet F.plain_set_new _,codeAny_builtin F.entry_set_new ?_⟩));rw [Around.under_plainId F.plain_set_new _]; unfold Builtin.«set.__new__» Builtin.Frozenset.newClass;have ss:=sub_set_self;obtain ⟨hp,g,d,tk,os⟩:=s;dsimp only; wp_walk;refine wpAny_askSetting [22]; dsimp only; simp only [newObj];refine wpAny_bind (wpAny_alloc [22]); exact wpAny_pure h
theorem set0 {a:Addr} (e:h.get? a=some (nset (!bT prog w))):SetG prog w hf h a []:=by
 refine ⟨_,#[],0,.fresh 0 0 (!bT prog w),⟨e,?_,rfl,rfl,(λ x hx=>nomatch hx),nodup_nil,?_,(show 0<=7 by decide),rfl,rfl⟩,(show 0 * 5 < 7 * 3 by decide)⟩
 ·trivial
 ·refine ⟨by simp [Rise,SetTable.fresh],by simp [Rise,SetTable.fresh],(λ j h=>by trivial),(λ j h=>by trivial),(λ j h=>by trivial),(show 7 ∈ okM by decide),rfl,(λ i j h z=>by trivial)⟩
theorem sx4 {l:Addr} {items:Array Value} {Q:[4]} (hh:A.handled=none) (hl:s.heap.IsList l items)
    (kj:∀ i h h',i<=items.size->J i h->KpH s.heap h'->(∀ o,h.get? s.heap.objs.size=some o->h'.get? s.heap.objs.size=some o)->J i h')
    (ad:∀ i v (s':Shared) (Q:Bool->Shared->Prop) (E:[4]),i < items.size->items[i]?=some v->KpH s.heap s'.heap->J i s'.heap->(∀ b h' tk,Heap.SameBut s.heap.objs.size s'.heap h'->J (i + 1) h'->Q b { s' with heap:=h',toks:=tk })->wpAny [3] A.in1.in1.in1 (setAdd s.heap.objs.size v) Q E s')
    (j0:∀ h:Heap,h.get? s.heap.objs.size=some (nset (!bT prog w))->J 0 h)
    (h:∀ (h':Heap) (tk:Nat),KpH s.heap h'->J items.size h'->Q (.ref s.heap.objs.size) [15]) :
    wpAny [3] A (call (.type "set") [.ref l]) Q E s:=by
 obtain ⟨c,tl,emro⟩:=F.called_set.mro;have e0:=F.called_set.made;have e1:=F.called_set.sub;refine wpAny_call (codeAny_of_tree ?_); show wpAny _ _ (callAny (.type "set") _) _ _ _;refine wpAny_pure ⟨Code.quiet_builtin _ (by decide +kernel),codeAny_builtin F.entry_type_call ?_⟩; rw [Around.under_plain (weight_type_call_type "set" [.ref l] []) rfl];have e2:=F.called_set.notType;have e3:=F.called_set.canCreate;have e4:=F.typeCall_set_1 (.ref l)
 repeat (any_goals (first | assumption | wp_step))
 refine codeAny_mono (uz2 (.ref l) (E:=E) (Q1:=λ obj s1=>obj=.ref s.heap.objs.size /\ s1={ s with heap:=s.heap.push (nset (!bT prog w)) }) ⟨rfl,rfl⟩) λ r s1 hr=>?_;cases r with
 | error e=>exact hr
 | ok fl =>
  cases fl with
  | ret obj =>
   obtain ⟨rfl,rfl⟩:=hr;have gS:(s.heap.push (nset (!bT prog w))).get? s.heap.objs.size=some (nset (!bT prog w)):=Heap.get?_push_size _ rfl;have tS:Shared.TypeIs { s with heap:=s.heap.push (nset (!bT prog w)) } (.ref s.heap.objs.size) "set" := ⟨_,gS,rfl⟩;have e5:=F.called_set.init.lookup;have e6:=F.called_set.init.bind (.ref s.heap.objs.size)
   repeat (any_goals (first | assumption | wp_step))
   refine codeAny_mono (codeAny_call_builtin (R:=wants (λ r s2=>r=.none /\ ∃ h' tk,s2=[15] /\ KpH s.heap h' /\ J items.size h') E) F.called_set.init.plain F.entry_set_init (check_set_init_1 tS ?_)) λ r2 s2 hr2=>?_
   ·obtain ⟨ol,gl,cl,nl,dl⟩:=hl;obtain ⟨ocls,odict,odata,oslots⟩:=ol;simp only at cl dl;subst cl; subst dl;have gl':(s.heap.push (nset (!bT prog w))).get? l=some { cls:=.type "list",dict:=odict,data:=.seq items nl,slots:=oslots }:=Heap.get?_push_of_some _ gl;have f1:=F.sub_list_set;have f2:=F.sub_list_frozenset;have f3:(Value.type "list" == Value.type "dict")=false:=by decide
    have il:(s.heap.push (nset (!bT prog w))).IsList l items:=⟨_,gl',rfl,nl,rfl⟩;unfold Builtin.«set.__init__» noKeywords Builtin.Frozenset.updateFrom;generalize hPI:pyIter=PI
    wp_walk
    subst hPI; refine wpAny_pyIter_list il ?_; refine wpAny_bind (wpAny_runValue ?_);have ls:l < s.heap.objs.size:=Heap.lt_size gl;have z1:(s.heap.push (nset (!bT prog w))).objs.size=s.heap.objs.size + 1:=Heap.size_push ..;have ni:l ≠ (s.heap.push (nset (!bT prog w))).objs.size:=by rw [z1]; exact Nat.ne_of_lt (Nat.lt_succ_of_lt ls)
    refine vv4 (A:=A.in1.in1) (h0:=s.heap) (J:=J) (Walks.list (show A.in1.in1.in1.handled=none by simp [hh]) _ l ni items) (S:=s.heap.objs.size) ?_ ?_ kj (λ i v s' Q E lt e=>ad i v s' Q E lt e) (items.size - 0) 0 _ [2] (Nat.zero_le _) ?_ ?_ ?_ ?_
    ·rw [z1];intro z
     simp_all
    ·simp
    ·exact ⟨[43],il.push _⟩
    ·exact λ b o e=>Heap.get?_push_of_some _ (Heap.get?_push_of_some _ e)
    ·exact j0 _ (Heap.get?_push_of_some _ gS)
    ·intro h' tk kp sg;show wpAny _ _ _ _ _ _;refine wpAny_pure ?_;show wpAny _ _ (ret Value.none) _ _ _;exact wpAny_pure ⟨rfl,h',tk,rfl,kp,sg⟩
   ·cases r2 with
    | error e=>exact hr2
    | ok fl2 =>
     cases fl2 with
     | ret r =>
      obtain ⟨rfl,h',tk,rfl,kp,sg⟩:=hr2
      repeat (any_goals (first | assumption | wp_step))
      exact h _ _ kp sg
     | _=>exact hr2.elim
  | _=>exact hr.elim
theorem ts0 {l:Addr} {items:Array Value} {Q:[4]} (hh:A.handled=none) (hu:A.units + 16 < cLine) (hl:s.heap.IsList l items)
    (hi:∀ i v,i < items.size->items[i]?=some v->∃ b,v=.ref b /\ TK prog w s.heap (ks i) b) (B:∀ l:List T3,l.Nodup->(∀ x ∈ l,∃ j,j < items.size /\ ks j=x)->l.length < 511)
    (h:∀ (h':Heap) (tk:Nat) xs,KpH s.heap h'->SetG prog w (hT prog w) h' s.heap.objs.size xs->Got (λ i v=>items[i]?=some v) ks items.size xs->Q (.ref s.heap.objs.size) [15]) :
    wpAny [3] A (call (.type "set") [.ref l]) Q E s:=by
 have tkk:∀ {i:Nat} {xs:List (T3 × Addr)} {h:Heap},i<=items.size->Got (λ i v=>items[i]?=some v) ks i xs->KpH s.heap h->∀ x ∈ xs,TK prog w h x.1 x.2:=λ {i xs h} hn g k x hx=>by
  obtain ⟨j,a1,a2,a3⟩:=g.1 x hx;obtain ⟨b,e,t⟩:=hi j _ [2] a2;cases e;rw [<- a3];exact t.kept λ o e _=>k _ o e
 refine sx4 (J:=λ i h=>∃ xs,SetG prog w (hT prog w) h s.heap.objs.size xs /\ Got (λ i v=>items[i]?=some v) ks i xs) hh hl (λ i h h' hn ⟨xs,sg,g⟩ kp ks'=>⟨xs,sg.keep ks' (tkk hn g kp),g⟩) (λ i v s' Q E lt hP kp ⟨xs,sg,g⟩ q=>?_) (λ h e=>⟨[],set0 e,(λ x hx=>nomatch hx),λ j hj=>absurd hj (Nat.not_lt_zero _)⟩) λ h' tk kp ⟨xs,sg,g⟩=>h h' tk xs kp sg g;obtain ⟨b,rfl,tb0⟩:=hi i v lt hP;have tb:TK prog w s'.heap (ks i) b:=tb0.kept λ o e _=>kp b o e;have ln:=g.len (Nat.le_of_lt lt) sg.nd B;have ua:A.in1.in1.in1.units < cLine:=by simp_all;omega
 unfold setAdd;refine wpAny_holding (wpAny_bind (vi3 ua tb λ tk2=>?_));refine yv4 (hf:=hT prog w) (s:={ s' with toks:=tk2 }) ua sg tb [2] (λ old=>?_) (λ new h2 xs2 sb sg2 pm=>?_)
 ·refine q _ s'.heap tk2 (Heap.SameBut.refl _ _) ⟨xs,sg,λ x hx=>?_,λ j hj=>?_⟩
  ·obtain ⟨j,a1,a2⟩:=g.1 x hx;exact ⟨j,by omega,a2⟩
  ·by_cases c:j < i
   ·exact g.2 j c
   ·rw [show j=i by omega]; exact old
 ·refine q _ h2 tk2 sb ⟨xs2,sg2,λ x hx=>?_,λ j hj=>?_⟩
  ·rcases List.mem_cons.mp (pm.mem_iff.mp hx) with rfl | hx
   ·exact ⟨i,by omega,hP,rfl⟩
   ·obtain ⟨j,a1,a2⟩:=g.1 x hx;exact ⟨j,by omega,a2⟩
  ·refine (pm.map (·.1)).mem_iff.mpr ?_;by_cases c:j < i
   ·exact mem_cons_of_mem _ (g.2 j c)
   ·rw [show j=i by omega]; simp
end
noncomputable abbrev P3:=List Key × Addr × Value
noncomputable def fst3 (ps:List P3):List P3:=ps.foldl (λ xs p=>storedH xs p.1 p.2.1 p.2.2) []
variable {ps:List P3}
section
theorem sq4 {k:List Key} {a:Addr} (kp:KpH h h') (i:(tupleKind (yb0 prog w)).is h k a):(tupleKind (yb0 prog w)).is h' k a:=by
 obtain ⟨o,its,n,h1,h2⟩:=i;exact ⟨o,its,n,kp _ _ h1,h2⟩
theorem tu1 {a:Addr} {xs:Array Value} {k:Nat} {sl:Array (Option Value)} {Q:Option Value->Shared->Prop} (hx:s.heap.get? a=some { cls:=.type "list",dict:=none,data:=.seq xs k,slots:=sl }) (hA:A.handled=none)
    (h:∀ h' tk,KpH s.heap h'->Q none [15]):wpAny [3] A (getAttr? (.ref a) "keys") Q E s:=by
 obtain ⟨hp,g,d,tk,os⟩:=s;have hT:∀ tk',(⟨hp,g,d,tk',os⟩:Shared).TypeIs (.ref a) "list" := λ _=>⟨_,hx,rfl⟩;have f1:=sub_AttributeError;have f3:=F.slot_list_getattribute.lookup;have f4:=F.slot_list_getattribute.bind (.ref a);have f5:=am_list_getattr_none;have hmiss:typeLookup (.type "list") "keys" = pure none:=am_miss_of_fast (by decide +kernel);unfold getAttr? getAttrBy? getAttrBy
 repeat (any_goals (first | assumption | exact hT _ | ((with_reducible show wpAny _ _ (call (Value.builtin "list.__getattribute__") _ _) _ _ _); refine call_meets F.slot_list_getattribute (hT _) am_entry_list_getattribute (F.args_list_getattribute_2 _ _) (meets_getattribute_miss_list a xs k sl "keys" _ hmiss (by decide +kernel)) ⟨hx,hA,λ h' tk' e hx'=>?_⟩) | wp_step))
 obtain ⟨t',u',he⟩:=hx'.there;show wpAny _ _ (getattributeRaised _ _ _ _ _ _ _) _ _ _;unfold getattributeRaised
 repeat (any_goals (first | assumption | wp_step))
 exact h _ _ hx'.keeps
theorem yo0:entryFor table "dict.update.loop" = some Builtin.«dict.update.loop» := entryFor_of_tree (by kernel_rfl)
theorem vf0:plainId "dict.update.loop" = true:=by decide +kernel
theorem sy1 {d:Addr} {xs:List P3} (x:DHe (tupleKind (yb0 prog w)) h d xs ep) (k1:∀ o,h.get? d=some o->h'.get? d=some o) (k2:∀ y ∈ xs,(tupleKind (yb0 prog w)).is h' y.1 y.2.1):DHe (tupleKind (yb0 prog w)) h' d xs ep:=by
 obtain ⟨o,es,h1,h2,h3,h4,_,h6⟩:=x;exact ⟨o,es,k1 _ h1,h2,h3,h4,k2,h6⟩
theorem tv3 {xs:List P3} {p y:P3} (h:y ∈ storedH xs p.1 p.2.1 p.2.2):(y.1=p.1 /\ y.2.1=p.2.1) \/ ∃ z ∈ xs,y.1=z.1 /\ y.2.1=z.2.1:=by
 unfold storedH at h;split at h
 ·obtain ⟨z,hz,rfl⟩:=List.mem_map.mp h;refine .inr ⟨z,hz,?_⟩;unfold putAt;split <;> exact ⟨rfl,rfl⟩
 ·rcases List.mem_append.mp h with h | h
  ·exact .inr ⟨y,h,rfl,rfl⟩
  simp_all
theorem un2 (ps:List P3) (p:P3):fst3 (ps ++ [p])=storedH (fst3 ps) p.1 p.2.1 p.2.2:=by unfold fst3; simp
theorem tu2:∀ (ps acc:List P3) {y:P3},y ∈ ps.foldl (λ xs p=>storedH xs p.1 p.2.1 p.2.2) acc->∃ z ∈ acc ++ ps,y.1=z.1 /\ y.2.1=z.2.1
 | [],acc,y,h=>⟨y,by simpa using h,rfl,rfl⟩
 | p :: ps,acc,y,h=>by
  obtain ⟨z,hz,k⟩:=tu2 ps _ h;rcases List.mem_append.mp hz with hz | hz
  ·rcases tv3 hz with e | ⟨u,hu,e⟩
   ·exact ⟨p,by simp,k.1.trans e.1,k.2.trans e.2⟩
   ·exact ⟨u,mem_append_left _ hu,k.1.trans e.1,k.2.trans e.2⟩
  ·exact ⟨z,by simp [hz],k⟩
theorem yj3 {y:P3} (h:y ∈ fst3 ps):∃ z ∈ ps,y.1=z.1 /\ y.2.1=z.2.1:=tu2 ps [] h
theorem sv3 (xs:List P3) (k:List Key) (a:Addr) (v:Value):(storedH xs k a v).length<=xs.length + 1:=by
 unfold storedH;split
 ·simp
 ·simp
theorem uu2:∀ (ps acc:List P3),(ps.foldl (λ xs p=>storedH xs p.1 p.2.1 p.2.2) acc).length<=acc.length + ps.length
 | [],acc=>Nat.le_refl _
 | p :: ps,acc=>by
  have a:=uu2 ps (storedH acc p.1 p.2.1 p.2.2);have b:=sv3 acc p.1 p.2.1 p.2.2
  simp_all;omega
theorem zj3 (ps:List P3):(fst3 ps).length<=ps.length:=by
 have:=uu2 ps []
 rwa [length_nil,Nat.zero_add] at this
theorem dloop {I S:Addr} {fp wr:List Addr} {St:Nat->Heap->Prop} (W:Walks prog w A.in1 I fp wr ps.length P St) (hS:S ∉ fp) (ua:A.units + 1 < cLine) (hl:ps.length<=sizeLine)
    (low:∀ b ∈ S :: wr,h0.objs.size<=b) (hv:∀ i v,P i v->∃ a p,v=.ref a /\ ps[i]?=some p /\ IsTup h0 a #[.ref p.2.1,p.2.2]) (hk:∀ p ∈ ps,(tupleKind (yb0 prog w)).is h0 p.1 p.2.1) :
    ∀ (k i:Nat) (j:Int) (tj:Tok) (s:Shared) (ep:Nat),ps.length - i=k->i<=ps.length->St i s.heap->KpH h0 s.heap->DHe (tupleKind (yb0 prog w)) s.heap S (fst3 (ps.take i)) ep ->
     (∀ h' tk ep',KpH h0 h'->DHe (tupleKind (yb0 prog w)) h' S (fst3 ps) ep'->R (.ok (.ret .none)) [15]) ->
     codeAny [3] A (.builtin "dict.update.loop" ⟨[.ref S,.ref I,.int j tj,.none],[]⟩) R s:=by
 have nw:S ∉ wr:=λ h=>hS (W.sub _ h)
 have nl:∀ {b:Addr} {o:Obj},h0.get? b=some o->b ∉ wr /\ b ≠ S:=λ {b o} e =>
  ⟨λ z=>absurd (Heap.lt_size e) (Nat.not_lt.mpr (low b (mem_cons_of_mem _ z))),λ z=>absurd (Heap.lt_size e) (Nat.not_lt.mpr (low b [16]))⟩
 have isk:∀ {h:Heap} {i:Nat},KpH h0 h->∀ y ∈ fst3 (ps.take i),(tupleKind (yb0 prog w)).is h y.1 y.2.1:=λ {h i} kp y hy=>by
  obtain ⟨z,hz,e1,e2⟩:=yj3 hy;rw [e1,e2];exact sq4 kp (hk z (mem_of_mem_take hz))
 intro k
 induction k with
 | zero =>
  intro i j tj s ep hi1 hi st kp dd q;have:i=ps.length:=by omega
  subst this;refine codeAny_builtin yo0 ?_;rw [Around.under_plainId vf0 _];show wpAny _ A.in1 (pyNext (.ref I) >>= _) _ _ s;refine wpAny_bind (W.done s _ _ st λ h1 tk km=>?_);have kp1:KpH h0 h1:=λ b o e=>km b o (nl e).1 (kp b o e);have dd1:=sy1 dd (λ o e=>km S o nw e) (isk kp1);rw [List.take_length] at dd1;exact wpAny_pure (q h1 tk ep kp1 dd1)
 | succ k ih =>
  intro i j tj s ep hi1 hi st kp dd q;have lt:i < ps.length:=by omega
  refine codeAny_builtin yo0 ?_;rw [Around.under_plainId vf0 _];show wpAny _ A.in1 (pyNext (.ref I) >>= _) _ _ s;refine wpAny_bind (W.item i s _ _ lt st λ v h1 tk hP st1 km=>?_);obtain ⟨a,p,rfl,ep1,tb0⟩:=hv i v hP;have kp1:KpH h0 h1:=λ b o e=>km b o (nl e).1 (kp b o e);have tb:IsTup h1 a #[.ref p.2.1,p.2.2]:=tb0.keeps kp1;have dd1:=sy1 dd (λ o e=>km S o nw e) (isk kp1);have hp:=mem_of_getElem? ep1;have et:ps.take (i + 1)=ps.take i ++ [p]:=by rw [List.take_add_one,ep1]; rfl
  obtain ⟨ot,g1,g2,n,g3⟩:=tb;have tT:Shared.TypeIs { s with heap:=h1,toks:=tk } (.ref a) "tuple" := ⟨_,g1,g2⟩;refine wpAny_bind (wpAny_holding ?_);refine wpAny_bind (wpAny_tryCatch ?_);show wpAny _ _ (Builtin.Dict.pairItems (.ref a)) _ _ _;unfold Builtin.Dict.pairItems;refine wpAny_bind (wpAny_typeOf tT ?_);rw [if_pos [19]];refine wpAny_bind (wpAny_seqItems g1 g3 [22]);refine (show wpAny _ _ (holding [Value.ref p.2.1,p.2.2] (dictSet S (.ref p.2.1) p.2.2)) _ _ _ from wpAny_holding ?_);refine wy1 (s:={ s with heap:=h1,toks:=tk }) (tupleKind_room_in1 ua) (sq4 kp1 (hk p hp)) dd1 (Nat.le_trans (zj3 _) [8]) λ h2 ep2 _ dd2 sb=>?_;have kp2:KpH h0 h2:=λ b o e=>by rw [sb.2 b (nl e).2]; exact kp1 b o e
  refine wpAny_pure ⟨plainId_quiet vf0 _,ih (i + 1) (j + 1) 0 _ ep2 [2] lt (W.frame _ h1 _ st1 λ b hb o e=>?_) kp2 ?_ λ h' tk' ep' a b=>q h' tk' ep' a b⟩
  ·rw [sb.2 b (λ z=>hS [16])]; exact e
  ·rw [et,un2]; exact dd2
theorem ty1 {l:Addr} {items:Array Value} {Q:[4]} (hh:A.handled=none) (hu:A.units + 16 < cLine) (hl:PlainL s.heap l items) (hz:items.size=ps.length) (hps:ps.length<=sizeLine)
    (hv:∀ (i:Nat) v,items[i]?=some v->∃ a p,v=.ref a /\ ps[i]?=some p /\ IsTup s.heap a #[.ref p.2.1,p.2.2]) (hk:∀ p ∈ ps,(tupleKind (yb0 prog w)).is s.heap p.1 p.2.1)
    (h:∀ (h':Heap) (tk ep:Nat),KpH s.heap h'->DHe (tupleKind (yb0 prog w)) h' s.heap.objs.size (fst3 ps) ep->Q (.ref s.heap.objs.size) [15]) :
    wpAny [3] A (call (.type "dict") [.ref l]) Q E s:=by
 refine callType_codes (Q₁:=λ obj s₁=>obj=.ref s.heap.objs.size /\ s₁={ s with heap:=s.heap.push { cls:=.type "dict",data:=.dict #[] } }) F.kt_called_dict (F.kt_typeCall_dict_1 _) F.entry_dict_init (kt_code_dict_new _ ⟨rfl,rfl⟩) ?_;rintro obj s₁ ⟨rfl,rfl⟩;have tS:Shared.TypeIs { s with heap:=s.heap.push { cls:=.type "dict",data:=.dict #[] } } (.ref s.heap.objs.size) "dict" := ⟨_,Heap.get?_push_size _ rfl,rfl⟩;refine ⟨tS,F.args_dict_init_2 _ _,?_⟩;unfold Builtin.«dict.__init__»;refine wpAny_bind ?_;unfold Builtin.Dict.selfAndRest;refine wpAny_bind (wpAny_notOrdered_dict tS ?_);show wpAny _ _ (pure (s.heap.objs.size,[Value.ref l])) _ _ _;refine wpAny_pure ?_;show wpAny _ _ (Builtin.Dict.updateFrom "dict.__init__" s.heap.objs.size (.ref l) [] .none) _ _ _;unfold Builtin.Dict.updateFrom;obtain ⟨⟨ocls,odict,odata,oslots⟩,n,gl,cl,nl,dl⟩:=hl;dsimp only at cl nl dl;subst cl nl dl;have gl1:=Heap.get?_push_of_some { cls:=.type "dict",data:=.dict #[] } gl;refine wpAny_bind (wpAny_typeOf ⟨_,gl1,rfl⟩ ?_);rw [if_pos [19]];refine wpAny_bind (tu1 gl1 hh λ h1 tk1 kp1=>?_);rw [if_pos [19]];refine wpAny_bind (wpAny_rule ?_);have il:h1.IsList l items:=⟨_,kp1 _ _ gl1,rfl,n,rfl⟩;refine wpAny_bind (wpAny_pyIter_list (s:={ s with heap:=h1,toks:=tk1 }) il ?_);have kp0:KpH s.heap h1:=λ b o e=>kp1 b o (Heap.get?_push_of_some _ e);have gS:h1.get? s.heap.objs.size=some { cls:=.type "dict",data:=.dict #[] }:=kp1 _ _ (Heap.get?_push_size _ rfl);have lS:=Heap.lt_size gS;have ll:=Heap.lt_size (kp0 _ _ gl);have l0:=Heap.lt_size gl;refine wpAny_pure ⟨plainId_quiet vf0 _,dloop (A:=A.in1) (h0:=s.heap) (ps:=ps) (S:=s.heap.objs.size) (I:=h1.objs.size) (fp:=[h1.objs.size,l]) (wr:=[h1.objs.size]) (P:=λ i v=>items[i]?=some v) (St:=λ i h=>h.IsListIter h1.objs.size l i /\ h.IsList l items) ?_ ?_ (show A.units + 1 + 1 < cLine by omega) hps ?_ hv hk (ps.length - 0) 0 0 0 _ 0 rfl (Nat.zero_le _) ?_ ?_ ?_ ?_⟩
 ·rw [<- hz]; exact Walks.list (by simp [hh]) _ l (Nat.ne_of_lt ll) items
 ·intro z;rcases List.mem_cons.mp z with z | z
  ·simp_all
  simp_all
 ·intro b hb;simp only [mem_cons,not_mem_nil,or_false] at hb;rcases hb with rfl | rfl
  ·exact Nat.le_refl _
  ·exact Nat.le_of_lt lS
 ·exact ⟨[43],il.push _⟩
 ·exact λ b o e=>Heap.get?_push_of_some _ (kp0 b o e)
 ·exact ⟨_,#[],Heap.get?_push_of_some _ gS,⟨rfl,rfl,rfl⟩,rfl,rfl,λ x hx=>(nomatch hx),nodup_nil⟩
 ·intro h' tk ep a b;exact ⟨rfl,h h' tk ep a b⟩
end
noncomputable def key2:D->Option (List Int × D)
 | .tup [y,v]=>(keyI y).map λ k=>(k,v)
 | _=>none
noncomputable def uo0:List D->Option (List (List Int × D))
 | []=>some []
 | d :: l=>match key2 d,uo0 l with
  | some p,some r=>some (p :: r)
  | _,_=>none
noncomputable def dof (l:[18]):List (List Int × D):=l.foldl (λ kvs p=>putL kvs p.1 p.2) []
noncomputable def dolR:C3:=λ ds μ Q=>match ds with
 | [.ref p]=>match μ p with
  | some (.lst l)=>match uo0 l with
   | some ps=>ps.length<=sizeLine /\ ∀ r,μ r=none->Q (.ref r) (updM μ r (.dcl true (dof ps)))
   | none=>False
  | _=>False
 | _=>False
noncomputable def Prs (H:Hp):List V->List (List Key × Addr × V)->Prop:=Paired λ v p=>∃ a,v=.ref a /\ H a=some (.tup [.ref p.2.1,p.2.2]) /\ H p.2.1=some (.tup (p.1.map kV))
noncomputable def dofV (ps:List (List Key × Addr × V)):List (List Key × V):=ps.foldl (λ kvs p=>putK kvs p.1 p.2.2) []
noncomputable def rDol (K:Fg):List V->Hp->VK->Prop:=λ xs H Q=>∃ p vs ps,xs=[.ref p] /\ SqL K H p vs /\ Prs H vs ps /\ ps.length<=sizeLine /\ ∀ r ne,H r=none->Q (.ref r) (upd H r (.dT (dofV ps) ne))
variable {H:Hp}
theorem wl4 {K:Fg} :∀ {l:List D} {vs:List V} {ps:[18]},RelDs K H l vs->uo0 l=some ps->∃ qs,Prs H vs qs /\ qs.length=ps.length /\ RelKl K H (dof ps) (dofV qs):=by
 have main:∀ {l:List D} {vs:List V} {ps:[18]},RelDs K H l vs->uo0 l=some ps->∃ qs,Prs H vs qs /\ qs.length=ps.length /\ ∀ a b,RelKl K H a b->RelKl K H (ps.foldl (λ kvs p=>putL kvs p.1 p.2) a) (qs.foldl (λ kvs p=>putK kvs p.1 p.2.2) b):=by
  intro l
  induction l with
  | nil=>intro vs ps r e; cases r; cases e; exact ⟨[],.nil,rfl,λ a b h=>h⟩
  | cons d l ih =>
   intro vs ps r e;cases r with
   | cons rd rs =>
   unfold uo0 at e;split at e
   ·next p ps' e1 e2 =>
    cases e;obtain ⟨qs,h1,h2,h3⟩:=ih rs e2;unfold key2 at e1;split at e1
    ·next y v =>
     obtain ⟨k,ek,rfl⟩:=Option.map_eq_some_iff.mp e1;cases rd with
     | tup ha rl =>
     cases rl with
     | cons ry rl =>
     cases rl with
     | cons rv rl =>
     cases rl;obtain ⟨b,rfl,hb⟩:=wk0 ry ek;exact ⟨(kL k,b,_) :: qs,.cons ⟨_,rfl,ha,hb⟩ h1,by simp_all,λ a b' h=>h3 _ _ (h.put rv)⟩
    ·cases e1
   ·cases e
 intro l vs ps r e;obtain ⟨qs,h1,h2,h3⟩:=main r e;exact ⟨qs,h1,h2,h3 _ _ .nil⟩
variable {X:Cx}
section
theorem sj2 {pins:[21]} {σ:L2.St} (I:L2.Inv X pins σ H s) {vs:List V} {qs:List (List Key × Addr × V)} (h:Prs H vs qs):∀ {its:[29]},Vals vs its->∃ ps:List P3,ps.length=its.length /\ (∀ (i:Nat) v,its[i]?=some v->∃ a p,v=.ref a /\ ps[i]?=some p /\ IsTup s.heap a #[.ref p.2.1,p.2.2]) ∧
    (∀ p ∈ ps,(tupleKind (yb0 X.prog X.w)).is s.heap p.1 p.2.1) /\ ∀ kvs xs,KT H kvs xs->KT H (qs.foldl (λ kvs p=>putK kvs p.1 p.2.2) kvs) (ps.foldl (λ xs p=>storedH xs p.1 p.2.1 p.2.2) xs):=by
 unfold Prs at h
 induction h with
 | nil=>intro its r; cases r; simp
 | @cons v q vs qs hq t ih =>
  intro its r;obtain ⟨a,rfl,h1,h2⟩:=hq;cases r with
  | cons ra rs =>
  obtain ⟨ps,p1,p2,p3,p4⟩:=ih rs;cases ra;obtain ⟨_,us,ru,tu⟩:=(show ObjOk X.prog X.w H s.heap a (.tup [.ref q.2.1,q.2.2]) from I.hok a _ h1);cases ru with
  | cons r1 ru =>
  cases ru with
  | cons r2 ru =>
  cases ru;cases r1;refine ⟨(q.1,q.2.1,_) :: ps,by simp_all,λ i v e=>?_,λ p hp=>?_,λ kvs xs hk=>p4 _ _ (hk.put q.1 h2 r2)⟩
  ·cases i with
   | zero=>cases e; simp_all
   | succ i=>simp_all
  ·rcases List.mem_cons.mp hp with rfl | hp
   ·exact zj0 I.hok h2
   ·exact p3 p hp
theorem uc1 (qs:List (List Key × Addr × V)):(dofV qs).length<=qs.length:=by
 have:∀ (qs:List (List Key × Addr × V)) kvs,(qs.foldl (λ kvs p=>putK kvs p.1 p.2.2) kvs).length<=kvs.length + qs.length:=by
  intro qs
  induction qs with
  | nil=>simp
  | cons q qs ih=>intro kvs; have:=ih (putK kvs q.1 q.2.2); have:=tf0 kvs q.1 q.2.2; rw [foldl_cons,length_cons]; omega
 have:=this qs [];simpa [dofV] using this
theorem to2 (hc:X.calm=true) (hu:[32]):CallR X (.type "dict") (rDol X.K):=by
 intro pins s σ H xs us Q I r h;obtain ⟨p,vs,qs,rfl,hq,hp,hl,k⟩:=h;cases r with
 | cons r rr =>
  cases rr;cases r;obtain ⟨its,rv,pl,hz⟩:=I.list hq;obtain ⟨ps,p1,p2,p3,p4⟩:=sj2 I hp rv;have lq:=Paired.length hp;have lv:=rv.length;refine ty1 (I.ok.hd hc) [2] pl [16] [2] (λ i v e=>p2 i v (by simpa using e)) p3 λ h' tk ep kp dd=>?_;obtain ⟨o,es,h1,h2,h3,h4,_,h6⟩:=dd;have hf:=I.hok.fresh (Nat.le_refl s.heap.objs.size);refine ⟨.ref _,_,I.laid (t':=tk) kp [26] (show ObjOk X.prog X.w _ h' _ (.dT (dofV qs) ep) from ⟨Nat.le_trans (uc1 qs) hl,?_,_,(p4 _ _ .nil).keeps λ b ys e=>?_,o,es,ep,h1,h2,h3,h4,h6,rfl⟩),rfl,k _ _ hf⟩
  ·exact beq_eq_false_iff_ne.mpr (Ne.symm (Nat.ne_of_lt I.big))
  ·rw [sb0 (sc0 e hf)]; exact e
theorem wh5 (hu:[32]) (hc:X.calm=true:=by rfl):RC X (.type "dict") dolR:=by
 refine ⟨_,to2 hc hu,λ xs vs H Q μ Q3 m rx h k=>?_⟩;unfold dolR at h;split at h
 ·next p =>
  split at h
  ·next l e =>
   split at h
   ·next ps ek =>
    cases rx with
    | cons r rr =>
    cases rr;cases r;obtain ⟨us,hq,rl⟩:=m.lst p l e;obtain ⟨qs,h1,h2,h3⟩:=wl4 rl ek;refine ⟨p,us,qs,rfl,SqL.of hq,h1,by omega,λ r ne hr=>k _ _ _ _ (h.2 r (m.free hr)) (Kp.new hr) (.ref r) ?_⟩;exact m.newC hr h3 λ z=>nomatch z
   ·exact h.elim
  ·exact h.elim
 ·exact h.elim
end
theorem xi1:∀ {ns:List Int} {us:[29]},Vals (ns.map V.int) us->IntsAre us ns
 | [],_,.nil=>.nil
 | n :: ns,_,.cons r t=>by
  obtain ⟨u,rfl⟩:=r;exact .cons n u (xi1 t)
theorem yk1:∀ {ns:List Int} {us:[29]},IntsAre us ns->Vals (ns.map V.int) us
 | _,_,.nil=>.nil
 | _,_,.cons n t h=>.cons ⟨t,rfl⟩ (yk1 h)
section
noncomputable def si4 (K:Fg):List V->Hp->VK->Prop:=λ xs H Q=>∃ p ns,xs=[.ref p] /\ SqL K H p (ns.map V.int) /\ ns.length < 64 /\ ∀ ms:List Int,ms.Perm ns->ms.Pairwise (· <= ·)->∀ r,H r=none->Q (.ref r) (upd H r (.lst (ms.map V.int)))
theorem vm1:CallR X (.builtin "sorted") (si4 X.K):=by
 intro pins s σ H xs us Q I r h;obtain ⟨p,ns,rfl,hq,h64,k⟩:=h;cases r with
 | cons r rr =>
  cases rr;cases r;obtain ⟨its,rv,pl,hz⟩:=I.list hq;have hl:=rv.length;rw [length_map] at hl hz;refine sorted_ints pl.isList (xi1 rv) [2] λ out ms a1 a2 a3=>?_;obtain ⟨c,hc⟩:=sortedAll_at s.heap its out;have nw:s.heap.objs.size<=s.heap.objs.size + 1:=Nat.le_succ _;refine ⟨.ref _,_,I.laid (t':=s.toks) (λ b o e=>sortedAll_old e) nw (show ObjOk X.prog X.w _ (sortedAll s.heap its out) _ (.lst (ms.map V.int)) from ⟨by rw [length_map,a2.length_eq]; exact hz,out.toList,c,yk1 a1,by simpa using hc⟩),rfl,k ms a2 a3 _ (I.hok.fresh nw)⟩
end
noncomputable def vs0:C3:=λ ds μ Q=>match ds with
 | [.ref p]=>match μ p with
  | some (.lst l)=>match ints? l with
   | some ns=>ns.length < 64 /\ ∀ ms:List Int,ms.Perm ns->ms.Pairwise (· <= ·)->∀ r,μ r=none->Q (.ref r) (updM μ r (.lst (ms.map D.int)))
   | none=>False
  | _=>False
 | _=>False
theorem xx0 {K:Fg} {H:Hp}:∀ ms:List Int,RelDs K H (ms.map D.int) (ms.map V.int)
 | []=>.nil
 | n :: r=>.cons (.int n) (xx0 r)
section
theorem sb3:RC X (.builtin "sorted") vs0:=by
 refine ⟨_,vm1,λ xs vs H Q μ Q3 m r h k=>?_⟩;unfold vs0 at h;split at h
 ·next p =>
  split at h
  ·next l e =>
   split at h
   ·next ns e2 =>
    cases r with
    | cons r1 rr =>
     cases rr;cases r1;obtain ⟨us,hv,rv⟩:=m p _ e;have el:=wj0 rv e2;subst el;refine ⟨p,ns,rfl,SqL.of hv,h.1,λ ms a1 a2 r hr=>?_⟩;exact k _ _ _ _ (h.2 ms a1 a2 r (m.free hr)) (Kp.new hr) (.ref r) (m.newL hr (xx0 ms))
   ·exact h.elim
  ·exact h.elim
 ·exact h.elim
end
end Pv
namespace Pv
open PySem PySem.Spec PyProof.Rows L2
noncomputable def keyK:D->Option Key
 | .int i=>some (.inl i)
 | .str x=>some (.inr x)
 | _=>none
noncomputable def valK (kvs:List (Key × D)) (k:Key):Option D:=(kvs.find? λ kv=>decide (kv.1=k)).map (·.2)
noncomputable def putY (kvs:List (Key × D)) (k:Key) (y:D):List (Key × D):=if (kvs.any λ kv=>decide (kv.1=k))=true then kvs.map (λ kv=>if kv.1=k then (kv.1,y) else kv) else kvs ++ [(k,y)]
noncomputable def dnk3:TE3:=λ _ μ Q=>∀ p,μ p=none->Q (.ref p) (updM μ p (.dck []))
noncomputable def uy1 (neg:Bool):R3:=λ y x μ Q=>match x,keyK y with
 | .ref p,some k=>match μ p with
  | some (.dck kvs)=>Q (.bl (if neg then !(valK kvs k).isSome else (valK kvs k).isSome)) μ
  | _=>False
 | _,_=>False
noncomputable def yj1 (to ti tv:TE3):TS3:=λ D' ρ μ=>tv ρ μ λ v μ1=>to ρ μ1 λ x μ2=>ti ρ μ2 λ y μ3=>match x,keyK y with
 | .ref p,some k=>match μ3 p with
  | some (.dck kvs)=>kvs.length < 90000 /\ D'.nx ρ (updM μ3 p (.dck (putY kvs k v)))
  | _=>False
 | _,_=>False
variable {H:Hp} {p:Addr}
theorem Kp.wrK {o:HO} {xs:List (Key × V)} (h:H p=some (.dK xs)):Kp H (upd H p o) :=
 ⟨λ b ys q=>by rw [sb0 (vt0 q h (by intro z; cases z))]; exact q,λ b o u q=>by rw [sb0 (vt0 q h (by intro z; cases z))]; exact q⟩
variable {K:Fg}
theorem RelM.newK {μ:Mu} (h:H p=none) (m:RelM K μ H):RelM K (updM μ p (.dck [])) (upd H p (.dK [])):=m.put (Kp.new h) (.dck .nil)
theorem RelM.wrK {K:Fg} {μ:Mu} {H:Hp} {p:Addr} {kvs:List (Key × D)} {vs ws:List (Key × V)} (h:H p=some (.dK ws)) (r:RelKk K H kvs vs) (m:RelM K μ H):RelM K (updM μ p (.dck kvs)) (upd H p (.dK vs)):=m.put (Kp.wrK h) (.dck r)
variable {vs:List (Key × V)}
theorem RelKk.len {l:List (Key × D)} (r:RelKk K H l vs):l.length=vs.length:=by
 induction r with
 | nil=>rfl
 | cons _ _ ih=>simp_all
theorem RelKk.any {K:Fg} {H:Hp} {t:Key} {l:List (Key × D)} {vs:List (Key × V)} (r:RelKk K H l vs):(vs.any λ kv=>decide (kv.1=t))=l.any λ kv=>decide (kv.1=t):=by
 induction r with
 | nil=>rfl
 | cons _ _ ih=>simp_all
theorem RelKk.val {t:Key} {l:List (Key × D)} (r:RelKk K H l vs):(valK l t=none /\ valV vs t=none) \/ ∃ d v,valK l t=some d /\ valV vs t=some v /\ RelD K H d v:=by
 induction r with
 | nil=>exact .inl ⟨rfl,rfl⟩
 | cons h _ ih =>
  rename_i t' d' v' l' vs' _;by_cases c:t'=t
  ·subst c;exact .inr ⟨d',v',by simp [valK],ui0 rfl,h⟩
  ·have e1:valK ((t',d') :: l') t=valK l' t:=by simp [valK,c]
   rw [e1,ti0 (p:=(t',v')) c];exact ih
variable {y:D} {v:V}
theorem RelKk.put {t:Key} (ry:RelD K H y v) {l:List (Key × D)} (r:RelKk K H l vs):RelKk K H (putY l t y) (putK vs t v):=by
 have rep:∀ {l:List (Key × D)} {vs:List (Key × V)},RelKk K H l vs->RelKk K H (l.map λ kv=>if kv.1=t then (kv.1,y) else kv) (vs.map λ kv=>if kv.1=t then (kv.1,v) else kv):=by
  intro l vs r
  induction r with
  | nil=>exact .nil
  | cons h _ ih =>
   rename_i t' d' v' l' vs' _;rw [map_cons,map_cons];by_cases c:t'=t
   ·rw [if_pos c,if_pos c]; exact .cons ry ih
   ·rw [if_neg c,if_neg c]; exact .cons h ih
 have snoc:∀ {l:List (Key × D)} {vs:List (Key × V)},RelKk K H l vs->RelKk K H (l ++ [(t,y)]) (vs ++ [(t,v)]):=by
  intro l vs r
  induction r with
  | nil=>exact .cons ry .nil
  | cons h _ ih=>exact .cons h ih
 unfold putY putK;rw [r.any];split
 ·exact rep r
 ·exact snoc r
theorem yv1 {k:Key} (r:RelD K H y v) (e:keyK y=some k):v=kV k:=by
 cases r <;> simp [keyK] at e <;> subst e <;> rfl
section
variable {X:Cx} {pos pos':Pos}
theorem ze4:RE X (.Dict [] [] pos) dnk3:=⟨_,wk2,λ σ H Q ρ μ Q3 s m h k p hp=>k _ _ _ _ (h p (m.free hp)) (Kp.new hp) (.ref p) (m.newK hp)⟩
theorem vj4 (neg:Bool) (hu:[32]):RO X (compareOp (if neg then .NotIn else .In)) (uy1 neg):=by
 refine ⟨λ y x H Q=>∃ a o,x=.ref a /\ DGet H a y o /\ Q (.bl (if neg then !o.isSome else o.isSome)) H,?_,λ y x b a H Q μ Q3 m ry rx h k=>?_⟩
 ·intro pins s σ H y x u v Q I ry rx h;obtain ⟨a,o,rfl,g,q⟩:=h;cases rx;cases neg with
  | true=>exact uz1 [2] I g ry λ s' I'=>⟨.bl (!o.isSome),H,I',rfl,q⟩
  | false=>exact d_in [2] I g ry λ s' I'=>⟨.bl o.isSome,H,I',rfl,q⟩
 ·unfold uy1 at h;split at h
  ·next p kk ek =>
   split at h
   ·next kvs e =>
    cases rx;obtain ⟨ws,hw,rk⟩:=m.dck p kvs e;cases yv1 ry ek;refine ⟨p,_,rfl,DGet.k (k:=kk) hw,?_⟩
    have es:(valV ws kk).isSome=(valK kvs kk).isSome:=by
     rcases rk.val (t:=kk) with ⟨z1,z2⟩ | ⟨d,w,z1,z2,_⟩ <;> rw [z1,z2] <;> rfl
    rw [es];exact k _ _ _ _ h (Kp.refl _) (.bl _) m
   ·exact h.elim
  ·exact h.elim
theorem yc3 (hu:[32]):RO X (compareOp .NotIn) (uy1 true):=vj4 true hu
theorem sh2 {o i value:Expr} {to ti tv:TE3} (hu:[32]) (ho:RE X o to) (hi:RE X i ti) (hv:RE X value tv) (hs:swapsWith value (some (.Subscript o i pos')) pos.line X.env=pure false:=by rfl) :
    RS X (.Assign [.Subscript o i pos'] value pos) (yj1 to ti tv):=by
 obtain ⟨vo,po,ro⟩:=ho;obtain ⟨vi,pi,ri⟩:=hi;obtain ⟨vv,pv,rv⟩:=hv
 refine ⟨_,ur1 [2] po pi pv hs,λ σ H D ρ μ D3 s m h k=>rv σ H _ ρ μ _ s m h λ y μ1 v H1 h1 k1 r1 m1=>ro σ H1 _ ρ μ1 _ (s.mono k1) m1 h1 λ d μ2 x H2 h2 k2 r2 m2 =>
  ri σ H2 _ ρ μ2 _ (s.mono (k1.trans k2)) m2 h2 λ kd μ3 b H3 h3 k3 r3 m3=>?_⟩
 split at h3
 ·next p kk ek =>
  split at h3
  ·next kvs e =>
   cases r2;obtain ⟨ws,hw,rk⟩:=m3.dck p kvs e;cases yv1 r3 ek;have hl:=rk.len;have hz:(90000:Nat) < sizeLine:=by decide
   refine ⟨p,_,rfl,DPut.k (k:=kk) hw [2],?_⟩;exact k.nx _ _ _ _ h3.2 (k1.trans (k2.trans (k3.trans (Kp.wrK hw)))) (s.mono (k1.trans (k2.trans (k3.trans (Kp.wrK hw))))) (m3.wrK hw (rk.put (r1.mono (k2.trans k3))))
  ·exact h3.elim
 ·exact h3.elim
end
end Pv
namespace L2
open PySem PySem.Spec PyProof.Rows
noncomputable def It2 (lo:Int) (n:Nat):It:=⟨λ i _=>i < n,λ i H x H'=>H'=H /\ x=.int (lo + i * 2),λ i _=>n<=i⟩
variable {tg:Expr}
theorem wc2 {P:Program} {w:World} {K:PySem.W.Frag} (it:Addr) (lo:Int) (n:Nat):Turn P w K tg (It2 lo n) [it] it (λ i h=>IsRangeIter h it (lo + (i:Nat) * 2) ((n:Int) - (i:Nat)) 2) where
 mem:=by simp
 obj:=λ i h st b hb=>by
  simp_all
 keep:=λ i h h' st k=>k it [10] _ st
 item:=by
  intro X hP hw hK hc i pins s σ H E I hf st hg;subst hP hw hK;obtain ⟨f0,f1,f2,f3,f4,f5⟩:=hf it [10];have W:=Walks.range (prog:=X.prog) (w:=X.w) (I.ok.hd hc) it lo 2 n;refine W.item i s _ _ hg st λ v h' tk hv st' kk=>?_;obtain ⟨t,rfl⟩:=hv;have I1:Inv X pins σ H [15]:=I.turned (λ b o hb e=>kk b o (by simpa using hb) e) f0 f1 f3 f4 f5;exact ⟨_,rfl,sl1 (s:=[15]) (n := "range_iterator") st' rfl rfl [19] ⟨.int (lo + i * 2),H,I1,⟨t,rfl⟩,⟨rfl,rfl⟩,st',λ b hb=>(hf b hb).1⟩⟩
 done:=by
  intro X hP hw hK hc i pins s σ H E I hf st hg;subst hP hw hK;obtain ⟨f0,f1,f2,f3,f4,f5⟩:=hf it [10];exact wpAny_pyNext_range_end (I.ok.hd hc) st (by have:n<=i:=hg; omega) λ h' eb=>⟨rfl,I.turned (t':=s.toks) (λ b o hb e=>eb b o hb e) f0 f1 f3 f4 f5⟩
 self:=λ _ _ _ _ _ st h=>wpAny_pyIter_rangeiter st h
theorem sf1 (a b:Int):Builtin.Range.rangeSize a b 2=(((b - a + 1) / 2).toNat:Int):=by
 simp only [Builtin.Range.rangeSize,show (2:Int) > 0 by decide,if_true];split <;> omega
theorem zp1 {a b:Int} (ha : -(2 ^ 60)<=a) (ha':a < 2 ^ 60) (hb : -(2 ^ 60)<=b) (hb':b < 2 ^ 60):Builtin.Range.small a b 2=true:=by
 unfold Builtin.Range.small;rw [sf1];simp only [Builtin.Range.rangeFitsLong,Bool.and_eq_true,Bool.or_eq_true,decide_eq_true_eq,beq_iff_eq,show (2:Int) > 0 by decide,if_true];omega
section
variable {X:Cx} 
theorem tq1 {pins:[21]} {σ:St} {H:Hp} {s:Shared} {R:It->Hp->Prop} {E:[4]} {lo hi:Int} {t u v:Tok} {tk:Nat} (I:[7]) (h1 : -(2 ^ 60)<=lo) (h2:lo < 2 ^ 60) (h3 : -(2 ^ 60)<=hi) (h4:hi < 2 ^ 60)
    (q:R (It2 lo ((hi - lo + 1) / 2).toNat) H):wpAny [13] X.A (pyIter (.ref s.heap.objs.size)) (PIE X pins σ tg R) E { s with heap:=s.heap.push { cls:=.type "range",data:=.fields #[.int lo t,.int hi u,.int 2 v] },toks:=tk }:=by
 refine wpAny_pyIter_range (IsRange.new ..) (zp1 h1 h2 h3 h4) ?_;have I1:Inv X pins σ H { s with heap:=s.heap.push { cls:=.type "range",data:=.fields #[.int lo t,.int hi u,.int 2 v] },toks:=tk }:=I.kept λ b o e=>Heap.get?_push_of_some _ e
 refine ⟨(s.heap.push { cls:=.type "range",data:=.fields #[.int lo t,.int hi u,.int 2 v] }).objs.size,[(s.heap.push { cls:=.type "range",data:=.fields #[.int lo t,.int hi u,.int 2 v] }).objs.size],_,_,H,rfl,
  I1.kept (t':=tk) λ b o e=>Heap.get?_push_of_some _ e,wc2 _ lo ((hi - lo + 1) / 2).toNat,?_,λ b hb=>?_,q⟩
 ·have e1:lo + ((0:Nat):Int) * 2=lo:=by simp
  have e2:((((hi - lo + 1) / 2).toNat:Nat):Int) - ((0:Nat):Int)=Builtin.Range.rangeSize lo hi 2:=by rw [sf1]; simp
  show IsRangeIter _ _ (lo + ((0:Nat):Int) * 2) (((((hi - lo + 1) / 2).toNat:Nat):Int) - ((0:Nat):Int)) 2;rw [e1,e2];exact Heap.get?_push_size _ rfl
 ·have e:b=(s.heap.push { cls:=.type "range",data:=.fields #[.int lo t,.int hi u,.int 2 v] }).objs.size:=by simpa using hb
  subst e;exact I1.fpOk [26] (I1.hok.fresh [26])
noncomputable def wk5 (ta:TA):TI:=λ σ H R=>ta σ H λ vs H1=>∃ i j:Int,vs=[.int i,.int j,.int 2] /\ (-(2 ^ 60)<=i /\ i < 2 ^ 60 /\ -(2 ^ 60)<=j /\ j < 2 ^ 60) /\ R (It2 i ((j - i + 1) / 2).toNat) H1
theorem ys1 {a b c:Expr} {ta:TA} {p pos:Pos} (hg:Gl X "range") (hm:X.mg "range" = none) (ha:PA X [a,b,c] ta) (hs:starEach [a,b,c] X.env=[(false,eval a X.env),(false,eval b X.env),(false,eval c X.env)]:=by rfl) (hs2:starEach [b,c] X.env=[(false,eval b X.env),(false,eval c X.env)]:=by rfl) :
    PI X tg (.Call (.Name "range" p) [a,b,c] [] pos) (wk5 ta):=by
 intro pins s σ H R I h;refine Call_ (vn0 I hg hm boot_range (PyProof.Rows.callWith_type1 (thn (ha pos pins s σ H _ I h) λ us s1 ⟨vs,H1,I1,r1,q1⟩=>?_) (by rw [hs,hs2]) (by rw [hs2]; rfl)));obtain ⟨i,j,e,⟨q1,q2,q3,q4⟩,q⟩:=q1;subst e;cases r1 with
 | cons r rr =>
  cases rr with
  | cons r' rr =>
   cases rr with
   | cons r3 rr =>
    cases rr;obtain ⟨t,rfl⟩:=r;obtain ⟨t',rfl⟩:=r';obtain ⟨t3,rfl⟩:=r3;exact call_range_3 [19] (tq1 I1 q1 q2 q3 q4 q) (.inl (PyProof.noPylong_small [19]))
end
end L2
namespace Pv
open PySem L2
noncomputable def rng2 (lo:Int) (n:Nat):List D:=(List.range n).map λ i=>.int (lo + (i:Nat) * 2)
theorem zi2 (lo:Int) (n i:Nat):(rng2 lo n)[i]?=if i < n then some (.int (lo + i * 2)) else none:=by
 unfold rng2;rw [getElem?_map];split
 ·simp_all
 simp_all
theorem yi2 (lo:Int) (n:Nat):(rng2 lo n).length=n:=by simp [rng2]
theorem tv1 {K:Fg} {H0:Hp} (lo:Int) (n:Nat):ItOk K (It2 lo n) (rng2 lo n) (λ _=>True) H0:=λ i H μ k m _=>by
 refine ⟨λ d e=>?_,λ hl=>by rw [yi2] at hl; exact hl⟩;rw [zi2] at e;split at e
 ·next h =>
  cases e;refine ⟨h,λ x H2 y=>?_⟩;obtain ⟨rfl,rfl⟩:=y;exact ⟨Kp.refl _,m,.int _⟩
 ·cases e
noncomputable def irS3 (t:TA3):TI3:=λ ρ μ R=>t ρ μ λ ds μ1=>match ds with
 | [.int i,.int j,.int c]=>c=2 /\ (-(2 ^ 60)<=i /\ i < 2 ^ 60 /\ -(2 ^ 60)<=j /\ j < 2 ^ 60) /\ R (rng2 i ((j - i + 1) / 2).toNat) (λ _=>True) μ1
 | _=>False
section
variable {X:Cx} {a b c tg:Expr} {ta tb tc:TE3} {pos:Pos}
theorem sp1 {p:Pos} (hm:X.mg "range" = none) (ha:RE X a ta) (hb:RE X b tb) (hc:RE X c tc) (hg:Gl X "range" := by rfl) (hs:starEach [a,b,c] X.env=[(false,eval a X.env),(false,eval b X.env),(false,eval c X.env)]:=by rfl) (hs2:starEach [b,c] X.env=[(false,eval b X.env),(false,eval c X.env)]:=by rfl) (hs3:starEach [c] X.env=[(false,eval c X.env)]:=by rfl) :
    RI X tg (.Call (.Name "range" p) [a,b,c] [] pos) (irS3 (xa0 ta (xa0 tb (xa0 tc nil3)))):=by
 obtain ⟨va,pa,ra⟩:=ug0 ha (ug0 hb (ug0 hc zx0 hs3) (by rw [hs2,hs3])) (by rw [hs,hs2]);refine ⟨_,ys1 hg hm pa hs hs2,λ σ H R ρ μ R3 s m h k=>ra σ H _ ρ μ _ s m h λ ds μ1 vs H1 h1 k1 r1 m1=>?_⟩;split at h1
 ·next i j c =>
  obtain ⟨rfl,h2,h3⟩:=h1;cases r1 with
  | cons r1 r2 =>
   cases r2 with
   | cons r2 r3 =>
    cases r3 with
    | cons r3 r4 =>
     cases r4;cases r1;cases r2;cases r3;exact ⟨i,j,rfl,h2,k _ _ _ _ _ h3 k1 m1 (tv1 _ _)⟩
 ·exact h1.elim
end
end Pv
namespace Pv
open PySem PySem.Spec PySem.W PyProof.Rows L2
noncomputable abbrev T2:=Int × Int
noncomputable def lt2 (a b:T2):Bool:=decide (a.1 < b.1) || (a.1 == b.1 && decide (a.2 < b.2))
noncomputable def IsT2 (h:Heap) (v:Value) (t:T2):Prop:=∃ a o t1 t2 n,v=.ref a /\ h.get? a=some o /\ o.cls=.type "tuple" /\ o.data=.seq #[.int t.1 t1,.int t.2 t2] n
theorem IsT2.one {h:Heap} {v:Value} {t u:T2} (i:IsT2 h v t) (k:IsT2 h v u):t=u:=by
 obtain ⟨a,o,t1,t2,n,rfl,e2,_,e4⟩:=i;obtain ⟨b,q,u1,u2,m,f1,f2,_,f4⟩:=k;cases f1;rw [e2] at f2;cases f2;rw [e4] at f4;obtain ⟨x,y⟩:=t
 simp_all
theorem lt2_iff {a b:T2}:lt2 a b=true ↔ a.1 < b.1 \/ a.1=b.1 /\ a.2 < b.2:=by simp [lt2]
theorem vh3 (ts:List T2):Ms.Ord λ i j=>lt2 (ts.getD i (0,0)) (ts.getD j (0,0)) where
 ir:=λ a=>by simp [lt2]
 tr:=λ a b c h k=>lt2_iff.mpr (sg3 (lt2_iff.mp h) (lt2_iff.mp k) Int.lt_trans)
 ng:=λ a b c h=>by
  rw [lt2_iff,lt2_iff];refine xh3 _ (lt2_iff.mp h) λ x=>?_;omega
section
variable {prog:Program} {w:World} {A:Around} {E:[4]} {s:Shared}
theorem yx4 {x y:Value} {a b:T2} {Q:Bool->Shared->Prop} (hx:IsT2 s.heap x a) (hy:IsT2 s.heap y b) (h:Q (lt2 a b) s):wpAny [3] A (keyLt' (tuples' true) x y) Q E s:=by
 obtain ⟨x,ox,t1,t2,n,rfl,ex,_,dx⟩:=hx;obtain ⟨y,oy,u1,u2,m,rfl,ey,_,dy⟩:=hy;obtain ⟨a1,a2⟩:=a;obtain ⟨b1,b2⟩:=b;refine kat_lt ex dx ey dy ?_;refine kat_cons (wpAny_eqBool_int ?_);by_cases c1:a1=b1
 ·rw [show (a1 == b1)=true from beq_iff_eq.mpr c1];refine kat_yes (kat_cons (wpAny_eqBool_int ?_));by_cases c2:a2=b2
  ·rw [show (a2 == b2)=true from beq_iff_eq.mpr c2];refine kat_yes (kat_nil ?_);have e:lt2 (a1,a2) (b1,b2)=false:=by subst c1 c2; simp [lt2]
   simp_all
  ·rw [show (a2 == b2)=false from by simpa using c2];have e:lt2 (a1,a2) (b1,b2)=decide (a2 < b2):=by subst c1; simp [lt2]
   rw [e] at h;exact kat_no (kat_one _ _ (lt_int h))
 ·rw [show (a1 == b1)=false from by simpa using c1];have e:lt2 (a1,a2) (b1,b2)=decide (a1 < b1):=by simp [lt2,c1]
  rw [e] at h;exact kat_no (oneLt_int h)
end
theorem ti2:TupI IsT2 lt2 (0,0) where
 kept:=λ k ⟨a,o,t1,t2,n,e1,e2,e3,e4⟩=>⟨a,o,t1,t2,n,e1,k _ _ e2 e3,e3,e4⟩
 one:=IsT2.one
 ord:=vh3
 fst:=λ ⟨a,o,t1,t2,n,e1,e2,e3,e4⟩=>⟨a,o,_,t1,_,n,e1,e2,e3,e4⟩
 lt':=yx4
noncomputable def zm1 (t:T2):D:=.tup [.int t.1,.int t.2]
noncomputable def t2?:D->Option T2
 | .tup [.int a,.int b]=>some (a,b)
 | _=>none
noncomputable def t2s?:List D->Option (List T2)
 | []=>some []
 | d :: r=>match t2? d with
  | some t=>match t2s? r with
   | some ts=>some (t :: ts)
   | none=>none
  | none=>none
theorem xo1:∀ ts:List T2,t2s? (ts.map zm1)=some ts
 | []=>rfl
 | t :: ts=>by simp only [map_cons,t2s?,zm1,t2?,xo1 ts]
theorem zv3 {d:D} {t:T2} (h:t2? d=some t):d=zm1 t:=by
 unfold t2? at h;split at h
 ·cases h; rfl
 ·cases h
theorem wr2:∀ {l:List D} {ts:List T2},t2s? l=some ts->l=ts.map zm1
 | [],ts,h=>by cases h; rfl
 | d :: r,ts,h=>by
  unfold t2s? at h;split at h
  ·next t e =>
   split at h
   ·next us e2=>cases h; rw [zv3 e,wr2 e2]; rfl
   ·cases h
  ·cases h
noncomputable def le2 (a b:T2):Prop:=lt2 b a=false
noncomputable def yw0:C3:=λ ds μ Q=>match ds with
 | [.ref p]=>match μ p with
  | some (.lst l)=>match t2s? l with
   | some ts=>ts.length<=sizeLine /\ ∀ us:List T2,us.Perm ts->us.Pairwise le2->∀ r,μ r=none->Q (.ref r) (updM μ r (.lst (us.map zm1)))
   | none=>False
  | _=>False
 | _=>False
variable {X:Cx}
section
theorem yr1:RC X (.builtin "sorted") yw0:=by
 refine zr1 (enc:=zm1) ti2 (λ {_ _ _ _} I {t v u} a b=>?_) λ {ds μ Q} h=>?_
 ·cases a with
  | tup hq r2 =>
   cases r2 with
   | cons x r2 =>
    cases r2 with
    | cons y r2 =>
     cases r2;cases x;cases y;cases b;obtain ⟨its,rv,⟨o,p1,p2,n,p3⟩,_⟩:=I.tuple (SqT.of hq);cases rv with
     | cons r1 rv =>
      cases rv with
      | cons r2 rv =>
       cases rv;obtain ⟨t1,rfl⟩:=r1;obtain ⟨t2,rfl⟩:=r2;exact ⟨_,o,t1,t2,n,rfl,p1,p2,p3⟩
 ·unfold yw0 at h;split at h
  ·next p =>
   split at h
   ·next l e =>
    split at h
    ·next ts e2=>exact ⟨p,ts,rfl,by rw [e,wr2 e2],h.1,h.2⟩
    ·exact h.elim
   ·exact h.elim
  ·exact h.elim
end
noncomputable def minQ:C3:=λ ds μ Q=>match ds with
 | [x,y]=>match t2? x,t2? y with
  | some a,some b=>Q (if ltP b.1 b.2 a.1 a.2 then y else x) μ
  | _,_=>False
 | _=>False
theorem vs2 {K:Fg} {H:Hp} {x:D} {t:T2} {v:V} (r:RelD K H x v) (e:t2? x=some t):∃ p,v=.ref p /\ H p=some (.tup [.int t.1,.int t.2]):=by
 rw [zv3 e] at r;cases r with
 | tup hq rs=>rw [xu0 rs (k:=[t.1,t.2]) rfl] at hq; exact ⟨_,rfl,hq⟩
theorem xj4 (hc:X.calm=true) (hu:[32]):RC X (.builtin "min") minQ:=by
 refine ⟨_,za2 hc hu,λ xs vs H Q μ Q3 m r h k=>?_⟩;unfold minQ at h;split at h
 ·split at h
  ·next a b ea eb =>
   cases r with
   | cons r1 r =>
   cases r with
   | cons r2 r =>
   cases r;obtain ⟨p,rfl,hp⟩:=vs2 r1 ea;obtain ⟨q,rfl,hq⟩:=vs2 r2 eb;refine ⟨p,q,a.1,a.2,b.1,b.2,rfl,SqT.of hp,SqT.of hq,k _ _ _ _ h (Kp.refl _) ?_ m⟩;cases ltP b.1 b.2 a.1 a.2
   ·exact r1
   ·exact r2
  ·exact h.elim
 ·exact h.elim
end Pv
namespace Pv
open PySem PySem.Spec PyProof.Rows L2
noncomputable def vl0 (cells:List (Str × Addr)):List (Str × NameKind)->List (Str × Addr)->List (Str × Addr)
 | [],acc=>acc
 | (n,k) :: r,acc=>if k == .free then vl0 cells r ((n,(cells.lookup n).getD 0) :: acc) else vl0 cells r acc
variable {scope:Scope}
theorem tu0 {env:Env} (h:∀ y ∈ scope.names,y.2=.free->(env.cells.lookup y.1).isSome=true):closureFor scope env=pure (vl0 env.cells scope.names []):=by
 unfold closureFor
 have key:∀ (l:List (Str × NameKind)) (acc:List (Str × Addr)),(∀ y ∈ l,y.2=.free->(env.cells.lookup y.1).isSome=true) ->
     (forIn l acc (λ x r=>if (x.2 == NameKind.free)=true then do let c <- cellOf env x.1; pure (ForInStep.yield ((x.1,c) :: r)) else pure (ForInStep.yield r)):Sem (List (Str × Addr)))=pure (vl0 env.cells l acc):=by
  intro l
  induction l with
  | nil=>intro acc _; rfl
  | cons y r ih =>
   intro acc hl;obtain ⟨n,k⟩:=y;rw [List.forIn_cons];have ih':=λ a=>ih a λ z hz=>hl z (mem_cons_of_mem _ hz);by_cases hk:k=.free
   ·subst hk;have hs:=hl (n,.free) (mem_cons_self ..) rfl;obtain ⟨c,hc⟩:=Option.isSome_iff_exists.mp hs;have ec:cellOf env n=pure c:=by unfold cellOf; rw [hc]
    simp only [vl0,ec,pure_bind,beq_self_eq_true,if_true,hc,Option.getD_some];exact ih' _
   ·have hk':(k == NameKind.free)=false:=by simpa using hk
    simp only [vl0,hk',Bool.false_eq_true,if_false,pure_bind];exact ih' _
 have:=key scope.names [] h
 simp_all
theorem zo0 {cells:List (Str × Addr)} {x:Str} {c:Addr}:∀ (l:List (Str × NameKind)) (acc:List (Str × Addr)),(∀ y ∈ l,y.2=.free->(cells.lookup y.1).isSome=true)->(acc.lookup x=some c->cells.lookup x=some c) ->
    (vl0 cells l acc).lookup x=some c->cells.lookup x=some c
 | [],acc,_,ha,h=>ha h
 | (n,k) :: r,acc,hl,ha,h=>by
  unfold vl0 at h;split at h
  ·next hk =>
   refine zo0 r _ (λ z hz=>hl z (mem_cons_of_mem _ hz)) (λ h2=>?_) h;rw [lookup_cons] at h2;split at h2
   ·next e =>
    have e':x=n:=eq_of_beq e;subst e';obtain ⟨c',hc⟩:=Option.isSome_iff_exists.mp (hl (x,k) (mem_cons_self ..) (eq_of_beq hk))
    simp_all
   ·exact ha h2
  ·exact zo0 r acc (λ z hz=>hl z (mem_cons_of_mem _ hz)) ha h
theorem wo0 {cells:List (Str × Addr)} {x:Str}:∀ (l:List (Str × NameKind)) (acc:List (Str × Addr)),((∃ c,acc.lookup x=some c) \/ (x,NameKind.free) ∈ l)->∃ c,(vl0 cells l acc).lookup x=some c
 | [],acc,h=>by
  rcases h with h | h
  ·exact h
  ·cases h
 | (n,k) :: r,acc,h=>by
  unfold vl0;split
  ·next hk =>
   refine wo0 r _ ?_;by_cases e:x=n
   ·simp_all
   ·rcases h with ⟨c,h⟩ | h
    ·left;refine ⟨c,?_⟩;rw [lookup_cons];have:(x == n)=false:=by simpa using e
     rw [this]; exact h
    simp_all
  ·next hk =>
   refine wo0 r acc ?_;rcases h with h | h
   ·exact .inl h
   ·rcases List.mem_cons.mp h with h | h
    ·simp_all
    ·exact .inr h
theorem CompSc.free {X:Cx} {NN:List Str} {scope:Scope} {js:List [44]} (hcell:∀ y ∈ scope.names,y.2 ≠ .cell) (hk:scope.kind=.function) (hfn:X.env.scope.kind=.function)
    (hn:∀ y ∈ scope.names,y.2=.local->scope.names.lookup y.1=some .local) (hfree:∀ y ∈ scope.names,y.2=.free->X.env.scope.names.lookup y.1=some .cell) (hlook:∀ y ∈ scope.names,y.2=.free->scope.names.lookup y.1=some .free)
    (hcl:∀ x,X.env.scope.names.lookup x=some .cell->(X.env.cells.lookup x).isSome=true) (len:js.length=NN.length)
    (hout:∀ i ∈ List.range js.length,∀ j,js.getD i none=some j->∃ x,NN[i]?=some x /\ X.N[j]?=some x /\ scope.names.lookup x=some .free) :
    CompSc X NN scope (vl0 X.env.cells scope.names []) js where
 clos:=tu0 λ y hy e=>hcl _ (hfree y hy e)
 cell:=hcell
 kind:=hk
 names:=hn
 sub:=λ x c h=>zo0 scope.names [] (λ y hy e=>hcl _ (hfree y hy e)) (λ h=>by simp at h) h
 has:=λ x h=>by
  refine wo0 scope.names [] (.inr ?_)
  have hm:∃ k,(x,k) ∈ scope.names /\ (k=.free \/ k=.cell):=by
   have key:∀ kk,(relabel scope X.env).names.lookup x=some kk->(kk=.cell \/ kk=.free)->∃ k,(x,k) ∈ scope.names /\ (k=.free \/ k=.cell):=λ kk hkk hc=>by
    have hmem:=te0 hkk;obtain ⟨⟨n,k⟩,hy,e⟩:=List.mem_map.mp hmem;dsimp only at e;split at e
    ·next hq =>
     cases e;simp only [Bool.and_eq_true] at hq;exact ⟨k,hy,.inl (by simpa using hq.1.1)⟩
    ·cases e;exact ⟨kk,hy,hc.symm⟩
   rcases h with h | h
   ·simp_all
   simp_all
  obtain ⟨k,hk1,hk2⟩:=hm;rcases hk2 with rfl | rfl
  ·exact hk1
  ·exact absurd rfl (hcell _ hk1)
 len:=len
 out:=λ i j h=>by
  have hi:i < js.length:=by
   rcases Nat.lt_or_ge i js.length with z | z
   ·exact z
   simp_all
  obtain ⟨x,e1,e2,e3⟩:=hout i (List.mem_range.mpr hi) j [16];have hf:=hfree (x,.free) (te0 e3) rfl;refine ⟨x,e1,e2,.inr (.inl hf),by rw [hf]; simp,?_⟩;left
  have key:∀ (l:List (Str × NameKind)),l.lookup x=some .free->(l.map λ (n,k)=>if (k == NameKind.free && X.env.scope.kind == .function && X.env.kindOf n == some .cell) then (n,NameKind.cell) else (n,k)).lookup x=some .cell:=λ l=>by
   induction l with
   | nil=>intro h; simp at h
   | cons y r ih =>
    obtain ⟨n,k⟩:=y;intro h;rw [lookup_cons] at h;rw [map_cons,lookup_cons];by_cases e:x=n
    ·subst e;simp only [beq_self_eq_true,Option.some.injEq] at h;subst h
     have hkind:(X.env.kindOf x == some NameKind.cell)=true:=by
      show (X.env.scope.names.lookup x == some NameKind.cell)=true;rw [hf]; rfl
     simp [hfn,hkind]
    ·have e':(x == n)=false:=by simpa using e
     rw [e'] at h;have ih':=ih h;by_cases hq:(k == NameKind.free && X.env.scope.kind == ScopeKind.function && X.env.kindOf n == some NameKind.cell)=true
     ·simp only [hq,if_true,e']; exact ih'
     ·simp only [hq,Bool.false_eq_true,if_false,e']; exact ih'
  exact key _ e3
variable {NN:List Str} {js:List [44]}
theorem yg0 {CX:CXT} {P:Program} {w:World} {K:Fg} {mg:[40]} {base:Heap} {N:List Str} {qual:Str} {sc:Scope} {f:Addr} {cdv:Value} {A:Around} {outer:List Env} {s:Shared} {H:Hp} {E:XK} 
    (hcell:∀ y ∈ scope.names,y.2 ≠ .cell:=by decide +kernel) (hk:scope.kind=.function:=by rfl) (hfn:sc.kind=.function:=by rfl)
    (hn:∀ y ∈ scope.names,y.2=.local->scope.names.lookup y.1=some .local:=by decide +kernel) (hfree:∀ y ∈ scope.names,y.2=.free->sc.names.lookup y.1=some .cell:=by decide +kernel)
    (hlook:∀ y ∈ scope.names,y.2=.free->scope.names.lookup y.1=some .free:=by decide +kernel) (len:js.length=NN.length:=by rfl)
    (hout:∀ i ∈ List.range js.length,∀ j ∈ (js.getD i none).toList,∃ x ∈ NN[i]?.toList,N[j]?=some x /\ scope.names.lookup x=some .free:=by decide +kernel) :
    CompSc (cxOf CX P w K mg base N qual sc f cdv A outer s H E).nox NN scope (vl0 (cxOf CX P w K mg base N qual sc f cdv A outer s H E).nox.env.cells scope.names []) js :=
 CompSc.free (X:=(cxOf CX P w K mg base N qual sc f cdv A outer s H E).nox) hcell hk hfn hn hfree hlook (λ x h=>by
  obtain ⟨c,hc⟩:=su0 (n:=_) h
  exact Option.isSome_iff_exists.mpr ⟨c,hc⟩) len λ i hi j hj=>by
   obtain ⟨x,h1,h2,h3⟩:=hout i hi j (by rw [hj]; simp);exact ⟨x,by simpa using h1,h2,h3⟩
variable {X:Cx} {i:Nat} {x:Str} {px apos:Pos} {ifs:List Expr}
section
variable {cl:List (Str × Addr)} 
theorem wd3 {elt target iter:Expr} {pos:Pos} {wi:TI} {g:TG} {tc:TT} {te:TE} (hN:X.N.Nodup) (hi':X.N[i]?=some x) (hl:X.env.scope.names.lookup x=some .local) (hc:X.calm=true) (S:CompSc X NN scope cl js) (hi:PI X target iter wi)
    (hg:∀ C fp s₀ H₀ pn,PG [11] target g) (ht:∀ C fp s₀ H₀ pn,PTs [11] ifs tc) (he:∀ C fp s₀ H₀ pn,PE [11] elt te)
    (hs:∀ x,foldedSetIterable iter X.env x=pure x) (hw:swapsWith [17] (some (.Name x px)) apos.line X.env=pure true) :
    PS X (.Assign [.Name x px] [17] apos) (tAsg (tn1 js wi g tc te) (xj3 i)):=by
 intro pins s σ H D I h;rw [exec_Assign_Name_used _ _ _ _ hw];refine wpAny_bind (wpAny_standAt (wpAny_bind ?_));show wpAny _ _ (comprehension [17] scope X.env (firstIterPos [⟨target,iter,ifs,0⟩] pos) (newList []) (firstAsync [⟨target,iter,ifs,0⟩]) (firstIter [⟨target,iter,ifs,0⟩] X.env) (some (assign (.Name x px) X.env)) >>= λ _=>pure ()) _ _ s;refine wpAny_bind (wpAny_mono (xa2 (use:=some (assign (.Name x px) X.env)) (Q':=λ _ s'=>SP X pins D .next s') hc S hi hg ht he hs I h λ p0 C H' s' m' I5 hn hC n1 n2 n3 n4 q=>?_) (λ _ s' hq=>wpAny_pure (wpAny_pure hq)) λ _ _ e=>e);show wpAny _ _ (assign (.Name x px) X.env (.ref p0)) _ _ s';refine wpAny_assign_Name (sv0 I5 hN hi' (.inl hl) (v:=.ref p0) rfl (λ s2 I6 ⟨b,sb,hb⟩=>?_) (.inr hl))
 have nb:C ≠ b:=by
  rcases hb with hb | hb
  ·rw [hb]; exact n1
  ·exact Ne.symm (n3 x b hb)
 exact ⟨m',hn.sameBut sb nb,λ h' sb'=>⟨_,H',I6.turned (t':=s2.toks) (λ b o hb e=>sb'.extBut b o hb e) hC n1 (.inr n2) n3 n4,q⟩⟩
end
section
variable {elt target iter:Expr} {pos:Pos} {ti:TI3} {g:TG3} {tc:TT3} {te:TE3} {cl:List (Str × Addr)} 
theorem xm0 (hN:X.N.Nodup) (hc:X.calm=true) (S:CompSc X NN scope cl js) (hi:RI X target iter ti) (hg:∀ C fp s₀ H₀ pn,RG [11] target g)
    (ht:∀ C fp s₀ H₀ pn,RTs [11] ifs tc) (he:∀ C fp s₀ H₀ pn,RE [11] elt te)
    (hs:∀ x,foldedSetIterable iter X.env x=pure x) (hi':X.N[i]?=some x:=by rfl) (hl:X.env.scope.names.lookup x=some .local:=by rfl)
    (hw:swapsWith [17] (some (.Name x px)) apos.line X.env=pure true:=by rfl):RS X (.Assign [.Name x px] [17] apos) (set3 i (zc0 js ti g tc te)):=by
 obtain ⟨wi,pi,ri⟩:=hi
 let gU:TG:=λ v σ H Q=>∀ (r:TG3),r=g->∃ d ρ μ Q3,RSt X.K H ρ σ /\ RelM X.K μ H /\ RelD X.K H d v /\ g d ρ μ Q3 /\ (∀ ρ' μ' σ' H',Q3 ρ' μ'->Kp H H'->RSt X.K H' ρ' σ'->RelM X.K μ' H'->Q σ' H')
 let tU:TT:=λ σ H Q=>∃ ρ μ Q3,RSt X.K H ρ σ /\ RelM X.K μ H /\ tc ρ μ Q3 /\ (∀ b μ' H',Q3 b μ'->Kp H H'->RelM X.K μ' H'->Q b H')
 let eU:TE:=λ σ H Q=>∃ ρ μ Q3,RSt X.K H ρ σ /\ RelM X.K μ H /\ te ρ μ Q3 /\ Ks X.K H Q3 Q
 have hg':∀ C fp s₀ H₀ pn,PG [11] target gU:=λ C fp s₀ H₀ pn=>by
  obtain ⟨tv,p,r⟩:=hg C fp s₀ H₀ pn;intro pins s σ H v u Q I rv h;obtain ⟨d,ρ,μ,Q3,a1,a2,a3,a4,a5⟩:=h g rfl;exact p pins s σ H v u Q I rv (r v d σ H Q ρ μ Q3 a1 a2 a3 a4 a5)
 have ht':∀ C fp s₀ H₀ pn,PTs [11] ifs tU:=λ C fp s₀ H₀ pn=>by
  obtain ⟨tv,p,r⟩:=ht C fp s₀ H₀ pn;intro pins s σ H Q I h;obtain ⟨ρ,μ,Q3,a1,a2,a3,a4⟩:=h;exact p pins s σ H Q I (r σ H Q ρ μ Q3 a1 a2 a3 a4)
 have he':∀ C fp s₀ H₀ pn,PE [11] elt eU:=λ C fp s₀ H₀ pn=>by
  obtain ⟨tv,p,r⟩:=he C fp s₀ H₀ pn;intro pins s σ H Q I h;obtain ⟨ρ,μ,Q3,a1,a2,a3,a4⟩:=h;exact p pins s σ H Q I (r σ H Q ρ μ Q3 a1 a2 a3 a4)
 have rd:RdE X.K (tn1 js wi gU tU eU) (zc0 js ti g tc te):=RdE.comp ri (λ v d σ H Q ρ μ Q3 a1 a2 a3 a4 a5 _ _=>⟨d,ρ,μ,Q3,a1,a2,a3,a4,a5⟩) (λ σ H Q ρ μ Q3 a1 a2 a3 a4=>⟨ρ,μ,Q3,a1,a2,a3,a4⟩) (λ σ H Q ρ μ Q3 a1 a2 a3 a4=>⟨ρ,μ,Q3,a1,a2,a3,a4⟩);exact ⟨_,wd3 hN hi' hl hc S pi hg' ht' he' hs hw,λ σ H D ρ μ D3 s m h k=>rd σ H _ ρ μ _ s m h λ d μ1 v H1 h1 k1 r1 m1=>k.nx _ _ _ _ h1 k1 ((s.mono k1).set i r1) m1⟩
theorem zg1 (hN:X.N.Nodup) (hf:∀ y ∈ scope.names,y.2 ≠ .free) (hcl:∀ y ∈ scope.names,y.2 ≠ .cell) (hn:∀ y ∈ scope.names,y.2=.local->scope.names.lookup y.1=some .local) (hi:RI X target iter ti) (hg:∀ C fp s₀ H₀ pn,RG (ub0 X NN scope [] C fp s₀ H₀ pn) target g)
    (ht:∀ C fp s₀ H₀ pn,RTs (ub0 X NN scope [] C fp s₀ H₀ pn) ifs tc) (he:∀ C fp s₀ H₀ pn,RE (ub0 X NN scope [] C fp s₀ H₀ pn) elt te) (hc:X.calm=true:=by rfl) (hk:scope.kind=.function:=by rfl)
    (hs:∀ x,foldedSetIterable iter X.env x=pure x:=by intro _; rfl) (hi':X.N[i]?=some x:=by rfl) (hl:X.env.scope.names.lookup x=some .local:=by rfl)
    (hw:swapsWith [17] (some (.Name x px)) apos.line X.env=pure true:=by rfl):RS X (.Assign [.Name x px] [17] apos) (set3 i (zc0 (NN.map λ _=>none) ti g tc te)) :=
 xm0 hN hc (CompSc.closed hf hcl hk hn) hi hg ht he hs hi' hl hw
end
end Pv
namespace Pv
open PySem PySem.Spec PySem.W PyProof.Rows L2
theorem xk2 {α β:Type} {f:α->β} {l m:List β} (p:l.Perm m):∀ xs:List α,m=xs.map f->∃ ys:List α,ys.Perm xs /\ l=ys.map f:=by
 induction p with
 | nil=>simp
 | cons a _ ih =>
  intro xs e;cases xs with
  | nil=>cases e
  | cons x xs =>
   rw [map_cons] at e;injection e with e1 e2
   obtain ⟨ys,p,q⟩:=ih xs e2;exact ⟨x :: ys,p.cons x,by simp_all⟩
 | swap a b l =>
  intro xs e
  match xs,e with
  | x :: y :: xs,e =>
   simp only [map_cons,List.cons.injEq] at e;obtain ⟨e1,e2,e3⟩:=e;exact ⟨y :: x :: xs,.swap x y xs,by simp_all⟩
 | trans _ _ i1 i2 =>
  intro xs e;obtain ⟨ys,p,q⟩:=i2 xs e;obtain ⟨zs,p',q'⟩:=i1 ys q;exact ⟨zs,p'.trans p,q'⟩
theorem xj1 {α:Type}:∀ {l:List α} {i:Nat} (h:i < l.length),(l[i] :: l.eraseIdx i).Perm l
 | x :: l,0,_=>List.Perm.refl _
 | x :: l,i + 1,h=>(List.Perm.swap _ _ _).trans ((xj1 (l:=l) (i:=i) (by simpa using h)).cons x)
theorem xs1 {α:Type} (next:Nat->Nat):∀ (fuel k:Nat) (left:List α) (out:Array α),left.length<=fuel->(pickOrder.go next fuel k left out).toList.Perm (out.toList ++ left)
 | 0,k,left,out,h=>by
  have:left=[]:=List.length_eq_zero_iff.mp [2];subst this;unfold pickOrder.go;simp
 | fuel + 1,k,left,out,h=>by
  unfold pickOrder.go;by_cases c:left=[]
  ·subst c;simp
  ·have lt:next k % left.length < left.length:=Nat.mod_lt _ (List.length_pos_iff.mpr c)
   rw [getElem?_eq_getElem lt];dsimp only;refine (xs1 next fuel (k + 1) _ _ (by rw [List.length_eraseIdx_of_lt lt]; omega)).trans ?_;rw [toList_push,append_assoc];refine List.Perm.append_left _ ?_;exact xj1 lt
theorem sr1 {α:Type} (next:Nat->Nat) (xs:Array α):(pickOrder next xs).toList.Perm xs.toList:=by
 have:=xs1 next xs.size 0 xs.toList #[] [10]
 assumption
variable {xs:Array Nat}
theorem su4 (h:Rise xs):SetTable.below xs 0=0:=by
 by_cases c:SetTable.below xs 0=0
 ·exact c
 ·have hl:=tj0 h 0;have hz:0 < xs.size:=by omega
  have q:xs[0]?=some xs[0]:=Array.getElem?_eq_getElem hz;have:=(zh0 h 0 q).mp [2];omega
variable {i:Nat}
theorem uu4 (h:Rise xs) {j:Nat} (q:xs[i]?=some j):SetTable.below xs (j + 1)=i + 1:=by
 have h1:=(zh0 h (j + 1) q).mpr [2];have hl:=tj0 h (j + 1);by_cases c:i + 1 < SetTable.below xs (j + 1)
 ·have hz:i + 1 < xs.size:=by omega
  have q2:xs[i + 1]?=some xs[i + 1]:=Array.getElem?_eq_getElem hz;have a:=(zh0 h (j + 1) q2).mp c;have b:=xk0 h q q2 [2];omega
 ·omega
theorem slot_sit:Slot "set_iterator" "__next__" "set_iterator.__next__" := by
 refine .of (owner := "set_iterator") (n := "__next__") ?_ ?_ ?_ ?_ ?_ ?_
 ·rfl
 ·decide +kernel
 ·decide +kernel
 ·decide +kernel
 ·trivial
 rfl
theorem tf1:Slot "set_iterator" "__iter__" "set_iterator.__iter__" := by
 refine .of (owner := "set_iterator") (n := "__iter__") ?_ ?_ ?_ ?_ ?_ ?_
 ·rfl
 ·decide +kernel
 ·decide +kernel
 ·decide +kernel
 ·trivial
 rfl
theorem sz0:entryFor table "set_iterator.__next__" = some Builtin.«set_iterator.__next__» := by exact entryFor_of_tree (by kernel_rfl)
theorem yy1:entryFor table "set_iterator.__iter__" = some Builtin.«dict_keyiterator.__iter__» := by refine entryFor_alias (id' := "dict_keyiterator.__iter__") (by kernel_rfl) ?_ (by decide +kernel) (by kernel_rfl); rfl
theorem xk1 (a:Value):argsOk "set_iterator.__next__" ⟨[a],[]⟩:=by
 rfl
theorem up2 (a:Value):argsOk "set_iterator.__iter__" ⟨[a],[]⟩:=by
 rfl
theorem ym1:entryFor table "set.__iter__" = some Builtin.«frozenset.__iter__» := by exact entryFor_alias (id' := "frozenset.__iter__") (by kernel_rfl) rfl (by decide +kernel) (by kernel_rfl)
noncomputable def SIt (h:Heap) (it a:Addr) (sl i n ep:Nat):Prop:=∃ o,h.get? it=some o /\ o.cls=.type "set_iterator" /\ o.data=.fields #[rawInt sl,rawInt i,.ref a,rawInt n,rawInt ep]
variable {h:Heap} {it:Addr} {sl ep:Nat}
theorem SIt.keep {h':Heap} {a:Addr} {n:Nat} (x:SIt h it a sl i n ep) (k:∀ o,h.get? it=some o->h'.get? it=some o):SIt h' it a sl i n ep:=by
 obtain ⟨o,e1,e2⟩:=x;exact ⟨o,k o e1,e2⟩
variable {s:Shared}
theorem SIt.ty {a:Addr} {n:Nat} (x:SIt s.heap it a sl i n ep):s.TypeIs (.ref it) "set_iterator" := by
 obtain ⟨o,e1,e2,_⟩:=x;exact ⟨o,e1,e2⟩
variable {o:Obj}
theorem xy1 {vs:Array Value} {c:Value} (e1:h.get? it=some o) (e2:o.cls=c) (e3:o.data=.fields vs) (j:Nat) (x:Value) :
    ∃ o',(h.update it (Obj.mapFields (·.setIfInBounds j x))).get? it=some o' /\ o'.cls=c /\ o'.data=.fields (vs.setIfInBounds j x) :=
 ⟨_,Heap.get?_update_self _ e1 (Obj.isFreed_of_fields (Obj.data_mapFields e3 _)),(Obj.cls_mapFields ..).trans e2,Obj.data_mapFields e3 _⟩
structure SObj (prog:Program) (w:World) (h:Heap) (a:Addr) (o:Obj) (es:Array (Int × Value)) (ep:Nat) (t:SetTable):Prop where
 ho:h.get? a=some o
 ex:o.ExactSet
 hd:o.data=.set es ep t
 fits:t.fits es.size=true
 ris:Rise t.place
 sz:t.place.size=es.size
 pl:t.plain=true
 le:t.led = !bT prog w
variable {prog:Program} {w:World} {es:Array (Int × Value)}
theorem SObj.keep {h':Heap} {a:Addr} {t:SetTable} (S:SObj prog w h a o es ep t) (k:∀ o,h.get? a=some o->h'.get? a=some o):SObj prog w h' a o es ep t :=
 ⟨k o S.ho,S.ex,S.hd,S.fits,S.ris,S.sz,S.pl,S.le⟩
variable {hf:T3->Int}
theorem SetIs.obj {a:Addr} {t:SetTable} {xs:List (T3 × Addr)} (S:SetIs prog w hf h a o es ep t xs):SObj prog w h a o es ep t :=
 ⟨S.ho,S.ex,S.hd,S.fits,S.ok.ris,by have h1:=S.ok.sz; have h2:=S.size; simp_all,S.pl,S.le⟩
variable {Q:[4]}
section
variable {A:Around} {E:[4]} {a:Addr} {t:SetTable}
theorem vd2 (S:SObj prog w s.heap a o es ep t)
    (q:Q (.ref s.heap.objs.size) { s with heap:=s.heap.push { cls:=.type "set_iterator",data:=.fields #[rawInt (0:Nat),rawInt (0:Nat),.ref a,rawInt es.size,rawInt ep] } }):wpAny [3] A (pyIter (.ref a)) Q E s:=by
 have ty:s.TypeIs (.ref a) "set" := ⟨o,S.ho,S.ex.1⟩;refine wpAny_pyIter_slot ty F.slot_set_iter (wpAny_call_entry F.slot_set_iter ty ym1 ?_ (F.args_set_iter_1 _));unfold Builtin.«frozenset.__iter__» Builtin.Frozenset.slot0 slotArgs;simp only [List.isEmpty_nil,Bool.not_true,Bool.false_eq_true,↓reduceIte,bind_assoc,length_nil,bne_self_eq_false];unfold Builtin.Frozenset.addrOf Builtin.Frozenset.sizeOf;refine wpAny_bind [22]
 try dsimp only
 refine wpAny_bind [22];refine wpAny_bind (wpAny_bind (wpAny_setEntries_of S.ho S.hd S.fits [22]))
 have dr:wpAny [3] A.in1 (setDrawn a) (λ b s'=>b=false /\ s'=s) E s:=by
  unfold setDrawn setsByText;refine wpAny_bind [47];dsimp only;refine wpAny_bind (wpAny_bind (wpAny_askSetting (wpAny_pure (wpAny_pure ⟨?_,rfl⟩))));show (!_ && (!t.plain && _))=false;rw [S.pl];simp
 refine wpAny_bind (wpAny_mono dr (λ b s' h=>?_) λ _ _ h=>h);obtain ⟨rfl,rfl⟩:=h;simp only [Bool.false_eq_true,if_false];refine wpAny_bind [22];refine wpAny_bind (wpAny_setEpoch_of S.ho S.hd S.fits ?_);refine wpAny_bind (wpAny_newObj_type (wpAny_pure ⟨_,rfl, "set_iterator",_,⟨_,Heap.get?_push_size _ rfl,rfl⟩,slot_sit.lookup,q⟩))
noncomputable def ordS (prog:Program) (w:World) (a:Addr) (ep:Nat) (es:Array (Int × Value)):Array (Int × Value):=if bT prog w=true then pickOrder ([3].w.params.setOrder a ep) es else es
theorem xh1:(ordS prog w a ep es).toList.Perm es.toList:=by
 unfold ordS;split
 ·exact sr1 _ _
 rfl
theorem wt0:(ordS prog w a ep es).size=es.size:=by
 have:=(xh1 (prog:=prog) (w:=w) (a:=a) (ep:=ep) (es:=es)).length_eq;simpa using this
theorem up0 {Q:Option (Value × Nat)->Shared->Prop} (S:SObj prog w s.heap a o es ep t) (hb:bT prog w=false->SetTable.below t.place sl=i)
    (some':∀ e nx,(ordS prog w a ep es)[i]?=some e->(bT prog w=false->SetTable.below t.place nx=i + 1)->Q (some (e.2,nx)) s) (none':(ordS prog w a ep es)[i]?=none->Q none s) :
    wpAny [3] A (setNext a sl i ep) Q E s:=by
 unfold setNext setsByText;refine wpAny_bind [47];dsimp only;refine wpAny_bind (wpAny_bind (wpAny_askSetting [22]));unfold ordS at some' none';by_cases c:bT prog w=true
 ·rw [if_pos (show [3].w.params.followText "set-order" = true from c)];rw [if_pos c] at some' none';rw [if_neg [10]];refine wpAny_bind ?_;unfold setWalk setsByText;refine wpAny_bind [47];dsimp only;refine wpAny_bind (wpAny_bind (wpAny_askSetting [22]));rw [if_pos (show [3].w.params.followText "set-order" = true from c)];refine wpAny_bind (wpAny_askSetting (wpAny_pure [22]));show Q (Option.map _ (pickOrder ([3].w.params.setOrder a ep) es)[i]?) s;cases e:(pickOrder ([3].w.params.setOrder a ep) es)[i]? with
  | none=>exact none' e
  | some v=>simp [*]
 ·have cf:bT prog w=false:=by simpa using c
  rw [if_neg (show ¬ [3].w.params.followText "set-order" = true from c)];rw [if_neg c] at some' none';split
  ·next dr =>
   have:(!t.plain && decide (es.size > 1))=true:=dr;rw [S.pl] at this;cases this
  ·refine wpAny_bind ?_;show wpAny _ _ (ite (_=true) _ (pure PUnit.unit)) _ _ _;rw [if_neg (by rw [S.le,cf]; simp)];refine wpAny_pure [22];rw [hb cf];cases e:es[i]? with
   | none=>exact none' e
   | some v =>
    have hlt:i < t.place.size:=by
     have h1:=S.sz;have:=(Array.getElem?_eq_some_iff.mp e).1;omega
    have q:t.place[i]?=some t.place[i]:=Array.getElem?_eq_getElem hlt;rw [q];exact some' v _ e (λ _=>uu4 S.ris q)
theorem wd2 {Q:Option Value->Shared->Prop} (S:SObj prog w s.heap a o es ep t) (hi:SIt s.heap it a sl i es.size ep) (hb:bT prog w=false->SetTable.below t.place sl=i) (lt:i < es.size)
    (q:∀ h' e nx,(ordS prog w a ep es)[i]?=some e->SIt h' it a nx (i + 1) es.size ep->(bT prog w=false->SetTable.below t.place nx=i + 1)->Heap.SameBut it s.heap h'->Q (some e.2) [38]):wpAny [3] A (pyNext (.ref it)) Q E s:=by
 obtain ⟨oi,a1,a2,a3⟩:=id hi;have ty:=hi.ty;unfold pyNext;refine wpAny_bind (wpAny_attempt (wpAny_callSpecial?_slot (name:=Str.ofString "__next__") ty slot_sit (wpAny_call_entry slot_sit ty sz0 ?a (xk1 _))))
 case a =>
  unfold Builtin.«set_iterator.__next__»;refine wpAny_bind (m:=slotArgs "__next__" 0 _) [22];refine wpAny_bind (wpAny_fieldsOf a1 a3 ?_);show wpAny _ _ (setEntries a >>= _) _ _ s;refine wpAny_bind (wpAny_setEntries_of S.ho S.hd S.fits ?_);rw [if_neg [10]];show wpAny _ _ (setNext a sl i ep >>= _) _ _ s;refine wpAny_bind (up0 S hb (λ e nx e1 e2=>?_) λ e=>?_)
  ·show wpAny _ _ (setField (.ref it) 0 (rawInt nx) >>= _) _ _ s;refine wpAny_bind (wpAny_setField a1 a3 [10] ?_);obtain ⟨o1,b1,b2,b3⟩:=xy1 a1 a2 a3 0 (rawInt nx);show wpAny _ _ (setField (.ref it) 1 (rawInt ((i:Int) + 1)) >>= _) _ _ _;refine wpAny_bind (wpAny_setField b1 b3 [10] ?_);obtain ⟨o2,c1,c2,c3⟩:=xy1 b1 b2 b3 1 (rawInt ((i:Int) + 1));show wpAny _ _ (ret e.2) _ _ _;exact wpAny_pure ⟨_,rfl,wpAny_pure (q _ e nx e1 ⟨o2,c1,c2,c3⟩ e2 ([48].trans [48]))⟩
  ·rw [Array.getElem?_eq_getElem (by rw [wt0]; exact lt)] at e;cases e
theorem wz2 {Q:Option Value->Shared->Prop} (hh:A.handled=none) (S:SObj prog w s.heap a o es ep t) (hi:SIt s.heap it a sl es.size es.size ep) (hb:bT prog w=false->SetTable.below t.place sl=es.size)
    (q:∀ h',Heap.ExtBut it s.heap h'->Q none [38]):wpAny [3] A (pyNext (.ref it)) Q E s:=by
 obtain ⟨oi,a1,a2,a3⟩:=id hi;have ty:=hi.ty;unfold pyNext;refine wpAny_bind (wpAny_attempt (wpAny_callSpecial?_slot (name:=Str.ofString "__next__") ty slot_sit (wpAny_call_entry slot_sit ty sz0 ?a (xk1 _))))
 case a =>
  unfold Builtin.«set_iterator.__next__»;refine wpAny_bind (m:=slotArgs "__next__" 0 _) [22];refine wpAny_bind (wpAny_fieldsOf a1 a3 ?_);show wpAny _ _ (setEntries a >>= _) _ _ s;refine wpAny_bind (wpAny_setEntries_of S.ho S.hd S.fits ?_);rw [if_neg [10]];show wpAny _ _ (setNext a sl es.size ep >>= _) _ _ s;refine wpAny_bind (up0 S hb (λ e nx e1 e2=>?_) λ e=>?_)
  ·rw [Array.getElem?_eq_none (by rw [wt0]; exact Nat.le_refl _)] at e1;cases e1
  ·show wpAny _ _ (setField (.ref it) 2 .none >>= _) _ _ s; refine wpAny_bind (wpAny_setField a1 a3 [10] ?_);show wpAny _ _ (newExc (.type "StopIteration") [] >>= _) _ _ _; refine wpAny_bind ?_; simp only [newExc,newTuple];refine wpAny_bind [45];simp only [raiseNew]; refine wpAny_bind (wpAny_handled ?_); rw [show A.in1.handled=none from hh];refine wpAny_bind (wpAny_pure (wpAny_throw ?_)); refine wpAny_bind (wpAny_isInstance (T := "StopIteration") (b:=true) ⟨_,Heap.get?_push_size _ rfl,rfl⟩ isSubtype_stop ?_);exact wpAny_pure (q _ (([48].extBut.push _).push _))
theorem zd2 {n:Nat} (hi:SIt s.heap it a sl i n ep) (h:Q (.ref it) s):wpAny [3] A (pyIter (.ref it)) Q E s:=by
 have ty:=hi.ty;refine wpAny_pyIter_slot ty tf1 (wpAny_call_entry tf1 ty yy1 ?_ (up2 _));show wpAny _ _ (ret (.ref it)) _ _ s;exact wpAny_pure ⟨_,rfl, "set_iterator",_,ty,slot_sit.lookup,h⟩
theorem yn2 {Q:Bool->Shared->Prop} (ty:s.TypeIs (.ref a) "set") (h:Q false s):wpAny [3] A (Builtin.List.listLengthHint (.ref a)) Q E s:=by
 unfold Builtin.List.listLengthHint;refine wpAny_bind (wpAny_specialOf ty PySem.F.slot_set_len.lookup ?_); generalize hid:("set.__len__" : String)=id0; wp_delta;rw [show splitId id0=some ("set", "__len__") from by subst hid; decide +kernel]; subst hid;refine wpAny_bind (wpAny_isInstance (T := "set") (b:=true) ty (by rfl) ?_);refine wpAny_ite_split (λ c=>absurd c [19]) (λ _=>?_); refine wpAny_ite_split (λ _=>?_) (λ c=>absurd (by decide +kernel) c);exact wpAny_bind (wpAny_typeOf ty (wpAny_pure h))
theorem wp1 (hh:A.handled=none) (I a:Addr) (ne:a ≠ I):Walks prog w A I [I,a] [I] es.size (λ i v=>∃ e,(ordS prog w a ep es)[i]?=some e /\ v=e.2)
    (λ i h=>∃ sl,SIt h I a sl i es.size ep /\ (bT prog w=false->SetTable.below t.place sl=i) /\ SObj prog w h a o es ep t) where
 sub:=λ b hb=>by simp_all
 frame:=λ _ _ _ z hk=>by
  obtain ⟨sl,z1,z2,z3⟩:=z;exact ⟨sl,z1.keep λ o e=>hk I [10] o e,z2,z3.keep λ o e=>hk a [10] o e⟩
 item:=λ i s Q E hi z q=>by
  obtain ⟨sl,z1,z2,z3⟩:=z;refine wd2 z3 z1 z2 hi λ h' e nx a1 a2 a3 a4=>?_;exact q _ h' s.toks ⟨e,a1,rfl⟩ ⟨nx,a2,a3,z3.keep λ o e=>a4.extBut a o ne e⟩ λ b o hb e=>a4.extBut b o (λ y=>hb (by simp [y])) e
 done:=λ s Q E z q=>by
  obtain ⟨sl,z1,z2,z3⟩:=z;exact wz2 hh z3 z1 z2 λ h' k=>q h' s.toks λ b o hb e=>k b o (λ y=>hb (by simp [y])) e
 self:=λ _ _ _ _ z q=>by
  obtain ⟨sl,z1,_⟩:=z;exact zd2 z1 q
theorem vz2:KdlSrc prog w "set" a a es.size (λ i v=>∃ e,(ordS prog w a ep es)[i]?=some e /\ v=e.2) (λ h=>SObj prog w h a o es ep t) where
 type:=λ _ x=>⟨o,x.ho,x.ex.1⟩
 there:=λ _ x=>⟨Heap.lt_size x.ho,Heap.lt_size x.ho⟩
 keep:=λ _ _ x k=>x.keep λ o e=>k a (.inl rfl) o e
 notList:=by decide
 notTuple:=by decide
 hint:=λ _ _ _ _ x q=>yn2 ⟨o,x.ho,x.ex.1⟩ q
 iter:=λ _ s hh x=>by
  have hl:=Heap.lt_size x.ho;exact ⟨_,_,(λ _ _ q=>vd2 x q),wp1 hh _ a (Nat.ne_of_lt hl),⟨0,[43],(λ _=>su4 x.ris),x.keep λ o e=>Heap.get?_push_of_some _ e⟩⟩
theorem sv1 {acc:Array Value} (h:ItemsOf (λ i v=>∃ e,(ordS prog w a ep es)[i]?=some e /\ v=e.2) acc es.size):acc.toList=(ordS prog w a ep es).toList.map (·.2):=by
 obtain ⟨h1,h2⟩:=h;have h3:=wt0 (prog:=prog) (w:=w) (a:=a) (ep:=ep) (es:=es);apply ext_getElem?;intro i;rw [getElem?_map,getElem?_toList,getElem?_toList];by_cases c:i < es.size
 ·obtain ⟨e,e1,e2⟩:=h2 i (acc[i]'(by omega)) [10]
  simp_all
 simp_all
theorem xr2:∀ {h:Heap} {ys:List (T3 × Addr)},(∀ x ∈ ys,TK prog w h x.1 x.2)->T3s h (ys.map λ x=>Value.ref x.2) (ys.map (·.1))
 | _,[],_=>trivial
 | _,x :: ys,k=>⟨(k x (mem_cons_self ..)).t3,xr2 λ y hy=>k y (mem_cons_of_mem _ hy)⟩
theorem vk1 {xs:List (T3 × Addr)} (hh:A.handled=none) (S:SetG prog w hf s.heap a xs) (h64:xs.length < 512)
    (h:∀ (ys:List (T3 × Addr)) (p:Array Nat) (h1 h':Heap) (c tk:Nat),ys.Perm xs->p.Perm (List.toArray (List.range ys.length))->Ms.Up (ltI (ys.map (·.1))) p ys.length->(∀ b o,s.heap.get? b=some o->h1.get? b=some o)->(∀ b o,h1.get? b=some o->h'.get? b=some o) ->
     h'.get? h1.objs.size=some (seqObj "list" (outV (ys.map λ x=>Value.ref x.2) p).toArray c)->Q (.ref h1.objs.size) [15]) :
    wpAny [3] A (call (.builtin "sorted") [.ref a]) Q E s:=by
 obtain ⟨o,es,ep,t,S,_⟩:=S;have zs:=S.size;have hz:es.size<=sizeLine:=by rw [sizeLine_eq]; omega
 obtain ⟨ys,py,ey⟩:=xk2 (f:=ent hf) (xh1 (prog:=prog) (w:=w) (a:=a) (ep:=ep) (es:=es)) xs S.el;refine Calls.call_function_entry kind_sorted plain_sorted entry_sorted (args_sorted1 _) ?_;unfold Builtin.«sorted»;refine wpAny_bind (m:=checkCount "sorted" 1 1 _) (wpAny_pure (wpAny_bind (kdu_collect (vz2 (o:=o) (t:=t)) hh S.obj hz λ h1 tk acc k1 ia=>?_)));rw [sv1 ia,ey,map_map,show ((λ x:Int × Value=>x.2) ∘ ent hf)=(λ x:T3 × Addr=>Value.ref x.2) from rfl];have l0:=py.length_eq;have l1:(ys.map λ x=>Value.ref x.2).length=ys.length:=length_map _;refine wpAny_bind (wpAny_newList ?_ [2]);have k2:∀ b o,s.heap.get? b=some o->(h1.push (seqObj "list" (ys.map λ x=>Value.ref x.2).toArray 0)).get? b=some o:=λ b o q=>Heap.get?_push_of_some _ (k1 b o q);have zo:(h1.push (seqObj "list" (ys.map λ x=>Value.ref x.2).toArray 0)).get? h1.objs.size=some (seqObj "list" (ys.map λ x=>Value.ref x.2).toArray 0):=Heap.get?_push_size _ rfl;have tt:=Lw.mono (λ _ _=>ti3.kept λ b o e _=>k2 b o e) (xr2 (prog:=prog) (w:=w) (h:=s.heap) (ys:=ys) λ x hx=>S.ks x (py.mem_iff.mp hx));show wpAny _ _ _ _ _ { s with heap:=h1.push (seqObj "list" (ys.map λ x=>Value.ref x.2).toArray 0),toks:=tk };refine wpAny_bind (wpAny_holding (wpAny_call_entry slot_list_sort ⟨_,zo,rfl⟩ entry_list_sort (xu1 (s:={ s with heap:=h1.push (seqObj "list" (ys.map λ x=>Value.ref x.2).toArray 0),toks:=tk }) (ti3.sk tt) [26] zo (λ h' g=>ti3.keep zo g tt) [2] λ p h' c a1 a2 a3 a4=>⟨_,rfl,?_⟩) (args_list_sort _)));rw [l1] at a1 a2;exact wpAny_pure ⟨_,rfl,h ys p h1 h' c tk py a1 a2 k1 (λ b o q=>a3 b o (Nat.ne_of_lt (Heap.lt_size q)) (Heap.get?_push_of_some _ q)) a4⟩
end
noncomputable abbrev vT (t:T3):List V:=[.int t.1,.int t.2.1,.int t.2.2]
noncomputable def SB (ts:List T3):Prop:=∀ l:List T3,l.Nodup->(∀ x ∈ l,x ∈ ts)->l.length < 511
noncomputable abbrev TSt:=L2.St->Hp->(List (T3 × Addr)->Hp->Prop)->Prop
noncomputable def SE (X:Cx) (pins:[21]) (σ:L2.St) (R:List (T3 × Addr)->Hp->Prop) (u:Value) (s':Shared):Prop :=
 ∃ a xs H',u=.ref a /\ Inv X pins σ H' s' /\ FpOk X pins H' a /\ SetG X.prog X.w (hT X.prog X.w) s'.heap a xs /\ (∀ x ∈ xs,H' x.2=some (.tup (vT x.1))) /\ xs.length < 511 /\ R xs H'
noncomputable def PSt (X:Cx) (e:Expr) (t:TSt):Prop :=
 ∀ (pins:[21]) (s:Shared) (σ:L2.St) (H:Hp) (R:List (T3 × Addr)->Hp->Prop),Inv X pins σ H s->t σ H R->wpAny [13] X.A (eval e X.env) (SE X pins σ R) X.xe s
theorem zr2 {prog:Program} {w:World} {h:Heap}:∀ {us:[29]} {ts:List T3} {i:Nat} {v:Value},T3s h us ts->us[i]?=some v->i < ts.length /\ ∃ b,v=.ref b /\ TK prog w h (ts.getD i (0,0,0)) b
 | [],[],i,v,_,e=>by simp at e
 | [],_ :: _,_,_,z,_=>z.elim
 | _ :: _,[],_,_,z,_=>z.elim
 | u :: us,t :: ts,0,v,z,e=>by
  simp only [List.getElem?_cons_zero,Option.some.injEq] at e;subst e;obtain ⟨a,o,t1,t2,t3,n,rfl,e2⟩:=id z.1;exact ⟨by simp,a,rfl,(show TK prog w h t a from IsT3.key z.1)⟩
 | u :: us,t :: ts,i + 1,v,z,e=>by
  simp only [getElem?_cons_succ] at e;obtain ⟨h1,b,h2,h3⟩:=zr2 (prog:=prog) (w:=w) z.2 e
  simp_all
theorem uq2 {K:Fg} {H:Hp}:∀ {vs:List V} {ts:List T3} {us:[29]} {i:Nat} {b:Addr},V3s K H vs ts->Vals vs us->us[i]?=some (.ref b)->H b=some (.tup (vT (ts.getD i (0,0,0))))
 | [],[],_,i,b,_,.nil,e=>by simp at e
 | [],_ :: _,_,_,_,z,_,_=>z.elim
 | _ :: _,[],_,_,_,z,_,_=>z.elim
 | v :: vs,t :: ts,_,0,b,z,.cons r rs,e=>by
  simp only [List.getElem?_cons_zero,Option.some.injEq] at e;subst e;obtain ⟨⟨a,rfl,hq⟩,_⟩:=z;cases r;exact hq
 | v :: vs,t :: ts,_,i + 1,b,z,.cons r rs,e=>by
  simp only [getElem?_cons_succ] at e;exact (show H b=some (.tup (vT (ts.getD i (0,0,0)))) from uq2 (K:=K) z.2 rs e)
variable {X:Cx} {e:Expr}
section
variable {p p2 pos pos2:Pos}
noncomputable def xw4 (K:Fg) (ta:TA):TSt:=λ σ H R=>ta σ H λ xs H1=>∃ p vs ts,xs=[.ref p] /\ SqL K H1 p vs /\ V3s K H1 vs ts /\ SB ts ∧
 ∀ ys:List (T3 × Addr),(ys.map (·.1)).Nodup->(∀ t,t ∈ ys.map (·.1) ↔ t ∈ ts)->(∀ y ∈ ys,H1 y.2=some (.tup (vT y.1)))->R ys H1
theorem ui3 {items:[29]} {ts:List T3} {ys:List (T3 × Addr)} {Pr:Nat->Value->Prop} (hl:items.length=ts.length) (g:Got Pr (λ i=>ts.getD i (0,0,0)) items.length ys) (t:T3):t ∈ ys.map (·.1) ↔ t ∈ ts:=by
 constructor
 ·intro h;obtain ⟨y,hy,rfl⟩:=List.mem_map.mp h;obtain ⟨j,h1,_,h2⟩:=g.1 y hy;have h2:ts.getD j (0,0,0)=y.1:=h2;rw [<- h2,getD_eq_getElem?_getD,getElem?_eq_getElem [2]];simp
 ·intro h;obtain ⟨j,hj,e⟩:=getElem_of_mem h;have:ts.getD j (0,0,0) ∈ _:=g.2 j [2]
  simp_all
theorem vr1 {ta:TA} (hc:X.calm=true) (hu:[32]) (hg:Gl X "set") (hm:X.mg "set" = none) (ha:PA X [e] ta) (hs:starEach [e] X.env=[[37]]:=by rfl) :
    PSt X (.Call (.Name "set" p) [e] [] pos) (xw4 X.K ta):=by
 intro pins s σ H R I h;refine Call_ (vn0 I hg hm xu4 (PyProof.Rows.callWith_type1 (thn (ha pos pins s σ H _ I h) λ us s1 ⟨vs,H1,I1,r1,q1⟩=>?_) hs rfl));obtain ⟨a,ws,ts,e1,hq,h3,hB,k⟩:=q1;subst e1;cases r1 with
 | cons r rr =>
  cases rr;cases r
  have key:∀ {its:[29]},Vals ws its->(∀ l:List T3,l.Nodup->(∀ x ∈ l,∃ j,j < its.toArray.size /\ ts.getD j (0,0,0)=x)->l.length < 511) ∧
      (∀ i v,i < its.toArray.size->its.toArray[i]?=some v->∃ b,v=.ref b /\ TK X.prog X.w s1.heap (ts.getD i (0,0,0)) b) ∧
      ∀ (h':Heap) (tk:Nat) xs,KpH s1.heap h'->SetG X.prog X.w (hT X.prog X.w) h' s1.heap.objs.size xs->Got (λ i v=>its.toArray[i]?=some v) (λ i=>ts.getD i (0,0,0)) its.toArray.size xs->SE X pins σ R (.ref s1.heap.objs.size) { s1 with heap:=h',toks:=tk }:=λ {its} rv=>by
   have l1:=h3.len;have l2:=rv.length;have l3:its.toArray.size=its.length:=List.size_toArray
   have B:∀ l:List T3,l.Nodup->(∀ x ∈ l,∃ j,j < its.toArray.size /\ ts.getD j (0,0,0)=x)->l.length < 511:=λ l nd hl=>hB l nd λ x hx=>by
    obtain ⟨j,h1,h2⟩:=hl x hx;rw [<- h2,getD_eq_getElem?_getD,getElem?_eq_getElem [2]];simp
   refine ⟨B,λ i v lt e=>(zr2 (uq0 I1 h3 rv) (by simpa using e)).2,λ h' tk xs kp sg g=>?_⟩;have sq:∀ x ∈ xs,H1 x.2=some (.tup (vT x.1)):=λ x hx=>?_
   ·exact ⟨_,xs,H1,rfl,I1.kept kp,I1.fpOk [26] (I1.hok.fresh [26]),sg,sq,g.len [26] sg.nd B,k xs sg.nd (ui3 (items:=its) [2] [2]) sq⟩
   obtain ⟨j,_,h2,h3'⟩:=g.1 x hx;have h3':ts.getD j (0,0,0)=x.1:=h3';have:=uq2 h3 rv (i:=j) (b:=x.2) (by simpa using h2)
   rwa [h3'] at this
  obtain ⟨its,rv,pl,hz⟩:=I1.list hq;obtain ⟨k1,k2,k3⟩:=key rv;exact ts0 (I1.ok.hd hc) [2] pl.isList k2 k1 k3
noncomputable def sv4 (K:Fg) (ts:TSt):TE:=λ σ H Q=>ts σ H λ xs H1=>∀ (ys:List (T3 × Addr)),ys.Perm xs->∀ q:Array Nat,q.Perm (List.toArray (List.range ys.length))->Ms.Up (ltI (ys.map (·.1))) q ys.length->V3s K H1 (ys.map λ x=>V.ref x.2) (ys.map (·.1)) ->
 ∀ r,H1 r=none->Q (.ref r) (upd H1 r (.lst (q.toList.map λ i=>(ys.map λ x=>V.ref x.2).getD i .non)))
theorem vq2 {K:Fg} {H:Hp}:∀ {ys:List (T3 × Addr)},(∀ x ∈ ys,H x.2=some (.tup (vT x.1)))->V3s K H (ys.map λ x=>V.ref x.2) (ys.map (·.1))
 | [],_=>trivial
 | y :: ys,h=>⟨⟨_,rfl,h y (mem_cons_self ..)⟩,vq2 (K:=K) λ x hx=>h x (mem_cons_of_mem _ hx)⟩
theorem sm1:∀ (ys:List (T3 × Addr)),Vals (ys.map λ x=>V.ref x.2) (ys.map λ x=>Value.ref x.2)
 | []=>.nil
 | y :: ys=>.cons rfl (sm1 ys)
theorem sd3 {ts:TSt} (hc:X.calm=true) (hg:Gl X "sorted") (hm:X.mg "sorted" = none) (hp:PSt X e ts) (hs:starEach [e] X.env=[[37]]:=by rfl):PE X (.Call (.Name "sorted" p) [e] [] pos) (sv4 X.K ts):=by
 intro pins s σ H Q I h;refine Call_ (vn0 I hg hm uj0 (PyProof.Rows.callWith_builtin1 ?_ hs rfl));rw [hs];show wpAny _ _ (spliced ([37] :: backTo pos (starEach [] X.env))) _ _ s;refine Calls.spliced_cons ?_;refine thn (hp pins s σ H _ I h) λ u s1 q=>?_;obtain ⟨a,xs,H1,rfl,I1,fp,sg,sq,ln,k⟩:=q;refine Calls.spliced_nil ?_;refine vk1 (I1.ok.hd hc) sg [2] λ ys q h1 h' c tk py a1 a2 a3 a4 a5=>?_;have I2:Inv X pins σ H1 { s1 with heap:=h1,toks:=tk }:=I1.kept a3;have sz:q.toList.length=ys.length:=by have:=a1.size_eq; simpa using this
 have l0:=py.length_eq
 have lt':∀ i ∈ q.toList,i < (ys.map λ x=>V.ref x.2).length:=λ i hi=>by
  have e:i ∈ List.toArray (List.range ys.length):=a1.mem_iff.mp (by simpa using hi)
  simp_all
 refine ⟨.ref _,_,I2.laid (t':=tk) a4 [26] (show ObjOk X.prog X.w _ h' _ (.lst (q.toList.map λ i=>(ys.map λ x=>V.ref x.2).getD i .non)) from ⟨by rw [length_map,sz,sizeLine_eq]; omega,_,c,vm0 (sm1 ys) _ lt',a5⟩),rfl,?_⟩;exact k ys py q a1 a2 (vq2 λ x hx=>sq x (py.mem_iff.mp hx)) _ (I2.hok.fresh [26])
end
noncomputable abbrev TSt3:=St3->Mu->(List T3->Mu->Prop)->Prop
noncomputable def RdSt (K:Fg) (tv:TSt) (t:TSt3):Prop:=∀ σ H R ρ μ R3,RSt K H ρ σ->RelM K μ H->t ρ μ R3->(∀ xs μ' H',R3 (xs.map (·.1)) μ'->(xs.map (·.1)).Nodup->(∀ x ∈ xs,H' x.2=some (.tup (vT x.1)))->Kp H H'->RelM K μ' H'->R xs H')->tv σ H R
noncomputable def REs (X:Cx) (e:Expr) (t:TSt3):Prop:=∃ tv,PSt X e tv /\ RdSt X.K tv t
noncomputable def vy2 (t:TA3):TSt3:=λ ρ μ R=>t ρ μ λ ds μ1=>∃ ts,(match ds with
 | [.ref p]=>μ1 p=some (.lst [9])
 | _=>False) /\ SB ts /\ ∀ ks:List T3,ks.Nodup->(∀ x,x ∈ ks ↔ x ∈ ts)->R ks μ1
noncomputable def uy2 (t:TSt3):TE3:=λ ρ μ Q=>t ρ μ λ ks μ1=>∀ us:List T3,us.Perm ks->us.Pairwise le3->∀ r,μ1 r=none->Q (.ref r) (updM μ1 r (.lst (us.map encT)))
section
variable {p p2 pos pos2:Pos} {t:TE3}
theorem wa3 (he:RE X e t) (hm:X.mg "set" = none) (hu:[32]) (hc:X.calm=true:=by rfl) (hg:Gl X "set" := by rfl) (hs:starEach [e] X.env=[[37]]:=by rfl):REs X (.Call (.Name "set" p) [e] [] pos) (vy2 (xa0 t nil3)):=by
 obtain ⟨va,pa,ra⟩:=ug0 he zx0 hs;refine ⟨_,vr1 hc hu hg hm pa hs,λ σ H R ρ μ R3 s m h k=>ra σ H _ ρ μ _ s m h λ ds μ1 vs H1 h1 k1 r1 m1=>?_⟩;obtain ⟨ts,hd,hB,q⟩:=h1;cases r1 with
 | nil=>exact hd.elim
 | cons r1 r2 =>
  cases r2 with
  | cons _ _=>simp_all
  | nil =>
   cases r1 with
   | ref a =>
    obtain ⟨us,hv,rv⟩:=m1 a _ hd;exact ⟨a,us,ts,rfl,SqL.of hv,uv0 rv,hB,λ ys nd al sq=>k ys μ1 H1 (q _ nd al) nd sq k1 m1⟩
   | _=>exact hd.elim
theorem zb3 {ts:TSt3} (he:REs X e ts) (hm:X.mg "sorted" = none) (hc:X.calm=true:=by rfl) (hg:Gl X "sorted" := by rfl) (hs:starEach [e] X.env=[[37]]:=by rfl):RE X (.Call (.Name "sorted" p) [e] [] pos) (uy2 ts):=by
 obtain ⟨va,pa,ra⟩:=he;refine ⟨_,sd3 hc hg hm pa hs,λ σ H Q ρ μ Q3 s m h k=>ra σ H _ ρ μ _ s m h λ xs μ1 H1 h1 nd1 sq1 k1 m1=>?_⟩;intro ys py q a1 a2 v3 r hr;have l1:(ys.map (·.1)).length=ys.length:=length_map _;rw [<- l1] at a1 a2
 have lt':∀ i ∈ q.toList,i < (ys.map λ x=>V.ref x.2).length:=λ i hi=>by
  have e:i ∈ List.toArray (List.range (ys.map (·.1)).length):=a1.mem_iff.mp (by simpa using hi)
  simp_all
 exact k _ _ _ _ (h1 _ ((zw0 a1).trans (py.map _)) (yp1 a1 a2) r (m1.free hr)) (k1.trans (Kp.new hr)) (.ref r) (m1.newL hr (yk0 (tg1 v3) _ lt'))
end
end Pv
namespace Pv
open PySem PySem.Spec PyProof.Rows L2
section
variable {X:Cx} {e:Expr} {te:TE3} {p p2 pos pos2:Pos}
theorem vo0 {K:Fg} {H:Hp}:∀ {xs:List D} {us:List V},RelDs K H xs us->RelDs K H xs.reverse us.reverse
 | _,_,.nil=>.nil
 | _,_,.cons r1 r2=>by
  rw [List.reverse_cons,List.reverse_cons];exact (vo0 r2).append (.cons r1 .nil)
variable {o:Expr} {es:List Expr} {to:TE3} {t:TA3} {apos cpos:Pos}
theorem wd4 (ho:RE X o to) (hbase:attributeBase o "pop" X.env (eval o X.env)=eval o X.env:=by rfl) (hline:(apos.endLine == cpos.line)=true:=by rfl) :
    RE X (.Call (.Attribute o "pop" apos) [] [] cpos) (pop3 to):=by
 obtain ⟨va,pa,ra⟩:=ho;refine ⟨_,sm4 PySem.F.plainAttrs_list PySem.F.slot_list_pop PySem.F.type_list_pop zo4 pa hbase hline,λ σ H Q ρ μ Q3 s m h k=>ra σ H _ ρ μ _ s m h λ d μ1 v H1 h1 k1 r1 m1=>?_⟩;cases r1 with
 | ref p =>
  dsimp only at h1;cases e0:μ1 p with
  | none=>simp_all
  | some oo =>
   cases oo with
   | dck _=>simp_all
   | dcl _ _=>simp_all
   | lst l =>
    rw [e0] at h1;dsimp only at h1;obtain ⟨vs,hv,rs⟩:=m1 p l e0;have rr:=vo0 rs;cases er:l.reverse with
    | nil=>simp_all
    | cons d r =>
     rw [er] at h1 rr;generalize ev:vs.reverse=vr at rr;cases rr with
     | cons r1 r2 =>
      rename_i w ws;have e1:vs=ws.reverse ++ [w]:=by simp_all
      subst e1;refine ⟨.inl ⟨rfl,_,SqL.of hv⟩,p,_,w,rfl,rfl,hv,by simp,?_⟩;rw [List.dropLast_concat];exact k _ _ _ _ h1 (k1.trans (Kp.wr hv)) (r1.mono (Kp.wr hv)) (m1.wr hv (vo0 r2))
 | _=>exact False.elim h1
end
end Pv
namespace Pv
open PySem
noncomputable def isN:D->Bool
 | .non=>true
 | _=>false
noncomputable def isNR (neg:Bool):R3:=λ x y μ Q=>match y with
 | .non=>Q (.bl (if neg then !isN x else isN x)) μ
 | _=>False
end Pv
namespace Pv
open PySem PySem.Spec PyProof.Rows L2
section
variable {X:Cx}
theorem xr4 {K:Fg} {H:Hp} {x:D} {v:V} (r:RelD K H x v):decide (v=.non)=isN x:=by
 cases r <;> simp [isN]
theorem yh5:RO X (compareOp .Is) (isNR false):=by
 refine ⟨_,tn4,λ x y v u H Q μ Q3 m rx ry h k=>?_⟩;cases ry with
 | non =>
  refine ⟨rfl,?_⟩;rw [xr4 rx];exact k _ _ _ _ h (Kp.refl _) (.bl _) m
 | _=>exact False.elim h
theorem zj2:RO X (compareOp .IsNot) (isNR true):=by
 refine ⟨_,yf3,λ x y v u H Q μ Q3 m rx ry h k=>?_⟩;cases ry with
 | non =>
  refine ⟨rfl,?_⟩;rw [xr4 rx];exact k _ _ _ _ h (Kp.refl _) (.bl _) m
 | _=>exact False.elim h
end
end Pv
namespace Pv
open PySem PySem.Spec PySem.W PyProof.Rows L2
end Pv
namespace Pv
open PySem
end Pv
namespace Pv
open PySem PySem.Spec PyProof.Rows L2
section
variable {X:Cx}
noncomputable def zc1:C3:=λ ds μ Q=>match ds with
 | [.ref p]=>match μ p with
  | some (.lst l)=>match ints? l with
   | some ns=>0 < ns.length /\ ∀ m,m ∈ ns->(∀ a,a ∈ ns->m<=a)->Q (.int m) μ
   | none=>False
  | _=>False
 | _=>False
noncomputable def wc1:C3:=λ ds μ Q=>match ds with
 | [.ref p]=>match μ p with
  | some (.lst l)=>match ints? l with
   | some ns=>0 < ns.length /\ ∀ m,m ∈ ns->(∀ a,a ∈ ns->a<=m)->Q (.int m) μ
   | none=>False
  | _=>False
 | _=>False
theorem wa2 (hc:X.calm=true):CallR X (.builtin "min") (λ xs H Q=>∃ (p:Addr) (ns:List Int),xs=[.ref p] /\ SqL X.K H p (ns.map V.int) /\ 0 < ns.length /\ ∀ m,m ∈ ns->(∀ a,a ∈ ns->m<=a)->Q (.int m) H):=by
 intro pins s σ H xs us Q I r h;obtain ⟨p,ns,rfl,hq,hne,q⟩:=h;obtain ⟨u,rfl,rx⟩:=vv0 r;cases rx;obtain ⟨its,r',pl,hz⟩:=I.list hq;have hi:=vk0 r';obtain ⟨ys,e⟩:=hi.allInts.items;have hl:=pl.isList;rw [e] at hl;have hns:ns=ys.toList.map (·.1):=by rw [<- hi.numsOf,<- nums_intItems,<- e]
 have hsz:0 < ys.size:=by
  simp_all
 refine min_intList (I.ok.hd hc) hl hsz λ v h' tk hv hk=>?_;obtain ⟨t,rfl⟩:=intItems_at hv;obtain ⟨h1,h2⟩:=argBest_lt (numAt ys) (ys.size - 1);refine ⟨.int _,H,I.kept (t':=tk) hk,⟨t,rfl⟩,q _ ?_ λ a ha=>?_⟩
 ·rw [hns,numAt_eq]; exact getD_mem [8]
 ·rw [hns] at ha;obtain ⟨j,hj,rfl⟩:=mem_getD ha;rw [length_map,length_toList] at hj;rw [<- numAt_eq]; exact h2 j [2]
theorem va2 (hc:X.calm=true):CallR X (.builtin "max") (λ xs H Q=>∃ (p:Addr) (ns:List Int),xs=[.ref p] /\ SqL X.K H p (ns.map V.int) /\ 0 < ns.length /\ ∀ m,m ∈ ns->(∀ a,a ∈ ns->a<=m)->Q (.int m) H):=by
 intro pins s σ H xs us Q I r h;obtain ⟨p,ns,rfl,hq,hne,q⟩:=h;obtain ⟨u,rfl,rx⟩:=vv0 r;cases rx;obtain ⟨its,r',pl,hz⟩:=I.list hq;have hi:=vk0 r';obtain ⟨ys,e⟩:=hi.allInts.items;have hl:=pl.isList;rw [e] at hl;have hns:ns=ys.toList.map (·.1):=by rw [<- hi.numsOf,<- nums_intItems,<- e]
 have hsz:0 < ys.size:=by
  simp_all
 refine max_intList (I.ok.hd hc) hl hsz λ v h' tk hv hk=>?_;obtain ⟨t,rfl⟩:=intItems_at hv;obtain ⟨h1,h2⟩:=argBest_gt (numAt ys) (ys.size - 1);refine ⟨.int _,H,I.kept (t':=tk) hk,⟨t,rfl⟩,q _ ?_ λ a ha=>?_⟩
 ·rw [hns,numAt_eq]; exact getD_mem [8]
 ·rw [hns] at ha;obtain ⟨j,hj,rfl⟩:=mem_getD ha;rw [length_map,length_toList] at hj;rw [<- numAt_eq]; exact h2 j [2]
theorem yj4 (hc:X.calm=true):RC X (.builtin "min") zc1:=by
 refine ⟨_,wa2 hc,λ xs vs H Q μ Q3 m r h k=>?_⟩;unfold zc1 at h;split at h
 ·next p =>
  cases r with
  | cons r1 r2 =>
   cases r2;cases r1;split at h
   ·next l e =>
    split at h
    ·next ns e1 =>
     obtain ⟨vs,hv,rs⟩:=m p l e;have ev:=wj0 rs e1;subst ev;exact ⟨p,ns,rfl,SqL.of hv,h.1,λ a h1 h2=>k _ _ _ _ (h.2 a h1 h2) (Kp.refl _) (.int _) m⟩
    ·exact h.elim
   ·exact h.elim
 ·exact h.elim
theorem zj4 (hc:X.calm=true):RC X (.builtin "max") wc1:=by
 refine ⟨_,va2 hc,λ xs vs H Q μ Q3 m r h k=>?_⟩;unfold wc1 at h;split at h
 ·next p =>
  cases r with
  | cons r1 r2 =>
   cases r2;cases r1;split at h
   ·next l e =>
    split at h
    ·next ns e1 =>
     obtain ⟨vs,hv,rs⟩:=m p l e;have ev:=wj0 rs e1;subst ev;exact ⟨p,ns,rfl,SqL.of hv,h.1,λ a h1 h2=>k _ _ _ _ (h.2 a h1 h2) (Kp.refl _) (.int _) m⟩
    ·exact h.elim
   ·exact h.elim
 ·exact h.elim
end
end Pv
namespace Pv
open PySem
noncomputable abbrev tt0:D:=.ktp [.ktp [.int 1,.int 0],.ktp [.int 0,.int 1],.ktp [.int (-1),.int 0],.ktp [.int 0,.int (-1)]]
noncomputable abbrev vy0:D:=.ktp [.int 0,.int 1]
noncomputable abbrev tg0:D:=.int 2500
noncomputable def vp3:List Str:=["pen", "part", "ahead", "x", "y"]
noncomputable abbrev yu3:TS3 :=
 (seq3 (set3 2 (o3 ixR (c3 tt0) (o3 ixR (v3 0) (c3 (.int 2))))) (seq3 (set3 3 (o3 subR (o3 addR [39] (o3 mulR (o3 ixR (v3 1) [6]) (o3 ixR (v3 2) [6]))) (o3 mulR (o3 ixR (v3 1) [5]) (o3 ixR (v3 2) [5])))) (seq3 (set3 4 (o3 addR (o3 addR (o3 ixR (v3 0) [5]) (o3 mulR (o3 ixR (v3 1) [6]) (o3 ixR (v3 2) [5]))) (o3 mulR (o3 ixR (v3 1) [5]) (o3 ixR (v3 2) [6])))) (ret3 (tup3 (xa0 (v3 3) (xa0 (v3 4) (xa0 (o3 modR (o3 addR (o3 ixR (v3 0) (c3 (.int 2))) (o3 ixR (v3 1) (c3 (.int 2)))) (c3 (.int 4))) nil3))))))))
noncomputable def N_q6:List Str:=["picture", "stroke", "place"]
noncomputable abbrev t_q6 (q8:Sp3):TS3 :=
 (seq3 (for3 (is3 (v3 0)) (gn3 1) (wc0 (va0 q8 (xa0 (v3 1) nil3)))) (for3 (ir23 (xa0 [5] (xa0 (va0 lenR [14]) nil3))) (gn3 2) (ifs3 (b3 (o3 ge3R (o3 ixR (v3 0) (o3 subR (v3 2) [5])) (o3 ixR (v3 0) (v3 2)))) tx0 ud0)))
noncomputable def N_q8:List Str:=["stroke"]
noncomputable abbrev t_q8:TS3 :=
 (ifs3 (or3 (b3 (o3 neR (va0 lenR [14]) (c3 (.int 3)))) (b3 (o3 (inR true) (o3 ixR (v3 0) (c3 (.int 2))) (c3 vy0)))) tx0 ud0)
noncomputable def sp3:List Str:=["stroke"]
noncomputable abbrev vu3:TS3 :=
 (seq3 (ifs3 (b3 (o3 eqR (o3 ixR (v3 0) (c3 (.int 2))) [6])) (ret3 (tup3 (xa0 (tup3 (xa0 [39] (xa0 (o3 ixR (v3 0) [5]) nil3))) (xa0 (tup3 (xa0 (o3 addR [39] [5]) (xa0 (o3 ixR (v3 0) [5]) nil3))) nil3)))) ud0) (ret3 (tup3 (xa0 (tup3 (xa0 [39] (xa0 (o3 ixR (v3 0) [5]) nil3))) (xa0 (tup3 (xa0 [39] (xa0 (o3 addR (o3 ixR (v3 0) [5]) [5]) nil3))) nil3)))))
noncomputable def zn3:List Str:=["point", "other", "low"]
noncomputable abbrev vc2:TS3 :=
 (seq3 (set3 2 (va0 minQ (xa0 (v3 0) (xa0 (v3 1) nil3)))) (ret3 (tup3 (xa0 (o3 ixR (v3 2) [6]) (xa0 (o3 ixR (v3 2) [5]) (xa0 (if3 (b3 (o3 eqR (o3 ixR (v3 0) [5]) (o3 ixR (v3 1) [5]))) [6] [5]) nil3))))))
noncomputable def xo3:List Str:=["picture", "least", "greatest", "corner"]
noncomputable abbrev wg0 (q10:Sp3):TS3 :=
 (ret3 (o3 addR (v3 3) (tup3 (xa0 (va0 wc1 (xa0 (zc0 [none] (is3 (v3 2)) (gn3 0) tt3 [39]) nil3)) (xa0 (va0 wc1 (xa0 (zc0 [none] (is3 (v3 2)) (gn3 0) tt3 (o3 ixR (v3 0) [5])) nil3)) nil3)))))
noncomputable abbrev td0 (q10:Sp3):TS3 :=
 (seq3 (set3 3 (tup3 (xa0 (va0 zc1 (xa0 (zc0 [none] (is3 (v3 1)) (gn3 0) tt3 [39]) nil3)) (xa0 (va0 zc1 (xa0 (zc0 [none] (is3 (v3 1)) (gn3 0) tt3 (o3 ixR (v3 0) [5])) nil3)) nil3)))) (wg0 q10))
noncomputable abbrev zl0 (q10:Sp3):TS3 :=
 (seq3 (set3 2 (zc0 [none] (is3 (v3 0)) (gn3 0) tt3 (o3 ixR (va0 q10 [14]) [5]))) (td0 q10))
noncomputable abbrev wl0 (q10:Sp3):TS3 :=
 (seq3 (set3 1 (zc0 [none] (is3 (v3 0)) (gn3 0) tt3 (o3 ixR (va0 q10 [14]) [6]))) (zl0 q10))
noncomputable abbrev vs3 (q10:Sp3):TS3 :=
 (seq3 (ifs3 (b3 (o3 eqR (va0 lenR [14]) [6])) (ret3 (c3 .non)) ud0) (wl0 q10))
noncomputable def xp3:List Str:=["picture", "x", "y"]
noncomputable abbrev wt3 (q6 q18:Sp3):TS3 :=
 (seq3 (wc0 (va0 q6 [14])) (ret3 (va0 tupR (xa0 (zc0 [none,some 1,some 2] (is3 (v3 0)) (gn3 0) tt3 (va0 q18 (xa0 (v3 0) (xa0 (v3 1) [36])))) nil3))))
noncomputable def to3:List Str:=["stroke", "x", "y"]
noncomputable abbrev zt3:TS3 :=
 (ret3 (tup3 (xa0 (o3 addR [39] (v3 1)) (xa0 (o3 addR (o3 ixR (v3 0) [5]) (v3 2)) (xa0 (o3 ixR (v3 0) (c3 (.int 2))) nil3)))))
noncomputable def wm3:List Str:=["picture", "quarters"]
noncomputable abbrev yr3 (q6 q38:Sp3):TS3 :=
 (seq3 (wc0 (va0 q6 [14])) (ret3 (va0 tupR (xa0 (va0 srtR (xa0 (zc0 [none,some 1] (is3 (v3 0)) (gn3 0) tt3 (va0 q38 (xa0 (v3 0) (xa0 (o3 modR (v3 1) (c3 (.int 4))) nil3)))) nil3)) nil3))))
noncomputable def ym3:List Str:=["stroke", "quarters", "ends"]
noncomputable abbrev sq3 (q10 q29 q37:Sp3):TS3 :=
 (seq3 (set3 2 (va0 q10 [14])) (ret3 (va0 q29 (xa0 (va0 q37 (xa0 (o3 ixR (v3 2) [6]) (xa0 (v3 1) nil3))) (xa0 (va0 q37 (xa0 (o3 ixR (v3 2) [5]) (xa0 (v3 1) nil3))) nil3)))))
noncomputable def zm3:List Str:=["point", "quarters", "pen"]
noncomputable abbrev xr3 (q13:Sp3):TS3 :=
 (seq3 (set3 2 (va0 q13 (xa0 (tup3 (xa0 [6] (xa0 [6] (xa0 (v3 1) nil3)))) (xa0 (tup3 (xa0 [39] (xa0 (o3 ixR (v3 0) [5]) (xa0 [6] nil3)))) nil3)))) (ret3 (tup3 (xa0 (o3 ixR (v3 2) [6]) (xa0 (o3 ixR (v3 2) [5]) nil3)))))
noncomputable def zp3:List Str:=["picture"]
noncomputable abbrev ut3 (q6 q16:Sp3):TS3 :=
 (seq3 (wc0 (va0 q6 [14])) (ret3 (va0 tupR (xa0 (va0 srtR (xa0 (zc0 [none] (is3 (v3 0)) (gn3 0) tt3 (va0 q16 [14])) nil3)) nil3))))
noncomputable def yp3:List Str:=["stroke", "ends"]
noncomputable abbrev vt3 (q10 q29:Sp3):TS3 :=
 (seq3 (set3 1 (va0 q10 [14])) (ret3 (va0 q29 (xa0 (tup3 (xa0 (un3 negR (o3 ixR (o3 ixR (v3 1) [6]) [6])) (xa0 (o3 ixR (o3 ixR (v3 1) [6]) [5]) nil3))) (xa0 (tup3 (xa0 (un3 negR (o3 ixR (o3 ixR (v3 1) [5]) [6])) (xa0 (o3 ixR (o3 ixR (v3 1) [5]) [5]) nil3))) nil3)))))
noncomputable def sn3:List Str:=["picture", "at", "seen", "pieces", "stroke"]
noncomputable abbrev ws3 (q6 q26 q30:Sp3):TS3 :=
 (seq3 (wc0 (va0 q6 [14])) (seq3 (set3 1 (va0 q30 [14])) (seq3 (set3 2 dnl3) (seq3 (set3 3 (lst3 nil3)) (seq3 (for3 (is3 (v3 0)) (gn3 4) (ifs3 (b3 (o3 (dinR true) (v3 4) (v3 2))) (wc0 (mt3 appR (v3 3) (xa0 (va0 q26 (xa0 (v3 4) (xa0 (v3 1) [36]))) nil3))) ud0)) (ret3 (v3 3)))))))
noncomputable def yn3:List Str:=["picture", "at", "stroke", "point"]
noncomputable abbrev sr3 (q10:Sp3):TS3 :=
 (seq3 (set3 1 dnl3) (seq3 (for3 (is3 (v3 0)) (gn3 2) (for3 (is3 (va0 q10 [36])) (gn3 3) (wc0 (mt3 appR (sdf3 (v3 1) (xa0 (v3 3) (xa0 (lst3 nil3) nil3))) [36])))) (ret3 (v3 1))))
noncomputable def tn3:List Str:=["stroke", "at", "seen", "piece", "place", "here", "point"]
noncomputable abbrev zs3 (q10 q32:Sp3):TS3 :=
 (seq3 (ya1 (v3 2) (v3 0) (c3 (.bl true))) (seq3 (set3 3 (lst3 [14])) (seq3 (set3 4 [6]) (seq3 (so0 (b3 (o3 ltR (v3 4) (va0 lenR (xa0 (v3 3) nil3)))) (seq3 (set3 5 (o3 ixR (v3 3) (v3 4))) (seq3 (for3 (is3 (va0 q10 (xa0 (v3 5) nil3))) (gn3 6) (wc0 (mt3 extR (v3 3) (xa0 (va0 q32 (xa0 (o3 dgR (v3 1) (v3 6)) [36])) nil3)))) (set3 4 (o3 addR (v3 4) [5]))))) (ret3 (va0 tupR (xa0 (va0 srtR (xa0 (v3 3) nil3)) nil3)))))))
noncomputable def sm3:List Str:=["strokes", "seen", "taken", "stroke"]
noncomputable abbrev ur3:TS3 :=
 (seq3 (set3 2 (zc0 [none,some 1] (is3 (v3 0)) (gn3 0) (b3 (o3 (dinR true) (v3 0) (v3 1))) (v3 0))) (seq3 (for3 (is3 (v3 2)) (gn3 3) (ya1 (v3 1) (v3 3) (c3 (.bl true)))) (ret3 (v3 2))))
noncomputable def wo3:List Str:=["picture", "at"]
noncomputable abbrev ss3 (q6 q30:Sp3):TS3 :=
 (seq3 (wc0 (va0 q6 [14])) (seq3 (set3 1 (va0 q30 [14])) (ret3 (va0 yw0 (xa0 (zc0 [none,some 1] (isd3 (v3 1)) (gn3 0) (b3 (o3 eqR (o3 modR (va0 lenR (xa0 (o3 dgR (v3 1) (v3 0)) nil3)) (c3 (.int 2))) [5])) (v3 0)) nil3)))))
noncomputable def um3:List Str:=["picture", "trails", "piece"]
noncomputable abbrev wr3 (q25 q35:Sp3):TS3 :=
 (seq3 (set3 1 (lst3 nil3)) (seq3 (for3 (is3 (va0 q25 [14])) (gn3 2) (wc0 (mt3 extR (v3 1) (xa0 (va0 q35 [36]) nil3)))) (ret3 (v3 1))))
noncomputable def vm3:List Str:=["piece", "odd", "strokes", "bridges", "start"]
noncomputable abbrev wh0 (q10 q21 q23 q40:Sp3):TS3 :=
 (ret3 (va0 q23 (xa0 (va0 q40 (xa0 (o3 addR (v3 2) (v3 3)) (xa0 (v3 4) nil3))) (xa0 (va0 lenR [36]) nil3))))
noncomputable abbrev vh0 (q10 q21 q23 q40:Sp3):TS3 :=
 (seq3 (set3 4 (if3 (b3 (o3 gtR (va0 lenR (xa0 (v3 1) nil3)) [6])) (o3 ixR (v3 1) [6]) (o3 ixR (o3 ixR (v3 2) [6]) [6]))) (wh0 q10 q21 q23 q40))
noncomputable abbrev uh0 (q10 q21 q23 q40:Sp3):TS3 :=
 (seq3 (set3 3 (zc0 [none,some 1] (irS3 (xa0 [5] (xa0 (o3 subR (va0 lenR (xa0 (v3 1) nil3)) [5]) (xa0 (c3 (.int 2)) nil3)))) (gn3 0) tt3 (tup3 (xa0 (o3 ixR (v3 1) (v3 0)) (xa0 (o3 ixR (v3 1) (o3 addR (v3 0) [5])) nil3))))) (vh0 q10 q21 q23 q40))
noncomputable abbrev th0 (q10 q21 q23 q40:Sp3):TS3 :=
 (seq3 (set3 2 (zc0 [none] (is3 (v3 0)) (gn3 0) tt3 (va0 q10 [14]))) (uh0 q10 q21 q23 q40))
noncomputable abbrev zr3 (q10 q21 q23 q40:Sp3):TS3 :=
 (seq3 (set3 1 (va0 q21 [14])) (th0 q10 q21 q23 q40))
noncomputable def sl3:List Str:=["links", "start", "at", "used", "waiting", "way", "point", "number"]
noncomputable abbrev uq3 (q14 q22 q33:Sp3):TS3 :=
 (seq3 (set3 2 (va0 q14 [14])) (seq3 (set3 3 dnk3) (seq3 (set3 4 (lst3 (xa0 (tup3 (xa0 (v3 1) (xa0 (c3 .non) nil3))) nil3))) (seq3 (set3 5 (lst3 nil3)) (seq3 (so0 (b3 (o3 gtR (va0 lenR (xa0 (v3 4) nil3)) [6])) (seq3 (set3 6 (o3 ixR (o3 ixR (v3 4) (un3 negR [5])) [6])) (seq3 (set3 7 (va0 q33 (xa0 (o3 dgR (v3 2) (v3 6)) (xa0 (v3 3) nil3)))) (ifs3 (b3 (o3 (isNR false) (v3 7) (c3 .non))) (wc0 (mt3 appR (v3 5) (xa0 (pop3 (v3 4)) nil3))) (seq3 (yj1 (v3 3) (v3 7) (c3 (.bl true))) (wc0 (mt3 appR (v3 4) (xa0 (tup3 (xa0 (va0 q22 (xa0 (o3 ixR (v3 0) (v3 7)) (xa0 (v3 6) nil3))) (xa0 (v3 7) nil3))) nil3)))))))) (ret3 (v3 5)))))))
noncomputable def wp3:List Str:=["links", "at", "number", "point"]
noncomputable abbrev xu3:TS3 :=
 (seq3 (set3 1 dnl3) (seq3 (for3 (ir3 (xa0 (va0 lenR [14]) nil3)) (gn3 2) (for3 (is3 (o3 ixR (v3 0) (v3 2))) (gn3 3) (wc0 (mt3 appR (sdf3 (v3 1) (xa0 (v3 3) (xa0 (lst3 nil3) nil3))) [36])))) (ret3 (v3 1))))
noncomputable def tm3:List Str:=["numbers", "used", "number"]
noncomputable abbrev vr3:TS3 :=
 (seq3 (so0 (b3 (o3 gtR (va0 lenR [14]) [6])) (seq3 (set3 2 (pop3 (v3 0))) (ifs3 (b3 (o3 (uy1 true) (v3 2) (v3 1))) (ret3 (v3 2)) ud0))) (ret3 (c3 .non)))
noncomputable def zo3:List Str:=["link", "point"]
noncomputable abbrev ts3:TS3 :=
 (ret3 (if3 (b3 (o3 eqR [39] (v3 1))) (o3 ixR (v3 0) [5]) [39]))
noncomputable def yo3:List Str:=["way", "first_bridge", "trails", "place"]
noncomputable abbrev us3:TS3 :=
 (seq3 (set3 2 (lst3 (xa0 (lst3 (xa0 (o3 ixR [39] [6]) nil3)) nil3))) (seq3 (for3 (ir23 (xa0 [5] (xa0 (va0 lenR [14]) nil3))) (gn3 3) (seq3 (ifs3 (b3 (o3 geR (o3 ixR (o3 ixR (v3 0) (o3 subR (v3 3) [5])) [5]) (v3 1))) (wc0 (mt3 appR (v3 2) (xa0 (lst3 nil3) nil3))) ud0) (wc0 (mt3 appR (o3 ixR (v3 2) (un3 negR [5])) (xa0 (o3 ixR (o3 ixR (v3 0) (v3 3)) [6]) nil3))))) (ret3 (v3 2))))
noncomputable def vn3:List Str:=["picture", "box", "strokes", "unseen", "rooms", "cell"]
noncomputable abbrev yr0 (q5 q6 q7 q24 q31:Sp3):TS3 :=
 (ret3 (v3 4))
noncomputable abbrev zr0 (q5 q6 q7 q24 q31:Sp3):TS3 :=
 (seq3 (for3 (is3 (va0 q5 (xa0 (v3 1) nil3))) (gn3 5) (ifs3 (b3 (o3 (dinR false) (v3 5) (v3 3))) (wc0 (mt3 appR (v3 4) (xa0 (va0 q31 (xa0 (v3 5) (xa0 (v3 2) (xa0 (v3 3) nil3)))) nil3))) ud0)) (yr0 q5 q6 q7 q24 q31))
noncomputable abbrev wr0 (q5 q6 q7 q24 q31:Sp3):TS3 :=
 (seq3 (set3 4 (lst3 nil3)) (zr0 q5 q6 q7 q24 q31))
noncomputable abbrev vr0 (q5 q6 q7 q24 q31:Sp3):TS3 :=
 (seq3 (wc0 (va0 q31 (xa0 (tup3 (xa0 (o3 subR (o3 ixR (v3 1) [6]) [5]) (xa0 (o3 subR (o3 ixR (v3 1) [5]) [5]) nil3))) (xa0 (v3 2) (xa0 (v3 3) nil3))))) (wr0 q5 q6 q7 q24 q31))
noncomputable abbrev ur0 (q5 q6 q7 q24 q31:Sp3):TS3 :=
 (seq3 (set3 3 (va0 dolR (xa0 (zc0 [none] (is3 (va0 q5 (xa0 (v3 1) nil3))) (gn3 0) tt3 (tup3 (xa0 (v3 0) (xa0 (c3 (.bl true)) nil3)))) nil3))) (vr0 q5 q6 q7 q24 q31))
noncomputable abbrev tr0 (q5 q6 q7 q24 q31:Sp3):TS3 :=
 (seq3 (set3 2 (va0 dolR (xa0 (zc0 [none] (is3 (v3 0)) (gn3 0) tt3 (tup3 (xa0 (v3 0) (xa0 (c3 (.bl true)) nil3)))) nil3))) (ur0 q5 q6 q7 q24 q31))
noncomputable abbrev xj0 (q5 q6 q7 q24 q31:Sp3):TS3 :=
 (seq3 (wc0 (va0 q7 (xa0 (v3 1) nil3))) (tr0 q5 q6 q7 q24 q31))
noncomputable abbrev sr0 (q5 q6 q7 q24 q31:Sp3):TS3 :=
 (seq3 (ifs3 (b3 (o3 (isNR false) (v3 1) (c3 .non))) (ret3 (lst3 nil3)) ud0) (xj0 q5 q6 q7 q24 q31))
noncomputable abbrev xs0 (q5 q6 q7 q24 q31:Sp3):TS3 :=
 (seq3 (set3 1 (va0 q24 [14])) (sr0 q5 q6 q7 q24 q31))
noncomputable abbrev ys3 (q5 q6 q7 q24 q31:Sp3):TS3 :=
 (seq3 (wc0 (va0 q6 [14])) (xs0 q5 q6 q7 q24 q31))
noncomputable def N_q7:List Str:=["box"]
noncomputable abbrev t_q7:TS3 :=
 (ifs3 (b3 (o3 gtR (o3 mulR (o3 addR (o3 subR (o3 ixR (v3 0) (c3 (.int 2))) [39]) (c3 (.int 2))) (o3 addR (o3 subR (o3 ixR (v3 0) (c3 (.int 3))) (o3 ixR (v3 0) [5])) (c3 (.int 2)))) (c3 tg0))) tx0 ud0)
noncomputable def N_q5:List Str:=["box", "cells", "x"]
noncomputable abbrev t_q5:TS3 :=
 (seq3 (set3 1 (lst3 nil3)) (seq3 (for3 (ir23 (xa0 (o3 subR [39] [5]) (xa0 (o3 addR (o3 ixR (v3 0) (c3 (.int 2))) [5]) nil3))) (gn3 2) (wc0 (mt3 extR (v3 1) (xa0 (zc0 [none,some 2] (ir23 (xa0 (o3 subR (o3 ixR (v3 0) [5]) [5]) (xa0 (o3 addR (o3 ixR (v3 0) (c3 (.int 3))) [5]) nil3))) (gn3 0) tt3 (tup3 (xa0 (v3 1) [14]))) nil3)))) (ret3 (v3 1))))
noncomputable def xn3:List Str:=["cell", "strokes", "unseen", "taken", "place", "here", "near"]
noncomputable abbrev tr3 (q19:Sp3):TS3 :=
 (seq3 (wc0 (dm3 true (v3 2) [14])) (seq3 (set3 3 (lst3 [14])) (seq3 (set3 4 [6]) (seq3 (so0 (b3 (o3 ltR (v3 4) (va0 lenR (xa0 (v3 3) nil3)))) (seq3 (set3 5 (o3 ixR (v3 3) (v3 4))) (seq3 (for3 (is3 (va0 q19 (xa0 (v3 5) (xa0 (v3 1) nil3)))) (gn3 6) (ifs3 (b3 (o3 (dinR false) (v3 6) (v3 2))) (seq3 (wc0 (dm3 true (v3 2) (xa0 (v3 6) nil3))) (wc0 (mt3 appR (v3 3) (xa0 (v3 6) nil3)))) ud0)) (set3 4 (o3 addR (v3 4) [5]))))) (ret3 (va0 yw0 (xa0 (v3 3) nil3)))))))
noncomputable def uo3:List Str:=["cell", "strokes"]
noncomputable abbrev yt3 (q28:Sp3):TS3 :=
 (ret3 (zc0 [none,some 1] (is3 (va0 q28 [14])) (gn3 0) (b3 (o3 (dinR true) (o3 ixR (v3 0) [5]) (v3 1))) [39]))
noncomputable def wn3:List Str:=["cell", "x", "y", "east", "north", "west", "south"]
noncomputable abbrev xs3:TS3 :=
 (seq3 (set3 1 [39]) (seq3 (set3 2 (o3 ixR (v3 0) [5])) (seq3 (set3 3 (tup3 (xa0 (tup3 (xa0 (o3 addR (v3 1) [5]) [36])) (xa0 (tup3 (xa0 (o3 addR (v3 1) [5]) (xa0 (v3 2) (xa0 [5] nil3)))) nil3)))) (seq3 (set3 4 (tup3 (xa0 (tup3 (xa0 (v3 1) (xa0 (o3 addR (v3 2) [5]) nil3))) (xa0 (tup3 (xa0 (v3 1) (xa0 (o3 addR (v3 2) [5]) (xa0 [6] nil3)))) nil3)))) (seq3 (set3 5 (tup3 (xa0 (tup3 (xa0 (o3 subR (v3 1) [5]) [36])) (xa0 (tup3 (xa0 (v3 1) (xa0 (v3 2) (xa0 [5] nil3)))) nil3)))) (seq3 (set3 6 (tup3 (xa0 (tup3 (xa0 (v3 1) (xa0 (o3 subR (v3 2) [5]) nil3))) (xa0 (tup3 (xa0 (v3 1) (xa0 (v3 2) (xa0 [6] nil3)))) nil3)))) (ret3 (tup3 (xa0 (v3 3) (xa0 (v3 4) (xa0 (v3 5) (xa0 (v3 6) nil3))))))))))))
noncomputable def vo3:List Str:=["rooms", "numbers", "number", "cell"]
noncomputable abbrev xt3:TS3 :=
 (seq3 (set3 1 dnl3) (seq3 (for3 (ir3 (xa0 (va0 lenR [14]) nil3)) (gn3 2) (for3 (is3 (o3 ixR (v3 0) (v3 2))) (gn3 3) (ya1 (v3 1) (v3 3) (v3 2)))) (ret3 (v3 1))))
noncomputable def xm3:List Str:=["picture", "rooms", "numbers", "walls", "stroke", "sides", "number"]
noncomputable abbrev sq0 (q4 q20 q27:Sp3):TS3 :=
 (ret3 (zc0 [none] (is3 (v3 3)) (gn3 0) tt3 (va0 tupR [14])))
noncomputable abbrev si0 (q4 q20 q27:Sp3):TS3 :=
 (seq3 (for3 (is3 (v3 0)) (gn3 4) (seq3 (set3 5 (zc0 [none,some 2] (is3 (va0 q4 (xa0 (v3 4) nil3))) (gn3 0) tt3 (dm3 false (v3 1) [14]))) (ifs3 (b3 (o3 neR (o3 ixR (v3 5) [6]) (o3 ixR (v3 5) [5]))) (for3 (is3 (v3 5)) (gn3 6) (ifs3 (b3 (o3 (isNR true) (v3 6) (c3 .non))) (wc0 (mt3 appR (o3 ixR (v3 3) (v3 6)) (xa0 (v3 4) nil3))) ud0)) ud0))) (sq0 q4 q20 q27))
noncomputable abbrev se0 (q4 q20 q27:Sp3):TS3 :=
 (seq3 (set3 3 (zc0 [none] (is3 (v3 1)) (gn3 0) tt3 (lst3 nil3))) (si0 q4 q20 q27))
noncomputable abbrev xr0 (q4 q20 q27:Sp3):TS3 :=
 (seq3 (set3 2 (va0 q20 (xa0 (v3 1) nil3))) (se0 q4 q20 q27))
noncomputable abbrev tq3 (q4 q20 q27:Sp3):TS3 :=
 (seq3 (set3 1 (va0 q27 [14])) (xr0 q4 q20 q27))
noncomputable def N_q4:List Str:=["stroke", "x", "y"]
noncomputable abbrev t_q4:TS3 :=
 (seq3 (set3 1 [39]) (seq3 (set3 2 (o3 ixR (v3 0) [5])) (seq3 (ifs3 (b3 (o3 eqR (o3 ixR (v3 0) (c3 (.int 2))) [6])) (ret3 (tup3 (xa0 (tup3 (xa0 (v3 1) (xa0 (o3 subR (v3 2) [5]) nil3))) (xa0 (tup3 (xa0 (v3 1) [36])) nil3)))) ud0) (ret3 (tup3 (xa0 (tup3 (xa0 (o3 subR (v3 1) [5]) [36])) (xa0 (tup3 (xa0 (v3 1) [36])) nil3)))))))
noncomputable def tp3:List Str:=["picture"]
noncomputable abbrev uk0 (q25 q30:Sp3):TS3 :=
 (ret3 (va0 allR (xa0 (zc0 [none] (isv3 (va0 q30 [14])) (gn3 0) tt3 (o3 eqR (va0 lenR [14]) (c3 (.int 2)))) nil3)))
noncomputable abbrev wu3 (q25 q30:Sp3):TS3 :=
 (seq3 (ifs3 (b3 (o3 neR (va0 lenR (xa0 (va0 q25 [14]) nil3)) [5])) (ret3 (c3 (.bl false))) ud0) (uk0 q25 q30))
noncomputable def N_q3:List Str:=["picture", "points"]
noncomputable abbrev tk0 (q9 q11 q34:Sp3):TS3 :=
 (ret3 (o3 xm1 (va0 absR (xa0 (va0 sumR (xa0 (zc0 [none,some 1] (ir23 (xa0 [5] (xa0 (va0 lenR (xa0 (v3 1) nil3)) nil3))) (gn3 0) tt3 (va0 q9 (xa0 (o3 ixR (v3 1) (o3 subR (v3 0) [5])) (xa0 (o3 ixR (v3 1) (v3 0)) nil3)))) nil3)) nil3)) (c3 (.int 2))))
noncomputable abbrev sk0 (q9 q11 q34:Sp3):TS3 :=
 (seq3 (set3 1 (o3 ixR (va0 q34 [14]) [6])) (tk0 q9 q11 q34))
noncomputable abbrev t_q3 (q9 q11 q34:Sp3):TS3 :=
 (seq3 (ifs3 (not3 (b3 (va0 q11 [14]))) (ret3 (c3 .non)) ud0) (sk0 q9 q11 q34))
noncomputable def N_q9:List Str:=["point", "other"]
noncomputable abbrev t_q9:TS3 :=
 (ret3 (o3 subR (o3 mulR [39] (o3 ixR (v3 1) [5])) (o3 mulR (o3 ixR (v3 0) [5]) (o3 ixR (v3 1) [6]))))
noncomputable def N_q1:List Str:=["script", "k", "cell"]
noncomputable abbrev t_q1:TS3 :=
 (seq3 (set3 2 [6]) (seq3 (ifs3 (b3 (o3 ltR (v3 1) (va0 lenR [14]))) (set3 2 (o3 ixR (v3 0) (v3 1))) ud0) [46]))
noncomputable def N_q2:List Str:=["state", "many", "found", "mixed"]
noncomputable abbrev t_q2:TS3 :=
 (seq3 (ifs3 (and3 (b3 (o3 eqR (o3 ixR (v3 0) [5]) [5])) (b3 (o3 gtR [39] [6]))) (seq3 (set3 2 (o3 modR [39] (v3 1))) (seq3 (asg3 (o3 xm1 [39] (v3 1)) (sub3 (v3 0) [6])) (ret3 (v3 2)))) ud0) (seq3 (asg3 [6] (sub3 (v3 0) [5])) [23]))
noncomputable def N_q0:List Str:=["state", "most", "wide", "high", "found", "k", "x", "y", "way"]
noncomputable abbrev um0 (q2:Sp3):TS3 :=
 (ret3 (va0 tupR (xa0 (uy2 (vy2 (xa0 (v3 4) nil3))) nil3)))
noncomputable abbrev tm0 (q2:Sp3):TS3 :=
 (seq3 (for3 (ir3 (xa0 (va0 q2 (xa0 (v3 0) (xa0 (o3 addR (v3 1) [5]) nil3))) nil3)) (gn3 5) (seq3 (set3 6 (o3 subR (va0 q2 (xa0 (v3 0) [36])) (c3 (.int 2)))) (seq3 (set3 7 (o3 subR (va0 q2 (xa0 (v3 0) (xa0 (v3 3) nil3))) (c3 (.int 2)))) (seq3 (set3 8 (va0 q2 (xa0 (v3 0) (xa0 (c3 (.int 6)) nil3)))) (ifs3 (b3 (o3 ltR (v3 8) (c3 (.int 4)))) (wc0 (mt3 appR (v3 4) (xa0 (tup3 (xa0 (v3 6) (xa0 (v3 7) (xa0 (o3 modR (v3 8) (c3 (.int 2))) nil3)))) nil3))) (set3 4 (o3 addR (v3 4) (lst3 (xa0 (tup3 (xa0 (v3 6) (xa0 (v3 7) (xa0 [6] nil3)))) (xa0 (tup3 (xa0 (v3 6) (xa0 (v3 7) (xa0 [5] nil3)))) (xa0 (tup3 (xa0 (v3 6) (xa0 (o3 addR (v3 7) [5]) (xa0 [6] nil3)))) (xa0 (tup3 (xa0 (o3 addR (v3 6) [5]) (xa0 (v3 7) (xa0 [5] nil3)))) nil3)))))))))))) (um0 q2))
noncomputable abbrev sm0 (q2:Sp3):TS3 :=
 (seq3 (set3 4 (lst3 nil3)) (tm0 q2))
noncomputable abbrev xn0 (q2:Sp3):TS3 :=
 (seq3 (set3 3 (o3 addR (c3 (.int 2)) (va0 q2 (xa0 (v3 0) (xa0 (c3 (.int 5)) nil3))))) (sm0 q2))
noncomputable abbrev t_q0 (q2:Sp3):TS3 :=
 (seq3 (set3 2 (o3 addR (c3 (.int 2)) (va0 q2 (xa0 (v3 0) (xa0 (c3 (.int 5)) nil3))))) (xn0 q2))
noncomputable def up3:List Str:=["script", "state", "lines", "at", "size", "found", "k", "due", "some", "other"]
noncomputable abbrev ue1 (q0 q1 q2 q3 q11 q15 q17 q27 q36 q39:Sp3):TS3 :=
 (ret3 (orV3 (zg3 (va0 q11 [36])) (ul3 (o3 eqR (v3 7) (lst3 (xa0 (va0 q3 [36]) nil3))) (o3 eqR (va0 q39 [36]) (lst3 [36])))))
noncomputable abbrev ys0 (q0 q1 q2 q3 q11 q15 q17 q27 q36 q39:Sp3):TS3 :=
 (seq3 (for3 (is3 (v3 8)) (gn3 9) (seq3 (ifs3 (or3 (b3 (o3 neR (va0 vs0 (xa0 (zc0 [none] (is3 (va0 q27 (xa0 (v3 9) nil3))) (gn3 0) tt3 (va0 lenR [14])) nil3)) (v3 7))) (b3 (o3 neR (va0 q11 (xa0 (v3 9) nil3)) (va0 q11 [36])))) (ret3 (c3 (.bl false))) ud0) (ifs3 (b3 (o3 neR (va0 q3 (xa0 (v3 9) nil3)) (va0 q3 [36]))) (ret3 (c3 (.bl false))) ud0))) (ue1 q0 q1 q2 q3 q11 q15 q17 q27 q36 q39))
noncomputable abbrev zs0 (q0 q1 q2 q3 q11 q15 q17 q27 q36 q39:Sp3):TS3 :=
 (seq3 (wc0 (mt3 appR (v3 8) (xa0 (va0 q36 (xa0 (v3 2) (xa0 (o3 addR [5] (va0 q2 (xa0 (v3 1) (xa0 (c3 (.int 3)) nil3)))) nil3))) nil3))) (ys0 q0 q1 q2 q3 q11 q15 q17 q27 q36 q39))
noncomputable abbrev te1 (q0 q1 q2 q3 q11 q15 q17 q27 q36 q39:Sp3):TS3 :=
 (seq3 (set3 8 (lst3 (xa0 (va0 q17 (xa0 (v3 2) (xa0 (o3 subR (va0 q2 (xa0 (v3 1) (xa0 (c3 (.int 9)) nil3))) (c3 (.int 4))) (xa0 (o3 subR (va0 q2 (xa0 (v3 1) (xa0 (c3 (.int 9)) nil3))) (c3 (.int 4))) nil3)))) (xa0 (va0 q15 [36]) nil3)))) (zs0 q0 q1 q2 q3 q11 q15 q17 q27 q36 q39))
noncomputable abbrev se1 (q0 q1 q2 q3 q11 q15 q17 q27 q36 q39:Sp3):TS3 :=
 (seq3 (set3 7 (va0 vs0 (xa0 (zc0 [none] (is3 (va0 q27 [36])) (gn3 0) tt3 (va0 lenR [14])) nil3))) (te1 q0 q1 q2 q3 q11 q15 q17 q27 q36 q39))
noncomputable abbrev xf1 (q0 q1 q2 q3 q11 q15 q17 q27 q36 q39:Sp3):TS3 :=
 (seq3 (ifs3 (b3 (o3 eqR (va0 q2 (xa0 (v3 1) (xa0 (c3 (.int 3)) nil3))) [6])) (seq3 (set3 3 (tup3 (xa0 (o3 subR (va0 q2 (xa0 (v3 1) (xa0 (c3 (.int 9)) nil3))) (c3 (.int 4))) (xa0 (o3 subR (va0 q2 (xa0 (v3 1) (xa0 (c3 (.int 9)) nil3))) (c3 (.int 4))) nil3)))) (seq3 (set3 4 (tup3 (xa0 (o3 addR [5] (va0 q2 (xa0 (v3 1) (xa0 (c3 (.int 4)) nil3)))) (xa0 (o3 addR [5] (va0 q2 (xa0 (v3 1) (xa0 (c3 (.int 4)) nil3)))) nil3)))) (seq3 (set3 5 (lst3 nil3)) (seq3 (for3 (ir3 (xa0 (o3 ixR (v3 4) [6]) nil3)) (gn3 6) (set3 5 (o3 addR (v3 5) (lst3 (xa0 (tup3 (xa0 (o3 addR (o3 ixR (v3 3) [6]) (v3 6)) (xa0 (o3 ixR (v3 3) [5]) (xa0 [6] nil3)))) (xa0 (tup3 (xa0 (o3 addR (o3 ixR (v3 3) [6]) (v3 6)) (xa0 (o3 addR (o3 ixR (v3 3) [5]) (o3 ixR (v3 4) [5])) (xa0 [6] nil3)))) nil3)))))) (seq3 (for3 (ir3 (xa0 (o3 ixR (v3 4) [5]) nil3)) (gn3 6) (set3 5 (o3 addR (v3 5) (lst3 (xa0 (tup3 (xa0 (o3 ixR (v3 3) [6]) (xa0 (o3 addR (o3 ixR (v3 3) [5]) (v3 6)) (xa0 [5] nil3)))) (xa0 (tup3 (xa0 (o3 addR (o3 ixR (v3 3) [6]) (o3 ixR (v3 4) [6])) (xa0 (o3 addR (o3 ixR (v3 3) [5]) (v3 6)) (xa0 [5] nil3)))) nil3)))))) (set3 2 (va0 tupR (xa0 (va0 srtR (xa0 (v3 5) nil3)) nil3)))))))) ud0) (se1 q0 q1 q2 q3 q11 q15 q17 q27 q36 q39))
noncomputable abbrev yf1 (q0 q1 q2 q3 q11 q15 q17 q27 q36 q39:Sp3):TS3 :=
 (seq3 (set3 2 (va0 q0 (xa0 (v3 1) (xa0 (c3 (.int 9)) nil3)))) (xf1 q0 q1 q2 q3 q11 q15 q17 q27 q36 q39))
noncomputable abbrev zu3 (q0 q1 q2 q3 q11 q15 q17 q27 q36 q39:Sp3):TS3 :=
 (seq3 (set3 1 (va0 q1 (xa0 (v3 0) (xa0 [6] nil3)))) (yf1 q0 q1 q2 q3 q11 q15 q17 q27 q36 q39))
end Pv
namespace Pv
open PySem PySem.Spec PyProof.Rows L2
section
variable {P:Program} {w:World} {K:Fg} {mg:[40]} {base:Heap}
theorem ta4:FnScope vp3 ["pen", "part"] (ua0 yh2):=[1]
theorem wy4:FnScope N_q6 ["picture"] (ua0 s_q6):=[1]
theorem yy4:FnScope N_q8 ["stroke"] (ua0 s_q8):=[1]
theorem yb4:FnScope sp3 ["stroke"] (ua0 wh2):=[1]
theorem ty3:FnScope zn3 ["point", "other"] (ua0 xf2):=[1]
theorem wz3:FnScope xo3 ["picture"] (ua0 uf2):=[1]
theorem za4:FnScope xp3 ["picture", "x", "y"] (ua0 vg2):=[1]
theorem ya4:FnScope to3 ["stroke", "x", "y"] (ua0 wg2):=[1]
theorem sx3:FnScope wm3 ["picture", "quarters"] (ua0 ye2):=[1]
theorem ux3:FnScope ym3 ["stroke", "quarters"] (ua0 sd2):=[1]
theorem tx3:FnScope zm3 ["point", "quarters"] (ua0 xe2):=[1]
theorem va4:FnScope zp3 ["picture"] (ua0 tg2):=[1]
theorem wa4:FnScope yp3 ["stroke"] (ua0 ug2):=[1]
theorem zz3:FnScope sn3 ["picture"] (ua0 vf2):=[1]
theorem uy3:FnScope yn3 ["picture"] (ua0 se2):=[1]
theorem yz3:FnScope tn3 ["stroke", "at", "seen"] (ua0 wf2):=[1]
theorem wy3:FnScope sm3 ["strokes", "seen"] (ua0 ue2):=[1]
theorem tz3:FnScope wo3 ["picture"] (ua0 xg2):=[1]
theorem yy3:FnScope um3 ["picture"] (ua0 we2):=[1]
theorem xy3:FnScope vm3 ["piece"] (ua0 ze2):=[1]
theorem wx3:FnScope sl3 ["links", "start"] (ua0 ud2):=[1]
theorem ua4:FnScope wp3 ["links"] (ua0 xh2):=[1]
theorem zy3:FnScope tm3 ["numbers", "used"] (ua0 ve2):=[1]
theorem uz3:FnScope zo3 ["link", "point"] (ua0 sf2):=[1]
theorem vz3:FnScope yo3 ["way", "first_bridge"] (ua0 tf2):=[1]
theorem xz3:FnScope vn3 ["picture"] (ua0 zf2):=[1]
theorem zy4:FnScope N_q7 ["box"] (ua0 s_q7):=[1]
theorem vy4:FnScope N_q5 ["box"] (ua0 s_q5):=[1]
theorem vy3:FnScope xn3 ["cell", "strokes", "unseen"] (ua0 te2):=[1]
theorem xa4:FnScope uo3 ["cell", "strokes"] (ua0 zg2):=[1]
theorem sy3:FnScope wn3 ["cell"] (ua0 yf2):=[1]
theorem sz3:FnScope vo3 ["rooms"] (ua0 yg2):=[1]
theorem vx3:FnScope xm3 ["picture"] (ua0 td2):=[1]
theorem uy4:FnScope N_q4 ["stroke"] (ua0 s_q4):=[1]
theorem xb4:FnScope tp3 ["picture"] (ua0 zh2):=[1]
theorem ty4:FnScope N_q3 ["picture"] (ua0 s_q3):=[1]
theorem xy4:FnScope N_q9 ["point", "other"] (ua0 s_q9):=[1]
theorem xz4:FnScope N_q1 ["script", "k"] (ua0 s_q1):=[1]
theorem sy4:FnScope N_q2 ["state", "many"] (ua0 s_q2):=[1]
theorem yz4:FnScope N_q0 ["state", "most"] (ua0 s_q0):=[1]
theorem sa4:FnScope up3 ["script"] (ua0 tw0):=[1]
local macro_rules | `([9001,$n,$x,$m,$t])=>`(∀ hr:Room k (A.deeper (envOfC $n (ua0 $x) s.heap.objs.size f cdv)),RSs (cxOf CX0 P w K mg base $m $n (ua0 $x) f cdv A outer s H E).nox (xd0 $x) $t)
local macro_rules | `([9002,$n,$x,$t])=>`(Cal P w K mg base k $n $x $t)
local macro_rules | `([9004,$t])=>`(∀ ⦃k:Nat⦄ {f:Addr} {cdv:Value} {A:Around} {outer:List Env} {s:Shared} {H:Hp} {E:XK},$t)
theorem xb0 :
 ([9004,∀ (g_AHEAD:Gd K mg "AHEAD" tt0),[9001, "led",yh2,vp3,(yu3)]] ∧
 [9004,∀ {q8:Sp3} (_:[9002, "check_stroke",["stroke"],q8]) (z_len:mg "len" = none) (z_range:mg "range" = none),[9001, "check_picture",s_q6,N_q6,(t_q6 q8)]] ∧
 [9004,∀ (z_len:mg "len" = none) (g_WAYS:Gd K mg "WAYS" vy0),[9001, "check_stroke",s_q8,N_q8,(t_q8)]] ∧
 [9004,[9001, "ends_of",wh2,sp3,(vu3)]] ∧
 [9004,∀ (z_min:mg "min" = none),[9001, "stroke_between",xf2,zn3,(vc2)]] ∧
 [9004,∀ {q10:Sp3} (_:[9002, "ends_of",["stroke"],q10]) (z_len:mg "len" = none) (z_max:mg "max" = none) (z_min:mg "min" = none),[9001, "picture_box",uf2,xo3,(vs3 q10)]] ∧
 [9004,∀ {q6:Sp3} (_:[9002, "check_picture",["picture"],q6]) {q18:Sp3} (_:[9002, "moved_stroke",["stroke", "x", "y"],q18]) (z_tuple:mg "tuple" = none),[9001, "moved_picture",vg2,xp3,(wt3 q6 q18)]] ∧
 [9004,[9001, "moved_stroke",wg2,to3,(zt3)]]) /\ ([9004,∀ {q6:Sp3} (_:[9002, "check_picture",["picture"],q6]) {q38:Sp3} (_:[9002, "turned_stroke",["stroke", "quarters"],q38]) (z_sorted:mg "sorted" = none) (z_tuple:mg "tuple" = none),[9001, "turned_picture",ye2,wm3,(yr3 q6 q38)]] ∧
 [9004,∀ {q10:Sp3} (_:[9002, "ends_of",["stroke"],q10]) {q29:Sp3} (_:[9002, "stroke_between",["point", "other"],q29]) {q37:Sp3} (_:[9002, "turned_point",["point", "quarters"],q37]),[9001, "turned_stroke",sd2,ym3,(sq3 q10 q29 q37)]] ∧
 [9004,∀ {q13:Sp3} (_:[9002, "led",["pen", "part"],q13]),[9001, "turned_point",xe2,zm3,(xr3 q13)]] ∧
 [9004,∀ {q6:Sp3} (_:[9002, "check_picture",["picture"],q6]) {q16:Sp3} (_:[9002, "mirrored_stroke",["stroke"],q16]) (z_sorted:mg "sorted" = none) (z_tuple:mg "tuple" = none),[9001, "mirrored_picture",tg2,zp3,(ut3 q6 q16)]] ∧
 [9004,∀ {q10:Sp3} (_:[9002, "ends_of",["stroke"],q10]) {q29:Sp3} (_:[9002, "stroke_between",["point", "other"],q29]),[9001, "mirrored_stroke",ug2,yp3,(vt3 q10 q29)]] ∧
 [9004,∀ {q6:Sp3} (_:[9002, "check_picture",["picture"],q6]) {q26:Sp3} (_:[9002, "piece_with",["stroke", "at", "seen"],q26]) {q30:Sp3} (_:[9002, "strokes_at",["picture"],q30]),[9001, "picture_pieces",vf2,sn3,(ws3 q6 q26 q30)]] ∧
 [9004,∀ {q10:Sp3} (_:[9002, "ends_of",["stroke"],q10]),[9001, "strokes_at",se2,yn3,(sr3 q10)]] ∧
 [9004,∀ {q10:Sp3} (_:[9002, "ends_of",["stroke"],q10]) {q32:Sp3} (_:[9002, "take_unseen",["strokes", "seen"],q32]) (z_len:mg "len" = none) (z_sorted:mg "sorted" = none) (z_tuple:mg "tuple" = none),[9001, "piece_with",wf2,tn3,(zs3 q10 q32)]]) /\ ([9004,[9001, "take_unseen",ue2,sm3,(ur3)]] ∧
 [9004,∀ {q6:Sp3} (_:[9002, "check_picture",["picture"],q6]) {q30:Sp3} (_:[9002, "strokes_at",["picture"],q30]) (z_len:mg "len" = none) (z_sorted:mg "sorted" = none),[9001, "odd_points",xg2,wo3,(ss3 q6 q30)]] ∧
 [9004,∀ {q25:Sp3} (_:[9002, "picture_pieces",["picture"],q25]) {q35:Sp3} (_:[9002, "trails_of_piece",["piece"],q35]),[9001, "trails_of",we2,um3,(wr3 q25 q35)]] ∧
 [9004,∀ {q10:Sp3} (_:[9002, "ends_of",["stroke"],q10]) {q21:Sp3} (_:[9002, "odd_points",["picture"],q21]) {q23:Sp3} (_:[9002, "parted_at_bridges",["way", "first_bridge"],q23]) {q40:Sp3} (_:[9002, "way_along",["links", "start"],q40]) (z_len:mg "len" = none) (z_range:mg "range" = none),[9001, "trails_of_piece",ze2,vm3,(zr3 q10 q21 q23 q40)]] ∧
 [9004,∀ {q14:Sp3} (_:[9002, "links_at",["links"],q14]) {q22:Sp3} (_:[9002, "other_end",["link", "point"],q22]) {q33:Sp3} (_:[9002, "take_unused",["numbers", "used"],q33]) (z_len:mg "len" = none),[9001, "way_along",ud2,sl3,(uq3 q14 q22 q33)]] ∧
 [9004,∀ (z_len:mg "len" = none) (z_range:mg "range" = none),[9001, "links_at",xh2,wp3,(xu3)]] ∧
 [9004,∀ (z_len:mg "len" = none),[9001, "take_unused",ve2,tm3,(vr3)]] ∧
 [9004,[9001, "other_end",sf2,zo3,(ts3)]]) /\ ([9004,∀ (z_len:mg "len" = none) (z_range:mg "range" = none),[9001, "parted_at_bridges",tf2,yo3,(us3)]] ∧
 [9004,∀ {q5:Sp3} (_:[9002, "cells_round",["box"],q5]) {q6:Sp3} (_:[9002, "check_picture",["picture"],q6]) {q7:Sp3} (_:[9002, "check_size",["box"],q7]) {q24:Sp3} (_:[9002, "picture_box",["picture"],q24]) {q31:Sp3} (_:[9002, "take_cells",["cell", "strokes", "unseen"],q31]) (z_dict:mg "dict" = none),[9001, "rooms_of",zf2,vn3,(ys3 q5 q6 q7 q24 q31)]] ∧
 [9004,∀ (g_MOST_CELLS:Gd K mg "MOST_CELLS" tg0),[9001, "check_size",s_q7,N_q7,(t_q7)]] ∧
 [9004,∀ (z_range:mg "range" = none),[9001, "cells_round",s_q5,N_q5,(t_q5)]] ∧
 [9004,∀ {q19:Sp3} (_:[9002, "neighbours_of",["cell", "strokes"],q19]) (z_len:mg "len" = none) (z_sorted:mg "sorted" = none),[9001, "take_cells",te2,xn3,(tr3 q19)]] ∧
 [9004,∀ {q28:Sp3} (_:[9002, "sides_of_cell",["cell"],q28]),[9001, "neighbours_of",zg2,uo3,(yt3 q28)]] ∧
 [9004,[9001, "sides_of_cell",yf2,wn3,(xs3)]] ∧
 [9004,∀ (z_len:mg "len" = none) (z_range:mg "range" = none),[9001, "numbers_of_cells",yg2,vo3,(xt3)]]) /\ ([9004,∀ {q4:Sp3} (_:[9002, "cells_beside",["stroke"],q4]) {q20:Sp3} (_:[9002, "numbers_of_cells",["rooms"],q20]) {q27:Sp3} (_:[9002, "rooms_of",["picture"],q27]) (z_tuple:mg "tuple" = none),[9001, "walls_of",td2,xm3,(tq3 q4 q20 q27)]] ∧
 [9004,[9001, "cells_beside",s_q4,N_q4,(t_q4)]] ∧
 [9004,∀ {q25:Sp3} (_:[9002, "picture_pieces",["picture"],q25]) {q30:Sp3} (_:[9002, "strokes_at",["picture"],q30]) (z_all:mg "all" = none) (z_len:mg "len" = none),[9001, "is_ring",zh2,tp3,(wu3 q25 q30)]] ∧
 [9004,∀ {q9:Sp3} (_:[9002, "crossed",["point", "other"],q9]) {q11:Sp3} (_:[9002, "is_ring",["picture"],q11]) {q34:Sp3} (_:[9002, "trails_of",["picture"],q34]) (z_abs:mg "abs" = none) (z_len:mg "len" = none) (z_range:mg "range" = none) (z_sum:mg "sum" = none),[9001, "area_of",s_q3,N_q3,(t_q3 q9 q11 q34)]] ∧
 [9004,[9001, "crossed",s_q9,N_q9,(t_q9)]] ∧
 [9004,∀ (z_len:mg "len" = none),[9001, "_law_state",s_q1,N_q1,(t_q1)]] ∧
 [9004,[9001, "_law_take",s_q2,N_q2,(t_q2)]] ∧
 [9004,∀ {q2:Sp3} (_:[9002, "_law_take",["state", "many"],q2]) (z_range:mg "range" = none) (z_set:mg "set" = none) (z_sorted:mg "sorted" = none) (z_tuple:mg "tuple" = none),[9001, "_law_lines",s_q0,N_q0,(t_q0 q2)]]) /\ ([9004,∀ {q0:Sp3} (_:[9002, "_law_lines",["state", "most"],q0]) {q1:Sp3} (_:[9002, "_law_state",["script", "k"],q1]) {q2:Sp3} (_:[9002, "_law_take",["state", "many"],q2]) {q3:Sp3} (_:[9002, "area_of",["picture"],q3]) {q11:Sp3} (_:[9002, "is_ring",["picture"],q11]) {q15:Sp3} (_:[9002, "mirrored_picture",["picture"],q15]) {q17:Sp3} (_:[9002, "moved_picture",["picture", "x", "y"],q17]) {q27:Sp3} (_:[9002, "rooms_of",["picture"],q27]) {q36:Sp3} (_:[9002, "turned_picture",["picture", "quarters"],q36]) {q39:Sp3} (_:[9002, "walls_of",["picture"],q39]) (z_len:mg "len" = none) (z_range:mg "range" = none) (z_sorted:mg "sorted" = none) (z_tuple:mg "tuple" = none),[9001, "law",tw0,up3,(zu3 q0 q1 q2 q3 q11 q15 q17 q27 q36 q39)]]):=by
 refine ⟨⟨?_,?_,?_,?_,?_,?_,?_,?_⟩,⟨?_,?_,?_,?_,?_,?_,?_,?_⟩,⟨?_,?_,?_,?_,?_,?_,?_,?_⟩,⟨?_,?_,?_,?_,?_,?_,?_,?_⟩,⟨?_,?_,?_,?_,?_,?_,?_,?_⟩,?_⟩ <;> intros <;> repeat' first
  | (with_reducible show RS _ (.Assign _ (.ListComp _ [⟨.Name "stroke" _,_,_,_⟩] _ _) _) _); refine zg1 (by (conv=>(arg 1; whnf)); decide +kernel) (NN:=["stroke"]) (by decide +kernel) (by decide +kernel) (by decide +kernel) ?_ [20] [20] [20]
  | (with_reducible show RE _ (.ListComp _ [⟨.Name "point" _,_,_,_⟩] _ _) _); refine yn0 (NN:=["point"]) (by decide +kernel) (by decide +kernel) (by decide +kernel) ?_ (λ _ _ _ _ _=>?_) [20] [20]
  | (with_reducible show RE _ (.ListComp _ [⟨.Name "stroke" _,_,_,_⟩] _ _) _); refine wf0 (NN:=["stroke", "x", "y"]) (js:=[none,some 1,some 2]) rfl yg0 ?_ (λ _ _ _ _ _=>?_) [20] [20] (by intro _; rfl)
  | (with_reducible show RE _ (.ListComp _ [⟨.Name "stroke" _,_,_,_⟩] _ _) _); refine wf0 (NN:=["stroke", "quarters"]) (js:=[none,some 1]) rfl yg0 ?_ (λ _ _ _ _ _=>?_) [20] [20] (by intro _; rfl)
  | (with_reducible show RE _ (.ListComp _ [⟨.Name "stroke" _,_,_,_⟩] _ _) _); refine yn0 (NN:=["stroke"]) (by decide +kernel) (by decide +kernel) (by decide +kernel) ?_ (λ _ _ _ _ _=>?_) [20] [20]
  | (with_reducible show RS _ (.Assign _ (.ListComp _ [⟨.Name "stroke" _,_,_,_⟩] _ _) _) _); refine xm0 (by (conv=>(arg 1; whnf)); decide +kernel) (NN:=["stroke", "seen"]) (js:=[none,some 1]) rfl yg0 ?_ [20] [20] [20] (by intro _; rfl)
  | (with_reducible show RE _ (.ListComp _ [⟨.Name "point" _,_,_,_⟩] _ _) _); refine wf0 (NN:=["point", "at"]) (js:=[none,some 1]) rfl yg0 ?_ (λ _ _ _ _ _=>?_) [20] [20] (by intro _; rfl)
  | (with_reducible show RS _ (.Assign _ (.ListComp _ [⟨.Name "place" _,_,_,_⟩] _ _) _) _); refine xm0 (by (conv=>(arg 1; whnf)); decide +kernel) (NN:=["place", "odd"]) (js:=[none,some 1]) rfl yg0 ?_ [20] [20] [20] (by intro _; rfl)
  | (with_reducible show RE _ (.ListComp _ [⟨.Name "cell" _,_,_,_⟩] _ _) _); refine yn0 (NN:=["cell"]) (by decide +kernel) (by decide +kernel) (by decide +kernel) ?_ (λ _ _ _ _ _=>?_) [20] [20]
  | (with_reducible show RE _ (.ListComp _ [⟨.Name "y" _,_,_,_⟩] _ _) _); refine wf0 (NN:=["y", "x"]) (js:=[none,some 2]) rfl yg0 ?_ (λ _ _ _ _ _=>?_) [20] [20] (by intro _; rfl)
  | (with_reducible show RE _ (.ListComp _ [⟨.Name "side" _,_,_,_⟩] _ _) _); refine wf0 (NN:=["side", "strokes"]) (js:=[none,some 1]) rfl yg0 ?_ (λ _ _ _ _ _=>?_) [20] [20] (by intro _; rfl)
  | (with_reducible show RS _ (.Assign _ (.ListComp _ [⟨.Name "room" _,_,_,_⟩] _ _) _) _); refine zg1 (by (conv=>(arg 1; whnf)); decide +kernel) (NN:=["room"]) (by decide +kernel) (by decide +kernel) (by decide +kernel) ?_ [20] [20] [20]
  | (with_reducible show RS _ (.Assign _ (.ListComp _ [⟨.Name "cell" _,_,_,_⟩] _ _) _) _); refine xm0 (by (conv=>(arg 1; whnf)); decide +kernel) (NN:=["cell", "numbers"]) (js:=[none,some 2]) rfl yg0 ?_ [20] [20] [20] (by intro _; rfl)
  | (with_reducible show RE _ (.ListComp _ [⟨.Name "strokes" _,_,_,_⟩] _ _) _); refine yn0 (NN:=["strokes"]) (by decide +kernel) (by decide +kernel) (by decide +kernel) ?_ (λ _ _ _ _ _=>?_) [20] [20]
  | (with_reducible show RE _ (.ListComp _ [⟨.Name "place" _,_,_,_⟩] _ _) _); refine wf0 (NN:=["place", "points"]) (js:=[none,some 1]) rfl yg0 ?_ (λ _ _ _ _ _=>?_) [20] [20] (by intro _; rfl)
  | (with_reducible show RE _ (.ListComp _ [⟨.Name "room" _,_,_,_⟩] _ _) _); refine yn0 (NN:=["room"]) (by decide +kernel) (by decide +kernel) (by decide +kernel) ?_ (λ _ _ _ _ _=>?_) [20] [20]
  | (with_reducible show RE _ _ (v3 _)); exact yd4 _
  | (with_reducible show RE _ _ (c3 (D.int _))); exact xe4
  | (with_reducible show RE _ _ (o3 ixR _ _)); refine xe5 q_ix ?_ ?_
  | (with_reducible show RE _ _ (o3 mulR _ _)); refine uk1 tg5 ?_ ?_
  | (with_reducible show RE _ _ (o3 addR _ _)); refine uk1 uh5 ?_ ?_
  | (with_reducible show RE _ _ (o3 subR _ _)); refine uk1 wg5 ?_ ?_
  | (with_reducible show RE _ _ (o3 modR _ _)); refine uk1 sg5 ?_ ?_
  | (with_reducible show RA _ _ nil3); exact zx0
  | (with_reducible show RA _ _ (xa0 _ _)); refine ug0 ?_ ?_
  | (with_reducible show RE _ _ (tup3 _)); refine zd4 ?_
  | (with_reducible show RS _ _ (ret3 _)); refine zc4 ?_
  | (with_reducible show RSs _ _ (seq3 _ _)); refine vh2 ?_ ?_
  | (with_reducible show RI _ _ _ (is3 _)); refine tc4 ?_
  | (with_reducible show RG _ _ (gn3 _)); exact yb3 (by (conv=>(arg 1; whnf)); decide +kernel)
  | (with_reducible show RS _ _ (wc0 _)); refine ta3 ?_
  | (with_reducible show RS _ _ (for3 _ _ _)); refine wc4 PassesOwn.never rfl ?_ ?_ ?_
  | (with_reducible show RE _ _ (va0 lenR _)); refine zd0 xh5 [27] zu4 ?_
  | (with_reducible show RI _ _ _ (ir23 (xa0 _ (xa0 _ nil3)))); refine xq1 [27] ?_ ?_
  | (with_reducible show RT _ _ (b3 (o3 ge3R _ _))); refine vg0 (zh5 (hu64 [27])) ?_ ?_
  | (with_reducible show RS _ _ tx0); exact th2
  | (with_reducible show RSs _ _ ud0); exact ua3
  | (with_reducible show RS _ _ (ifs3 _ _ _)); refine vd5 ?_ ?_ ?_
  | (with_reducible show RT _ _ (b3 (o3 neR _ _))); refine vg0 (q_ne (hu64 [27])) ?_ ?_
  | (with_reducible show RT _ _ (b3 (o3 (inR true) _ _))); refine vg0 (xc3 (hu65 [27])) ?_ ?_
  | (with_reducible show RW _ _ (or3 _ _)); refine wd5 ?_ ?_
  | (with_reducible show RT _ _ (b3 (o3 eqR _ _))); refine vg0 (q_eq (hu64 [27])) ?_ ?_
  | (with_reducible show RE _ _ (va0 minQ _)); refine zd0 (xj4 rfl (hu64 [27])) [27] sv2 ?_
  | (with_reducible show RE _ _ (if3 _ _ _)); refine ye5 ?_ ?_ ?_
  | (with_reducible show RE _ _ (c3 D.non)); exact td4
  | (with_reducible show RTs _ _ tt3); exact za3
  | (with_reducible show RE _ _ (va0 zc1 _)); refine zd0 (yj4 rfl) [27] sv2 ?_
  | (with_reducible show RE _ _ (va0 wc1 _)); refine zd0 (zj4 rfl) [27] yu4 ?_
  | (with_reducible show RE _ _ (va0 tupR _)); refine yx0 tb3 [27] yp2 ?_
  | (with_reducible show RE _ _ (va0 srtR _)); refine zd0 yj2 [27] uj0 ?_
  | (with_reducible show RE _ _ (un3 negR _)); refine ud5 ug5 ?_
  | (with_reducible show RE _ _ dnl3); exact ye4
  | (with_reducible show RE _ _ (lst3 _)); refine sd4 ?_
  | (with_reducible show RT _ _ (b3 (o3 (dinR true) _ _))); refine vg0 (uj4 (hu64 [27])) ?_ ?_
  | (with_reducible show RE _ _ (mt3 appR _ _)); refine uq1 ?_ ?_
  | (with_reducible show RE _ _ (sdf3 _ _)); refine td5 (hu64 [27]) ?_ ?_
  | (with_reducible show RE _ _ (c3 (D.bl _))); exact we5
  | (with_reducible show RS _ _ (ya1 _ _ _)); refine sa3 (hu64 [27]) ?_ ?_ ?_
  | (with_reducible show RT _ _ (b3 (o3 ltR _ _))); refine vg0 q_lt ?_ ?_
  | (with_reducible show RE _ _ (o3 dgR _ _)); refine ze5 (hu64 [27]) ?_ ?_
  | (with_reducible show RE _ _ (mt3 extR _ _)); refine vq1 ?_ ?_
  | (with_reducible show RS _ _ (so0 _ _)); refine uh2 PassesOwn.never ?_ ?_
  | (with_reducible show RI _ _ _ (isd3 _)); refine sc4 ?_
  | (with_reducible show RE _ _ (va0 yw0 _)); refine zd0 yr1 [27] uj0 ?_
  | (with_reducible show RI _ _ _ (irS3 (xa0 _ (xa0 _ (xa0 _ nil3))))); refine sp1 [27] ?_ ?_ ?_
  | (with_reducible show RT _ _ (b3 (o3 gtR _ _))); refine vg0 q_gt ?_ ?_
  | (with_reducible show RE _ _ dnk3); exact ze4
  | (with_reducible show RT _ _ (b3 (o3 (isNR false) _ _))); refine vg0 yh5 ?_ ?_
  | (with_reducible show RE _ _ (pop3 _)); refine wd4 ?_
  | (with_reducible show RS _ _ (yj1 _ _ _)); refine sh2 (hu64 [27]) ?_ ?_ ?_
  | (with_reducible show RI _ _ _ (ir3 (xa0 _ nil3))); refine yq1 [27] ?_
  | (with_reducible show RT _ _ (b3 (o3 (uy1 true) _ _))); refine vg0 (yc3 (hu64 [27])) ?_ ?_
  | (with_reducible show RT _ _ (b3 (o3 geR _ _))); refine vg0 q_ge ?_ ?_
  | (with_reducible show RE _ _ (va0 dolR _)); refine yx0 (wh5 (hu64 [27])) [27] wl3 ?_
  | (with_reducible show RT _ _ (b3 (o3 (dinR false) _ _))); refine vg0 (tj4 (hu64 [27])) ?_ ?_
  | (with_reducible show RE _ _ (dm3 true _ _)); refine we4 PySem.F.slot_dict_pop PySem.F.type_dict_pop (mtDp (hu1 [27])) ?_ ?_
  | (with_reducible show RE _ _ (dm3 false _ _)); refine we4 slot_dict_get PySem.F.type_dict_get (mtDg (hu1 [27])) ?_ ?_
  | (with_reducible show RT _ _ (b3 (o3 (isNR true) _ _))); refine vg0 zj2 ?_ ?_
  | (with_reducible show RI _ _ _ (isv3 _)); refine uc4 ?_
  | (with_reducible show RE _ _ (o3 eqR _ _)); refine ve4 (q_eq (hu64 [27])) ?_ ?_
  | (with_reducible show RE _ _ (va0 allR _)); refine zd0 vh5 [27] wu4 ?_
  | (with_reducible show RT _ _ (not3 _)); refine xc4 ?_
  | (with_reducible show RE _ _ (va0 sumR _)); refine zd0 zg5 [27] tt4 ?_
  | (with_reducible show RE _ _ (va0 absR _)); refine zd0 th5 [27] vu4 ?_
  | (with_reducible show RE _ _ (o3 xm1 _ _)); refine uk1 wj4 ?_ ?_
  | (with_reducible show RE _ _ (o3 powR _ _)); refine uk1 vg5 ?_ ?_
  | (with_reducible show RW _ _ (and3 _ _)); refine wb4 ?_ ?_
  | (with_reducible show RG _ _ (sub3 _ _)); refine xd4 ?_ ?_
  | (with_reducible show RS _ _ (asg3 _ _)); refine vc4 ?_ ?_
  | (with_reducible show REs _ _ (vy2 (xa0 _ nil3))); refine wa3 ?_ [27] (hu64 [27])
  | (with_reducible show RE _ _ (uy2 _)); refine zb3 ?_ [27]
  | (with_reducible show RE _ _ (va0 vs0 _)); refine zd0 sb3 [27] uj0 ?_
  | (with_reducible show RE _ _ (zg3 _)); refine ud4 ?_
  | (with_reducible show RE _ _ (ul3 _ _)); refine te4 ?_ ?_
  | (with_reducible show RE _ _ (orV3 _ _)); refine sd5 ?_ ?_
  | (with_reducible show RE _ _ (c3 _)); exact re_g [27]
  | (with_reducible show RS _ _ (set3 _ _)); refine yc4 (by (conv=>(arg 1; whnf)); decide +kernel) ?_
  | (with_reducible show RE _ _ (va0 _ _)); refine wb3 [27] [27] ?_
  | (with_reducible show RT _ _ (b3 _)); refine sb4 ?_
  | (with_reducible show RSs _ _ _); refine va3 ?_
  | (with_reducible show RW _ _ _); refine zb4 ?_
  | (with_reducible show RT _ _ _); refine zd5 ?_
  | (with_reducible show RTs _ _ _); refine ya3 ?_
  | (with_reducible show RW _ _ _); refine xa3 ?_
  | (with_reducible show RE _ _ _); refine vd4 ?_
end
end Pv
namespace Mw
noncomputable abbrev Pen:=Int × Int × Int
noncomputable def cs (h:Int):Int:=if h=0 then 1 else if h=2 then -1 else 0
noncomputable def sn (h:Int):Int:=if h=1 then 1 else if h=3 then -1 else 0
noncomputable def led (p q:Pen):Pen:=(p.1 + q.1 * cs p.2.2 - q.2.1 * sn p.2.2,p.2.1 + q.1 * sn p.2.2 + q.2.1 * cs p.2.2,(p.2.2 + q.2.2) % 4)
noncomputable def st:Pen:=(0,0,0)
noncomputable def Hd (p:Pen):Prop:=p.2.2=0 \/ p.2.2=1 \/ p.2.2=2 \/ p.2.2=3
noncomputable def pw (p:Pen):Nat->Pen
 | 0=>st
 | n + 1=>led (pw p n) p
noncomputable def rep (p:Pen) (n:Int):Pen:=if p.2.2=0 then (p.1 * n,p.2.1 * n,0) else pw p (n % 4).toNat
inductive Dd where
 | go (n:Int) | jump (n:Int) | turn (n:Int) | times (n:Int) (w:List Dd)
noncomputable def G:Int:=99999999999999999999
mutual
noncomputable def sk:Dd->Int
 | .go n=>n
 | .times n w=>n * sks w
 | _=>0
noncomputable def sks:List Dd->Int
 | []=>0
 | d :: r=>sk d + sks r
end
mutual
noncomputable def dn:Dd->Int
 | .times n w=>n * dns w
 | _=>1
noncomputable def dns:List Dd->Int
 | []=>0
 | d :: r=>dn d + dns r
end
mutual
noncomputable def pd:Dd->Pen
 | .go n=>(n,0,0)
 | .jump n=>(n,0,0)
 | .turn n=>(0,0,n % 4)
 | .times n w=>rep (pb w) n
noncomputable def pb:List Dd->Pen
 | []=>st
 | d :: r=>led (pd d) (pb r)
end
noncomputable def bd (c e:Nat):Int:=(c:Int) * G ^ (e + 1)
end Mw
namespace Mw
noncomputable def ab (x:Int):Int:=if x < 0 then -x else x
noncomputable def pm (p:Pen):Int:=max (ab p.1) (ab p.2.1)
end Mw
namespace Pv
noncomputable abbrev Pt:=Int × Int
noncomputable def e0 (s:T3):Pt:=(s.1,s.2.1)
noncomputable def e1 (s:T3):Pt:=(s.1 + 1 - s.2.2,s.2.1 + s.2.2)
theorem e_ne (s:T3):e0 s ≠ e1 s:=λ h=>by
 unfold e0 e1 at h
 simp_all;omega
noncomputable def has (p:Pt) (s:T3):Bool:=decide (e0 s=p) || decide (e1 s=p)
theorem ui1 (s:T3):has (e0 s) s=true:=by unfold has; simp
theorem vi1 (s:T3):has (e1 s) s=true:=by unfold has; simp
theorem xo0 {p:Pt} {s:T3} (h:has p s=true):p=e0 s \/ p=e1 s:=by
 unfold has at h;rw [Bool.or_eq_true,decide_eq_true_eq,decide_eq_true_eq] at h;exact h.imp Eq.symm Eq.symm
noncomputable def tch (a b:T3):Prop:=∃ p,has p a=true /\ has p b=true
theorem tch.symm {a b:T3} (h:tch a b):tch b a:=let ⟨p,x,y⟩:=h; ⟨p,y,x⟩
noncomputable def deg (ts:List T3) (p:Pt):Nat:=ts.countP (has p)
inductive Conn (ts:List T3) (a:T3):T3->Prop
 | refl:Conn ts a a
 | step {b c:T3}:Conn ts a b->c ∈ ts->tch b c->Conn ts a c
variable {ts u:List T3}
theorem Conn.cl {a b:T3} (hu:∀ x ∈ u,∀ c ∈ ts,tch x c->c ∈ u) (ha:a ∈ u) (h:Conn ts a b):b ∈ u:=by
 induction h with
 | refl=>exact ha
 | step _ hc ht ih=>exact hu _ ih _ hc ht
theorem Conn.trans {a b c:T3} (h:Conn ts a b) (k:Conn ts b c):Conn ts a c:=by
 induction k with
 | refl=>exact h
 | step _ hc ht ih=>exact .step ih hc ht
theorem Conn.symm {ts:List T3} {a b:T3} (ha:a ∈ ts) (h:Conn ts a b):Conn ts b a:=by
 have key:∀ {b},Conn ts a b->b ∈ ts /\ Conn ts b a:=by
  intro b h
  induction h with
  | refl=>exact ⟨ha,.refl⟩
  | step _ hc ht ih=>exact ⟨hc,(Conn.step .refl ih.1 ht.symm).trans ih.2⟩
 exact (key h).2
theorem up4 {a b:T3} (h:le3 a b) (k:le3 b a):a=b:=by
 obtain ⟨x1,x2,x3⟩:=a;obtain ⟨y1,y2,y3⟩:=b;simp only [le3,lt3,Bool.or_eq_false_iff,Bool.and_eq_false_iff,decide_eq_false_iff_not,beq_eq_false_iff_ne,ne_eq] at h k
 simp_all;omega
theorem uq {us vs:List T3} (a1:us.Perm vs) (a2:us.Pairwise le3) (a3:vs.Pairwise le3):us=vs:=List.Perm.eq_of_pairwise (λ a b _ _ h k=>up4 h k) a2 a3 a1
structure IsP (ts:List T3) (us:List (List T3)):Prop where
 perm:us.flatten.Perm ts
 ne:∀ u ∈ us,u ≠ []
 up:∀ u ∈ us,u.Pairwise le3
 cl:∀ u ∈ us,∀ a ∈ u,∀ c ∈ ts,tch a c->c ∈ u
 co:∀ u ∈ us,∀ a ∈ u,∀ b ∈ u,Conn ts a b
variable {us:List (List T3)}
theorem IsP.mem (h:IsP ts us) (hu:u ∈ us) {a:T3} (ha:a ∈ u):a ∈ ts:=h.perm.mem_iff.mp (List.mem_flatten.mpr ⟨u,hu,ha⟩)
theorem IsP.two (hn:ts.Nodup) (h:IsP ts us):(∀ u ∈ us,u.Nodup) /\ us.Pairwise (λ u v=>∀ x,x ∈ u->∀ y,y ∈ v->x ≠ y):=List.pairwise_flatten.mp (h.perm.nodup_iff.mpr hn)
end Pv
namespace Pv
section
variable {α β:Type}
noncomputable def su (f:α->Int):List α->Int
 | []=>0
 | a :: r=>f a + su f r
theorem vb1 {f:α->Int} {l m:List α} (h:l.Perm m):su f l=su f m:=by
 induction h with
 | nil=>rfl
 | cons _ _ ih=>simp only [su,ih]
 | swap=>simp only [su]; omega
 | trans _ _ a b=>exact a.trans b
theorem sd0 {f g:α->Int}:∀ {l:List α},(∀ a ∈ l,f a=g a)->su f l=su g l
 | [],_=>rfl
 | a :: r,h=>by simp only [su,h a (.head _),sd0 λ b hb=>h b (.tail _ hb)]
theorem vo1 {f:α->Int} {m:List α}:∀ {l:List α},su f (l ++ m)=su f l + su f m
 | []=>by simp [su]
 | a :: r=>by simp only [List.cons_append,su,vo1 (l:=r)]; omega
theorem wo1 {f:β->Int} {g:α->β}:∀ {l:List α},su f (l.map g)=su (λ a=>f (g a)) l
 | []=>rfl
 | a :: r=>by simp only [map_cons,su,wo1 (l:=r)]
theorem uv3 {f:β->Int} {g:α->List β}:∀ {l:List α},su f (l.flatMap g)=su (λ a=>su f (g a)) l
 | []=>rfl
 | a :: r=>by rw [List.flatMap_cons,vo1,uv3 (l:=r)]; rfl
theorem yp0 {f g h:α->Int} {c:Int}:∀ {l:List α},(∀ a ∈ l,f a=g a + c * h a)->su f l=su g l + c * su h l
 | [],_=>by simp [su]
 | a :: r,e=>by
  simp only [su,e a (.head _),yp0 λ b hb=>e b (.tail _ hb),Int.mul_add];omega
theorem wv3 [DecidableEq α] {f:α->Int} {l m:List α} (nl:l.Nodup) (nm:m.Nodup) (h1:∀ a ∈ m,a ∈ l) (h2:∀ a ∈ l,a ∉ m->f a=0):su f l=su f m:=by
 have p:(l.filter (λ a=>decide (a ∈ m))).Perm m:=(List.perm_ext_iff_of_nodup (nl.filter _) nm).mpr λ a=>by
  rw [mem_filter,decide_eq_true_eq]; exact ⟨λ h=>h.2,λ h=>⟨h1 a h,h⟩⟩
 rw [<- vb1 p];clear p nl nm h1
 induction l with
 | nil=>rfl
 | cons a r ih =>
  have ih:=ih λ b hb=>h2 b (.tail _ hb);rw [filter_cons];by_cases c:a ∈ m
  ·rw [if_pos (decide_eq_true c)]; simp only [su,ih]
  ·rw [if_neg (by simpa using c)]; simp only [su,ih,h2 a (.head _) c]; omega
end
noncomputable def crs (p q:Pt):Int:=p.1 * q.2 - p.2 * q.1
noncomputable def sm (F:Pt->Pt->Int):List Pt->Int
 | a :: b :: r=>F a b + sm F (b :: r)
 | _=>0
noncomputable def Jn (t:T3) (a b:Pt):Prop:=(a=e0 t /\ b=e1 t) \/ (a=e1 t /\ b=e0 t)
inductive Wl:List Pt->List T3->Prop
 | one {a:Pt}:Wl [a] []
 | cons {a b:Pt} {r:List Pt} {t:T3} {ts:List T3}:Jn t a b->Wl (b :: r) ts->Wl (a :: b :: r) (t :: ts)
variable {ps:List Pt} {L:List T3}
theorem Wl.sum (h:Wl ps L):L.Nodup->∃ σ:T3->Int,(∀ t ∈ L,σ t=1 \/ σ t = -1) /\ ∀ F:Pt->Pt->Int,(∀ p q,F q p = - F p q)->sm F ps=su (λ t=>σ t * F (e0 t) (e1 t)) L:=by
 induction h with
 | one=>exact λ _=>⟨λ _=>1,(λ _ h=>nomatch h),λ _ _=>rfl⟩
 | @cons a b r t ts j w ih =>
  intro nd;rw [nodup_cons] at nd;obtain ⟨σ,s1,s2⟩:=ih nd.2;refine ⟨λ u=>if u=t then (if a=e0 t then 1 else -1) else σ u,λ u hu=>?_,λ F hF=>?_⟩
  ·by_cases c:u=t
   ·simp only [if_pos c]; split
    ·exact .inl rfl
    ·exact .inr rfl
   ·simp only [if_neg c];exact s1 u ((List.mem_cons.mp hu).resolve_left c)
  ·have e:su (λ u=>(if u=t then (if a=e0 t then (1:Int) else -1) else σ u) * F (e0 u) (e1 u)) ts=su (λ u=>σ u * F (e0 u) (e1 u)) ts:=sd0 λ u hu=>by
     rw [if_neg];intro z; subst z; exact nd.1 hu
   show F a b + sm F (b :: r)=(if t=t then (if a=e0 t then (1:Int) else -1) else σ t) * F (e0 t) (e1 t) + su _ ts;rw [e,s2 F hF,if_pos rfl];rcases j with ⟨rfl,rfl⟩ | ⟨rfl,rfl⟩
   ·rw [if_pos rfl,Int.one_mul]
   ·rw [if_neg (Ne.symm (e_ne t)),hF (e0 t) (e1 t)]; omega
theorem tr2 (g:Pt->Int):∀ (r:List Pt) (a:Pt),∃ z,(a :: r).getLast?=some z /\ sm (λ p q=>g q - g p) (a :: r)=g z - g a
 | [],a=>⟨a,rfl,by simp [sm]⟩
 | b :: r,a=>by
  obtain ⟨z,h1,h2⟩:=tr2 g r b;refine ⟨z,by rw [List.getLast?_cons_cons]; exact h1,?_⟩;simp only [sm,h2]; omega
noncomputable def ind (v p:Pt):Int:=if p=v then 1 else 0
theorem xt1 {σ:T3->Int} {v:Pt}:∀ {L:List T3},(∀ t ∈ L,σ t=1 \/ σ t = -1)->(su (λ t=>σ t * (ind v (e1 t) - ind v (e0 t))) L - (deg L v:Nat)) % 2=0
 | [],_=>rfl
 | t :: L,h=>by
  have ih:=xt1 (v:=v) λ u hu=>h u (.tail _ hu);have n:=e_ne t
  have e:(deg (t :: L) v:Int)=(deg L v:Nat) + (if has v t=true then 1 else 0:Int):=by
   unfold deg; rw [List.countP_cons]; split <;> simp
  show (σ t * (ind v (e1 t) - ind v (e0 t)) + su _ L - _) % 2=0;rw [e];have:has v t=true ↔ e0 t=v \/ e1 t=v:=by unfold has; simp
  unfold ind at ih ⊢;by_cases c0:e0 t=v
  ·have c1:¬ e1 t=v:=λ z=>n (c0.trans z.symm);rw [if_neg c1,if_pos c0,if_pos (this.mpr (.inl c0))];rcases h t (.head _) with s | s <;> rw [s] <;> omega
  ·by_cases c1:e1 t=v
   ·rw [if_pos c1,if_neg c0,if_pos (this.mpr (.inr c1))];rcases h t (.head _) with s | s <;> rw [s] <;> omega
   ·rw [if_neg c1,if_neg c0,if_neg (λ z=>(this.mp z).elim c0 c1)];omega
structure Fw (ts:List T3) (σ:T3->Int):Prop where
 sg:∀ t ∈ ts,σ t=1 \/ σ t = -1
 cl:∀ g:Pt->Int,su (λ t=>σ t * (g (e1 t) - g (e0 t))) ts=0
noncomputable def ar (ts:List T3) (σ:T3->Int):Int:=su (λ t=>σ t * crs (e0 t) (e1 t)) ts
variable {ts:List T3}
theorem Wl.fw (h:Wl ps L) (nd:ts.Nodup) (p:L.Perm ts) (ev:∀ v,deg ts v % 2=0):∃ σ,Fw ts σ /\ sm crs ps=ar ts σ:=by
 obtain ⟨σ,s1,s2⟩:=h.sum (p.nodup_iff.mpr nd);have s1':∀ t ∈ ts,σ t=1 \/ σ t = -1:=λ t ht=>s1 t (p.mem_iff.mpr ht)
 obtain ⟨a,r,rfl⟩:∃ a r,ps=a :: r:=by cases h with
  | one=>exact ⟨_,_,rfl⟩
  | cons _ _=>exact ⟨_,_,rfl⟩
 have tel:∀ g:Pt->Int,∃ z,(a :: r).getLast?=some z /\ su (λ t=>σ t * (g (e1 t) - g (e0 t))) ts=g z - g a:=λ g=>by
  obtain ⟨z,h1,h2⟩:=tr2 g r a;exact ⟨z,h1,by rw [<- h2,s2 (λ p q=>g q - g p) (λ p q=>by omega),vb1 p]⟩
 refine ⟨σ,⟨s1',λ g=>?_⟩,?_⟩
 ·obtain ⟨z,h1,h2⟩:=tel (ind a);have q:=xt1 (v:=a) s1';rw [h2] at q;have:=ev a
  have e:z=a:=by
   unfold ind at q;rw [if_pos rfl] at q;by_cases c:z=a
   ·exact c
   ·rw [if_neg c] at q; omega
  obtain ⟨z',h3,h4⟩:=tel g;rw [h1] at h3; cases h3;rw [h4,e]; omega
 ·rw [s2 crs (λ p q=>by unfold crs; rw [Int.mul_comm q.1,Int.mul_comm q.2]; omega),vb1 p]; rfl
noncomputable def cnd (p:Pt):List T3:=[(p.1,p.2,0),(p.1 - 1,p.2,0),(p.1,p.2,1),(p.1,p.2 - 1,1)]
theorem td1 {p:Pt} {t:T3} (hw:t.2.2=0 \/ t.2.2=1):has p t=true ↔ t ∈ cnd p:=by
 obtain ⟨x,y,w⟩:=t;obtain ⟨a,b⟩:=p;unfold has e0 e1 cnd;simp only [Bool.or_eq_true,decide_eq_true_eq,Prod.mk.injEq,mem_cons,not_mem_nil,or_false];have hw:w=0 \/ w=1:=hw;rcases hw with rfl | rfl
 ·exact ⟨λ h=>h.elim (λ h=>.inl ⟨h.1,h.2,rfl⟩) λ h=>.inr (.inl ⟨by omega,by omega,rfl⟩),λ h=>h.elim (λ h=>.inl ⟨h.1,h.2.1⟩) λ h=>.inr (h.elim (λ h=>by omega) λ h=>h.elim (λ h=>absurd h.2.2 [19]) λ h=>absurd h.2.2 [19])⟩
 ·exact ⟨λ h=>.inr (.inr (h.elim (λ h=>.inl ⟨h.1,h.2,rfl⟩) λ h=>.inr ⟨by omega,by omega,rfl⟩)),λ h=>h.elim (λ h=>absurd h.2.2 [19]) λ h=>h.elim (λ h=>absurd h.2.2 [19]) λ h=>h.elim (λ h=>.inl ⟨h.1,h.2.1⟩) λ h=>.inr [2]⟩
theorem ss2 {us:List (List T3)} (nd:ts.Nodup) (ip:IsP ts us) (ne:ts ≠ []):us.length=1 ↔ ∀ a ∈ ts,∀ b ∈ ts,Conn ts a b:=by
 constructor
 ·intro h a ha b hb;obtain ⟨u,rfl⟩:=List.length_eq_one_iff.mp h;have pm:u.Perm ts:=by have:=ip.perm; rwa [List.flatten_cons,List.flatten_nil,append_nil] at this
  exact ip.co u [10] a (pm.mem_iff.mpr ha) b (pm.mem_iff.mpr hb)
 ·intro h;have tw:=(ip.two nd).2
  match us,ip,tw with
  | [],ip,_=>exact absurd (List.Perm.eq_nil ip.perm.symm) ne
  | [u],_,_=>rfl
  | u :: v :: r,ip,tw =>
   obtain ⟨a,ha⟩:=List.exists_mem_of_ne_nil u (ip.ne u [10]);obtain ⟨b,hb⟩:=List.exists_mem_of_ne_nil v (ip.ne v [10]);have z:b ∈ u:=(h a (ip.mem [10] ha) b (ip.mem [10] hb)).cl (ip.cl u [10]) ha;rw [List.pairwise_cons] at tw;exact absurd rfl (tw.1 v [10] b z b hb)
noncomputable def Rg (ts:List T3):Prop:=ts ≠ [] /\ (∀ a ∈ ts,∀ b ∈ ts,Conn ts a b) /\ ∀ p,(∃ s ∈ ts,has p s=true)->deg ts p=2
theorem xb3 (h:Rg ts):∀ p,deg ts p % 2=0:=λ p=>by
 by_cases c:∃ s ∈ ts,has p s=true
 ·rw [h.2.2 p c]
 ·have:deg ts p=0:=by
    unfold deg;rw [List.countP_eq_zero];exact λ s hs z=>c ⟨s,hs,z⟩
  rw [this]
noncomputable def Nr (ts:List T3):Prop:=∀ t ∈ ts,(-1000 < t.1 /\ t.1 < 1000) /\ -1000 < t.2.1 /\ t.2.1 < 1000
end Pv
namespace Pv
open PySem
noncomputable abbrev Lk2:=Pt × Pt
noncomputable abbrev Wt:=Pt × Option Nat
noncomputable def jn (l:Lk2) (p q:Pt):Prop:=(l.1=p /\ l.2=q) \/ (l.1=q /\ l.2=p)
noncomputable def ic (l:Lk2) (p:Pt):Prop:=l.1=p \/ l.2=p
noncomputable def oth (l:Lk2) (p:Pt):Pt:=if l.1=p then l.2 else l.1
theorem zu2 {l:Lk2} {p:Pt} (h:ic l p):jn l p (oth l p):=by
 unfold oth;split
 ·next e=>exact .inl ⟨e,rfl⟩
 ·next e=>exact .inr ⟨rfl,h.resolve_left e⟩
noncomputable def upF (rem:Pt->List Nat) (p:Pt) (l:List Nat):Pt->List Nat:=λ q=>if q=p then l else rem q
inductive Rch (L:List Lk2) (s:Pt) (r0:Pt->List Nat):(Pt->List Nat)->List Nat->List Wt->List Wt->Prop
 | init:Rch L s r0 r0 [] [(s,none)] []
 | pop {rem:Pt->List Nat} {U:List Nat} {st way:List Wt} {w:Wt} (h:Rch L s r0 rem U (st ++ [w]) way) (ha:∀ n ∈ rem w.1,n ∈ U):Rch L s r0 (upF rem w.1 []) U st (way ++ [w])
 | push {rem:Pt->List Nat} {U r z:List Nat} {n:Nat} {l:Lk2} {st way:List Wt} {w:Wt} (h:Rch L s r0 rem U (st ++ [w]) way) (e:rem w.1=r ++ n :: z) (hn:n ∉ U) (hz:∀ m ∈ z,m ∈ U) (hl:L[n]?=some l) :
     Rch L s r0 (upF rem w.1 r) (U ++ [n]) (st ++ [w] ++ [(oth l w.1,some n)]) way
structure Wk (L:List Lk2) (s:Pt) (rem:Pt->List Nat) (U:List Nat) (st way:List Wt):Prop where
 nd:U.Nodup
 us:∀ n ∈ U,n < L.length
 rm:∀ p n,n ∈ rem p->∃ l,L[n]?=some l /\ ic l p
 pt:∀ w ∈ st ++ way,∃ l ∈ L,ic l w.1
 ln:st.length + way.length=U.length + 1
 bt:(st=[] /\ ∃ ws,way=ws ++ [(s,none)] /\ ∀ w ∈ ws,∃ n,w.2=some n) \/ (∃ rs,st=(s,none) :: rs /\ (∀ w ∈ rs,∃ n,w.2=some n) /\ ∀ w ∈ way,∃ n,w.2=some n)
variable {L:List Lk2} {s:Pt} {rem:Pt->List Nat} {U:List Nat}
theorem Wk.small {st way:List Wt} (h:Wk L s rem U st way):U.length<=L.length:=by
 have:=List.Nodup.length_le_of_subset (l₂:=List.range L.length) h.nd λ n hn=>List.mem_range.mpr (h.us n hn);simpa using this
variable {n:Nat}
theorem yn1 {p q:Pt} {l:List Nat} (h:n ∈ upF rem p l q) (k:∀ m ∈ l,m ∈ rem p):n ∈ rem q:=by
 unfold upF at h;split at h
 ·simp_all
 ·exact h
theorem Rch.wk {r0:Pt->List Nat} {st way:List Wt} (h:Rch L s r0 rem U st way) (hs:∃ l ∈ L,ic l s) (h0:∀ p n,n ∈ r0 p->∃ l,L[n]?=some l /\ ic l p):Wk L s rem U st way:=by
 induction h with
 | init=>exact ⟨nodup_nil,λ _ h=>(nomatch h),h0,λ w hw=>by simp_all,rfl,.inr ⟨[],rfl,λ _ h=>(nomatch h),λ _ h=>(nomatch h)⟩⟩
 | @pop rem U st way w h ha ih =>
  refine ⟨ih.nd,ih.us,λ p n hn=>ih.rm p n (yn1 hn λ _ h=>(nomatch h)),λ x hx=>ih.pt x ?_,?_,?_⟩
  ·simp only [mem_append,mem_singleton] at hx ⊢;rcases hx with h | h | h
   ·exact .inl (.inl h)
   ·exact .inr h
   simp_all
  ·have:=ih.ln; simp_all;omega
  ·rcases ih.bt with ⟨e,_⟩ | ⟨rs,e,a,b⟩
   ·simp at e
   ·cases st with
    | nil =>
     simp_all;omega
    | cons x st =>
     simp only [List.cons_append,List.cons.injEq] at e;obtain ⟨rfl,rfl⟩:=e;refine .inr ⟨st,rfl,λ y hy=>a y (mem_append_left _ hy),λ y hy=>?_⟩;rcases List.mem_append.mp hy with z | z
     ·exact b y z
     simp [*]
 | @push rem U r z n l st way w h e hn hz hl ih =>
  have hnl:n < L.length:=(List.getElem?_eq_some_iff.mp hl).1;obtain ⟨l',e',hi⟩:=ih.rm w.1 n (by rw [e]; simp);rw [hl] at e'; cases e';refine ⟨?_,λ m hm=>?_,λ p m hm=>ih.rm p m (yn1 hm λ k hk=>by simp_all),λ x hx=>?_,?_,?_⟩
  ·rw [nodup_append];exact ⟨ih.nd,by simp,λ a ha b hb z=>by simp_all⟩
  ·rcases List.mem_append.mp hm with z | z
   ·exact ih.us m z
   simp_all
  ·simp only [mem_append,mem_singleton] at hx;rcases hx with ((h | h) | h) | h
   ·exact ih.pt x (by simp [h])
   ·exact ih.pt x (by simp [h])
   ·subst h;refine ⟨l,mem_of_getElem? hl,?_⟩;rcases zu2 hi with ⟨_,b⟩ | ⟨a,_⟩
    ·exact .inr b
    ·exact .inl a
   ·exact ih.pt x (by simp [h])
  ·have:=ih.ln; simp_all;omega
  ·rcases ih.bt with ⟨e,_⟩ | ⟨rs,e,a,b⟩
   ·simp at e
   ·refine .inr ⟨rs ++ [(oth l w.1,some n)],by rw [e]; rfl,λ y hy=>?_,b⟩;rcases List.mem_append.mp hy with z | z
    ·exact a y z
    simp_all
noncomputable def ChG (L:List Lk2) (g:Pt):List Wt->Prop
 | []=>True
 | [w]=>∃ n l,w.2=some n /\ L[n]?=some l /\ jn l w.1 g
 | w :: w' :: r=>(∃ n l,w.2=some n /\ L[n]?=some l /\ jn l w.1 w'.1) /\ ChG L g (w' :: r)
theorem ChG.snoc {L:List Lk2} {g g':Pt} {w:Wt} {n:Nat} {l:Lk2} (e:w.2=some n) (hl:L[n]?=some l) (hj:jn l w.1 g'):∀ {ws:List Wt},ChG L g ws->(ws ≠ []->w.1=g)->ChG L g' (ws ++ [w])
 | [],_,_=>⟨n,l,e,hl,hj⟩
 | [x],h,hg=>by
  obtain ⟨m,k,e1,e2,e3⟩:=h;refine ⟨⟨m,k,e1,e2,?_⟩,n,l,e,hl,hj⟩
  simp_all
 | x :: y :: r,h,hg=>⟨h.1,ChG.snoc e hl hj (ws:=y :: r) h.2 λ _=>hg [10]⟩
inductive StC (L:List Lk2) (s:Pt):List Wt->Prop
 | one:StC L s [(s,none)]
 | snoc {st:List Wt} {w:Wt} {q:Pt} {n:Nat} {l:Lk2} (h:StC L s (st ++ [w])) (hl:L[n]?=some l) (hj:jn l w.1 q):StC L s (st ++ [w] ++ [(q,some n)])
theorem StC.inv {st:List Wt} {w:Wt} (h:StC L s (st ++ [w])):(st=[] /\ w=(s,none)) \/ ∃ st' w' n l,st=st' ++ [w'] /\ w.2=some n /\ L[n]?=some l /\ jn l w'.1 w.1 /\ StC L s st:=by
 generalize e:st ++ [w]=x at h;cases h with
 | one =>
  have e2:st ++ [w]=[] ++ [(s,none)]:=e;obtain ⟨a,b⟩:=append_inj' e2 rfl
  simp_all
 | @snoc st1 w1 q n l h hl hj =>
  obtain ⟨a,b⟩:=append_inj' e rfl;simp only [List.cons.injEq,and_true] at b;subst a b;exact .inr ⟨st1,w1,n,l,rfl,rfl,hl,hj,h⟩
noncomputable def isc (L:List Lk2) (v:Pt) (n:Nat):Bool:=match L[n]? with
 | some l=>decide (l.1=v \/ l.2=v)
 | none=>false
variable {x:Nat}
theorem par1 {P:Prop} (h:(x + 1) % 2=1 ↔ ¬ P):x % 2=1 ↔ P:=by
 rcases Classical.em P with c | c
 ·simp_all;omega
 simp_all;omega
theorem par2 {P:Prop} (h:(x + 1) % 2=1 ↔ P):x % 2=1 ↔ ¬ P:=by
 rcases Classical.em P with c | c
 ·simp_all;omega
 simp_all;omega
noncomputable def unu (L:List Lk2) (U:List Nat):List Nat:=(List.range L.length).filter λ n=>decide (n ∉ U)
noncomputable def cU (L:List Lk2) (U:List Nat) (v:Pt):Nat:=(unu L U).countP (isc L v)
theorem unu_mem:n ∈ unu L U ↔ n < L.length /\ n ∉ U:=by
 unfold unu; simp
theorem tq2 (L:List Lk2) (U:List Nat):(unu L U).Nodup:=List.nodup_range.filter _
variable {v:Pt}
theorem xw1 {l:Lk2} (h:L[n]?=some l):isc L v n=true ↔ Pv.ic l v:=by
 unfold isc Pv.ic
 simp_all
theorem zl3 (hn:n < L.length) (hU:n ∉ U) (v:Pt):cU L U v=cU L (U ++ [n]) v + if isc L v n=true then 1 else 0:=by
 have hp:(unu L U).Perm (n :: unu L (U ++ [n])):=by
  refine (List.perm_ext_iff_of_nodup (tq2 _ _) ?_).mpr λ m=>?_
  ·rw [nodup_cons];exact ⟨λ h=>(unu_mem.mp h).2 [10],tq2 _ _⟩
  ·rw [mem_cons,unu_mem,unu_mem];simp only [mem_append,mem_singleton,not_or];constructor
   ·simp_all;omega
   ·rintro (rfl | ⟨a,b,_⟩)
    ·exact ⟨hn,hU⟩
    ·exact ⟨a,b⟩
 unfold cU;rw [hp.countP_eq,List.countP_cons]
theorem yl3 (h:∀ n l,L[n]?=some l->Pv.ic l v->n ∈ U):cU L U v=0:=by
 unfold cU;rw [List.countP_eq_zero];intro n hn c;obtain ⟨a,b⟩:=unu_mem.mp hn;have e:L[n]?=some (L[n]'a):=getElem?_eq_getElem a;exact b (h n _ e ((xw1 e).mp c))
noncomputable def Odd (L:List Lk2) (U:List Nat) (a g:Pt):Prop:=∀ v,cU L U v % 2=1 ↔ ¬ (v=a ↔ v=g)
structure Hz (L:List Lk2) (s g0:Pt) (rem:Pt->List Nat) (U:List Nat) (st way:List Wt):Prop where
 fl:∀ n l,L[n]?=some l->n ∉ U->∀ p,ic l p->n ∈ rem p
 num:((st ++ way).filterMap (·.2)).Perm U
 dn:∀ w ∈ way,∀ n l,L[n]?=some l->ic l w.1->n ∈ U
 hd:∀ w,way.head?=some w->w.1=g0
 go:∀ st' w,st=st' ++ [w]->StC L s st /\ ∃ g,ChG L g way /\ (way=[]->g=g0) /\ Odd L U w.1 g
 en:st=[]->∃ ws,way=ws ++ [(s,none)] /\ ChG L s ws
theorem Rch.hz {L:List Lk2} {s g0:Pt} {r0 rem:Pt->List Nat} {U:List Nat} {st way:List Wt} (hL:∀ l ∈ L,l.1 ≠ l.2) (hs:∃ l ∈ L,ic l s) (h0:∀ p n,n ∈ r0 p->∃ l,L[n]?=some l /\ ic l p) (h1:∀ n l p,L[n]?=some l->ic l p->n ∈ r0 p) (ho:Odd L [] s g0) (h:Rch L s r0 rem U st way):Hz L s g0 rem U st way:=by
 induction h with
 | init =>
  refine ⟨λ n l e _ p hp=>h1 n l p e hp,by simp,λ _ h=>(nomatch h),λ _ h=>(nomatch h),λ st' w e=>?_,λ e=>(nomatch e)⟩;have e2:[] ++ [(s,none)]=st' ++ [w]:=e;obtain ⟨a,b⟩:=append_inj' e2 rfl;simp only [List.cons.injEq,and_true] at b;subst b;exact ⟨.one,g0,trivial,λ _=>rfl,ho⟩
 | @pop rem U st way w h ha ih =>
  obtain ⟨sc,g,cg,cg0,od⟩:=ih.go st w rfl
  have al:∀ n l,L[n]?=some l->ic l w.1->n ∈ U:=λ n l e hi=>by
   rcases Classical.em (n ∈ U) with c | c
   ·exact c
   ·exact ha n (ih.fl n l e c w.1 hi)
  have wg:w.1=g:=by
   have z:=od w.1;rw [yl3 al] at z
   simp_all
  refine ⟨λ n l e c p hp=>?_,?_,λ x hx=>?_,λ x hx=>?_,λ st' w' e=>?_,λ e=>?_⟩
  ·unfold upF;split
   ·next z=>subst z; exact absurd (al n l e hp) c
   ·exact ih.fl n l e c p hp
  ·refine List.Perm.trans (List.Perm.filterMap _ ?_) ih.num;rw [append_assoc];exact List.Perm.append_left st perm_append_comm
  ·rcases List.mem_append.mp hx with z | z
   ·exact ih.dn x z
   simp_all;omega
  ·cases way with
   | nil=>simp_all
   | cons y r=>exact ih.hd x (by simpa using hx)
  ·subst e;rcases sc.inv with ⟨e,_⟩ | ⟨st2,w2,n,l,e,en,el,hj,sc2⟩
   ·simp at e
   ·obtain ⟨_,b⟩:=append_inj' e rfl;simp only [List.cons.injEq,and_true] at b;subst b;have hj2:jn l w.1 w'.1:=hj.elim (λ ⟨a,b⟩=>.inr ⟨a,b⟩) (λ ⟨a,b⟩=>.inl ⟨a,b⟩);refine ⟨sc2,w'.1,cg.snoc en el hj2 (λ _=>wg),λ z=>by simp at z,λ v=>?_⟩;have z:=od v
    simp_all
  ·subst e;rcases sc.inv with ⟨_,e⟩ | ⟨st2,w2,n,l,e,_⟩
   ·simp_all
   ·simp at e
 | @push rem U r z n l st way w h e hn hz hl ih =>
  obtain ⟨sc,g,cg,cg0,od⟩:=ih.go st w rfl;obtain ⟨l',e',hi⟩:=(h.wk hs h0).rm w.1 n (by rw [e]; simp);rw [hl] at e'; cases e';have hnl:n < L.length:=(List.getElem?_eq_some_iff.mp hl).1;have hj:=zu2 hi;have hne:=hL l (mem_of_getElem? hl);refine ⟨λ m k em c p hp=>?_,?_,λ x hx m k em hk=>mem_append_left _ (ih.dn x hx m k em hk),ih.hd,λ st' w' e2=>?_,λ e2=>by simp at e2⟩
  ·have c1:m ∉ U:=λ z=>c (mem_append_left _ z);have c2:m ≠ n:=λ z=>c (by rw [z]; simp);have hm:=ih.fl m k em c1 p hp;unfold upF;split
   ·next z =>
    subst z;rw [e] at hm;rcases List.mem_append.mp hm with y | y
    ·exact y
    simp_all
   ·exact hm
  ·have p1:((st ++ [w] ++ [(oth l w.1,some n)]) ++ way).Perm ([(oth l w.1,some n)] ++ ((st ++ [w]) ++ way)):=by
     rw [<- append_assoc];exact List.Perm.append_right way perm_append_comm
   refine List.Perm.trans (List.Perm.filterMap _ p1) ?_;rw [List.filterMap_append];exact (List.Perm.append_left _ ih.num).trans perm_append_comm
  ·obtain ⟨_,b⟩:=append_inj' e2 rfl;simp only [List.cons.injEq,and_true] at b;subst b;refine ⟨.snoc sc hl hj,g,cg,cg0,λ v=>?_⟩;have z:=od v;rw [zl3 hnl hn v] at z;have iv:=xw1 (v:=v) hl
   have hwq:w.1 ≠ oth l w.1:=by
    rcases hj with ⟨a,b⟩ | ⟨a,b⟩
    ·simp_all
    ·rw [<- b,show oth l l.2=l.1 by simp_all]; exact Ne.symm hne
   have ivq:ic l v ↔ v=w.1 \/ v=oth l w.1:=by
    unfold ic;rcases hj with ⟨a,b⟩ | ⟨a,b⟩
    ·rw [a,b]; exact ⟨λ h=>h.imp Eq.symm Eq.symm,λ h=>h.imp Eq.symm Eq.symm⟩
    ·rw [a,b]; exact ⟨λ h=>(h.imp Eq.symm Eq.symm).symm,λ h=>(h.imp Eq.symm Eq.symm).symm⟩
   show cU L (U ++ [n]) v % 2=1 ↔ ¬ (v=oth l w.1 ↔ v=g);rcases Classical.em (isc L v n=true) with c | c
   ·rw [if_pos c] at z;rcases ivq.mp (iv.mp c) with c1 | c1
    ·have c2:¬ v=oth l w.1:=λ y=>hwq (c1.symm.trans y);simp only [c1,true_iff] at z;rw [<- c1] at z;simp only [c2,false_iff,Classical.not_not];exact par1 z
    ·have c2:¬ v=w.1:=λ y=>hwq (y.symm.trans c1);simp only [c2,false_iff,Classical.not_not] at z;rw [<- c1];simp only [true_iff];exact par2 z
   simp_all
end Pv
namespace Pv
noncomputable def sds (c:Pt):List (Pt × T3):=[((c.1 + 1,c.2),(c.1 + 1,c.2,1)),((c.1,c.2 + 1),(c.1,c.2 + 1,0)),((c.1 - 1,c.2),(c.1,c.2,1)),((c.1,c.2 - 1),(c.1,c.2,0))]
noncomputable def nxt (B:T3->Prop) (c d:Pt):Prop:=∃ s,(d,s) ∈ sds c /\ ¬ B s
variable {B:T3->Prop} {x y:Int}
theorem xt2 {d:Pt} (h:nxt B (x,y) d):(d=(x + 1,y) /\ ¬ B (x + 1,y,1)) \/ (d=(x,y + 1) /\ ¬ B (x,y + 1,0)) \/ (d=(x - 1,y) /\ ¬ B (x,y,1)) \/ (d=(x,y - 1) /\ ¬ B (x,y,0)):=by
 obtain ⟨s,h,b⟩:=h;simp only [sds,mem_cons,Prod.mk.injEq,not_mem_nil,or_false] at h;rcases h with ⟨rfl,rfl⟩ | ⟨rfl,rfl⟩ | ⟨rfl,rfl⟩ | ⟨rfl,rfl⟩
 ·simp_all
 ·simp_all
 ·simp_all
 simp_all
theorem yg3 (h:¬ B (x + 1,y,1)):nxt B (x,y) (x + 1,y):=⟨_,.head _,h⟩
theorem xg3 (h:¬ B (x,y + 1,0)):nxt B (x,y) (x,y + 1):=⟨_,.tail _ (.head _),h⟩
theorem xl2 (h:¬ B (x,y,1)):nxt B (x,y) (x - 1,y):=⟨_,.tail _ (.tail _ (.head _)),h⟩
theorem sf3 (h:¬ B (x,y,0)):nxt B (x,y) (x,y - 1):=⟨_,.tail _ (.tail _ (.tail _ (.head _))),h⟩
variable {c:Pt}
theorem yj0 {d:Pt} (h:nxt B c d):nxt B d c:=by
 obtain ⟨x,y⟩:=c;rcases xt2 h with ⟨rfl,b⟩ | ⟨rfl,b⟩ | ⟨rfl,b⟩ | ⟨rfl,b⟩
 ·have:=xl2 b; simp_all
 ·have:=sf3 b; simp_all
 ·have:=yg3 (B:=B) (x:=x - 1) (y:=y) [16]; simp_all
 ·have:=xg3 (B:=B) (x:=x) (y:=y - 1) [16]; simp_all
inductive Cn (B:T3->Prop) (c:Pt):Pt->Prop
 | refl:Cn B c c
 | step {d e:Pt}:Cn B c d->nxt B d e->Cn B c e
theorem Cn.trans {d e:Pt} (h:Cn B c d) (g:Cn B d e):Cn B c e:=by
 induction g with
 | refl=>exact h
 | step _ n ih=>exact ih.step n
theorem Cn.symm {d:Pt} (h:Cn B c d):Cn B d c:=by
 induction h with
 | refl=>exact .refl
 | step _ n ih=>exact (Cn.refl.step (yj0 n)).trans ih
structure Fr (B:T3->Prop) (xa ya xb yb:Int):Prop where
 h:∀ x y,B (x,y,0)->xa < x /\ x < xb - 1 /\ ya < y /\ y<=yb - 1
 v:∀ x y,B (x,y,1)->xa < x /\ x<=xb - 1 /\ ya < y /\ y < yb - 1
noncomputable def inF (xa ya xb yb:Int) (c:Pt):Prop:=xa<=c.1 /\ c.1 < xb /\ ya<=c.2 /\ c.2 < yb
noncomputable def cl (a b x:Int):Int:=if x < a then a else if b<=x then b - 1 else x
theorem vo2 {a b:Int} (h:a<=x) (g:x < b):cl a b x=x:=by unfold cl; omega
theorem cl_s (a b x:Int) (h:a < b):cl a b (x + 1)=cl a b x \/ (cl a b x=x /\ cl a b (x + 1)=x + 1):=by
 unfold cl;omega
theorem uv2 {a b:Int} (h:a < b):(a<=x /\ x < b /\ cl a b x=x) \/ cl a b x=a \/ cl a b x=b - 1:=by
 unfold cl;omega
variable {xa ya xb yb:Int}
theorem cl_e (F:Fr B xa ya xb yb) (hx:xa < xb) (hy:ya < yb) (b:¬ B (x + 1,y,1)):(cl xa xb (x + 1),cl ya yb y)=(cl xa xb x,cl ya yb y) \/ nxt B (cl xa xb x,cl ya yb y) (cl xa xb (x + 1),cl ya yb y):=by
 rcases cl_s xa xb x hx with e | ⟨e1,e2⟩
 ·left; rw [e]
 ·right;rw [e1,e2];refine yg3 λ z=>?_;have:=F.v _ _ z;rcases uv2 (x:=y) hy with ⟨_,_,e⟩ | e | e
  ·simp_all
  ·omega
  omega
theorem cl_n (F:Fr B xa ya xb yb) (hx:xa < xb) (hy:ya < yb) (b:¬ B (x,y + 1,0)):(cl xa xb x,cl ya yb (y + 1))=(cl xa xb x,cl ya yb y) \/ nxt B (cl xa xb x,cl ya yb y) (cl xa xb x,cl ya yb (y + 1)):=by
 rcases cl_s ya yb y hy with e | ⟨e1,e2⟩
 ·left; rw [e]
 ·right;rw [e1,e2];refine xg3 λ z=>?_;have:=F.h _ _ z;rcases uv2 (x:=x) hx with ⟨_,_,e⟩ | e | e
  ·simp_all
  ·omega
  omega
theorem xl3 {d:Pt} (F:Fr B xa ya xb yb) (hx:xa < xb) (hy:ya < yb) (h:nxt B c d):(cl xa xb d.1,cl ya yb d.2)=(cl xa xb c.1,cl ya yb c.2) \/ nxt B (cl xa xb c.1,cl ya yb c.2) (cl xa xb d.1,cl ya yb d.2):=by
 obtain ⟨x,y⟩:=c;rcases xt2 h with ⟨rfl,b⟩ | ⟨rfl,b⟩ | ⟨rfl,b⟩ | ⟨rfl,b⟩
 ·exact cl_e F hx hy b
 ·exact cl_n F hx hy b
 ·have:=cl_e (x:=x - 1) (y:=y) F hx hy [16];rw [Int.sub_add_cancel] at this;exact this.imp Eq.symm yj0
 ·have:=cl_n (x:=x) (y:=y - 1) F hx hy [16];rw [Int.sub_add_cancel] at this;exact this.imp Eq.symm yj0
theorem yl0 {a b:Int} (h:a < b):a<=cl a b x /\ cl a b x < b:=by unfold cl; omega
theorem closed {P:Pt->Prop} (F:Fr B xa ya xb yb) (hx:xa < xb) (hy:ya < yb) (H:∀ c d,P c->inF xa ya xb yb c->inF xa ya xb yb d->nxt B c d->P d) {d:Pt} (hc:inF xa ya xb yb c) (hd:inF xa ya xb yb d) (p:P c) (h:Cn B c d):P d:=by
 have key:P (cl xa xb d.1,cl ya yb d.2):=by
  clear hd
  induction h with
  | refl=>rw [vo2 hc.1 hc.2.1,vo2 hc.2.2.1 hc.2.2.2]; exact p
  | step _ n ih =>
   rcases xl3 F hx hy n with e | e
   ·rw [e]; exact ih
   ·exact H _ _ ih ⟨(yl0 hx).1,(yl0 hx).2,(yl0 hy).1,(yl0 hy).2⟩ ⟨(yl0 hx).1,(yl0 hx).2,(yl0 hy).1,(yl0 hy).2⟩ e
 rwa [vo2 hd.1 hd.2.1,vo2 hd.2.2.1 hd.2.2.2] at key
theorem upCn {B:T3->Prop} {x:Int} (h:∀ y,¬ B (x,y,0)) (y:Int):∀ n:Nat,Cn B (x,y) (x,y + n)
 | 0=>by rw [Int.natCast_zero,Int.add_zero]; exact .refl
 | n + 1=>by
  have:=xg3 (h (y + n + 1));rw [Int.natCast_succ,<- Int.add_assoc];exact (upCn h y n).step this
theorem rgCn {B:T3->Prop} {y:Int} (h:∀ x,¬ B (x,y,1)) (x:Int):∀ n:Nat,Cn B (x,y) (x + n,y)
 | 0=>by rw [Int.natCast_zero,Int.add_zero]; exact .refl
 | n + 1=>by
  have:=yg3 (h (x + n + 1));rw [Int.natCast_succ,<- Int.add_assoc];exact (rgCn h x n).step this
theorem uj1 (h:∀ y,¬ B (x,y,0)) (y z:Int):Cn B (x,y) (x,z):=by
 by_cases c:y<=z
 ·have:=upCn h y (z - y).toNat; rwa [show y + ((z - y).toNat:Int)=z by omega] at this
 ·have:=upCn h z (y - z).toNat; rw [show z + ((y - z).toNat:Int)=y by omega] at this; exact this.symm
theorem wg1 (h:∀ x,¬ B (x,y,1)) (x z:Int):Cn B (x,y) (z,y):=by
 by_cases c:x<=z
 ·have:=rgCn h x (z - x).toNat; rwa [show x + ((z - x).toNat:Int)=z by omega] at this
 ·have:=rgCn h z (x - z).toNat; rw [show z + ((x - z).toNat:Int)=x by omega] at this; exact this.symm
theorem outer (F:Fr B xa ya xb yb) (h:c.1<=xa \/ xb - 1<=c.1 \/ c.2<=ya \/ yb - 1<=c.2):Cn B (xa,ya) c:=by
 obtain ⟨x,y⟩:=c;dsimp only at h;have row:∀ x z,Cn B (x,ya) (z,ya):=wg1 λ x b=>by have:=F.v _ _ b; omega
 have col:∀ y z,Cn B (xa,y) (xa,z):=uj1 λ y b=>by have:=F.h _ _ b; omega
 by_cases c1:x<=xa \/ xb - 1<=x
 ·exact (row xa x).trans (uj1 (λ y b=>by have:=F.h _ _ b; omega) ya y)
 ·exact (col ya y).trans (wg1 (λ x b=>by have:=F.v _ _ b; omega) xa x)
structure IsRo (B:T3->Prop) (o:Pt) (L:List (List Pt)):Prop where
 srt:∀ r ∈ L,r.Pairwise (λ a b=>lt2 a b=true) /\ r ≠ []
 mem:∀ r ∈ L,∀ c ∈ r,¬ Cn B o c /\ ∀ d,d ∈ r ↔ Cn B c d
 asc:L.Pairwise λ r s=>lt2 (r.headD o) (s.headD o)=true
 cov:∀ c,¬ Cn B o c->∃ r ∈ L,c ∈ r
theorem xh0 {α:Type} {lt:α->α->Prop} (irr:∀ a,¬ lt a a) (tr:∀ a b c,lt a b->lt b c->lt a c):∀ {l m:List α},l.Pairwise lt->m.Pairwise lt->(∀ x,x ∈ l ↔ x ∈ m)->l=m
 | [],[],_,_,_=>rfl
 | [],b :: m,_,_,h=>nomatch (h b).mpr (.head _)
 | a :: l,[],_,_,h=>nomatch (h a).mp (.head _)
 | a :: l,b :: m,h1,h2,h=>by
  rw [List.pairwise_cons] at h1 h2
  have e:a=b:=by
   rcases List.mem_cons.mp ((h a).mp (.head _)) with e | e
   ·exact e
   ·rcases List.mem_cons.mp ((h b).mpr (.head _)) with e' | e'
    ·exact e'.symm
    ·exact absurd (tr _ _ _ (h1.1 _ e') (h2.1 _ e)) (irr _)
  subst e;congr 1;refine xh0 irr tr h1.2 h2.2 λ x=>⟨λ hx=>?_,λ hx=>?_⟩
  ·exact (List.mem_cons.mp ((h x).mp (.tail _ hx))).resolve_left λ z=>irr a (by have:=h1.1 _ hx; rwa [z] at this)
  ·exact (List.mem_cons.mp ((h x).mpr (.tail _ hx))).resolve_left λ z=>irr a (by have:=h2.1 _ hx; rwa [z] at this)
theorem uf0 (a:Pt):¬ lt2 a a=true:=by unfold lt2; simp
theorem wh1 (a b c:Pt) (h:lt2 a b=true) (g:lt2 b c=true):lt2 a c=true:=by
 unfold lt2 at *
 simp_all;omega
end Pv
namespace Pv
structure Fl (B:T3->Prop) (U:List Pt) (c:Pt) (ps:List Pt) (n:Nat):Prop where
 nd:ps.Nodup
 hd:c ∈ ps
 sub:∀ d ∈ ps,d ∈ U
 co:∀ d ∈ ps,Cn B c d
 cl:∀ (i:Nat) (h:i < ps.length),i < n->∀ e,nxt B ps[i] e->e ∈ U->e ∈ ps
variable {B:T3->Prop} {U:List Pt} {c:Pt}
theorem Fl.one (h:c ∈ U):Fl B U c [c] 0:=⟨(pairwise_singleton _ _),List.mem_singleton.mpr rfl,λ d hd=>by simp_all,λ d hd=>by rw [List.mem_singleton.mp hd]; exact .refl,λ i _ h=>absurd h (Nat.not_lt_zero _)⟩
variable {ps:List Pt} {n:Nat}
theorem Fl.add {d e:Pt} (F:Fl B U c ps n) (hn:n<=ps.length) (hd:d ∈ ps) (hx:nxt B d e) (hu:e ∈ U) (he:e ∉ ps):Fl B U c (ps ++ [e]) n:=by
 refine ⟨?_,mem_append_left _ F.hd,λ x hx=>?_,λ x hx'=>?_,λ i h h2 y hy hyu=>?_⟩
 ·rw [nodup_append];exact ⟨F.nd,(pairwise_singleton _ _),λ x hx y hy z=>he [16]⟩
 ·rcases List.mem_append.mp hx with h | h
  ·exact F.sub x h
  simp_all
 ·rcases List.mem_append.mp hx' with h | h
  ·exact F.co x h
  ·rw [List.mem_singleton.mp h]; exact (F.co d hd).step hx
 ·rw [List.getElem_append_left [2]] at hy;exact mem_append_left _ (F.cl i [2] h2 y hy hyu)
theorem Fl.next (F:Fl B U c ps n) (hn:n < ps.length) (h:∀ e,nxt B ps[n] e->e ∈ U->e ∈ ps):Fl B U c ps (n + 1) :=
 ⟨F.nd,F.hd,F.sub,F.co,λ i hi h2 e=>by
  by_cases c:i < n
  ·exact F.cl i hi c e
  ·have:i=n:=by omega
   simp_all⟩
theorem Fl.all (F:Fl B U c ps n) (hn:ps.length<=n) {d e:Pt} (hd:d ∈ ps) (hx:nxt B d e) (hu:e ∈ U):e ∈ ps:=by
 obtain ⟨i,hi,rfl⟩:=getElem_of_mem hd;exact F.cl i hi [2] e hx hu
theorem wh3 {a b:Pt} (h:lt2 a b=false) (ne:a ≠ b):lt2 b a=true:=by
 unfold lt2 at *;simp only [Bool.or_eq_true,Bool.and_eq_true,decide_eq_true_eq,beq_iff_eq,Bool.or_eq_false_iff,Bool.and_eq_false_iff,decide_eq_false_iff_not,beq_eq_false_iff_ne] at *
 have:a.1 ≠ b.1 \/ a.2 ≠ b.2:=by
  by_cases c:a.1=b.1
  ·exact .inr λ z=>ne (Prod.ext c z)
  ·exact .inl c
 omega
variable {us:List Pt}
theorem uv4 (h:us.Pairwise le2) (n:us.Nodup):us.Pairwise λ a b=>lt2 a b=true:=(h.and n).imp λ {a b} h=>by
 have h1:lt2 b a=false:=h.1;exact wh3 h1 (Ne.symm h.2)
structure Rm (B:T3->Prop) (G:List Pt) (o:Pt) (dn:List Pt) (L:List (List Pt)) (U:List Pt):Prop where
 un:∀ e,e ∈ U ↔ e ∈ G /\ ¬ Cn B o e /\ ∀ r ∈ L,e ∉ r
 srt:∀ r ∈ L,r.Pairwise (λ a b=>lt2 a b=true) /\ r ≠ []
 mem:∀ r ∈ L,∀ c ∈ r,¬ Cn B o c /\ ∀ d,d ∈ r ↔ Cn B c d
 asc:L.Pairwise λ r s=>lt2 (r.headD o) (s.headD o)=true
 hds:∀ r ∈ L,r.headD o ∈ dn
 dn:∀ e ∈ dn,e ∉ U
section
variable {xa ya xb yb:Int} {G dn:List Pt} {L:List (List Pt)}
theorem Rm.first (F:Fr B xa ya xb yb) (hx:xa < xb) (hy:ya < yb) (hG:∀ c,c ∈ G ↔ inF xa ya xb yb c) (f:Fl B G (xa,ya) ps n) (hn:ps.length<=n) (hU:∀ e,e ∈ U ↔ e ∈ G /\ e ∉ ps):Rm B G (xa,ya) [] [] U:=by
 refine ⟨λ e=>?_,(λ r h=>nomatch h),(λ r h=>nomatch h),List.Pairwise.nil,(λ r h=>nomatch h),(λ r h=>nomatch h)⟩;rw [hU];refine ⟨λ ⟨h1,h2⟩=>⟨h1,λ z=>h2 ?_,(λ r h=>nomatch h)⟩,λ ⟨h1,h2,_⟩=>⟨h1,λ z=>h2 (f.co e z)⟩⟩;exact closed (P:=λ d=>d ∈ ps) F hx hy (λ c d pc _ hd h=>f.all hn pc h ((hG d).mpr hd)) ((hG _).mp (f.sub _ f.hd)) ((hG e).mp h1) f.hd z
theorem ww1 (F:Fr B xa ya xb yb) (h:¬ Cn B (xa,ya) c):inF xa ya xb yb c:=by
 by_cases z:c.1<=xa \/ xb - 1<=c.1 \/ c.2<=ya \/ yb - 1<=c.2
 ·exact absurd (outer F z) h
 ·exact ⟨by omega,by omega,by omega,by omega⟩
theorem Rm.skip {o:Pt} (R:Rm B G o dn L U) (h:c ∉ U):Rm B G o (dn ++ [c]) L U :=
 ⟨R.un,R.srt,R.mem,R.asc,λ r hr=>mem_append_left _ (R.hds r hr),λ e he=>by
  rcases List.mem_append.mp he with he | he
  ·exact R.dn e he
  simp_all⟩
theorem Rm.take {rest U':List Pt} (F:Fr B xa ya xb yb) (hx:xa < xb) (hy:ya < yb) (hG:∀ c,c ∈ G ↔ inF xa ya xb yb c) (uG:G.Pairwise λ a b=>lt2 a b=true) (R:Rm B G (xa,ya) dn L U) (eG:dn ++ c :: rest=G)
    (f:Fl B U c ps n) (hn:ps.length<=n) (hp:us.Perm ps) (hs:us.Pairwise le2) (hU:∀ e,e ∈ U' ↔ e ∈ U /\ e ∉ ps):Rm B G (xa,ya) (dn ++ [c]) (L ++ [us]) U':=by
 have hc:c ∈ U:=f.sub c f.hd;have nc:=((R.un c).mp hc).2.1;have ul:=uv4 hs (hp.nodup_iff.mpr f.nd)
 have key:∀ d,d ∈ us ↔ Cn B c d:=λ d=>by
  rw [hp.mem_iff];refine ⟨f.co d,λ h=>?_⟩;have nd:¬ Cn B (xa,ya) d:=λ z=>nc (z.trans h.symm);refine closed (P:=λ d=>d ∈ ps) F hx hy (λ x y px _ hy' hxy=>?_) (ww1 F nc) (ww1 F nd) f.hd h;have hxU:=(R.un x).mp (f.sub x px);refine f.all hn px hxy ((R.un y).mpr ⟨(hG y).mpr hy',λ z=>hxU.2.1 (z.step (yj0 hxy)),λ r hr yr=>hxU.2.2 r hr ?_⟩);exact ((R.mem r hr y yr).2 x).mpr (Cn.refl.step (yj0 hxy))
 have hd:us.headD (xa,ya)=c:=by
  have hcu:c ∈ us:=(key c).mpr .refl;cases us with
  | nil=>cases hcu
  | cons a t =>
   show a=c;rcases List.mem_cons.mp hcu with e | e
   ·exact e.symm
   ·have h1:=(List.pairwise_cons.mp ul).1 c e;have ha:a ∈ U:=f.sub a (hp.mem_iff.mp (.head _));have hag:a ∈ dn ++ c :: rest:=by rw [eG]; exact ((R.un a).mp ha).1
    rcases List.mem_append.mp hag with h | h
    ·exact absurd ha (R.dn a h)
    ·rcases List.mem_cons.mp h with h | h
     ·exact h
     ·rw [<- eG,List.pairwise_append] at uG;have:=(List.pairwise_cons.mp uG.2.1).1 a h;exact absurd (wh1 _ _ _ h1 this) (uf0 _)
 refine ⟨λ e=>?_,λ r hr=>?_,λ r hr=>?_,?_,λ r hr=>?_,λ e he=>?_⟩
 ·rw [hU,R.un e];constructor
  ·rintro ⟨⟨h1,h2,h3⟩,h4⟩;refine ⟨h1,h2,λ r hr=>?_⟩;rcases List.mem_append.mp hr with hr | hr
   ·exact h3 r hr
   ·rw [List.mem_singleton.mp hr,hp.mem_iff]; exact h4
  ·rintro ⟨h1,h2,h3⟩;refine ⟨⟨h1,h2,λ r hr=>h3 r (mem_append_left _ hr)⟩,λ z=>h3 us (mem_append_right _ (List.mem_singleton.mpr rfl)) (hp.mem_iff.mpr z)⟩
 ·rcases List.mem_append.mp hr with hr | hr
  ·exact R.srt r hr
  ·rw [List.mem_singleton.mp hr];exact ⟨ul,λ z=>by have:=(key c).mpr .refl; simp_all⟩
 ·rcases List.mem_append.mp hr with hr | hr
  ·exact R.mem r hr
  ·rw [List.mem_singleton.mp hr];intro x hx';have hcx:=(key x).mp hx';exact ⟨λ z=>nc (z.trans hcx.symm),λ d=>(key d).trans ⟨λ h=>hcx.symm.trans h,λ h=>hcx.trans h⟩⟩
 ·rw [List.pairwise_append];refine ⟨R.asc,pairwise_singleton _ _,λ r hr s hs'=>?_⟩;rw [List.mem_singleton.mp hs',hd];rw [<- eG,List.pairwise_append] at uG;exact uG.2.2 _ (R.hds r hr) c (.head _)
 ·rcases List.mem_append.mp hr with hr | hr
  ·exact mem_append_left _ (R.hds r hr)
  simp_all
 ·rcases List.mem_append.mp he with he | he
  ·exact λ z=>R.dn e he ((hU e).mp z).1
  ·rw [List.mem_singleton.mp he]; exact λ z=>((hU c).mp z).2 f.hd
theorem Rm.last (F:Fr B xa ya xb yb) (hG:∀ c,c ∈ G ↔ inF xa ya xb yb c) (R:Rm B G (xa,ya) G L U):IsRo B (xa,ya) L:=by
 refine ⟨R.srt,R.mem,R.asc,λ c h=>?_⟩;have hg:=(hG c).mpr (ww1 F h);have:=R.dn c hg;rw [R.un] at this
 simp_all
end
end Pv
namespace Pv
open PySem Mw
variable {i:Int} {μ:Mu} {Q:VK3}
theorem vv1 {l:List D} {d:D} (e:atI l i=some d) (h:Q d μ):ixR (.tup l) (.int i) μ Q:=by
 unfold ixR
 simp_all
variable {p:Addr} {K:VK3}
theorem vc0 {l:List D} {d:D} (h:μ p=some (.lst l)) (e:atI l i=some d) (k:K d μ):ixR (.ref p) (.int i) μ K:=by
 unfold ixR
 simp_all
theorem ix_f {l:List D} {d:D} (e:atI l i=some d) (k:K d μ):ixR (.fls l) (.int i) μ K:=by
 unfold ixR
 simp_all
theorem z2:2<=sizeLine:=by decide
theorem z3:3<=sizeLine:=by decide
noncomputable def ye0:Sp3:=λ ds μ Q=>∃ (ns:List Int) (k:Int),ds=[.fls (ns.map D.int),.int k] /\ 0<=k /\ ∀ a b p,0<=a->μ p=none->Q (.ref p) (updM μ p (.lst [.int a,.int b]))
variable {o0:Option D}
theorem st_t {k:Int} (q:∀ a b p,0<=a->μ p=none->Q (.ref p) (updM μ p (.lst [.int a,.int b]))) :
    [46] { nx:=λ _ μ'=>Q .non μ',rt:=Q } [o0,some (.int k),some (.int i)] μ:=by
 have c:CPow 10 18:=⟨by decide,by decide,by decide⟩;refine ⟨c,?_⟩;show if decide ((10:Int) ^ (18:Int).toNat<=i)=true then _ else _;by_cases h:(10:Int) ^ (18:Int).toNat<=i
 ·rw [if_pos (decide_eq_true h)];exact ⟨c,z2,λ p hp=>q _ _ p [2] hp⟩
 ·rw [if_neg (λ z=>h (of_decide_eq_true z))];exact ⟨.inl (.inl [19]),(show (0:Int) < 2147483647 by decide),z2,λ p hp=>q _ _ p (Int.emod_nonneg _ [19]) hp⟩
noncomputable abbrev RdQ (s:Sp3) (t:TS3) (N:List Str):Prop:=∀ ds μ Q,s ds μ Q->t { nx:=λ _ μ'=>Q .non μ',rt:=Q } (sa0 N ds) μ
theorem vf5:RdQ ye0 t_q1 N_q1:=by
 rintro ds μ Q ⟨ns,k,rfl,hk,q⟩;show if decide (k < ((ns.map D.int).length:Int))=true then _ else _;by_cases h:k < ((ns.map D.int).length:Int)
 ·rw [if_pos (decide_eq_true h)];obtain ⟨d,hd,e⟩:=xv4 (l:=ns.map D.int) hk h;obtain ⟨i,_,rfl⟩:=List.mem_map.mp hd;exact ix_f e (st_t (o0:=some (.fls (ns.map D.int))) q)
 ·rw [if_neg (λ z=>h (of_decide_eq_true z))];exact st_t (o0:=some (.fls (ns.map D.int))) q
noncomputable def spTk:Sp3:=λ ds μ Q=>∃ (p:Addr) (m a b:Int),ds=[.ref p,.int m] /\ 0 < m /\ m < 2 ^ 80 /\ μ p=some (.lst [.int a,.int b]) /\ 0<=a ∧
 ∀ r a' b',0<=r->r < m->0<=a'->Q (.int r) (updM μ p (.lst [.int a',.int b']))
variable {j:Nat} {ρ:St3}
theorem yy2 {l:List D} {n:Nat} {d:D} {K:St3->Mu->Prop} (hp:getI ρ n=some (.ref p)) (h:μ p=some (.lst l)) (e:ixN l.length i=some j) (k:K ρ (updM μ p (.lst (l.set j d)))):sub3 (v3 n) (c3 (.int i)) d ρ μ K:=by
 unfold sub3 v3 c3
 simp_all
variable {o2:Option D}
theorem tk_t {m a b:Int} (h1:0 < m) (h3:μ p=some (.lst [.int a,.int b])) (q:∀ r a' b',0<=r->r < m->0<=a'->Q (.int r) (updM μ p (.lst [.int a',.int b']))) :
    (seq3 (asg3 [6] (sub3 (v3 0) [5])) [23]) { nx:=λ _ μ'=>Q .non μ',rt:=Q } [some (.ref p),some (.int m),o2,none] μ:=by
 have ix:∀ {a b:Int} {μ:Mu} {K:VK3},μ p=some (.lst [.int a,.int b])->K (.int a) μ->ixR (.ref p) (.int 0) μ K:=λ h k=>vc0 h atI0 k;show sub3 (v3 0) [5] (.int 0) [some (.ref p),some (.int m),o2,none] μ (λ ρ1 μ1=>_);refine yy2 (p:=p) (i:=1) (j:=1) rfl h3 ixN1 ?_;have e1:updM μ p (.lst ([D.int a,.int b].set 1 (.int 0))) p=some (.lst [.int a,.int 0]):=ya0;show ixR (.ref p) (.int 0) (updM μ p (.lst ([D.int a,.int b].set 1 (.int 0)))) (λ x μ1=>_);refine ix e1 ⟨.inl (.inr [19]),(show (0:Int) < 2147483647 by decide),?_⟩;show sub3 (v3 0) [6] (.int ((a * 48271 + 69621) % 2147483647)) [some (.ref p),some (.int m),o2,none] (updM μ p (.lst ([D.int a,.int b].set 1 (.int 0)))) (λ ρ1 μ1=>_);refine yy2 (p:=p) (i:=0) (j:=0) rfl e1 ixN0 ?_;rw [wd0];generalize hc:(a * 48271 + 69621) % 2147483647=c;have n1:0<=c:=by omega
 have n2:c < 2147483647:=by omega
 have e2:updM μ p (.lst ([D.int a,.int 0].set 0 (.int c))) p=some (.lst [.int c,.int 0]):=ya0;show ixR (.ref p) (.int 0) (updM μ p (.lst ([D.int a,.int 0].set 0 (.int c)))) (λ x μ1=>_);refine ix e2 ?_;show ixR (.ref p) (.int 0) (updM μ p (.lst ([D.int a,.int 0].set 0 (.int c)))) (λ x μ1=>_);refine ix e2 ⟨.inl (.inl [2]),?_⟩;show ixR (.ref p) (.int 0) (updM μ p (.lst ([D.int a,.int 0].set 0 (.int c)))) (λ x μ1=>_);refine ix e2 ⟨.inl (.inl [19]),(show (0:Int) < 2147483629 by decide),?_⟩;have n3:0<=(c * c + 16807 * c) % 2147483629:=Int.emod_nonneg _ [19];have n4:(c * c + 16807 * c) % 2147483629 < 2147483629:=Int.emod_lt_of_pos _ [19];exact ⟨.inl (.inl ⟨Int.lt_of_lt_of_le [19] n3,Int.lt_trans n4 [19]⟩),.inl (.inl [19]),(show (0:Int) < 2147483587 by decide),⟨by decide,by decide⟩,h1,q _ _ _ (Int.emod_nonneg _ [2]) (Int.emod_lt_of_pos _ h1) n1⟩
theorem wf5:RdQ spTk t_q2 N_q2:=by
 rintro ds μ Q ⟨p,m,a,b,rfl,h1,h2,h3,h4,q⟩;show ixR (.ref p) (.int 1) μ (λ x μ1=>_);refine vc0 h3 atI1 ?_;show if decide (b=1)=true then _ else _;by_cases c1:b=1
 ·rw [if_pos (decide_eq_true c1)];show ixR (.ref p) (.int 0) μ (λ x μ1=>_);refine vc0 h3 atI0 ?_;show if decide (0 < a)=true then _ else _;by_cases c2:0 < a
  ·rw [if_pos (decide_eq_true c2)];show ixR (.ref p) (.int 0) μ (λ x μ1=>_);refine vc0 h3 atI0 ⟨h1,?_⟩;show ixR (.ref p) (.int 0) μ (λ x μ1=>_);refine vc0 h3 atI0 ⟨⟨h1,by omega⟩,?_⟩;show sub3 (v3 0) [6] (.int (a / m)) [some (.ref p),some (.int m),some (.int (a % m)),none] μ (λ ρ1 μ1=>_);refine yy2 (p:=p) (i:=0) (j:=0) rfl h3 ixN0 ?_;exact q _ _ _ (Int.emod_nonneg _ [2]) (Int.emod_lt_of_pos _ h1) (Int.ediv_nonneg h4 [2])
  ·rw [if_neg (λ z=>c2 (of_decide_eq_true z))];exact tk_t h1 h3 q
 ·rw [if_neg (λ z=>c1 (of_decide_eq_true z))];exact tk_t h1 h3 q
noncomputable def wy (s:T3):Prop:=s.2.2=0 \/ s.2.2=1
noncomputable def gx (s:T3):Int:=s.1 + 1 - s.2.2
noncomputable def gy (s:T3):Int:=s.2.1 + s.2.2
noncomputable def encQ (p:Int × Int):D:=.tup [.int p.1,.int p.2]
noncomputable def decT (d:D):T3:=(t3? d).getD (0,0,0)
noncomputable def sh0:Sp3:=λ ds μ Q=>∃ s,ds=[encT s] /\ wy s /\ Q (.tup [encQ (s.1,s.2.1),encQ (gx s,gy s)]) μ
theorem ui4:RdQ sh0 vu3 sp3:=by
 rintro ds μ Q ⟨⟨x,y,w⟩,rfl,hw,q⟩;rcases hw with e | e
 ·dsimp only at e; subst e;simp only [gx,gy,Int.sub_zero,Int.add_zero] at q;exact ⟨z2,z2,z2,q⟩
 ·dsimp only at e; subst e;simp only [gx,gy,Int.add_sub_cancel] at q;exact ⟨z2,z2,z2,q⟩
noncomputable def ur2:Sp3:=λ ds μ Q=>∃ s,ds=[encT s] /\ wy s /\ Q .non μ
theorem in_w {w:Int} (h:w=0 \/ w=1) (μ:Mu) (K:VK3) (k:K (.bl false) μ):inR true (.int w) vy0 μ K:=by
 show ((PyData.int w).depth<=64 /\ (PyData.tuple [.int 0,.int 1]).depth<=64) /\ K (.bl (!([.int 0,.int 1]:List PyData).any λ e=>PyData.eqv e (.int w))) μ;refine ⟨⟨by simp [PyData.depth],by trivial⟩,?_⟩;have e:(([.int 0,.int 1]:List PyData).any λ e=>PyData.eqv e (.int w))=true:=by rcases h with rfl | rfl <;> simp [PyData.eqv]
 rw [e];exact k
theorem ue5:RdQ ur2 t_q8 N_q8:=by
 rintro ds μ Q ⟨⟨x,y,w⟩,rfl,hw,q⟩
 show inR true (.int w) vy0 μ (λ d μ1=>match d with
  | .bl c=>(if c=true then _ else _)
  | _=>False)
 exact in_w hw μ _ q
noncomputable def Lt (a b:T3):Prop:=lt3 a b=true
noncomputable def Pc (ts:List T3):Prop:=ts.Pairwise Lt /\ (∀ t ∈ ts,wy t) /\ ts.length < 60
variable {ts:List T3}
theorem ye1 (h0:0<=i) (h1:i < ts.length):∃ h:i.toNat < ts.length,atI [9] i=some (encT ts[i.toNat]):=by
 have h2:i.toNat < ts.length:=by omega
 refine ⟨h2,?_⟩;unfold atI ixN
 simp_all
noncomputable def xl0:Sp3:=λ ds μ Q=>∃ ts,ds=[.tup [9]] /\ Pc ts /\ Q .non μ
theorem se5:RdQ xl0 (t_q6 ur2) N_q6:=by
 rintro ds μ Q ⟨ts,rfl,⟨h1,h2,h3⟩,q⟩;refine vj0 (λ l ρ μ'=>μ'=μ /\ ∃ (us:List T3) (dd:Option D),l=us.map encT /\ (∀ t ∈ us,wy t) /\ ρ=[some (.tup [9]),dd,none]) ?_ (λ _ _ _ _=>trivial) ?_ ?_
 ·exact ⟨rfl,ts,none,rfl,h2,rfl⟩
 ·rintro ρ μ' ⟨rfl,us,dd,e,_,rfl⟩;refine ⟨⟨by decide,by decide,by omega,by simp_all;omega⟩,?_⟩;refine vj0 (λ l ρ ν=>ν=μ' /\ ∃ (k:Nat) (pp:Option D),l=rngD (1 + (k:Int)) (ts.length - 1 - k) /\ ρ=[some (.tup [9]),dd,pp]) ?_ (λ _ _ _ _=>trivial) ?_ ?_
  ·refine ⟨rfl,0,none,?_,rfl⟩;simp
  ·simp_all
  ·rintro GG hG x rest ρ μ2 ⟨rfl,k,pp,e,rfl⟩;cases n:ts.length - 1 - k with
   | zero=>rw [n] at e; simp [rngD] at e
   | succ m =>
    rw [n,we0] at e;injection e with e1 e2
    subst e1 e2;subst hG;obtain ⟨b1,e1⟩:=ye1 (ts:=ts) (i:=1 + (k:Int) - 1) [2] [2];obtain ⟨b2,e2⟩:=ye1 (ts:=ts) (i:=1 + (k:Int)) [2] [2];have lt:lt3 ts[(1 + (k:Int) - 1).toNat] ts[(1 + (k:Int)).toNat]=true:=List.pairwise_iff_getElem.mp h1 _ _ b1 b2 [2];show ixR (.tup [9]) (.int (1 + (k:Int) - 1)) μ2 (λ x μ1=>_);refine vv1 e1 ?_;show ixR (.tup [9]) (.int (1 + (k:Int))) μ2 (λ x μ1=>_);refine vv1 e2 ?_;show if (!lt3 ts[(1 + (k:Int) - 1).toNat] ts[(1 + (k:Int)).toNat])=true then _ else _;rw [lt,if_neg [19]];refine ⟨rfl,k + 1,_,?_,rfl⟩;rw [show ts.length - 1 - (k + 1)=m by omega];congr 1
 ·rintro GG hG x rest ρ μ' ⟨rfl,us,dd,e,hw,rfl⟩;cases us with
  | nil=>cases e
  | cons t us =>
   rw [map_cons] at e;injection e with e1 e2
   subst e1 e2;subst hG;exact ⟨t,rfl,hw t (mem_cons_self ..),rfl,us,_,rfl,λ s hs=>hw s (mem_cons_of_mem _ hs),rfl⟩
theorem se3 {ks us:List T3} (hn:ks.Nodup) (hw:∀ t ∈ ks,wy t) (hl:ks.length < 60) (a1:us.Perm ks) (a2:us.Pairwise le3):Pc us:=by
 have hn':us.Nodup:=a1.nodup_iff.mpr hn;refine ⟨?_,λ t ht=>hw t (a1.mem_iff.mp ht),by rw [a1.length_eq]; exact hl⟩;have both:us.Pairwise λ a b=>le3 a b /\ a ≠ b:=List.Pairwise.and a2 hn';refine both.imp λ {a b} h=>?_;obtain ⟨x1,x2,x3⟩:=a;obtain ⟨y1,y2,y3⟩:=b;obtain ⟨h1,h2⟩:=h;unfold le3 at h1;unfold Lt;simp only [ne_eq,Prod.mk.injEq] at h2;simp only [lt3,Bool.or_eq_false_iff,Bool.and_eq_false_iff,decide_eq_false_iff_not,beq_eq_false_iff_ne,ne_eq] at h1;simp only [lt3,Bool.or_eq_true,Bool.and_eq_true,decide_eq_true_eq,beq_iff_eq];omega
noncomputable def pT (s:T3):PyData:=.tuple [.int s.1,.int s.2.1,.int s.2.2]
theorem wv2:∀ L:List T3,dats (L.map encT)=some (L.map pT)
 | []=>rfl
 | t :: r=>by simp only [map_cons,dats,encT,dat,wv2 r,pT]
theorem xz1:∀ L:List T3,PyData.depthAll (L.map pT)<=2
 | []=>by trivial
 | t :: r=>by
  have:=xz1 r;simp only [map_cons,PyData.depthAll,pT,PyData.depth];omega
theorem lt_le {a b:T3} (h:Lt a b):le3 a b:=by
 obtain ⟨x1,x2,x3⟩:=a;obtain ⟨y1,y2,y3⟩:=b;simp only [Lt,lt3,Bool.or_eq_true,Bool.and_eq_true,decide_eq_true_eq,beq_iff_eq] at h;simp only [le3,lt3,Bool.or_eq_false_iff,Bool.and_eq_false_iff,decide_eq_false_iff_not,beq_eq_false_iff_ne,ne_eq];omega
theorem ti5 (h:Pc ts):ts.Pairwise le3:=h.1.imp lt_le
theorem zt0 (h:Pc ts):ts.Nodup:=h.1.imp λ {a b} h e=>by
 subst e;simp [Lt,lt3] at h
theorem ur4 (s t:T3):PyData.eqv (pT s) (pT t)=decide (s=t):=by
 obtain ⟨a,b,c⟩:=s;obtain ⟨d,e,f⟩:=t;have q:∀ x y:Int,(x == y)=decide (x=y):=λ x y=>by rfl
 simp [pT,PyData.eqv,PyData.eqvAll,Bool.and_assoc,q]
theorem yv2:∀ L M:List T3,PyData.eqvAll (L.map pT) (M.map pT)=decide (L=M)
 | [],[]=>by rfl
 | [],_ :: _=>by rfl
 | _ :: _,[]=>by rfl
 | s :: L,t :: M=>by
  simp only [map_cons,PyData.eqvAll,yv2 L M,ur4];simp
variable {tc:TT3} {o:Option D}
theorem vj1 {S:Mu->Prop} {l:List D} {rest:St3} (f:D->Bool) (hp:μ p=none) (hl:l.length<=sizeLine) (hS:∀ μ',Ext μ μ'->S μ')
    (hx:∀ x ∈ l,∀ μ' R,Ext μ μ'->R (f x) μ'->tc (some x :: rest) μ' R) (hQ:∀ μ',Ext μ μ'->μ' p=some (.lst (l.filter f))->Q (.ref p) μ'):sd1 S p (gn3 0) tc (v3 0) Q l (o :: rest) (updM μ p (.lst [])):=by
 refine ⟨λ r ys ρ μ'=>Ext μ μ' /\ μ' p=some (.lst ys) /\ (∃ o',ρ=o' :: rest) /\ ∃ a,a ++ r=l /\ ys=a.filter f,?_,?_,?_,?_⟩
 ·exact ⟨Ext.new hp,ya0,⟨o,rfl⟩,[],rfl,rfl⟩
 ·simp_all
 ·simp_all
 ·rintro x r ys ρ μ' ⟨h1,h2,⟨o',rfl⟩,a,e,rfl⟩;refine ⟨?_,?_⟩
  ·have h3:=congrArg List.length e;rw [length_append,length_cons] at h3;have:=length_filter_le f a;omega
  ·refine hx x (by rw [<- e]; simp) μ' _ h1 ?_;have e2:(a ++ [x]) ++ r=l:=by rw [<- e]; simp
   cases c:f x with
   | true =>
    refine ⟨h2,λ b v hb=>?_,ya0,⟨_,rfl⟩,a ++ [x],e2,?_⟩
    ·rw [za0 (ta0 hb hp)];exact h1 b v hb
    simp_all
   | false =>
    refine ⟨h1,h2,⟨_,rfl⟩,a ++ [x],e2,?_⟩
    simp_all
theorem wj3 (g:T3->Bool) (A:List T3):(A.map encT).filter (λ d=>g (decT d))=(A.filter g).map encT:=by
 rw [filter_map];rfl
variable {q:Addr}
theorem vb2 {l m:List D} (h1:μ p=some (.lst l)) (h2:μ q=some (.lst m)) (hz:l.length + m.length<=sizeLine) (k:∀ r,μ r=none->Q (.ref r) (updM μ r (.lst (l ++ m)))):addR (.ref p) (.ref q) μ Q:=by
 unfold addR
 simp_all
theorem wb1 {l:List D} (h:μ p=some (.lst l)) (k:Q (.tup l) μ):tupR [.ref p] μ Q:=by
 unfold tupR
 simp_all
noncomputable def tk3 (t:T3):List Int:=[t.1,t.2.1,t.2.2]
theorem tc2 (h:μ p=some (.lst [9])) (h64:ts.length < 64) (k:∀ us:List T3,us.Perm ts->us.Pairwise le3->∀ r,μ r=none->Q (.ref r) (updM μ r (.lst (us.map encT)))):srtR [.ref p] μ Q:=by
 have hz:(100:Nat) < sizeLine:=by decide
 have e:t3s? [9]=some ts:=sn1 ts;simp only [srtR,h,e];exact ⟨by omega,k⟩
variable {D':Ends3} {x:D}
theorem zd1 {g:TG3} {tb:TS3} {y:D} (N1 N2:St3->Mu->Prop) (h1:g x ρ μ λ ρ1 μ1=>tb { D' with nx:=N1,ct:=N1,bk:=D'.nx } ρ1 μ1)
    (h2:∀ ρ μ,N1 ρ μ->g y ρ μ λ ρ1 μ1=>tb { D' with nx:=N2,ct:=N2,bk:=D'.nx } ρ1 μ1) (h3:∀ ρ μ,N2 ρ μ->D'.nx ρ μ):vz0 (λ _=>True) g tb D' [x,y] ρ μ :=
 ⟨trivial,N1,λ ρ' μ' n=>⟨trivial,N2,λ ρ2 μ2 n2=>⟨trivial,h3 ρ2 μ2 n2⟩,h2 ρ' μ' n⟩,h1⟩
noncomputable def ptk (p:Pt):List Int:=[p.1,p.2]
theorem xi3 (p:Pt):keyI (encQ p)=some (ptk p):=rfl
noncomputable def atk (A:List (Pt × Addr)):List (List Int × D):=A.map λ x=>(ptk x.1,.ref x.2)
theorem yi0 {p q:Pt} (h:ptk p=ptk q):p=q:=by
 unfold ptk at h;injection h with h1 h2
 injection h2 with h2 _
 exact Prod.ext h1 h2
theorem we1:∀ {A:List (Pt × Addr)} {p:Pt} {q:Addr},(A.map (·.1)).Nodup->(p,q) ∈ A->valL (atk A) (ptk p)=some (.ref q)
 | (p',q') :: A,p,q,hn,hm=>by
  rw [map_cons,nodup_cons] at hn;by_cases c:p'=p
  ·subst c;rcases List.mem_cons.mp hm with e | e
   ·cases e; simp [valL,atk]
   simp_all
  ·rcases List.mem_cons.mp hm with e | e
   ·simp_all
   ·have c':¬ ptk p'=ptk p:=λ z=>c (yi0 z);have:=we1 hn.2 e;simp only [valL,atk,map_cons,find?_cons,c',decide_false] at this ⊢;exact this
theorem wq2:∀ {A:List (Pt × Addr)} {p:Pt},p ∉ A.map (·.1)->valL (atk A) (ptk p)=none
 | [],p,_=>rfl
 | (p',q') :: A,p,hm=>by
  rw [map_cons,mem_cons,not_or] at hm;have c':¬ ptk p'=ptk p:=λ z=>hm.1 (yi0 z).symm;have:=wq2 hm.2;simp only [valL,atk,map_cons,find?_cons,c',decide_false] at this ⊢;exact this
variable {A:List (Pt × Addr)}
theorem vk4 {p:Pt} {y:D} (h:p ∉ A.map (·.1)):putL (atk A) (ptk p) y=atk A ++ [(ptk p,y)]:=by
 unfold putL;rw [if_neg];intro z;obtain ⟨kv,h1,h2⟩:=List.any_eq_true.mp z;obtain ⟨x,hx,rfl⟩:=List.mem_map.mp h1;exact h (List.mem_map.mpr ⟨x,hx,yi0 (of_decide_eq_true h2)⟩)
variable {kvs:[18]}
theorem yx3 {d:Addr} {p:Pt} {v:D} (h:μ d=some (.dcl false kvs)) (hl:kvs.length < 90000) (hv:valL kvs (ptk p)=some v) (k:∀ r,μ r=none->Q v (updM μ r (.lst []))) :
    sdf3 (v3 1) (xa0 (v3 3) (xa0 (lst3 nil3) nil3)) [o0,some (.ref d),o2,some (encQ p)] μ Q:=by
 conv=>whnf
 rw [h];refine ⟨Nat.zero_le _,λ r hr=>?_⟩;have hd:updM μ r (.lst []) d=some (.dcl false kvs):=by rw [za0 (ta0 h hr)]; exact h
 conv=>whnf
 rw [hd];refine ⟨hl,?_⟩;have hv':valL kvs [p.1,p.2]=some v:=hv
 simp_all
theorem zx3 {d:Addr} {p:Pt} (h:μ d=some (.dcl false kvs)) (hl:kvs.length < 90000) (hv:valL kvs (ptk p)=none) (k:∀ r,μ r=none->Q (.ref r) (updM (updM μ r (.lst [])) d (.dcl false (putL kvs (ptk p) (.ref r))))) :
    sdf3 (v3 1) (xa0 (v3 3) (xa0 (lst3 nil3) nil3)) [o0,some (.ref d),o2,some (encQ p)] μ Q:=by
 conv=>whnf
 rw [h];refine ⟨Nat.zero_le _,λ r hr=>?_⟩;have hd:updM μ r (.lst []) d=some (.dcl false kvs):=by rw [za0 (ta0 h hr)]; exact h
 conv=>whnf
 rw [hd];refine ⟨hl,?_⟩;have hv':valL kvs [p.1,p.2]=none:=hv;rw [hv'];exact k r hr
theorem zv0 {l:List D} (h:μ q=some (.lst l)) (hl:l.length < sizeLine) (k:Q .non (updM μ q (.lst (l ++ [x])))):appR (.ref q) [x] μ Q:=by
 unfold appR
 simp_all
noncomputable def here {α:Type} (L:List (Pt × α)) (p:Pt):List α:=(L.filter λ y=>decide (y.1=p)).map (·.2)
theorem yz0 {α:Type} (L:List (Pt × α)) (p:Pt) (t:α):here (L ++ [(p,t)]) p=here L p ++ [t]:=by
 unfold here; simp
theorem xx1 {α:Type} (L:List (Pt × α)) {p q:Pt} (t:α) (h:q ≠ p):here (L ++ [(p,t)]) q=here L q:=by
 unfold here; rw [List.filter_append];have:¬ p=q:=λ z=>h z.symm;simp [this]
theorem wi3 {α:Type} {L:List (Pt × α)} {p:Pt} (h:p ∉ L.map (·.1)):here L p=[]:=by
 unfold here;rw [List.filter_eq_nil_iff.mpr]; rfl;intro y hy z;exact h (List.mem_map.mpr ⟨y,hy,of_decide_eq_true z⟩)
theorem wn2 {α:Type} (L:List (Pt × α)) (p:Pt):(here L p).length<=L.length:=by
 unfold here; rw [length_map]; exact length_filter_le _ _
structure AtI {α:Type} (en:α->D) (μ0 μ:Mu) (d:Addr) (L:List (Pt × α)) (A:List (Pt × Addr)):Prop where
 ex:Ext μ0 μ
 fr:μ0 d=none
 dc:μ d=some (.dcl false (atk A))
 nd:(A.map (·.1)).Nodup
 me:∀ p,p ∈ A.map (·.1) ↔ p ∈ L.map (·.1)
 le:A.length<=L.length
 n2:(A.map (·.2)).Nodup
 fr2:∀ x ∈ A,μ0 x.2=none
 ls:∀ x ∈ A,μ x.2=some (.lst ((here L x.1).map en))
variable {μ0:Mu}
theorem Ext.upd {o:MO} (e:Ext μ0 μ) (h:μ0 p=none):Ext μ0 (updM μ p o):=λ a u q=>by
 rw [za0 (ta0 q h)]; exact e a u q
theorem zn0 {α β γ:Type} {l:List γ} {f:γ->α} (h:(l.map f).Nodup):∀ {x y:γ},x ∈ l->y ∈ l->f x=f y->x=y:=by
 induction l with
 | nil=>simp
 | cons z r ih =>
  intro x y hx hy e;rw [map_cons,nodup_cons] at h;rcases List.mem_cons.mp hx with x1 | x1
  ·rcases List.mem_cons.mp hy with y1 | y1
   ·rw [x1,y1]
   ·rw [x1] at e; exact absurd (List.mem_map.mpr ⟨y,y1,e.symm⟩) h.1
  ·rcases List.mem_cons.mp hy with y1 | y1
   ·simp_all
   ·exact ih h.2 x1 y1 e
theorem wt1 {p q:Pt} {a:Addr} (h:(A.map (·.2)).Nodup) (x:(p,a) ∈ A) (y:(q,a) ∈ A):p=q:=congrArg Prod.fst (zn0 (β:=Nat) h x y rfl)
theorem ux0 {p:Pt} {a b:Addr} (h:(A.map (·.1)).Nodup) (x:(p,a) ∈ A) (y:(p,b) ∈ A):a=b:=congrArg Prod.snd (zn0 (β:=Nat) h x y rfl)
theorem yv0 {α:Type} {en:α->D} {d:Addr} {L:List (Pt × α)} {p:Pt} {t:α} (I:AtI en μ0 μ d L A) (hL:L.length < 500) (q:∀ μ' A',AtI en μ0 μ' d (L ++ [(p,t)]) A'->Q .non μ') :
    mt3 appR (sdf3 (v3 1) (xa0 (v3 3) (xa0 (lst3 nil3) nil3))) [36] [o0,some (.ref d),some (en t),some (encQ p)] μ Q:=by
 have hz:(1000:Nat) < sizeLine:=by decide
 have hA:(atk A).length < 90000:=by unfold atk; rw [length_map]; have:=I.le; omega
 by_cases c:p ∈ A.map (·.1)
 ·obtain ⟨⟨p',a⟩,ha,e⟩:=List.mem_map.mp c;dsimp only at e; subst e;refine yx3 I.dc hA (we1 I.nd ha) λ r hr=>?_;have hl:=I.ls _ ha;have hla:updM μ r (.lst []) a=some (.lst ((here L p').map en)):=by rw [za0 (ta0 hl hr)]; exact hl
  conv=>whnf
  rw [hla];refine zv0 hla (by rw [length_map]; have:=wn2 L p'; omega) (q _ A ⟨?_,I.fr,?_,I.nd,?_,?_,I.n2,I.fr2,?_⟩)
  ·exact (I.ex.trans (Ext.new hr)).upd (I.fr2 _ ha)
  ·rw [za0 (λ z=>by subst z; rw [I.dc] at hl; cases hl),za0 (ta0 I.dc hr)]; exact I.dc
  ·intro p;rw [I.me,map_append,mem_append];refine ⟨.inl,?_⟩;rintro (h | h)
   ·exact h
   ·have e:p=p':=by simpa using h
    subst e;exact (I.me _).mp c
  ·rw [length_append]; have:=I.le; omega
  ·rintro ⟨p2,a2⟩ h2;dsimp only;by_cases c2:a2=a
   ·subst c2
    have e:p2=p':=by
     exact wt1 I.n2 h2 ha
    subst e;rw [ya0,yz0,map_append]; rfl
   ·have c3:p2 ≠ p':=λ z=>by subst z; exact c2 (ux0 I.nd h2 ha)
    rw [za0 c2,za0 (ta0 (I.ls _ h2) hr),xx1 _ _ c3];exact I.ls _ h2
 ·refine zx3 I.dc hA (wq2 c) λ r hr=>?_;have hrd:r ≠ d:=λ z=>by subst z; rw [I.dc] at hr; cases hr
  have hla:updM (updM μ r (.lst [])) d (.dcl false (putL (atk A) (ptk p) (.ref r))) r=some (.lst []):=by rw [za0 hrd,ya0]
  conv=>whnf
  rw [hla];have hL':here L p=[]:=wi3 λ z=>c ((I.me p).mpr z);refine zv0 hla (Nat.lt_of_lt_of_le (by decide:0 < 1000) (Nat.le_of_lt hz)) (q _ (A ++ [(p,r)]) ⟨?_,I.fr,?_,?_,?_,?_,?_,?_,?_⟩)
  ·exact ((I.ex.trans (Ext.new hr)).upd I.fr).upd (I.ex.free hr)
  ·rw [za0 (Ne.symm hrd),ya0,vk4 c];unfold atk; simp
  ·rw [map_append,nodup_append];refine ⟨I.nd,by simp,λ a ha b hb e=>?_⟩
   simp_all
  ·intro p2;rw [map_append,map_append,mem_append,mem_append,I.me]; rfl
  ·rw [length_append,length_append]; have:=I.le; simp_all
  ·rw [map_append,nodup_append];refine ⟨I.n2,by simp,λ a ha b hb e=>?_⟩;have:b=r:=by simpa using hb
   subst this; subst e;obtain ⟨x,hx,rfl⟩:=List.mem_map.mp ha;have:=I.ls x hx
   simp_all
  ·intro x hx;rcases List.mem_append.mp hx with h | h
   ·exact I.fr2 x h
   ·have:x=(p,r):=by simpa using h
    subst this;exact I.ex.free hr
  ·intro x hx;rcases List.mem_append.mp hx with h | h
   ·have hl:=I.ls x h;have c3:x.1 ≠ p:=λ z=>c (List.mem_map.mpr ⟨x,h,z⟩);have c4:x.2 ≠ d:=λ z=>by rw [z,I.dc] at hl; cases hl
    rw [za0 (ta0 hl hr),za0 c4,za0 (ta0 hl hr),xx1 _ _ c3];exact hl
   ·have:x=(p,r):=by simpa using h
    subst this;dsimp only;rw [ya0,yz0,hL']; rfl
noncomputable def incs (ts:List T3):List (Pt × T3):=ts.flatMap λ t=>[(e0 t,t),(e1 t,t)]
theorem uw1 (ts:List T3) (s:T3):incs (ts ++ [s])=incs ts ++ [(e0 s,s)] ++ [(e1 s,s)]:=by
 unfold incs; simp
theorem yu0 (ts:List T3):(incs ts).length=2 * ts.length:=by
 induction ts with
 | nil=>rfl
 | cons s r ih=>unfold incs at ih ⊢; simp_all;omega
theorem sn0 (p:Pt):∀ ts:List T3,here (incs ts) p=ts.filter (has p)
 | []=>rfl
 | s :: r=>by
  have ih:=sn0 p r;have e:incs (s :: r)=(e0 s,s) :: (e1 s,s) :: incs r:=rfl;rw [e,filter_cons];unfold here at ih ⊢;rw [filter_cons,filter_cons];dsimp only;have ne:=e_ne s;have hh:has p s=(decide (e0 s=p) || decide (e1 s=p)):=rfl;rw [hh];by_cases c0:e0 s=p
  ·have c1:¬ e1 s=p:=λ z=>ne (c0.trans z.symm)
   simp_all
  ·by_cases c1:e1 s=p
   ·simp_all
   simp_all
theorem incs_mem {p:Pt}:p ∈ (incs ts).map (·.1) ↔ ∃ s ∈ ts,has p s=true:=by
 constructor
 ·intro h;obtain ⟨⟨p',t⟩,h1,rfl⟩:=List.mem_map.mp h;obtain ⟨s,hs,h2⟩:=List.mem_flatMap.mp h1;rcases List.mem_cons.mp h2 with e | h2
  ·cases e; exact ⟨_,hs,ui1 _⟩
  ·have e:=List.mem_singleton.mp h2;cases e; exact ⟨_,hs,vi1 _⟩
 ·rintro ⟨s,hs,h⟩;rcases xo0 h with rfl | rfl
  ·exact List.mem_map.mpr ⟨(e0 s,s),List.mem_flatMap.mpr ⟨s,hs,by simp⟩,rfl⟩
  ·exact List.mem_map.mpr ⟨(e1 s,s),List.mem_flatMap.mpr ⟨s,hs,by simp⟩,rfl⟩
noncomputable def spAt:Sp3:=λ ds μ Q=>∃ ts:List T3,ds=[.tup [9]] /\ (∀ t ∈ ts,wy t) /\ ts.length < 60 /\ ∀ d A μ',AtI encT μ μ' d (incs ts) A->Q (.ref d) μ'
theorem yg4:RdQ spAt (sr3 sh0) yn3:=by
 rintro ds μ Q ⟨ts,rfl,hw,hl,q⟩;intro d hd;refine wi0 (λ l ρ μ'=>∃ (us vs:List T3) (A:List (Pt × Addr)) (o2 o3:Option D),l=us.map encT /\ vs ++ us=ts /\ ρ=[some (.tup [9]),some (.ref d),o2,o3] /\ AtI encT μ μ' d (incs vs) A) ?_ (λ _ _ _ _=>trivial) ?_ ?_
 ·exact ⟨ts,[],[],none,none,rfl,rfl,rfl,Ext.new hd,hd,ya0,nodup_nil,λ p=>Iff.rfl,Nat.le_refl _,nodup_nil,λ _ h=>(nomatch h),λ _ h=>(nomatch h)⟩
 ·rintro ρ μ' ⟨us,vs,A,o2,o3',e,ev,rfl,I⟩;cases us with
  | cons _ _=>cases e
  | nil =>
   rw [append_nil] at ev;subst ev;exact q d A μ' I
 ·rintro x rest ρ μ' ⟨us,vs,A,o2,o3',e,ev,rfl,I⟩;cases us with
  | nil=>cases e
  | cons s us =>
   rw [map_cons] at e;injection e with e1 e2
   subst e1 e2;have hs:s ∈ ts:=by rw [<- ev]; simp
   have hl2:vs.length < 60:=by rw [<- ev,length_append] at hl; omega
   have ln:(incs vs).length < 400:=by rw [yu0]; omega
   refine ⟨s,rfl,hw s hs,?_⟩;refine zd1 (λ ρ μ'=>∃ A o3,ρ=[some (.tup [9]),some (.ref d),some (encT s),o3] /\ AtI encT μ μ' d (incs vs ++ [(e0 s,s)]) A) (λ ρ μ'=>∃ A o3,ρ=[some (.tup [9]),some (.ref d),some (encT s),o3] /\ AtI encT μ μ' d (incs vs ++ [(e0 s,s)] ++ [(e1 s,s)]) A) ?_ ?_ ?_
   ·exact yv0 (p:=e0 s) I [2] λ μ2 A2 I2=>⟨A2,_,rfl,I2⟩
   ·rintro ρ μ1 ⟨A1,o3'',rfl,I1⟩;exact yv0 (p:=e1 s) I1 [8] λ μ2 A2 I2=>⟨A2,_,rfl,I2⟩
   ·rintro ρ μ1 ⟨A1,o3'',rfl,I1⟩;rw [<- uw1] at I1;exact ⟨us,vs ++ [s],A1,_,_,rfl,by rw [<- ev]; simp,rfl,I1⟩
theorem zl (h:ts.length < 60):[9].length<=sizeLine:=by
 have:(100:Nat) < sizeLine:=by decide
 simp_all;omega
theorem zw1 (ns:List Int):ints? (ns.map D.int)=some ns:=by
 induction ns with
 | nil=>rfl
 | cons n r ih=>simp only [map_cons,ints?,ih]
variable {ns:List Int}
theorem vo4 (h:μ p=some (.lst (ns.map D.int))) (k:0 < ns.length /\ ∀ m,m ∈ ns->(∀ a,a ∈ ns->m<=a)->Q (.int m) μ):zc1 [.ref p] μ Q:=by
 simp only [zc1,h,zw1];exact k
theorem yo4 (h:μ p=some (.lst (ns.map D.int))) (k:0 < ns.length /\ ∀ m,m ∈ ns->(∀ a,a ∈ ns->a<=m)->Q (.int m) μ):wc1 [.ref p] μ Q:=by
 simp only [wc1,h,zw1];exact k
structure Bx (ts:List T3) (x0 y0 x1 y1:Int):Prop where
 a0:∃ s ∈ ts,s.1=x0
 l0:∀ s ∈ ts,x0<=s.1
 b0:∃ s ∈ ts,s.2.1=y0
 m0:∀ s ∈ ts,y0<=s.2.1
 a1:∃ s ∈ ts,gx s=x1
 l1:∀ s ∈ ts,gx s<=x1
 b1:∃ s ∈ ts,gy s=y1
 m1:∀ s ∈ ts,gy s<=y1
theorem Bx.one {x0 y0 x1 y1 u0 v0 u1 v1:Int} (h:Bx ts x0 y0 x1 y1) (k:Bx ts u0 v0 u1 v1):x0=u0 /\ y0=v0 /\ x1=u1 /\ y1=v1:=by
 obtain ⟨⟨s1,a1,b1⟩,l0,⟨s2,a2,b2⟩,m0,⟨s3,a3,b3⟩,l1,⟨s4,a4,b4⟩,m1⟩:=h;obtain ⟨⟨t1,c1,d1⟩,n0,⟨t2,c2,d2⟩,o0,⟨t3,c3',d3⟩,n1,⟨t4,c4,d4⟩,o1⟩:=k;have:=l0 t1 c1; have:=n0 s1 a1; have:=m0 t2 c2; have:=o0 s2 a2;have:=l1 t3 c3'; have:=n1 s3 a3; have:=m1 t4 c4; have:=o1 s4 a4;omega
noncomputable def zz2:Sp3:=λ ds μ Q=>∃ ts:List T3,ds=[.tup [9]] /\ (∀ t ∈ ts,wy t) /\ ts.length < 60 /\ (ts=[]->Q .non μ) /\ (ts ≠ []->∀ x0 y0 x1 y1 μ',Bx ts x0 y0 x1 y1->Ext μ μ'->Q (.tup [.int x0,.int y0,.int x1,.int y1]) μ')
variable {w:Nat}
theorem wj1 {i:Nat} {L:List Pt} {g:Pt->Int} (hi:(i=0 /\ g=λ q=>q.1) \/ (i=1 /\ g=λ q=>q.2)) (hv:getI ρ w=some (.ref p)) (h:μ p=some (.lst (L.map encQ))) (hl:L.length < 1000)
    (k:∀ r μ',Ext μ μ'->μ' r=some (.lst ((L.map g).map D.int))->K (.ref r) μ'):zc0 [none] (is3 (v3 w)) (gn3 0) tt3 (o3 ixR (v3 0) (c3 (.int (i:Int)))) ρ μ K:=by
 have hz:(1000:Nat) < sizeLine:=by decide
 unfold zc0 is3 v3;rw [hv];dsimp only;rw [h];intro r hr;refine yc0 (rest:=[]) (λ d=>.int (match d with | .tup [.int a,.int b]=>g (a,b) | _=>0)) hr [8] (λ μ' e=>e _ _ h) ?_ ?_
 ·intro x hx μ' R ex kk;obtain ⟨q,_,rfl⟩:=List.mem_map.mp hx;rcases hi with ⟨rfl,rfl⟩ | ⟨rfl,rfl⟩ <;> exact kk μ' (Ext.refl _)
 ·intro μ' ex e
  have el:(L.map encQ).map (λ d=>D.int (match d with | .tup [.int a,.int b]=>g (a,b) | _=>0))=(L.map g).map D.int:=by
   rw [map_map,map_map]; rfl
  simp_all
theorem sg4:RdQ zz2 (vs3 sh0) xo3:=by
 rintro ds μ Q ⟨ts,rfl,hw,hl,q0,q1⟩;have hz:(1000:Nat) < sizeLine:=by decide
 show if decide (([9].length:Int)=0)=true then _ else _;by_cases c:ts=[]
 ·rw [decide_eq_true (by rw [c]; rfl),if_pos rfl];exact q0 c
 have hpos:=List.length_pos_iff.mpr c;rw [decide_eq_false [16],if_neg [19]]
 have cq:∀ (f:T3->Pt) (i:Int) (K:VK3) (μ:Mu),(∀ s ∈ ts,∀ μ' R,R (encQ (f s)) μ'->(o3 ixR (va0 sh0 [14]) (c3 (.int i))) [some (encT s)] μ' R)->(∀ r μ',Ext μ μ'->μ' r=some (.lst ((ts.map f).map encQ))->K (.ref r) μ')->∀ r,μ r=none->sd1 (λ _=>True) r (gn3 0) tt3 (o3 ixR (va0 sh0 [14]) (c3 (.int i))) K [9] [none] (updM μ r (.lst [])):=by
  intro f i K μ hf k r hr;refine yc0 (rest:=[]) (λ d=>encQ (f (decT d))) hr (zl hl) (λ _ _=>trivial) ?_ ?_
  ·intro x hx μ' R ex kk;obtain ⟨s,hs,rfl⟩:=List.mem_map.mp hx;exact hf s hs μ' R (kk μ' (Ext.refl _))
  ·intro μ' ex e;have el:[9].map (λ d=>encQ (f (decT d)))=(ts.map f).map encQ:=by rw [map_map,map_map]; rfl
   simp_all
 refine cq e0 0 _ μ (λ s hs μ' R kk=>⟨s,rfl,hw s hs,kk⟩) λ r1 μ1 ex1 er1=>?_;refine cq e1 1 _ μ1 (λ s hs μ' R kk=>⟨s,rfl,hw s hs,kk⟩) λ r2 μ2 ex2 er2=>?_;have er1':=ex2 _ _ er1;show td0 sh0 _ [some (.tup [9]),some (.ref r1),some (.ref r2),none] μ2;have l60:(ts.map e0).length < 1000:=by simp_all;omega
 have l61:(ts.map e1).length < 1000:=by simp_all
 unfold td0;dsimp only [seq3,set3,tup3,xa0,va0];refine wj1 (i:=0) (.inl ⟨rfl,rfl⟩) rfl er1' l60 λ r3 μ3 ex3 er3=>?_
 try dsimp only [nil3]
 refine vo4 er3 ⟨by simp_all,λ x0 a1 b1=>?_⟩;refine wj1 (i:=1) (.inr ⟨rfl,rfl⟩) rfl (ex3 _ _ er1') l60 λ r4 μ4 ex4 er4=>?_
 try dsimp only [nil3]
 refine vo4 er4 ⟨by simp_all,λ y0 a2 b2=>⟨z2,?_⟩⟩;have er2':=ex4 _ _ (ex3 _ _ er2);unfold wg0;dsimp only [ret3,o3,seq3,set3,tup3,xa0,va0];refine wj1 (i:=0) (.inl ⟨rfl,rfl⟩) rfl er2' l61 λ r5 μ5 ex5 er5=>?_
 try dsimp only [nil3]
 refine yo4 er5 ⟨by simp_all,λ x1 a3 b3=>?_⟩;refine wj1 (i:=1) (.inr ⟨rfl,rfl⟩) rfl (ex5 _ _ er2') l61 λ r6 μ6 ex6 er6=>?_
 try dsimp only [nil3]
 refine yo4 er6 ⟨by simp_all,λ y1 a4 b4=>⟨z2,Z0,?_⟩⟩;refine q1 c x0 y0 x1 y1 μ6 ?_ (ex1.trans (ex2.trans (ex3.trans (ex4.trans (ex5.trans ex6)))));simp only [map_map,mem_map,Function.comp] at a1 a2 a3 a4 b1 b2 b3 b4;obtain ⟨s1,h1,rfl⟩:=a1;obtain ⟨s2,h2,rfl⟩:=a2;obtain ⟨s3,h3,rfl⟩:=a3;obtain ⟨s4,h4,rfl⟩:=a4;exact ⟨⟨s1,h1,rfl⟩,λ s hs=>b1 _ ⟨s,hs,rfl⟩,⟨s2,h2,rfl⟩,λ s hs=>b2 _ ⟨s,hs,rfl⟩,⟨s3,h3,rfl⟩,λ s hs=>b3 _ ⟨s,hs,rfl⟩,⟨s4,h4,rfl⟩,λ s hs=>b4 _ ⟨s,hs,rfl⟩⟩
theorem sp4 (t:T3):keyI (encT t)=some (tk3 t):=rfl
noncomputable def snk (S:List T3):List (List Int × D):=S.map λ t=>(tk3 t,.bl true)
theorem tq0 {a b:T3} (h:tk3 a=tk3 b):a=b:=by
 unfold tk3 at h;injection h with h1 h2
 injection h2 with h2 h3
 injection h3 with h3 _
 exact Prod.ext h1 (Prod.ext h2 h3)
theorem xn1:∀ (S:List T3) (t:T3),(valL (snk S) (tk3 t)).isSome=decide (t ∈ S)
 | [],t=>by simp [valL,snk]
 | s :: S,t=>by
  have ih:=xn1 S t;by_cases c:s=t
  ·subst c; simp [valL,snk]
  ·have c':¬ tk3 s=tk3 t:=λ z=>c (tq0 z);have c2:¬ t=s:=λ z=>c z.symm;simp only [valL,snk,map_cons,find?_cons,c',decide_false,mem_cons,c2,false_or] at ih ⊢;exact ih
variable {S:List T3}
theorem wk4 {t:T3} (h:t ∉ S):putL (snk S) (tk3 t) (.bl true)=snk (S ++ [t]):=by
 unfold putL;rw [if_neg]
 ·unfold snk; simp
 ·intro z;obtain ⟨kv,h1,h2⟩:=List.any_eq_true.mp z;obtain ⟨x,hx,rfl⟩:=List.mem_map.mp h1;have e:=tq0 (of_decide_eq_true h2);exact h (e ▸ hx)
variable {s:Addr}
theorem vs4 {t:T3} (h:μ s=some (.dcl false (snk S))) (k:Q (.bl (!decide (t ∈ S))) μ):dinR true (encT t) (.ref s) μ Q:=by
 unfold dinR;simp only [sp4,h,xn1];exact k
theorem uk4 {t:T3} {to ti:TE3} (h:μ s=some (.dcl false (snk S))) (hl:S.length < 90000) (ht:t ∉ S) (h1:∀ R,R (.ref s) μ->to ρ μ R) (h2:∀ R,R (encT t) μ->ti ρ μ R) (k:D'.nx ρ (updM μ s (.dcl false (snk (S ++ [t]))))):ya1 to ti (c3 (.bl true)) D' ρ μ:=by
 refine h1 _ (h2 _ ?_);simp only [sp4,h];refine ⟨by unfold snk; simp_all,?_⟩;rw [wk4 ht];exact k
noncomputable def xp1:Sp3:=λ ds μ Q=>∃ (q s:Addr) (l S:List T3),ds=[.ref q,.ref s] /\ μ q=some (.lst (l.map encT)) /\ μ s=some (.dcl false (snk S)) /\ l.Nodup /\ S.length + l.length < 500 ∧
 ∀ r μ',ExtB s μ μ'->μ r=none->μ' r=some (.lst ((l.filter λ t=>!decide (t ∈ S)).map encT))->μ' s=some (.dcl false (snk (S ++ l.filter λ t=>!decide (t ∈ S))))->Q (.ref r) μ'
theorem sf4:RdQ xp1 ur3 sm3:=by
 rintro ds μ Q ⟨q,s,l,S,rfl,hq,hs,hn,hl,k⟩;have hz:(1000:Nat) < sizeLine:=by decide
 have hqs:q ≠ s:=λ z=>by simp_all
 conv=>whnf
 rw [hq];intro p hp;refine vj1 (rest:=[some (.ref s)]) (λ d=>!decide (decT d ∈ S)) hp [8] (λ μ' ex=>ex _ _ hq) ?_ ?_
 ·intro x hx μ' R ex kk;obtain ⟨t,ht,rfl⟩:=List.mem_map.mp hx;exact vs4 (Q:=λ d μ1=>match d with | .bl c=>R c μ1 | _=>False) (ex _ _ hs) kk
 ·intro μ1 ex e1;rw [wj3 (λ t=>!decide (t ∈ S))] at e1;have hs1:=ex _ _ hs;have hps:p ≠ s:=λ z=>by simp_all
  generalize hL:(l.filter λ t=>!decide (t ∈ S))=L at e1 k
  have LS:∀ t ∈ L,t ∉ S:=λ t ht=>by
   rw [<- hL,mem_filter] at ht;simpa using ht.2
  have Ln:L.Nodup:=by rw [<- hL]; exact hn.filter _
  have Ll:L.length<=l.length:=by rw [<- hL]; exact length_filter_le _ _
  conv=>whnf
  rw [e1];refine wi0 (λ l' ρ μ'=>∃ (us vs:List T3) (o:Option D),l'=us.map encT /\ vs ++ us=L /\ ρ=[some (.ref q),some (.ref s),some (.ref p),o] /\ ExtB s μ1 μ' /\ μ' s=some (.dcl false (snk (S ++ vs)))) ?_ ?_ ?_ ?_
  ·exact ⟨L,[],none,rfl,rfl,rfl,ExtB.refl _ _,by simp_all⟩
  ·rintro l' ρ μ' ⟨us,vs,o,_,_,_,eb,_⟩;exact eb _ _ hps e1
  ·rintro ρ μ' ⟨us,vs,o,e,ev,rfl,eb,hs'⟩;cases us with
   | cons _ _=>cases e
   | nil =>
    rw [append_nil] at ev;subst ev;exact k p μ' ((ex.b s).trans eb) hp (eb _ _ hps e1) hs'
  ·rintro x rest ρ μ' ⟨us,vs,o,e,ev,rfl,eb,hs'⟩;cases us with
   | nil=>cases e
   | cons t us =>
    rw [map_cons] at e;injection e with e2 e3
    subst e2 e3
    have ht:t ∉ S ++ vs:=λ z=>by
     rcases List.mem_append.mp z with z | z
     ·exact LS t (by rw [<- ev]; simp) z
     ·rw [<- ev] at Ln;exact (List.nodup_append.mp Ln).2.2 t z t [10] rfl
    have ll:(S ++ vs).length < 90000:=by rw [length_append]; rw [<- ev,length_append] at Ll; omega
    refine uk4 (to:=v3 1) (ti:=v3 3) hs' ll ht (λ R r=>r) (λ R r=>r) ⟨us,vs ++ [t],_,rfl,by rw [<- ev]; simp,rfl,eb.trans ExtB.upd,?_⟩;rw [ya0,append_assoc]
structure AtD (μ:Mu) (d:Addr) (ts:List T3) (A:List (Pt × Addr)):Prop where
 dc:μ d=some (.dcl false (atk A))
 nd:(A.map (·.1)).Nodup
 me:∀ p,p ∈ A.map (·.1) ↔ ∃ s ∈ ts,has p s=true
 le:A.length<=2 * ts.length
 ls:∀ x ∈ A,μ x.2=some (.lst ((ts.filter (has x.1)).map encT))
theorem AtI.d {μ0 μ:Mu} {d:Addr} {ts:List T3} {A:List (Pt × Addr)} (I:AtI encT μ0 μ d (incs ts) A):AtD μ d ts A :=
 ⟨I.dc,I.nd,λ p=>(I.me p).trans incs_mem,by rw [<- yu0]; exact I.le,λ x hx=>by rw [I.ls x hx,sn0]⟩
variable {μ':Mu}
theorem AtD.ext {d:Addr} {S:[18]} (a:AtD μ d ts A) (hs:μ s=some (.dcl false S)) (ne:d ≠ s) (e:ExtB s μ μ'):AtD μ' d ts A :=
 ⟨e _ _ ne a.dc,a.nd,a.me,a.le,λ x hx=>e _ _ (λ z=>by have:=a.ls x hx; simp_all) (a.ls x hx)⟩
theorem AtD.mono {d:Addr} (a:AtD μ d ts A) (e:Ext μ μ'):AtD μ' d ts A:=⟨e _ _ a.dc,a.nd,a.me,a.le,λ x hx=>e _ _ (a.ls x hx)⟩
theorem ts4 {d:Addr} {p:Pt} (a:AtD μ d ts A) (h:∃ s ∈ ts,has p s=true) (k:∀ q,μ q=some (.lst ((ts.filter (has p)).map encT))->Q (.ref q) μ):dgR (.ref d) (encQ p) μ Q:=by
 obtain ⟨⟨p',q⟩,hx,e⟩:=List.mem_map.mp ((a.me p).mpr h);dsimp only at e; subst e;unfold dgR;simp only [xi3,a.dc,we1 a.nd hx];exact k q (a.ls _ hx)
theorem tj3 {l m:List D} (h1:μ p=some (.lst l)) (h2:μ q=some (.lst m)) (hl:l.length + m.length<=sizeLine) (k:Q .non (updM μ p (.lst (l ++ m)))):extR (.ref p) [.ref q] μ Q:=by
 unfold extR
 simp_all
structure Mk (ts S:List T3) (a:T3) (P:List T3):Prop where
 nd:P.Nodup
 sub:∀ x ∈ P,x ∈ ts /\ x ∉ S
 hd:a ∈ P
 co:∀ x ∈ P,Conn ts a x
variable {P:List T3}
theorem Mk.len {a:T3} (m:Mk ts S a P):P.length<=ts.length:=List.Nodup.length_le_of_subset m.nd λ x hx=>(m.sub x hx).1
theorem Mk.add {a h:T3} {p:Pt} (hn:ts.Nodup) (m:Mk ts S a P) (hh:h ∈ P) (hp:has p h=true):Mk ts S a (P ++ (ts.filter (has p)).filter λ t=>!decide (t ∈ S ++ P)):=by
 refine ⟨?_,λ x hx=>?_,mem_append_left _ m.hd,λ x hx=>?_⟩
 ·rw [nodup_append];refine ⟨m.nd,(hn.filter _).filter _,λ x hx y hy e=>?_⟩
  simp_all
 ·rcases List.mem_append.mp hx with hx | hx
  ·exact m.sub x hx
  simp_all
 ·rcases List.mem_append.mp hx with hx | hx
  ·exact m.co x hx
  ·rw [mem_filter,mem_filter] at hx;exact .step (m.co h hh) hx.1.1 ⟨p,hp,hx.1.2⟩
structure Wp (μ μ':Mu) (ts S:List T3) (a:T3) (s pc:Addr) (P:List T3):Prop where
 eb:ExtB s μ μ'
 fr:μ pc=none
 pl:μ' pc=some (.lst (P.map encT))
 sn:μ' s=some (.dcl false (snk (S ++ P)))
 mkk:Mk ts S a P
theorem ExtB.updn {o:MO} (e:ExtB s μ0 μ) (h:μ0 p=none):ExtB s μ0 (updM μ p o):=λ a u n q=>by
 rw [za0 (ta0 q h)]; exact e a u n q
theorem wr1 {a h:T3} {d pc:Addr} {p:Pt} {o4 o5:Option D} (hn:ts.Nodup) (hl:ts.length < 60) (hS:S.length < 60) (hs:∃ S,μ s=some (.dcl false S)) (hd:AtD μ d ts A) (ne:d ≠ s) (W:Wp μ μ' ts S a s pc P) (hh:h ∈ P) (hp:has p h=true)
    (k:∀ μ2 N,Wp μ μ2 ts S a s pc (P ++ N)->(∀ c ∈ ts,has p c=true->c ∈ S ++ (P ++ N))->Q .non μ2) :
    mt3 extR (v3 3) (xa0 (va0 xp1 (xa0 (o3 dgR (v3 1) (v3 6)) [36])) nil3) [o0,some (.ref d),some (.ref s),some (.ref pc),o4,o5,some (encQ p)] μ' Q:=by
 have hz:(1000:Nat) < sizeLine:=by decide
 obtain ⟨S0,hs0⟩:=hs;have a':=hd.ext hs0 ne W.eb;have lP:=W.mkk.len
 conv=>whnf
 rw [W.pl];show dgR (.ref d) (encQ p) μ' (λ x μ1=>_);refine ts4 a' ⟨h,(W.mkk.sub h hh).1,hp⟩ λ q hq=>?_;have lf:(ts.filter (has p)).length<=ts.length:=length_filter_le _ _;refine ⟨q,s,ts.filter (has p),S ++ P,rfl,hq,W.sn,hn.filter _,by simp_all;omega,λ r μ2 eb hr er es=>?_⟩;have hps:pc ≠ s:=λ z=>by have:=W.pl; rw [z,W.sn] at this; cases this
 have hpr:pc ≠ r:=ta0 W.pl hr;refine tj3 (eb _ _ hps W.pl) er ?_ ?_
 ·rw [length_map,length_map];have:=length_filter_le (λ t=>!decide (t ∈ S ++ P)) (ts.filter (has p));omega
 ·rw [<- map_append];refine k _ _ ⟨(W.eb.trans eb).updn W.fr,W.fr,ya0,?_,W.mkk.add hn hh hp⟩ λ c hc hpc=>?_
  ·rw [za0 (Ne.symm hps),es,append_assoc]
  ·by_cases z:c ∈ S ++ P
   ·rw [<- append_assoc]; exact mem_append_left _ z
   simp_all
noncomputable def spPw:Sp3:=λ ds μ Q=>∃ (ts S:List T3) (a:T3) (d s:Addr) (A:List (Pt × Addr)),ds=[encT a,.ref d,.ref s] /\ Pc ts /\ AtD μ d ts A /\ μ s=some (.dcl false (snk S)) /\ d ≠ s /\ a ∈ ts /\ a ∉ S /\ S.length < 60 ∧
 ∀ (P us:List T3) μ',ExtB s μ μ'->μ' s=some (.dcl false (snk (S ++ P)))->Mk ts S a P->(∀ x ∈ P,∀ c ∈ ts,tch x c->c ∈ S ++ P)->us.Perm P->us.Pairwise le3->Q (.tup (us.map encT)) μ'
theorem ug4:RdQ spPw (zs3 sh0 xp1) tn3:=by
 rintro ds μ Q ⟨ts,S,a,d,s,A,rfl,hP,hd,hs,ne,ha,haS,hS,q⟩;have hn:=zt0 hP;have hl:=hP.2.2;refine uk4 (t:=a) (to:=v3 2) (ti:=v3 0) (ρ:=[some (encT a),some (.ref d),some (.ref s),none,none,none,none]) hs [2] haS (λ R r=>r) (λ R r=>r) ?_;refine ⟨(show 1<=sizeLine by decide),λ pc hpc=>?_⟩;have hps:pc ≠ s:=λ z=>by subst z; rw [ya0] at hpc; cases hpc
 have hpf:μ pc=none:=by rw [za0 hps] at hpc; exact hpc
 have m0:Mk ts S a [a]:=⟨by simp,λ x hx=>by simp_all,by simp,λ x hx=>by rw [mem_singleton] at hx; subst hx; exact .refl⟩;refine ⟨λ m ρ μ'=>∃ (n:Nat) (P:List T3) (o5 o6:Option D),m=ts.length - n /\ n<=P.length /\ ρ=[some (encT a),some (.ref d),some (.ref s),some (.ref pc),some (.int n),o5,o6] /\ Wp μ μ' ts S a s pc P /\ ∀ j x,j < n->P[j]?=some x->∀ c ∈ ts,tch x c->c ∈ S ++ P,⟨ts.length - 0,0,[a],none,none,rfl,Nat.zero_le _,rfl,⟨ExtB.upd.updn hpf,hpf,ya0,?_,m0⟩,λ j x hj=>absurd hj (Nat.not_lt_zero _)⟩,?_⟩
 ·rw [za0 (Ne.symm hps),ya0]
 ·rintro m ρ μ' ⟨n,P,o5,o6,rfl,hnP,rfl,W,cv⟩;have lP:=W.mkk.len
  conv=>whnf
  rw [W.pl];show if decide ((n:Int) < ((P.map encT).length:Int))=true then _ else _;by_cases cn:n < P.length
  ·rw [if_pos (decide_eq_true [16])];refine ⟨λ ρ1 μ1=>∃ (P1:List T3) (o5 o6:Option D),n + 1<=P1.length /\ ρ1=[some (encT a),some (.ref d),some (.ref s),some (.ref pc),some (.int ((n:Int) + 1)),o5,o6] /\ Wp μ μ1 ts S a s pc P1 /\ ∀ j x,j < n + 1->P1[j]?=some x->∀ c ∈ ts,tch x c->c ∈ S ++ P1,?_,?_⟩
   ·rintro ρ1 μ1 ⟨P1,o5',o6',hn1,rfl,W1,cv1⟩;exact ⟨ts.length - (n + 1),by omega,n + 1,P1,o5',o6',rfl,hn1,rfl,W1,cv1⟩
   ·obtain ⟨b1,ea⟩:=ye1 (ts:=P) (i:=(n:Int)) [2] [2];refine vc0 W.pl ea ?_;have ei:((n:Int)).toNat=n:=by omega
    have hg:P[n]?=some (P[n]'cn):=getElem?_eq_getElem cn;have eh:P[((n:Int)).toNat]=P[n]'cn:=by congr 1
    rw [eh];generalize P[n]'cn=h at hg;have hh:h ∈ P:=mem_of_getElem? hg;have hw:wy h:=hP.2.1 h (W.mkk.sub h hh).1;refine ⟨h,rfl,hw,?_⟩
    refine zd1 (λ ρ1 μ1=>∃ N o6,ρ1=[some (encT a),some (.ref d),some (.ref s),some (.ref pc),some (.int n),some (encT h),o6] /\ Wp μ μ1 ts S a s pc (P ++ N) /\ ∀ c ∈ ts,has (e0 h) c=true->c ∈ S ++ (P ++ N))
     (λ ρ1 μ1=>∃ N o6,ρ1=[some (encT a),some (.ref d),some (.ref s),some (.ref pc),some (.int n),some (encT h),o6] /\ Wp μ μ1 ts S a s pc (P ++ N) /\ (∀ c ∈ ts,has (e0 h) c=true->c ∈ S ++ (P ++ N)) /\ ∀ c ∈ ts,has (e1 h) c=true->c ∈ S ++ (P ++ N)) ?_ ?_ ?_
    ·exact wr1 (p:=e0 h) hn hl hS ⟨_,hs⟩ hd ne W hh (ui1 h) λ μ2 N W2 cv2=>⟨N,_,rfl,W2,cv2⟩
    ·rintro ρ1 μ1 ⟨N,o6',rfl,W1,cv1⟩;refine wr1 (p:=e1 h) hn hl hS ⟨_,hs⟩ hd ne W1 (mem_append_left _ hh) (vi1 h) λ μ2 N2 W2 cv2=>⟨N ++ N2,_,rfl,by simp_all,λ c hc hp=>?_,λ c hc hp=>by simp_all⟩;rw [<- append_assoc,<- append_assoc];refine mem_append_left _ ?_
     simp_all
    ·rintro ρ1 μ1 ⟨N,o6',rfl,W1,cv0,cv1⟩;refine ⟨P ++ N,_,_,by simp_all;omega,rfl,W1,λ j x hj ex c hc ht=>?_⟩;by_cases cj:j < n
     ·rw [getElem?_append_left [2]] at ex;rcases List.mem_append.mp (cv j x cj ex c hc ht) with z | z
      ·simp_all
      simp_all
     ·have ej:j=n:=by omega
      subst ej;rw [getElem?_append_left [2],hg] at ex;cases ex;obtain ⟨p,p1,p2⟩:=ht;rcases xo0 p1 with rfl | rfl
      ·exact cv0 c hc p2
      simp_all
  ·rw [if_neg (λ z=>cn [16])];refine tc2 (Q:=λ d μ1=>tupR [d] μ1 Q) W.pl [2] λ us a1 a2 r hr=>wb1 ya0 (q P us _ (W.eb.trans (Ext.b s (Ext.new hr))) ?_ W.mkk ?_ a1 a2)
   ·rw [za0 (ta0 W.sn hr)]; exact W.sn
   ·intro x hx c hc ht;obtain ⟨j,hj,ej⟩:=getElem_of_mem hx;exact cv j x [2] [16] c hc ht
noncomputable def encU (u:List T3):D:=.tup (u.map encT)
structure Wq (ts S:List T3) (us:List (List T3)):Prop where
 perm:us.flatten.Perm S
 nd:S.Nodup
 sub:∀ x ∈ S,x ∈ ts
 ne:∀ u ∈ us,u ≠ []
 up:∀ u ∈ us,u.Pairwise le3
 cl:∀ u ∈ us,∀ a ∈ u,∀ c ∈ ts,tch a c->c ∈ u
 co:∀ u ∈ us,∀ a ∈ u,∀ b ∈ u,Conn ts a b
variable {us:List (List T3)}
theorem Wq.scl (w:Wq ts S us) {x c:T3} (hx:x ∈ S) (hc:c ∈ ts) (ht:tch x c):c ∈ S:=by
 obtain ⟨u,hu,xu⟩:=List.mem_flatten.mp (w.perm.mem_iff.mpr hx);exact w.perm.mem_iff.mp (List.mem_flatten.mpr ⟨u,hu,w.cl u hu x xu c hc ht⟩)
theorem Wq.add {u:List T3} {a:T3} (ha:a ∈ ts) (w:Wq ts S us) (m:Mk ts S a P) (cv:∀ x ∈ P,∀ c ∈ ts,tch x c->c ∈ S ++ P) (hu:u.Perm P) (hs:u.Pairwise le3):Wq ts (S ++ P) (us ++ [u]):=by
 have clP:∀ x ∈ P,∀ c ∈ ts,tch x c->c ∈ P:=λ x hx c hc ht=>by
  rcases List.mem_append.mp (cv x hx c hc ht) with z | z
  ·exact absurd (w.scl z (m.sub x hx).1 ht.symm) (m.sub x hx).2
  ·exact z
 have each:∀ {C:List T3->Prop},(∀ v ∈ us,C v)->C u->∀ v ∈ us ++ [u],C v:=λ h k v hv=>by
  rcases List.mem_append.mp hv with hv | hv
  ·exact h v hv
  simp_all
 refine ⟨?_,?_,λ x hx=>?_,each w.ne ?_,each w.up hs,each w.cl ?_,each w.co ?_⟩
 ·rw [List.flatten_append];exact List.Perm.append w.perm (by simpa using hu)
 ·rw [nodup_append];exact ⟨w.nd,m.nd,λ x hx y hy e=>(m.sub y hy).2 (e ▸ hx)⟩
 ·rcases List.mem_append.mp hx with z | z
  ·exact w.sub x z
  ·exact (m.sub x z).1
 ·intro z; subst z; exact absurd (hu.symm.mem_iff.mp m.hd) [10]
 ·intro x hx c hc ht;exact hu.mem_iff.mpr (clP x (hu.mem_iff.mp hx) c hc ht)
 ·intro x hx y hy;exact ((m.co x (hu.mem_iff.mp hx)).symm ha).trans (m.co y (hu.mem_iff.mp hy))
noncomputable def ul0:Sp3:=λ ds μ Q=>∃ ts:List T3,ds=[.tup [9]] /\ Pc ts /\ ∀ r (us:List (List T3)) μ',Ext μ μ'->μ r=none->μ' r=some (.lst (us.map encU))->IsP ts us->Q (.ref r) μ'
theorem tg4:RdQ ul0 (ws3 xl0 spPw spAt) sn3:=by
 rintro ds μ Q ⟨ts,rfl,hP,q⟩;have hn:=zt0 hP;have hl:=hP.2.2;have hz:(1000:Nat) < sizeLine:=by decide
 refine ⟨ts,rfl,hP,ts,rfl,hP.2.1,hl,λ d A μ1 I=>?_⟩;intro s hs;refine ⟨Nat.zero_le _,λ pl hpl=>?_⟩;have hds:d ≠ s:=ta0 I.dc hs;have hpls:pl ≠ s:=λ z=>by subst z; rw [ya0] at hpl; cases hpl
 have hpl1:μ1 pl=none:=by rw [za0 hpls] at hpl; exact hpl
 refine wi0 (λ l ρ μ'=>∃ (ks js S:List T3) (us:List (List T3)) (o:Option D),l=ks.map encT /\ js ++ ks=ts /\ ρ=[some (.tup [9]),some (.ref d),some (.ref s),some (.ref pl),o] /\ Ext μ1 μ' /\ μ' s=some (.dcl false (snk S)) /\ μ' pl=some (.lst (us.map encU)) /\ Wq ts S us /\ us.length<=S.length /\ ∀ x ∈ js,x ∈ S) ?_ (λ _ _ _ _=>trivial) ?_ ?_
 ·refine ⟨ts,[],[],[],none,rfl,rfl,rfl,(Ext.new hs).trans (Ext.new hpl),?_,ya0,⟨by simp,nodup_nil,λ _ h=>(nomatch h),λ _ h=>(nomatch h),λ _ h=>(nomatch h),λ _ h=>(nomatch h),λ _ h=>(nomatch h)⟩,Nat.le_refl _,λ _ h=>(nomatch h)⟩;rw [za0 (Ne.symm hpls),ya0]; rfl
 ·rintro ρ μ' ⟨ks,js,S,us,o,e,ej,rfl,ex,es,ep,w,lu,hj⟩;cases ks with
  | cons _ _=>cases e
  | nil =>
   rw [append_nil] at ej;subst ej;refine q pl us μ' (I.ex.trans ex) (I.ex.free hpl1) ep ⟨w.perm.trans ((List.perm_ext_iff_of_nodup w.nd hn).mpr λ x=>⟨w.sub x,hj x⟩),w.ne,w.up,w.cl,w.co⟩
 ·rintro x rest ρ μ' ⟨ks,js,S,us,o,e,ej,rfl,ex,es,ep,w,lu,hj⟩;cases ks with
  | nil=>cases e
  | cons a ks =>
   rw [map_cons] at e;injection e with e2 e3
   subst e2 e3;have ha:a ∈ ts:=by rw [<- ej]; simp
   have lS:S.length<=ts.length:=List.Nodup.length_le_of_subset w.nd w.sub
   conv=>whnf
   rw [es];show if (!(valL (snk S) (tk3 a)).isSome)=true then _ else _;rw [xn1];by_cases c:a ∈ S
   ·rw [decide_eq_true c];refine ⟨ks,js ++ [a],S,us,_,rfl,by rw [<- ej]; simp,rfl,ex,es,ep,w,lu,λ x hx=>?_⟩;rcases List.mem_append.mp hx with z | z
    ·exact hj x z
    simp_all
   ·rw [decide_eq_false c]
    conv=>whnf
    rw [ep];refine ⟨ts,S,a,d,s,A,rfl,hP,I.d.mono ex,es,hds,ha,c,by omega,λ P v μ2 eb es2 m cv v1 v2=>?_⟩;have ep2:=eb pl _ hpls ep;have lP:=m.len;have w2:=w.add ha m cv v1 v2;have lS2:(S ++ P).length<=ts.length:=List.Nodup.length_le_of_subset w2.nd w2.sub;have hP1:1<=P.length:=List.length_pos_of_mem m.hd
    conv=>whnf
    rw [ep2];refine ⟨by simp_all;omega,?_⟩;refine ⟨ks,js ++ [a],S ++ P,us ++ [v],_,rfl,by rw [<- ej]; simp,rfl,?_,?_,?_,w2,?_,λ x hx=>?_⟩
    ·intro b o' hb;have n1:b ≠ s:=ta0 hb hs;have n2:b ≠ pl:=ta0 hb hpl1;rw [za0 n2];exact eb b o' n1 (ex b o' hb)
    ·rw [za0 (Ne.symm hpls)]; exact es2
    ·rw [ya0,map_append]; rfl
    ·simp_all;omega
    ·rcases List.mem_append.mp hx with z | z
     ·simp_all
     ·rw [mem_singleton] at z; subst z; exact mem_append_right _ m.hd
noncomputable def decQ (d:D):Pt:=match d with
 | .tup [.int a,.int b]=>(a,b)
 | _=>(0,0)
theorem zo2 (p:Pt):decQ (encQ p)=p:=rfl
theorem sk5 (g:Pt->Bool) (A:List Pt):(A.map encQ).filter (λ d=>g (decQ d))=(A.filter g).map encQ:=by
 rw [filter_map]; rfl
theorem vr2 {ps:List Pt} (h:μ p=some (.lst (ps.map encQ))) (h64:ps.length < 100000) (k:∀ us:List Pt,us.Perm ps->us.Pairwise le2->∀ r,μ r=none->Q (.ref r) (updM μ r (.lst (us.map encQ)))):yw0 [.ref p] μ Q:=by
 have e:t2s? (ps.map encQ)=some ps:=xo1 ps;unfold yw0;simp only [h,e]
 exact ⟨by have:(100000:Nat) < sizeLine:=by decide
           omega,k⟩
noncomputable def vw3:Sp3:=λ ds μ Q=>∃ ts:List T3,ds=[.tup [9]] /\ Pc ts /\ (∀ p,deg ts p % 2=0) /\ ∀ r μ',Ext μ μ'->μ r=none->μ' r=some (.lst [])->Q (.ref r) μ'
theorem zh4:RdQ vw3 (ss3 xl0 spAt) wo3:=by
 rintro ds μ Q ⟨ts,rfl,hP,ev,q⟩;have hz:(1000:Nat) < sizeLine:=by decide
 have tl:=hP.2.2;refine ⟨ts,rfl,hP,ts,rfl,hP.2.1,hP.2.2,λ d A μ1 I=>?_⟩;have a:=I.d;have lA:=a.le
 conv=>whnf
 rw [I.dc];intro p hp
 have el:((atk A).map λ kv=>tupI kv.1)=(A.map (·.1)).map encQ:=by
  unfold atk; rw [map_map,map_map]; rfl
 rw [el];refine vj1 (rest:=[some (.ref d)]) (λ x=>decide (deg ts (decQ x) % 2=1)) hp [8] (λ μ' ex=>ex _ _ I.dc) ?_ ?_
 ·intro x hx μ' R ex kk;obtain ⟨p',hp',rfl⟩:=List.mem_map.mp hx;show dgR (.ref d) (encQ p') μ' (λ x μ1=>_);refine ts4 (a.mono ex) ((a.me p').mp hp') λ r hr=>?_
  conv=>whnf
  rw [hr];refine ⟨(show (0:Int) < 2 by decide),?_⟩
  have e:decide ((((ts.filter (has p')).map encT).length:Int) % 2=1)=decide (deg ts (decQ (encQ p')) % 2=1):=by
   rw [zo2,length_map];unfold deg;rw [List.countP_eq_length_filter]
   simp_all;omega
  show R (decide ((((ts.filter (has p')).map encT).length:Int) % 2=1)) μ';rw [e];exact kk
 ·intro μ2 ex e2;rw [sk5 (λ p=>decide (deg ts p % 2=1))] at e2;have en:(A.map (·.1)).filter (λ p=>decide (deg ts p % 2=1))=[]:=List.filter_eq_nil_iff.mpr λ p _=>by simp_all
  rw [en] at e2;refine vr2 (ps:=[]) e2 [19] λ us u1 u2 r hr=>?_;have eu:us=[]:=List.Perm.eq_nil u1;subst eu;exact q r _ (I.ex.trans (ex.trans (Ext.new hr))) ((I.ex.trans ex).free hr) ya0
noncomputable def encS (p:Pt × T3):D:=.tup [encQ p.1,encT p.2]
noncomputable def spSd:Sp3:=λ ds μ Q=>∃ c:Pt,ds=[encQ c] /\ Q (.tup ((sds c).map encS)) μ
theorem wg4:RdQ spSd xs3 wn3:=by
 rintro ds μ Q ⟨c,rfl,q⟩;exact ⟨z2,z3,z2,z2,z3,z2,z2,z3,z2,z2,z3,z2,Z0,q⟩
theorem sk3 {S:Mu->Prop} {te:TE3} {l:List D} {rest:St3} (f:D->Bool) (g:D->D) (hp:μ p=none) (hl:l.length<=sizeLine) (hS:∀ μ',Ext μ μ'->S μ')
    (hc:∀ x ∈ l,∀ μ' R,Ext μ μ'->R (f x) μ'->tc (some x :: rest) μ' R) (hx:∀ x ∈ l,∀ μ' R,Ext μ μ'->R (g x) μ'->te (some x :: rest) μ' R) (hQ:∀ μ',Ext μ μ'->μ' p=some (.lst ((l.filter f).map g))->Q (.ref p) μ'):sd1 S p (gn3 0) tc te Q l (o :: rest) (updM μ p (.lst [])):=by
 refine ⟨λ r ys ρ μ'=>Ext μ μ' /\ μ' p=some (.lst ys) /\ (∃ o',ρ=o' :: rest) /\ ∃ a,a ++ r=l /\ ys=(a.filter f).map g,?_,?_,?_,?_⟩
 ·exact ⟨Ext.new hp,ya0,⟨o,rfl⟩,[],rfl,rfl⟩
 ·simp_all
 ·simp_all
 ·rintro x r ys ρ μ' ⟨h1,h2,⟨o',rfl⟩,a,e,rfl⟩;have hm:x ∈ l:=by rw [<- e]; simp
  refine ⟨?_,hc x hm μ' _ h1 ?_⟩
  ·have h3:=congrArg List.length e;rw [length_append,length_cons] at h3;have:=length_filter_le f a
   simp_all;omega
  ·have e2:(a ++ [x]) ++ r=l:=by rw [<- e]; simp
   cases c:f x with
   | true =>
    refine hx x hm μ' _ h1 ⟨h2,λ b v hb=>?_,ya0,⟨_,rfl⟩,a ++ [x],e2,?_⟩
    ·rw [za0 (ta0 hb hp)];exact h1 b v hb
    simp_all
   | false =>
    refine ⟨h1,h2,⟨_,rfl⟩,a ++ [x],e2,?_⟩
    simp_all
noncomputable def decS (d:D):Pt × T3:=match d with
 | .tup [.tup [.int a,.int b],.tup [.int x,.int y,.int z]]=>((a,b),(x,y,z))
 | _=>((0,0),(0,0,0))
noncomputable def nbs (kvs:[18]) (c:Pt):List Pt:=((sds c).filter λ p=>!(valL kvs (tk3 p.2)).isSome).map (·.1)
noncomputable def spNb:Sp3:=λ ds μ Q=>∃ (c:Pt) (d:Addr) (kvs:[18]),ds=[encQ c,.ref d] /\ μ d=some (.dcl true kvs) /\ ∀ r μ',Ext μ μ'->μ r=none->μ' r=some (.lst ((nbs kvs c).map encQ))->Q (.ref r) μ'
theorem vh4:RdQ spNb (yt3 spSd) uo3:=by
 rintro ds μ Q ⟨c,d,kvs,rfl,hd,q⟩;refine ⟨c,rfl,λ r hr=>?_⟩;refine sk3 (rest:=[some (.ref d)]) (λ x=>!(valL kvs (tk3 (decS x).2)).isSome) (λ x=>encQ (decS x).1) hr Z0 (λ _ _=>trivial) ?_ ?_ ?_
 ·intro x hx μ' R ex k;obtain ⟨p,_,rfl⟩:=List.mem_map.mp hx;have hd':=ex _ _ hd
  conv=>whnf
  rw [hd'];exact k
 ·intro x hx μ' R ex k;obtain ⟨p,_,rfl⟩:=List.mem_map.mp hx;exact k
 ·intro μ' ex e;refine q r μ' ex hr ?_;rw [e];congr 2;unfold nbs;rw [filter_map,map_map,map_map];rfl
noncomputable def col (x y:Int) (h:Nat):List Pt:=(List.range h).map λ j:Nat=>(x,y + (j:Int))
noncomputable def grid (x y:Int) (w h:Nat):List Pt:=(List.range w).flatMap λ i:Nat=>col (x + (i:Int)) y h
theorem zu0 (x y:Int) (w h:Nat):(grid x y w h).length=w * h:=by
 unfold grid col;rw [List.length_flatMap];simp [List.map_const',List.sum_replicate_nat]
theorem zz0 (x y:Int) (w h:Nat):grid x y (w + 1) h=grid x y w h ++ col (x + (w:Int)) y h:=by
 unfold grid;rw [List.range_succ,List.flatMap_append];simp
variable {h:Nat}
theorem tl1 {x y:Int} (hw:0 < w) (hh:0 < h):(x,y) ∈ grid x y w h:=by
 unfold grid col;rw [List.mem_flatMap];exact ⟨0,List.mem_range.mpr hw,List.mem_map.mpr ⟨0,List.mem_range.mpr hh,by simp⟩⟩
noncomputable def encB (x0 y0 x1 y1:Int):D:=.tup [.int x0,.int y0,.int x1,.int y1]
noncomputable def spCr:Sp3:=λ ds μ Q=>∃ (x0 y0 x1 y1:Int) (w h:Nat),ds=[encB x0 y0 x1 y1] /\ x1 - x0 + 2=w /\ y1 - y0 + 2=h /\ w * h<=2500 /\ 0 < w /\ 0 < h /\ (-(2 ^ 61)<=x0 /\ x0<=2 ^ 61 /\ -(2 ^ 61)<=y0 /\ y0<=2 ^ 61) /\ ∀ r μ',Ext μ μ'->μ r=none->μ' r=some (.lst ((grid (x0 - 1) (y0 - 1) w h).map encQ))->Q (.ref r) μ'
theorem xf5:RdQ spCr t_q5 N_q5:=by
 rintro ds μ Q ⟨x0,y0,x1,y1,w,h,rfl,ew,eh,hz,hw,hh,⟨b1,b2,b3,b4⟩,q⟩;have hs:(1000000:Nat) < sizeLine:=by decide
 have w5:w<=2500:=Nat.le_trans (Nat.le_mul_of_pos_right w hh) hz;have h5:h<=2500:=Nat.le_trans (Nat.le_mul_of_pos_left h hw) hz;refine ⟨Nat.zero_le _,λ r hr=>?_⟩;refine ⟨⟨by omega,by omega,by omega,by omega⟩,?_⟩;rw [show (x1 + 1 - (x0 - 1)).toNat=w by omega];refine vj0 (λ l ρ μ'=>∃ (i:Nat) (o:Option D),i<=w /\ l=rngD (x0 - 1 + (i:Int)) (w - i) /\ ρ=[some (encB x0 y0 x1 y1),some (.ref r),o] /\ Ext μ μ' /\ μ' r=some (.lst ((grid (x0 - 1) (y0 - 1) i h).map encQ))) ?_ (λ _ _ _ _=>trivial) ?_ ?_
 ·exact ⟨0,none,Nat.zero_le _,by simp,rfl,Ext.new hr,ya0⟩
 ·rintro ρ μ' ⟨i,o,hi,e,rfl,ex,er⟩
  have:w - i=0:=by
   have:=congrArg List.length e;simpa [rngD] using this.symm
  have e2:i=w:=by omega
  subst e2;exact q r μ' ex hr er
 ·rintro GG hG x rest ρ μ' ⟨i,o,hi,e,rfl,ex,er⟩;cases hk:w - i with
  | zero=>rw [hk] at e; cases e
  | succ k =>
   rw [hk,we0] at e;injection e with e1 e2
   subst e1 e2;subst hG;have gl:=zu0 (x0 - 1) (y0 - 1) i h
   have il:i * h + h<=2500:=by
    have:(i + 1) * h<=w * h:=Nat.mul_le_mul_right h [2];rw [Nat.add_mul,Nat.one_mul] at this;omega
   conv=>whnf
   rw [er];refine ⟨⟨by omega,by omega,by omega,by omega⟩,λ p hp=>?_⟩;rw [show (y1 + 1 - (y0 - 1)).toNat=h by omega];refine yc0 (rest:=[some (.int (x0 - 1 + (i:Int)))]) (λ d=>.tup [.int (x0 - 1 + (i:Int)),d]) hp (by simp [rngD]; omega) (λ _ _=>trivial) ?_ ?_
   ·intro y hy μ2 R ex2 kk;exact ⟨z2,kk μ2 (Ext.refl _)⟩
   ·intro μ2 ex2 e2
    have el:(rngD (y0 - 1) h).map (λ d=>D.tup [.int (x0 - 1 + (i:Int)),d])=(col (x0 - 1 + (i:Int)) (y0 - 1) h).map encQ:=by
     unfold rngD col;rw [map_map,map_map];rfl
    rw [el] at e2;have er2:=ex2 _ _ er;have np:r ≠ p:=ta0 er hp;dsimp only [nil3];refine tj3 er2 e2 (by rw [length_map,length_map,gl]; unfold col; simp; omega) ?_;refine ⟨i + 1,_,by omega,?_,rfl,λ a o ha=>?_,?_⟩
    ·rw [show w - (i + 1)=k by omega];congr 1;omega
    ·rw [za0 (ta0 ha hr)]; exact ex2 _ _ (ex _ _ ha)
    ·rw [ya0,<- map_append,<- zz0]
theorem sn2 {k:List Int} (h:(valL kvs k).isSome=true):(xa1 kvs k).length + 1<=kvs.length:=by
 unfold xa1
 induction kvs with
 | nil=>cases h
 | cons a r ih =>
  rw [filter_cons];by_cases c:a.1=k
  ·rw [if_neg (by simp [c])];have:=length_filter_le (λ kv:List Int × D=>decide (kv.1 ≠ k)) r
   simp_all
  ·have h':(valL r k).isSome=true:=by simpa [valL,c] using h
   simp_all
variable {c:Pt} {u:Addr}
theorem ul4 {i:Nat} {R:VK3} (hi:getI ρ i=some (.ref u)) (hj:getI ρ j=some (encQ c)) (hu:μ u=some (.dcl true kvs)) (hv:(valL kvs (ptk c)).isSome=true) (k:∀ v,R v (updM μ u (.dcl true (xa1 kvs (ptk c))))):dm3 true (v3 i) (xa0 (v3 j) nil3) ρ μ R:=by
 unfold dm3 xa0 v3 nil3;rw [hi];dsimp only;rw [hu];dsimp only;rw [hj];dsimp only;rw [xi3];dsimp only;cases e:valL kvs (ptk c) with
 | none=>simp_all
 | some v=>exact k v
theorem ap_d {i:Nat} {l:List D} (hi:getI ρ i=some (.ref p)) (hj:getI ρ j=some x) (h:μ p=some (.lst l)) (k:l.length < sizeLine /\ D'.nx ρ (updM μ p (.lst (l ++ [x])))):wc0 (mt3 appR (v3 i) (xa0 (v3 j) nil3)) D' ρ μ:=by
 unfold wc0 mt3 xa0 v3 nil3;rw [hi];dsimp only;rw [h];dsimp only;rw [hj];simp only [appR,h];exact k
theorem ExtB.free {r:Addr} (e:ExtB u μ μ') (h:μ' r=none) (n:r ≠ u):μ r=none:=by
 cases q:μ r with
 | none=>rfl
 | some o=>rw [e r o n q] at h; cases h
noncomputable def ud (U:List Pt):List (List Int × D):=U.map λ c=>(ptk c,.bl true)
theorem xp0 (c:Pt):∀ U:List Pt,(valL (ud U) (ptk c)).isSome=decide (c ∈ U)
 | []=>by simp [valL,ud]
 | d :: U=>by
  have ih:=xp0 c U;by_cases e:d=c
  ·subst e; simp [valL,ud]
  ·have e':¬ ptk d=ptk c:=λ z=>e (yi0 z);have e2:¬ c=d:=λ z=>e z.symm;simp only [valL,ud,map_cons,find?_cons,e',decide_false,mem_cons,e2,false_or] at ih ⊢;exact ih
theorem vd1 (c:Pt) (U:List Pt):xa1 (ud U) (ptk c)=ud (U.filter λ d=>decide (d ≠ c)):=by
 unfold xa1 ud;rw [filter_map];congr 1;refine List.filter_congr λ d _=>?_;show decide (ptk d ≠ ptk c)=_;by_cases e:d=c
 ·subst e; simp
 ·rw [decide_eq_true e];exact decide_eq_true λ z=>e (yi0 z)
noncomputable def Sd (fs:[18]) (ts:List T3):Prop:=∀ s,(valL fs (tk3 s)).isSome=decide (s ∈ ts)
theorem vt1 {fs:[18]} (h:Sd fs ts) (c e:Pt):e ∈ nbs fs c ↔ nxt (· ∈ ts) c e:=by
 unfold nbs nxt;rw [mem_map];constructor
 ·rintro ⟨p,hp,rfl⟩;obtain ⟨h1,h2⟩:=List.mem_filter.mp hp;rw [h p.2] at h2;exact ⟨p.2,h1,λ z=>by simp_all⟩
 ·rintro ⟨s,h1,h2⟩;exact ⟨(e,s),List.mem_filter.mpr ⟨h1,by rw [h s,decide_eq_false h2]; rfl⟩,rfl⟩
noncomputable def spTc:Sp3:=λ ds μ Q=>∃ (c:Pt) (d u:Addr) (fs:[18]) (ts:List T3) (U:List Pt),ds=[encQ c,.ref d,.ref u] /\ μ d=some (.dcl true fs) /\ Sd fs ts /\ μ u=some (.dcl true (ud U)) /\ d ≠ u /\ c ∈ U /\ U.length<=2600 ∧
 ∀ r (ps us U':List Pt) n μ',ExtB u μ μ'->μ r=none->r ≠ u->μ' r=some (.lst (us.map encQ))->μ' u=some (.dcl true (ud U'))->Fl (· ∈ ts) U c ps n->ps.length<=n->us.Perm ps->us.Pairwise le2->(∀ e,e ∈ U' ↔ e ∈ U /\ e ∉ ps)->U'.length<=U.length->Q (.ref r) μ'
structure Wtk (μ μ':Mu) (u tk:Addr) (B:T3->Prop) (U U':List Pt) (c:Pt) (ps:List Pt) (n:Nat):Prop where
 eb:ExtB u μ μ'
 un:μ' u=some (.dcl true (ud U'))
 pl:μ' tk=some (.lst (ps.map encQ))
 le:ps.length + U'.length<=U.length
 fl:Fl B U c ps n
 mm:∀ e,e ∈ U' ↔ e ∈ U /\ e ∉ ps
variable {U:List Pt}
theorem sx1 {y:Pt} (h:y ∈ U):(U.filter λ d=>decide (d ≠ y)).length + 1<=U.length:=by
 have:=sn2 (kvs:=ud U) (k:=ptk y) (by rw [xp0,decide_eq_true h]);rw [vd1] at this;simpa [ud] using this
theorem xg4:RdQ spTc (tr3 spNb) xn3:=by
 rintro ds μ Q ⟨c,d,u,fs,ts,U,rfl,hd,hS,hu,ne,hc,hl,q⟩;have hz:(1000000:Nat) < sizeLine:=by decide
 refine ul4 (i:=2) (j:=0) (c:=c) (ρ:=[some (encQ c),some (.ref d),some (.ref u),none,none,none,none]) rfl rfl hu (by rw [xp0,decide_eq_true hc]) λ _=>?_;have dl:=sx1 hc;rw [vd1];refine ⟨(show 1<=sizeLine by decide),λ tk htk=>?_⟩;have ntu:tk ≠ u:=λ z=>by subst z; rw [ya0] at htk; cases htk
 have htf:μ tk=none:=by rw [za0 ntu] at htk; exact htk
 have ndt:d ≠ tk:=ta0 hd htf;refine ⟨λ m ρ μ'=>∃ (n:Nat) (ps U':List Pt) (o5 o6:Option D),m=U'.length + (ps.length - n) /\ n<=ps.length /\ ρ=[some (encQ c),some (.ref d),some (.ref u),some (.ref tk),some (.int n),o5,o6] /\ Wtk μ μ' u tk (· ∈ ts) U U' c ps n,⟨_,0,[c],U.filter (λ d=>decide (d ≠ c)),none,none,rfl,Nat.zero_le _,rfl,⟨ExtB.upd.updn htf,?_,ya0,by simp_all;omega,Fl.one hc,λ e=>?_⟩⟩,?_⟩
 ·rw [za0 (Ne.symm ntu),ya0]
 ·simp
 ·rintro m ρ μ' ⟨n,ps,U',o5,o6,rfl,hn,rfl,W⟩;have hle:=W.le
  conv=>whnf
  rw [W.pl];show if decide ((n:Int) < ((ps.map encQ).length:Int))=true then _ else _;by_cases cn:n < ps.length
  ·rw [if_pos (decide_eq_true [16])];refine ⟨λ ρ1 μ1=>∃ (ps1 U1:List Pt) (o5 o6:Option D),n + 1<=ps1.length /\ U1.length + ps1.length<=U'.length + ps.length /\ ρ1=[some (encQ c),some (.ref d),some (.ref u),some (.ref tk),some (.int ((n:Int) + 1)),o5,o6] /\ Wtk μ μ1 u tk (· ∈ ts) U U1 c ps1 (n + 1),?_,?_⟩
   ·rintro ρ1 μ1 ⟨ps1,U1,o5',o6',hn1,hl1,rfl,W1⟩;exact ⟨U1.length + (ps1.length - (n + 1)),by omega,n + 1,ps1,U1,o5',o6',rfl,hn1,rfl,W1⟩
   ·have ea:atI (ps.map encQ) (n:Int)=some (encQ ps[n]):=by
      unfold atI ixN
      simp_all
    refine vc0 W.pl ea ?_;have hd':=W.eb d _ ne hd;refine ⟨_,d,fs,rfl,hd',λ r μ1 ex1 hr er=>?_⟩;have nru:r ≠ u:=(ta0 W.un hr).symm;have nrt:r ≠ tk:=(ta0 W.pl hr).symm
    conv=>whnf
    rw [er];refine vj0 (λ l ρ μ2=>∃ (js qs ps1 U1:List Pt) (o6:Option D),l=qs.map encQ /\ js ++ qs=nbs fs ps[n] /\ (∀ e ∈ js,e ∈ U->e ∈ ps1) /\ (∃ h:n < ps1.length,ps1[n]=ps[n]) /\ U1.length + ps1.length<=U'.length + ps.length /\ ρ=[some (encQ c),some (.ref d),some (.ref u),some (.ref tk),some (.int n),some (encQ ps[n]),o6] /\ Wtk μ μ2 u tk (· ∈ ts) U U1 c ps1 n /\ μ2 r=some (.lst ((nbs fs ps[n]).map encQ))) ?_ ?_ ?_ ?_
    ·exact ⟨[],_,ps,U',_,rfl,rfl,(λ e h=>nomatch h),⟨cn,rfl⟩,Nat.le_refl _,rfl,⟨W.eb.trans (Ext.b u ex1),ex1 _ _ W.un,ex1 _ _ W.pl,W.le,W.fl,W.mm⟩,er⟩
    ·simp
    ·rintro ρ μ2 ⟨js,qs,ps1,U1,o6',e,ej,hj,⟨h1,e1⟩,h2,rfl,W1,_⟩;cases qs with
     | cons _ _=>cases e
     | nil =>
     rw [append_nil] at ej;exact ⟨ps1,U1,_,o6',h1,h2,rfl,⟨W1.eb,W1.un,W1.pl,W1.le,W1.fl.next h1 λ e hx he=>hj e (by rw [ej]; exact (vt1 hS _ _).mpr [16]) he,W1.mm⟩⟩
    ·rintro GG hG x rest ρ μ2 ⟨js,qs,ps1,U1,o6',e,ej,hj,⟨h1,e1⟩,h2,rfl,W1,er1⟩;cases qs with
     | nil=>cases e
     | cons y qs =>
      rw [map_cons] at e;injection e with e1' e2'
      subst e1' e2';subst hG;have l1:=W1.le;have hyn:nxt (· ∈ ts) ps1[n] y:=by rw [e1]; exact (vt1 hS _ _).mp (by rw [<- ej]; simp)
      have ej':(js ++ [y]) ++ qs=nbs fs ps[n]:=by rw [<- ej]; simp
      conv=>whnf
      rw [W1.un];show if (valL (ud U1) (ptk y)).isSome=true then _ else _;rw [xp0];by_cases cv:y ∈ U1
      ·rw [if_pos (decide_eq_true cv)];have dl1:=sx1 cv;have hyu:=(W1.mm y).mp cv;refine ul4 (i:=2) (j:=6) (c:=y) (ρ:=[some (encQ c),some (.ref d),some (.ref u),some (.ref tk),some (.int n),some (encQ ps[n]),some (encQ y)]) rfl rfl W1.un (by rw [xp0,decide_eq_true cv]) λ _=>?_;rw [vd1];have pl1:updM μ2 u (.dcl true (ud (U1.filter λ d=>decide (d ≠ y)))) tk=some (.lst (ps1.map encQ)):=by rw [za0 ntu]; exact W1.pl
       refine ap_d (i:=3) (j:=6) (x:=encQ y) (ρ:=[some (encQ c),some (.ref d),some (.ref u),some (.ref tk),some (.int n),some (encQ ps[n]),some (encQ y)]) rfl rfl pl1 ⟨by simp_all;omega,js ++ [y],qs,ps1 ++ [y],U1.filter (λ d=>decide (d ≠ y)),_,rfl,ej',λ e he heU=>?_,⟨by simp_all;omega,by simp_all⟩,by simp_all;omega,rfl,⟨?_,?_,?_,?_,W1.fl.add (Nat.le_of_lt h1) (getElem_mem h1) hyn hyu.1 hyu.2,λ e=>?_⟩,?_⟩
       ·rcases List.mem_append.mp he with he | he
        ·simp_all
        simp_all
       ·exact λ a o na ha=>by rw [za0 (ta0 ha htf),za0 na]; exact W1.eb a o na ha
       ·rw [za0 (Ne.symm ntu),ya0]
       ·rw [ya0,map_append]; rfl
       ·simp_all;omega
       ·rw [mem_filter,decide_eq_true_eq,W1.mm,mem_append,mem_singleton];exact ⟨λ ⟨⟨h1,h2⟩,h3⟩=>⟨h1,λ z=>z.elim h2 h3⟩,λ ⟨h1,h2⟩=>⟨⟨h1,λ z=>h2 (.inl z)⟩,λ z=>h2 (.inr z)⟩⟩
       ·rw [za0 nrt,za0 nru]; exact er1
      ·rw [if_neg [16]];refine ⟨js ++ [y],qs,ps1,U1,_,rfl,ej',λ e he heU=>?_,⟨h1,e1⟩,h2,rfl,W1,er1⟩;rcases List.mem_append.mp he with he | he
       ·exact hj e he heU
       ·rw [List.mem_singleton.mp he] at heU ⊢
        false_or_by_contra
        rename_i z;exact cv ((W1.mm y).mpr ⟨heU,z⟩)
  ·rw [if_neg (λ z=>cn [16])];show yw0 [.ref tk] μ' Q;refine vr2 W.pl [2] λ us a1 a2 r hr=>q r ps us U' n _ (W.eb.trans (Ext.b u (Ext.new hr))) ?_ (ta0 W.un hr).symm ya0 ?_ W.fl [2] a1 a2 W.mm [2]
   ·exact W.eb.free hr (ta0 W.un hr).symm
   ·rw [za0 (ta0 W.un hr)]; exact W.un
theorem grid_mem {x y:Int} :c ∈ grid x y w h ↔ inF x y (x + w) (y + h) c:=by
 unfold grid col inF;rw [List.mem_flatMap];constructor
 ·rintro ⟨i,hi,hc⟩;obtain ⟨j,hj,rfl⟩:=List.mem_map.mp hc
  simp_all;omega
 ·rintro ⟨h1,h2,h3,h4⟩;refine ⟨(c.1 - x).toNat,List.mem_range.mpr [2],List.mem_map.mpr ⟨(c.2 - y).toNat,List.mem_range.mpr [2],?_⟩⟩;exact Prod.ext (by dsimp only; omega) (by dsimp only; omega)
theorem zt4 (x y:Int) (h:Nat):(col x y h).Pairwise λ a b=>lt2 a b=true:=by
 unfold col;refine List.pairwise_map.mpr ?_;refine List.pairwise_lt_range.imp λ {a b} lt=>?_;unfold lt2
 simp_all
theorem sc1 (x y:Int) (h:Nat):∀ w:Nat,(grid x y w h).Pairwise λ a b=>lt2 a b=true
 | 0=>List.Pairwise.nil
 | w + 1=>by
  rw [zz0,List.pairwise_append];refine ⟨sc1 x y h w,zt4 _ _ _,λ a ha b hb=>?_⟩;have h1:=grid_mem.mp ha;unfold col at hb;obtain ⟨j,_,rfl⟩:=List.mem_map.mp hb;unfold inF at h1;unfold lt2
  simp_all
theorem vx1 (x y:Int) (w h:Nat):(grid x y w h).Nodup:=by
 unfold List.Nodup;refine (sc1 x y h w).imp λ {a b} l e=>?_;subst e;exact uf0 _ l
theorem vy1:∀ {L acc:[18]},((acc ++ L).map (·.1)).Nodup->L.foldl (λ kvs p=>putL kvs p.1 p.2) acc=acc ++ L
 | [],acc,_=>by simp
 | p :: L,acc,h=>by
  rw [foldl_cons]
  have e:putL acc p.1 p.2=acc ++ [p]:=by
   unfold putL;rw [if_neg];intro z;obtain ⟨kv,h1,h2⟩:=List.any_eq_true.mp z;have h2:=of_decide_eq_true h2;rw [map_append,nodup_append] at h;exact h.2.2 kv.1 (mem_map_of_mem h1) p.1 [10] h2
  rw [e,vy1 (L:=L) (acc:=acc ++ [p]) [16],append_assoc];rfl
theorem xs4 (h:U.Nodup):dof (U.map λ t=>(ptk t,.bl true))=ud U:=by
 have:=vy1 (L:=ud U) (acc:=[]) (by
  rw [nil_append];unfold ud;rw [map_map];exact List.pairwise_map.mpr (h.imp λ {a b} ne z=>ne (yi0 z)))
 exact this
theorem zq2 (s:T3):∀ ts:List T3,(valL (ts.map λ t=>(tk3 t,D.bl true)) (tk3 s)).isSome=decide (s ∈ ts)
 | []=>by simp [valL]
 | t :: ts=>by
  have ih:=zq2 s ts;by_cases e:t=s
  ·subst e; simp [valL]
  ·have e':¬ tk3 t=tk3 s:=λ z=>e (tq0 z);have e2:¬ s=t:=λ z=>e z.symm;simp only [valL,map_cons,find?_cons,e',decide_false,mem_cons,e2,false_or] at ih ⊢;exact ih
theorem ys4 (h:ts.Nodup):Sd (dof (ts.map λ t=>(tk3 t,.bl true))) ts:=λ s=>by
 have:dof (ts.map λ t=>(tk3 t,D.bl true))=ts.map λ t=>(tk3 t,D.bl true):=vy1 (acc:=[]) (by
  rw [nil_append,map_map];exact List.pairwise_map.mpr (h.imp λ {a b} ne z=>ne (tq0 z)))
 rw [this];exact zq2 s ts
noncomputable def spCz:Sp3:=λ ds μ Q=>∃ x0 y0 x1 y1:Int,ds=[encB x0 y0 x1 y1] /\ (-(2 ^ 64) < x1 - x0 + 2 /\ x1 - x0 + 2 < 2 ^ 64) /\ (x1 - x0 + 2) * (y1 - y0 + 2)<=2500 /\ Q .non μ
theorem te5:RdQ spCz t_q7 N_q7:=by
 rintro ds μ Q ⟨x0,y0,x1,y1,rfl,hb,c,q⟩;refine ⟨.inl (.inl hb),?_⟩;show if decide ((2500:Int) < (x1 - x0 + 2) * (y1 - y0 + 2))=true then _ else _;rw [decide_eq_false [2],if_neg [19]];exact q
theorem su1:∀ ts:List T3,uo0 ([9].map λ d=>.tup [d,.bl true])=some (ts.map λ t=>(tk3 t,.bl true))
 | []=>rfl
 | t :: ts=>by
  have:=su1 ts;simp only [map_cons,uo0,this];rfl
theorem xv1:∀ ts:List Pt,uo0 ((ts.map encQ).map λ d=>.tup [d,.bl true])=some (ts.map λ t=>(ptk t,.bl true))
 | []=>rfl
 | t :: ts=>by
  have:=xv1 ts;simp only [map_cons,uo0,this];rfl
theorem sr4 {l:List D} {ps:[18]} (h:μ p=some (.lst l)) (e:uo0 l=some ps) (hl:ps.length<=3000) (k:∀ r,μ r=none->K (.ref r) (updM μ r (.dcl true (dof ps)))):dolR [.ref p] μ K:=by
 have:(3000:Nat) < sizeLine:=by decide
 simp only [dolR,h,e];exact ⟨by omega,k⟩
structure Rl (μ:Mu) (r:Addr) (rs:List (Addr × List Pt)):Prop where
 li:μ r=some (.lst (rs.map λ x=>.ref x.1))
 at':∀ x ∈ rs,μ x.1=some (.lst (x.2.map encQ))
 nd:(rs.map (·.1)).Nodup
 ln:rs.length<=2500
noncomputable def BxS (ts:List T3) (x0 y0 x1 y1:Int) (w h:Nat):Prop:=Bx ts x0 y0 x1 y1 /\ x1 - x0 + 2=w /\ y1 - y0 + 2=h /\ (-(2 ^ 61)<=x0 /\ x0<=2 ^ 61 /\ -(2 ^ 61)<=y0 /\ y0<=2 ^ 61) /\ 1 < w /\ 1 < h /\ w < 2 ^ 61 /\ w * h<=2500
theorem wp2 {x0 y0 x1 y1:Int} (b:BxS ts x0 y0 x1 y1 w h):Fr (· ∈ ts) (x0 - 1) (y0 - 1) (x0 - 1 + w) (y0 - 1 + h):=by
 obtain ⟨bx,ew,eh,_⟩:=b;refine ⟨λ x y hs=>?_,λ x y hs=>?_⟩
 ·have h1:=bx.l0 _ hs; have h2:=bx.m0 _ hs; have h3:=bx.l1 _ hs; have h4:=bx.m1 _ hs;unfold gx at h3;unfold gy at h4
  simp_all;omega
 ·have h1:=bx.l0 _ hs; have h2:=bx.m0 _ hs; have h3:=bx.l1 _ hs; have h4:=bx.m1 _ hs;unfold gx at h3;unfold gy at h4
  simp_all;omega
noncomputable def spRo:Sp3:=λ ds μ Q=>∃ ts:List T3,ds=[.tup [9]] /\ Pc ts /\ (ts=[]->∀ r,μ r=none->Q (.ref r) (updM μ r (.lst []))) /\ (ts ≠ []->∃ x0 y0 x1 y1 w h,BxS ts x0 y0 x1 y1 w h /\ ∀ r rs μ',Ext μ μ'->μ r=none->Rl μ' r rs->(∀ x ∈ rs,μ x.1=none /\ x.1 ≠ r)->IsRo (· ∈ ts) (x0 - 1,y0 - 1) (rs.map (·.2))->Q (.ref r) μ')
theorem vg4:RdQ spRo (ys3 spCr xl0 spCz zz2 spTc) vn3:=by
 rintro ds μ Q ⟨ts,rfl,hP,qe,qn⟩;have hz:(1000000:Nat) < sizeLine:=by decide
 refine ⟨ts,rfl,hP,?_⟩;refine ⟨ts,rfl,hP.2.1,hP.2.2,λ c=>⟨Nat.zero_le _,qe c⟩,λ hn x0 y0 x1 y1 μ1 bx' ex1=>?_⟩;obtain ⟨u0,v0,u1,v1,w,h,bs,q⟩:=qn hn;have F:=wp2 bs;obtain ⟨bx,ew,eh,b,hw,hh,w6,c5⟩:=bs;obtain ⟨rfl,rfl,rfl,rfl⟩:=bx.one bx';show xj0 spCr xl0 spCz zz2 spTc _ [some (.tup [9]),some (encB u0 v0 u1 v1),none,none,none,none] μ1;have em:(u1 - u0 + 2) * (v1 - v0 + 2)=((w * h:Nat):Int):=by simp_all
 refine ⟨u0,v0,u1,v1,rfl,⟨by omega,by omega⟩,by rw [em]; omega,?_⟩;have hw0:0 < w:=by omega
 have hh0:0 < h:=by omega
 intro r2 hr2;refine yc0 (rest:=[]) (λ d=>.tup [d,.bl true]) hr2 (zl hP.2.2) (λ _ _=>trivial) (λ x hx μ' R ex kk=>⟨z2,kk μ' (Ext.refl _)⟩) λ μ2 ex2 e2=>?_;dsimp only [nil3];have tl:=hP.2.2;refine sr4 e2 (su1 ts) [8] λ d hd=>?_;have hS:=ys4 (zt0 hP);have hd3:updM μ2 d (.dcl true (dof (ts.map λ t=>(tk3 t,.bl true)))) d=some (.dcl true (dof (ts.map λ t=>(tk3 t,.bl true)))):=ya0;have ex3:Ext μ2 (updM μ2 d (.dcl true (dof (ts.map λ t=>(tk3 t,.bl true))))):=Ext.new hd;generalize updM μ2 d (.dcl true (dof (ts.map λ t=>(tk3 t,.bl true))))=μ3 at hd3 ex3;generalize dof (ts.map λ t=>(tk3 t,.bl true))=fs at hd3 hS;have E3:Ext μ μ3:=ex1.trans (ex2.trans ex3);have gl:=zu0 (u0 - 1) (v0 - 1) w h;have hG:∀ c,c ∈ grid (u0 - 1) (v0 - 1) w h ↔ inF (u0 - 1) (v0 - 1) (u0 - 1 + w) (v0 - 1 + h) c:=λ c=>grid_mem;have uG:=sc1 (u0 - 1) (v0 - 1) h w;have nG:=vx1 (u0 - 1) (v0 - 1) w h;have hx:u0 - 1 < u0 - 1 + (w:Int):=by omega
 have hy:v0 - 1 < v0 - 1 + (h:Int):=by omega
 have g1:=tl1 (x:=u0 - 1) (y:=v0 - 1) hw0 hh0;generalize eG:grid (u0 - 1) (v0 - 1) w h=G at gl hG uG nG g1;refine ⟨u0,v0,u1,v1,w,h,rfl,ew,eh,c5,hw0,hh0,b,λ r4 μ4 ex4 hr4 e4=>?_⟩;rw [eG] at e4
 conv=>whnf
 rw [e4];intro r5 hr5;refine yc0 (rest:=[]) (λ d=>.tup [d,.bl true]) hr5 [8] (λ _ e=>e _ _ e4) (λ x hx μ' R ex kk=>⟨z2,kk μ' (Ext.refl _)⟩) λ μ5 ex5 e5=>?_;dsimp only [nil3];refine sr4 e5 (xv1 _) [8] λ u hu=>?_;rw [xs4 nG];have hu6:updM μ5 u (.dcl true (ud G)) u=some (.dcl true (ud G)):=ya0;have ex6:Ext μ5 (updM μ5 u (.dcl true (ud G))):=Ext.new hu;generalize updM μ5 u (.dcl true (ud G))=μ6 at hu6 ex6;have E6:Ext μ3 μ6:=ex4.trans (ex5.trans ex6);have hd6:=E6 _ _ hd3;have u3:μ3 u=none:=(ex4.trans ex5).free hu;have ndu:d ≠ u:=ta0 hd3 u3;refine ⟨z2,(u0 - 1,v0 - 1),d,u,fs,ts,G,rfl,hd6,hS,hu6,ndu,g1,by omega,λ r7 ps us U7 n7' μ7 eb7 hr7 n7 e7 u7 fl7 nn7 _ _ mm7 le7=>?_⟩;have R7:=Rm.first F hx hy hG fl7 nn7 mm7;refine ⟨Nat.zero_le _,λ rl hrl=>?_⟩;have nlu:rl ≠ u:=(ta0 u7 hrl).symm
 have E7:Ext μ3 (updM μ7 rl (.lst [])):=λ a o ha=>by
  have:a ≠ u:=ta0 ha u3;have z:=eb7 a o this (E6 a o ha);rw [za0 (ta0 z hrl)]; exact z
 have l8:updM μ7 rl (.lst []) rl=some (.lst []):=ya0;have u8:updM μ7 rl (.lst []) u=some (.dcl true (ud U7)):=by rw [za0 (Ne.symm nlu)]; exact u7
 have rl3:μ3 rl=none:=by
  cases z:μ3 rl with
  | none=>rfl
  | some o=>have:=eb7 rl o nlu (E6 _ _ z); simp_all
 generalize updM μ7 rl (.lst [])=μ8 at E7 l8 u8;refine ⟨u0,v0,u1,v1,w,h,rfl,ew,eh,c5,hw0,hh0,b,λ r9 μ9 ex9 hr9 e9=>?_⟩;rw [eG] at e9;have n9u:r9 ≠ u:=(ta0 u8 hr9).symm;have n9l:r9 ≠ rl:=(ta0 l8 hr9).symm
 conv=>whnf
 rw [e9];refine vj0 (λ l ρ μ'=>∃ (dn qs U:List Pt) (rs:List (Addr × List Pt)) (o:Option D),l=qs.map encQ /\ dn ++ qs=G /\ ρ=[some (.tup [9]),some (encB u0 v0 u1 v1),some (.ref d),some (.ref u),some (.ref rl),o] /\ Ext μ3 μ' /\ μ' u=some (.dcl true (ud U)) /\ μ' rl=some (.lst (rs.map λ x=>.ref x.1)) /\ (∀ x ∈ rs,x.1 ≠ u /\ x.1 ≠ rl /\ μ' x.1=some (.lst (x.2.map encQ)) /\ μ x.1=none) /\ (rs.map (·.1)).Nodup /\ rs.length<=dn.length /\ U.length<=2500 /\ Rm (· ∈ ts) G (u0 - 1,v0 - 1) dn (rs.map (·.2)) U /\ μ' r9=some (.lst (G.map encQ))) ?_ ?_ ?_ ?_
 ·exact ⟨[],G,U7,[],_,rfl,rfl,rfl,E7.trans ex9,ex9 _ _ u8,ex9 _ _ l8,(λ _ h=>nomatch h),nodup_nil,Nat.le_refl _,by omega,R7,e9⟩
 ·simp
 ·rintro ρ μ' ⟨dn,qs,U,rs,o,e,eg,rfl,ex,_,el,ea,nd,ln,_,R,_⟩;cases qs with
  | cons _ _=>cases e
  | nil =>
  rw [append_nil] at eg;subst eg;exact q rl rs μ' (E3.trans ex) (E3.free rl3) ⟨el,λ x hx=>(ea x hx).2.2.1,nd,by omega⟩ (λ x hx=>⟨(ea x hx).2.2.2,(ea x hx).2.1⟩) (R.last F hG)
 ·rintro GG hG x rest ρ μ' ⟨dn,qs,U,rs,o,e,eg,rfl,ex,eu,el,ea,nd,ln,ul,R,e9'⟩;cases qs with
  | nil=>cases e
  | cons y qs =>
   rw [map_cons] at e;injection e with e1 e2
   subst e1 e2;subst hG;have eg':(dn ++ [y]) ++ qs=G:=by rw [<- eg]; simp
   have dl:dn.length + (qs.length + 1)=w * h:=by rw [<- gl,<- eg,length_append,length_cons]
   conv=>whnf
   rw [eu];show if (valL (ud U) (ptk y)).isSome=true then _ else _;rw [xp0];by_cases cv:y ∈ U
   ·rw [if_pos (decide_eq_true cv)]
    conv=>whnf
    rw [el];refine ⟨y,d,u,fs,ts,U,rfl,ex _ _ hd3,hS,eu,ndu,cv,by omega,λ r ps1 us1 U1 n1 μ2 eb hr nr er eu2 fl1 nn1 pm1 so1 mm1 le1=>?_⟩;have el2:=eb rl _ nlu el;have nrl:r ≠ rl:=λ z=>by simp_all
    dsimp only [nil3];refine zv0 el2 [8] ?_;refine ⟨dn ++ [y],qs,U1,rs ++ [(r,us1)],_,rfl,eg',rfl,λ a o' ha=>?_,?_,?_,λ z hz'=>?_,?_,?_,by omega,?_,?_⟩
    ·rw [za0 (ta0 ha rl3)]; exact eb a o' (ta0 ha u3) (ex a o' ha)
    ·rw [za0 (Ne.symm nlu)]; exact eu2
    ·rw [ya0,map_append]; rfl
    ·rcases List.mem_append.mp hz' with hz' | hz'
     ·obtain ⟨z1,z2',z3',z4'⟩:=ea z hz';exact ⟨z1,z2',by rw [za0 z2']; exact eb _ _ z1 z3',z4'⟩
     ·rw [mem_singleton] at hz';subst hz';exact ⟨nr,nrl,by rw [za0 nrl]; exact er,(E3.trans ex).free hr⟩
    ·rw [map_append,nodup_append];refine ⟨nd,pairwise_singleton _ _,λ a ha b' hb z=>?_⟩;obtain ⟨x,hx',rfl⟩:=List.mem_map.mp ha;rw [map_cons,map_nil,mem_singleton] at hb;have:=(ea x hx').2.2.1
     simp_all
    ·simp_all
    ·rw [map_append];exact R.take F hx hy hG uG eg fl1 nn1 pm1 so1 mm1
    ·rw [za0 n9l]; exact eb _ _ n9u e9'
   ·rw [if_neg [16]];exact ⟨dn ++ [y],qs,U,rs,_,rfl,eg',rfl,ex,eu,el,ea,nd,by simp_all;omega,ul,R.skip cv,e9'⟩
end Pv
namespace Pv
noncomputable def cb0 (s:T3):Pt:=if s.2.2=0 then (s.1,s.2.1 - 1) else (s.1 - 1,s.2.1)
theorem cb_h (x y:Int):cb0 (x,y,0)=(x,y - 1):=rfl
theorem cb_v (x y:Int):cb0 (x,y,1)=(x - 1,y):=rfl
variable {s:T3}
theorem zs2 {c d:Pt} (h:(d,s) ∈ sds c):(s.2.2=0 \/ s.2.2=1) /\ ((c=cb0 s /\ d=e0 s) \/ (c=e0 s /\ d=cb0 s)):=by
 obtain ⟨x,y⟩:=c;simp only [sds,mem_cons,not_mem_nil,or_false,Prod.mk.injEq] at h;rcases h with ⟨rfl,rfl⟩ | ⟨rfl,rfl⟩ | ⟨rfl,rfl⟩ | ⟨rfl,rfl⟩
 ·exact ⟨.inr rfl,.inl ⟨by rw [cb_v,Int.add_sub_cancel],rfl⟩⟩
 ·exact ⟨.inl rfl,.inl ⟨by rw [cb_h,Int.add_sub_cancel],rfl⟩⟩
 ·exact ⟨.inr rfl,.inr ⟨rfl,rfl⟩⟩
 ·exact ⟨.inl rfl,.inr ⟨rfl,rfl⟩⟩
noncomputable def wn (ts:List T3) (σ:T3->Int) (c:Pt):Int:=su (λ t=>if t.2.2=0 /\ t.1=c.1 /\ c.2 < t.2.1 then σ t else 0) ts
theorem zo1 {α:Type} [DecidableEq α] {f:α->Int} {s:α}:∀ {l:List α},l.Nodup->su (λ t=>if t=s then f t else 0) l=if s ∈ l then f s else 0
 | [],_=>rfl
 | a :: r,h=>by
  rw [nodup_cons] at h;show (if a=s then f a else 0) + su _ r=_;rw [zo1 h.2];by_cases c:a=s
  ·subst c; simp [h.1]
  ·simp [c,Ne.symm c]
variable {B:T3->Prop} {p:Pt}
section
variable {ts:List T3} {σ:T3->Int}
theorem vw2 (nd:ts.Nodup) (hw:∀ t ∈ ts,t.2.2=0 \/ t.2.2=1) (F:Fw ts σ) (ws:s.2.2=0 \/ s.2.2=1):(s ∉ ts->wn ts σ (cb0 s)=wn ts σ (e0 s)) /\ (s ∈ ts->wn ts σ (cb0 s)=wn ts σ (e0 s) + 1 \/ wn ts σ (cb0 s)=wn ts σ (e0 s) - 1):=by
 have one:=zo1 (f:=σ) (s:=s) nd
 have key:wn ts σ (cb0 s)=wn ts σ (e0 s) + (if s.2.2=0 then 1 else -1) * su (λ t=>if t=s then σ t else 0) ts:=by
  clear one;obtain ⟨x,y,w⟩:=s;dsimp only at ws;rcases ws with rfl | rfl
  ·rw [cb_h,if_pos rfl];refine yp0 λ t ht=>?_;obtain ⟨a,b,v⟩:=t;simp only [e0,Prod.mk.injEq]
   grind
  ·rw [cb_v,if_neg (show ¬ ((1:Int)=0) by decide)];have q:=F.cl λ p=>if p.1=x /\ y < p.2 then 1 else 0;rw [yp0 (g:=λ t=>(if t.2.2=0 /\ t.1=x - 1 /\ y < t.2.1 then σ t else 0) + -1 * (if t.2.2=0 /\ t.1=x /\ y < t.2.1 then σ t else 0)) (h:=λ t=>if t=(x,y,1) then σ t else 0) (c:=1),yp0 (g:=λ t=>if t.2.2=0 /\ t.1=x - 1 /\ y < t.2.1 then σ t else 0) (h:=λ t=>if t.2.2=0 /\ t.1=x /\ y < t.2.1 then σ t else 0) (c:=-1) λ _ _=>rfl] at q
   ·unfold wn e0;dsimp only at q ⊢;omega
   ·intro t ht;have:=hw t ht;obtain ⟨a,b,v⟩:=t;simp only [e0,e1,Prod.mk.injEq];dsimp only at this;rcases this with rfl | rfl
    ·simp only [true_and,show ¬ ((0:Int)=1) by decide,and_false,if_false]
     grind
    ·simp only [show ¬ ((1:Int)=0) by decide,false_and,if_false,and_true]
     grind
 refine ⟨λ h=>by rw [key,one,if_neg h]; omega,λ h=>?_⟩;rw [key,one,if_pos h];rcases F.sg s h with e | e <;> rw [e] <;> split <;> omega
theorem tm1 (nd:ts.Nodup) (hw:∀ t ∈ ts,t.2.2=0 \/ t.2.2=1) (F:Fw ts σ) {c d:Pt} (h:Cn (· ∈ ts) c d):wn ts σ c=wn ts σ d:=by
 induction h with
 | refl=>rfl
 | step _ n ih =>
  obtain ⟨s,h1,h2⟩:=n;obtain ⟨ws,e⟩:=zs2 h1;have:=(vw2 nd hw F ws).1 h2;rcases e with ⟨rfl,rfl⟩ | ⟨rfl,rfl⟩
  ·rw [ih,this]
  ·rw [ih,this]
noncomputable def Sid (a:Pt) (s:T3):Prop:=a=cb0 s \/ a=e0 s
theorem un1 (c d:Pt):Cn B c d \/ ∃ s a,B s /\ Sid a s /\ Cn B c a:=by
 have all:Cn (λ _=>False) c d:=(wg1 (λ _ h=>h) c.1 d.1).trans (uj1 (λ _ h=>h) c.2 d.2)
 induction all with
 | refl=>exact .inl .refl
 | @step d e _ n ih =>
  obtain ⟨s,h1,_⟩:=n;refine ih.elim (λ h=>?_) .inr;by_cases b:B s
  ·exact .inr ⟨s,d,b,(zs2 h1).2.elim (λ z=>.inl z.1) (λ z=>.inr z.1),h⟩
  ·exact .inl (h.step ⟨s,h1,b⟩)
theorem wx2 {t:T3} (hs:s ∈ cnd p) (ht:t ∈ cnd p) (ne:s ≠ t) (on:∀ u ∈ cnd p,u ≠ s->u ≠ t->¬ B u) {a:Pt} (ha:Sid a s):∃ b,Sid b t /\ Cn B a b:=by
 obtain ⟨x,y⟩:=p;have E:(x,y,0) ≠ s->(x,y,0) ≠ t->Cn B (x,y) (x,y - 1):=λ h k=>Cn.refl.step (sf3 (on _ (by simp [cnd]) h k));have N:(x,y,1) ≠ s->(x,y,1) ≠ t->Cn B (x,y) (x - 1,y):=λ h k=>Cn.refl.step (xl2 (on _ (by simp [cnd]) h k));have W:(x - 1,y,0) ≠ s->(x - 1,y,0) ≠ t->Cn B (x - 1,y) (x - 1,y - 1):=λ h k=>Cn.refl.step (sf3 (on _ (by simp [cnd]) h k));have S:(x,y - 1,1) ≠ s->(x,y - 1,1) ≠ t->Cn B (x,y - 1) (x - 1,y - 1):=λ h k=>Cn.refl.step (xl2 (on _ (by simp [cnd]) h k));have n1:¬ (x - 1=x):=by omega
 have n2:¬ (y - 1=y):=by omega
 simp only [cnd,mem_cons,not_mem_nil,or_false] at hs ht
 rcases hs with rfl | rfl | rfl | rfl <;> rcases ht with rfl | rfl | rfl | rfl <;> simp [n1,n2,Ne.symm n1,Ne.symm n2,eq_comm (a:=x),eq_comm (a:=y)] at ne E N W S <;> rcases ha with rfl | rfl <;> simp only [Sid,cb_h,cb_v,e0] <;>
  first
  | exact ⟨_,.inl rfl,.refl⟩
  | exact ⟨_,.inr rfl,.refl⟩
  | exact ⟨_,.inl rfl,by assumption⟩
  | exact ⟨_,.inr rfl,by assumption⟩
  | exact ⟨_,.inl rfl,Cn.symm [27]⟩
  | exact ⟨_,.inr rfl,Cn.symm [27]⟩
  | exact ⟨_,.inl rfl,N.trans W⟩
  | exact ⟨_,.inl rfl,E.trans S⟩
  | exact ⟨_,.inr rfl,S.trans W.symm⟩
  | exact ⟨_,.inl rfl,S.trans W.symm⟩
  | exact ⟨_,.inr rfl,(S.trans W.symm).symm⟩
  | exact ⟨_,.inl rfl,(S.trans W.symm).symm⟩
  | exact ⟨_,.inr rfl,(N.trans W).symm⟩
  | exact ⟨_,.inr rfl,(E.trans S).symm⟩
  | exact ⟨_,.inl rfl,N.symm.trans E⟩
  | exact ⟨_,.inr rfl,N.symm.trans E⟩
  | exact ⟨_,.inl rfl,E.symm.trans N⟩
  | exact ⟨_,.inr rfl,E.symm.trans N⟩
  | exact ⟨_,.inr rfl,N.trans W⟩
  | exact ⟨_,.inr rfl,E.trans S⟩
  | exact ⟨_,.inl rfl,(N.trans W).symm⟩
  | exact ⟨_,.inl rfl,(E.trans S).symm⟩
theorem tv4 {t u:T3} (nd:ts.Nodup) (d:deg ts p=2) (hs:s ∈ ts) (ht:t ∈ ts) (hu:u ∈ ts) (ps:has p s=true) (pt:has p t=true) (pu:has p u=true) (ne:s ≠ t):u=s \/ u=t:=by
 apply Classical.byContradiction;intro z;have z1:u ≠ s:=λ e=>z (.inl e);have z2:u ≠ t:=λ e=>z (.inr e)
 have:[u,s,t].length<=(ts.filter (has p)).length:=List.Nodup.length_le_of_subset (by simp [z1,z2,ne]) λ x hx=>by
  simp only [mem_cons,not_mem_nil,or_false] at hx;rcases hx with rfl | rfl | rfl <;> exact List.mem_filter.mpr ⟨by assumption,by assumption⟩
 unfold deg at d;rw [List.countP_eq_length_filter] at d;rw [d] at this;exact absurd this (show ¬ (3<=2) by decide)
theorem tx4 (nd:ts.Nodup) (hw:∀ t ∈ ts,t.2.2=0 \/ t.2.2=1) (R:Rg ts) {t:T3} (hs:s ∈ ts) (h:Conn ts s t):t ∈ ts /\ ∀ a,Sid a t->Cn (· ∈ ts) a (cb0 s) \/ Cn (· ∈ ts) a (e0 s):=by
 induction h with
 | refl=>exact ⟨hs,λ a h=>h.elim (λ e=>.inl (e ▸ .refl)) λ e=>.inr (e ▸ .refl)⟩
 | @step b c _ hc tc ih =>
  refine ⟨hc,λ a ha=>?_⟩;by_cases e:c=b
  ·subst e; exact ih.2 a ha
  ·obtain ⟨p,pb,pc⟩:=tc;obtain ⟨q,hq,cn⟩:=wx2 (B:=(· ∈ ts)) ((td1 (hw c hc)).mp pc) ((td1 (hw b ih.1)).mp pb) e (λ u hu n1 n2 m=>(tv4 nd (R.2.2 p ⟨c,hc,pc⟩) hc ih.1 m pc pb ((td1 (hw u m)).mpr hu) e).elim n1 n2) ha;exact (ih.2 q hq).imp cn.trans cn.trans
structure RR (ts:List T3) (σ:T3->Int) (r:List Pt) (k:Int):Prop where
 sg:k=1 \/ k = -1
 wn:∀ c,(c ∈ r->Pv.wn ts σ c=k) /\ (c ∉ r->Pv.wn ts σ c=0)
theorem si2 (nd:ts.Nodup) (hw:∀ t ∈ ts,t.2.2=0 \/ t.2.2=1) (R:Rg ts) (F:Fw ts σ) {o:Pt} {L:List (List Pt)} (w0:wn ts σ o=0) (I:IsRo (· ∈ ts) o L):∃ r k,L=[r] /\ RR ts σ r k:=by
 obtain ⟨s0,h0⟩:=List.exists_mem_of_ne_nil ts R.1
 have sd:∀ c,(∃ s a,s ∈ ts /\ Sid a s /\ Cn (· ∈ ts) c a)->Cn (· ∈ ts) c (cb0 s0) \/ Cn (· ∈ ts) c (e0 s0):=λ c ⟨s,a,hs,ha,h⟩ =>
  ((tx4 nd hw R h0 (R.2.1 s0 h0 s hs)).2 a ha).imp h.trans h.trans
 have dif:=(vw2 nd hw F (hw s0 h0)).2 h0
 obtain ⟨i,u,ou,wi,sd⟩:∃ i u,Cn (· ∈ ts) o u /\ (wn ts σ i=1 \/ wn ts σ i = -1) /\ ∀ c,(∃ s a,s ∈ ts /\ Sid a s /\ Cn (· ∈ ts) c a)->Cn (· ∈ ts) c i \/ Cn (· ∈ ts) c u:=by
  rcases (un1 o (e0 s0)).elim .inr (sd o) with h | h
  ·have:=tm1 nd hw F h;exact ⟨e0 s0,cb0 s0,h,by omega,λ c hc=>(sd c hc).symm⟩
  ·have:=tm1 nd hw F h;exact ⟨cb0 s0,e0 s0,h,by omega,sd⟩
 have io:¬ Cn (· ∈ ts) o i:=λ h=>by have:=tm1 nd hw F h; omega
 obtain ⟨r,hr,ir⟩:=I.cov i io;have mr:=(I.mem r hr i ir).2
 have cl:∀ c,c ∈ r \/ Cn (· ∈ ts) o c:=λ c=>by
  rcases un1 (B:=(· ∈ ts)) c o with h | h
  ·exact .inr h.symm
  ·rcases sd c h with h | h
   ·exact .inl ((mr c).mpr h.symm)
   ·exact .inr (ou.trans h.symm)
 have all:∀ r' ∈ L,r'=r:=λ r' hr'=>by
  obtain ⟨srt,ne⟩:=I.srt r' hr';obtain ⟨c,hc⟩:=List.exists_mem_of_ne_nil r' ne;have m':=I.mem r' hr' c hc;exact xh0 uf0 wh1 srt (I.srt r hr).1 λ x=>(m'.2 x).trans ((I.mem r hr c ((cl c).resolve_right m'.1)).2 x).symm
 refine ⟨r,wn ts σ i,?_,wi,λ c=>⟨λ h=>(tm1 nd hw F ((mr c).mp h)).symm,λ h=>?_⟩⟩
 ·match L,hr,all,I.asc with
  | [a],_,all,_=>rw [all a (.head _)]
  | a :: b :: t,_,all,asc =>
   have:=(List.pairwise_cons.mp asc).1 b (.head _);rw [all a (.head _),all b (.tail _ (.head _))] at this;exact absurd this (uf0 _)
 ·rw [<- tm1 nd hw F ((cl c).resolve_left h),w0]
theorem RR.bs {r:List Pt} {k:Int} (nd:ts.Nodup) (hw:∀ t ∈ ts,t.2.2=0 \/ t.2.2=1) (F:Fw ts σ) (h:RR ts σ r k) (hs:s ∈ ts):cb0 s ∈ r ↔ e0 s ∉ r:=by
 have d:=(vw2 nd hw F (hw s hs)).2 hs;have a:=h.wn (cb0 s);have b:=h.wn (e0 s);constructor
 ·intro x y; have:=a.1 x; have:=b.1 y; omega
 ·intro y;apply Classical.byContradiction;intro x; have:=a.2 x; have:=b.2 y; omega
end
end Pv
namespace Pv
noncomputable def wv (s:T3):Prop:=s.2.2=0 \/ s.2.2=1
noncomputable def crx (c:Pt) (s:T3):Prop:=(s.2.2=1 /\ s.2.1=c.2) \/ (s.2.2=0 /\ s.1=c.1)
structure Hf (f:T3->T3) (φ ψ:Pt->Pt):Prop where
 wy:∀ t,wv t->wv (f t)
 sd:∀ c d s,(d,s) ∈ sds c->(φ d,f s) ∈ sds (φ c)
 hs:∀ p s,wv s->has p s=true->has (ψ p) (f s)=true
 cr:∀ c s,wv s->crx c s->crx (φ c) (f s)
variable {f:T3->T3} {φ ψ:Pt->Pt}
theorem Hf.comp {g:T3->T3} {φ' ψ':Pt->Pt} (a:Hf f φ ψ) (b:Hf g φ' ψ'):Hf (λ t=>f (g t)) (λ c=>φ (φ' c)) (λ p=>ψ (ψ' p)) :=
 ⟨λ t h=>a.wy _ (b.wy t h),λ c d s h=>a.sd _ _ _ (b.sd c d s h),λ p s w h=>a.hs _ _ (b.wy s w) (b.hs p s w h),λ c s w h=>a.cr _ _ (b.wy s w) (b.cr c s w h)⟩
structure Sy (f g:T3->T3) (φ φ' ψ ψ':Pt->Pt):Prop where
 a:Hf f φ ψ
 b:Hf g φ' ψ'
 fg:∀ t,wv t->f (g t)=t
 gf:∀ t,wv t->g (f t)=t
 cd:∀ c,φ (φ' c)=c
 dc:∀ c,φ' (φ c)=c
 pq:∀ p,ψ (ψ' p)=p
 qp:∀ p,ψ' (ψ p)=p
variable {c o:Pt} {L:List (List Pt)}
section
variable {g:T3->T3} {φ' ψ':Pt->Pt} {ts us:List T3}
theorem Sy.symm (S:Sy f g φ φ' ψ ψ'):Sy g f φ' φ ψ' ψ:=⟨S.b,S.a,S.gf,S.fg,S.dc,S.cd,S.qp,S.pq⟩
structure Im (f:T3->T3) (ts us:List T3):Prop where
 pm:us.Perm (ts.map f)
 w:∀ t ∈ ts,wv t
 v:∀ t ∈ us,wv t
theorem Im.symm (S:Sy f g φ φ' ψ ψ') (h:Im f ts us):Im g us ts:=by
 refine ⟨?_,h.v,h.w⟩;have:=h.pm.map g;have e:ts.map (g ∘ f)=ts:=by rw [map_congr_left (f:=g ∘ f) (g:=id) λ t ht=>S.gf t (h.w t ht),List.map_id]
 rw [map_map,e] at this;exact this.symm
theorem Im.nx (S:Sy f g φ φ' ψ ψ') (h:Im f ts us) {d:Pt} (n:nxt (· ∈ ts) c d):nxt (· ∈ us) (φ c) (φ d):=by
 obtain ⟨s,h1,h2⟩:=n;refine ⟨f s,S.a.sd _ _ _ h1,λ z=>?_⟩;obtain ⟨t,ht,e⟩:=List.mem_map.mp (h.pm.mem_iff.mp z)
 have ws:wv s:=by
  simp only [sds,mem_cons,not_mem_nil,or_false,Prod.mk.injEq] at h1;rcases h1 with ⟨_,rfl⟩ | ⟨_,rfl⟩ | ⟨_,rfl⟩ | ⟨_,rfl⟩
  ·exact .inr rfl
  ·exact .inl rfl
  ·exact .inr rfl
  ·exact .inl rfl
 have:=congrArg g e;rw [S.gf t (h.w t ht),S.gf s ws] at this
 simp_all
theorem Im.cn (S:Sy f g φ φ' ψ ψ') (h:Im f ts us) {d:Pt} (n:Cn (· ∈ ts) c d):Cn (· ∈ us) (φ c) (φ d):=by
 induction n with
 | refl=>exact .refl
 | step _ n ih=>exact ih.step (h.nx S n)
theorem Im.cn' (S:Sy f g φ φ' ψ ψ') (h:Im f ts us) {d:Pt}:Cn (· ∈ us) (φ c) d ↔ Cn (· ∈ ts) c (φ' d) :=
 ⟨λ n=>by have:=(h.symm S).cn S.symm n; rwa [S.dc] at this,λ n=>by have:=h.cn S n; rwa [S.cd] at this⟩
noncomputable def Fre (ts:List T3) (c:Pt):Prop:=∀ s ∈ ts,¬ crx c s
theorem Fre.cn {d:Pt} (h:Fre ts c) (k:Fre ts d):Cn (· ∈ ts) c d :=
 (wg1 (λ x z=>h _ z (.inl ⟨rfl,rfl⟩)) c.1 d.1).trans (uj1 (λ y z=>k _ z (.inr ⟨rfl,rfl⟩)) c.2 d.2)
theorem Im.fre (S:Sy f g φ φ' ψ ψ') (h:Im f ts us) (k:Fre ts c):Fre us (φ c):=λ s hs z=>by
 have:=S.b.cr _ _ (h.v s hs) z;rw [S.dc] at this;exact k _ ((h.symm S).pm.mem_iff.mpr (mem_map_of_mem hs)) this
theorem vs1 {α β:Type} [DecidableEq β] {M:α->β->Prop} {p:α->Nat} {q:β->Nat} (hl:∀ a b,M a b->p a=q b) (u1:∀ a b b',M a b->M a b'->b=b') (u2:∀ a a' b,M a b->M a' b->a=a') :
    ∀ {L:List α} {K:List β},L.Nodup->K.Nodup->(∀ a ∈ L,∃ b ∈ K,M a b)->(∀ b ∈ K,∃ a ∈ L,M a b)->(L.map p).Perm (K.map q)
 | [],K,_,_,_,h2=>by
  cases K with
  | nil=>exact .nil
  | cons b K=>obtain ⟨a,ha,_⟩:=h2 b (.head _); cases ha
 | a :: L,K,n1,n2,h1,h2=>by
  rw [nodup_cons] at n1;obtain ⟨b,hb,m⟩:=h1 a (.head _);have pk:=List.perm_cons_erase hb;have n3:=pk.nodup_iff.mp n2;rw [nodup_cons] at n3;have ih:=vs1 hl u1 u2 n1.2 n3.2 (λ a' ha'=>?_) (λ b' hb'=>?_)
  ·refine .trans ?_ (pk.map q).symm;rw [map_cons,map_cons,hl a b m];exact ih.cons _
  ·obtain ⟨b',hb',m'⟩:=h1 a' (.tail _ ha');refine ⟨b',(List.mem_cons.mp (pk.mem_iff.mp hb')).resolve_left λ e=>?_,m'⟩;subst e;exact n1.1 (u2 _ _ _ m' m ▸ ha')
  ·obtain ⟨a',ha',m'⟩:=h2 b' (pk.mem_iff.mpr (.tail _ hb'));refine ⟨a',(List.mem_cons.mp ha').resolve_left λ e=>?_,m'⟩;subst e;exact n3.1 (u1 _ _ _ m' m ▸ hb')
theorem Im.room (S:Sy f g φ φ' ψ ψ') (h:Im f ts us) {o':Pt} {K:List (List Pt)} (fo:Fre ts o) (fo':Fre us o') (I:IsRo (· ∈ ts) o L) (J:IsRo (· ∈ us) o' K) {r:List Pt} (hr:r ∈ L):∃ r' ∈ K,∀ c,c ∈ r' ↔ φ' c ∈ r:=by
 obtain ⟨c,hc⟩:=List.exists_mem_of_ne_nil r (I.srt r hr).2;obtain ⟨n,m⟩:=I.mem r hr c hc;obtain ⟨r',h1,h2⟩:=J.cov (φ c) λ z=>n ((fo.cn ((h.symm S).fre S.symm fo')).trans (by have:=(h.symm S).cn S.symm z; rwa [S.dc] at this));exact ⟨r',h1,λ d=>((J.mem r' h1 _ h2).2 d).trans ((h.cn' S).trans (m _).symm)⟩
theorem IsRo.nd {B:T3->Prop} (h:IsRo B o L):L.Nodup /\ ∀ r ∈ L,r.Nodup :=
 ⟨h.asc.imp λ {a b} l e=>by subst e; exact uf0 _ l,λ r hr=>(h.srt r hr).1.imp λ {a b} l e=>by subst e; exact uf0 _ l⟩
theorem Im.rooms (S:Sy f g φ φ' ψ ψ') (h:Im f ts us) {o':Pt} {K:List (List Pt)} (fo:Fre ts o) (fo':Fre us o') (I:IsRo (· ∈ ts) o L) (J:IsRo (· ∈ us) o' K):(L.map List.length).Perm (K.map List.length):=by
 refine vs1 (M:=λ r r'=>r ∈ L /\ r' ∈ K /\ ∀ c,c ∈ r' ↔ φ' c ∈ r) (λ r r' ⟨h1,h2,m⟩=>?_) (λ r s s' ⟨_,h1,m⟩ ⟨_,h2,n⟩=>?_) (λ r r' s ⟨h1,_,m⟩ ⟨h2,_,n⟩=>?_) I.nd.1 J.nd.1 (λ r hr=>?_) (λ r' hr'=>?_)
 ·have:(r.map φ).Perm r':=(List.perm_ext_iff_of_nodup (List.pairwise_map.mpr ((I.nd.2 r h1).imp λ {a b} ne e=>ne (by have:=congrArg φ' e; rwa [S.dc,S.dc] at this))) (J.nd.2 r' h2)).mpr λ c=>by
    rw [m c,mem_map];exact ⟨λ ⟨x,hx,e⟩=>by rw [<- e,S.dc]; exact hx,λ hx=>⟨_,hx,S.cd c⟩⟩
  rw [<- this.length_eq,length_map]
 ·exact xh0 uf0 wh1 (J.srt s h1).1 (J.srt s' h2).1 λ c=>(m c).trans (n c).symm
 ·exact xh0 uf0 wh1 (I.srt r h1).1 (I.srt r' h2).1 λ c=>by have a:=m (φ c); have b:=n (φ c); rw [S.dc] at a b; simp_all
 ·obtain ⟨r',h1,h2⟩:=h.room S fo fo' I J hr;exact ⟨r',h1,hr,h1,h2⟩
 ·obtain ⟨r,h1,h2⟩:=(h.symm S).room S.symm fo' fo J I hr';exact ⟨r,h1,h1,hr',λ c=>by rw [h2,S.cd]⟩
theorem Im.rg (S:Sy f g φ φ' ψ ψ') (h:Im f ts us) (R:Rg ts):Rg us:=by
 have key:∀ {a b:T3},a ∈ ts->Conn ts a b->b ∈ ts /\ Conn us (f a) (f b):=λ {a b} ha c=>by
  induction c with
  | refl=>exact ⟨ha,.refl⟩
  | step _ hc t ih =>
   obtain ⟨p,p1,p2⟩:=t;exact ⟨hc,ih.2.step (h.pm.mem_iff.mpr (mem_map_of_mem hc)) ⟨ψ p,S.a.hs _ _ (h.w _ ih.1) p1,S.a.hs _ _ (h.w _ hc) p2⟩⟩
 refine ⟨λ z=>R.1 ?_,λ a ha b hb=>?_,λ p hp=>?_⟩
 ·have:=h.pm.length_eq;rw [z,length_map] at this;exact List.length_eq_zero_iff.mp this.symm
 ·obtain ⟨x,hx,rfl⟩:=List.mem_map.mp (h.pm.mem_iff.mp ha);obtain ⟨y,hy,rfl⟩:=List.mem_map.mp (h.pm.mem_iff.mp hb);exact (key hx (R.2.1 x hx y hy)).2
 ·have e:deg us p=deg ts (ψ' p):=by
    unfold deg;rw [h.pm.countP_eq,List.countP_map];refine List.countP_congr λ s hs=>?_;have ws:=h.w s hs;refine ⟨λ z=>?_,λ z=>?_⟩
    ·have:=S.b.hs _ _ (S.a.wy s ws) z; rwa [S.gf s ws] at this
    ·have:=S.a.hs _ _ ws z; rwa [S.pq] at this
  obtain ⟨s,hs,hp⟩:=hp;rw [e];exact R.2.2 _ ⟨g s,(h.symm S).pm.mem_iff.mpr (mem_map_of_mem hs),S.b.hs _ _ (h.v s hs) hp⟩
end
noncomputable def mvP (x y:Int) (p:Pt):Pt:=(p.1 + x,p.2 + y)
noncomputable def mvT (x y:Int) (s:T3):T3:=(s.1 + x,s.2.1 + y,s.2.2)
noncomputable def miT (s:T3):T3:=if s.2.2=0 then (-s.1 - 1,s.2.1,0) else (-s.1,s.2.1,1)
noncomputable def miC (c:Pt):Pt:=(-c.1 - 1,c.2)
noncomputable def miP (p:Pt):Pt:=(-p.1,p.2)
noncomputable def tuT (s:T3):T3:=if s.2.2=0 then (-s.2.1,s.1,1) else (-s.2.1 - 1,s.1,0)
noncomputable def tuC (c:Pt):Pt:=(-c.2 - 1,c.1)
noncomputable def tuP (p:Pt):Pt:=(-p.2,p.1)
theorem zi3 (h0:∀ x y,wv (f (x,y,0)) /\ wv (f (x,y,1))) (sd:∀ c d s,(d,s) ∈ sds c->(φ d,f s) ∈ sds (φ c)) (hs:∀ x y,(has (ψ (x,y)) (f (x,y,0))=true /\ has (ψ (x + 1,y)) (f (x,y,0))=true) /\ has (ψ (x,y)) (f (x,y,1))=true /\ has (ψ (x,y + 1)) (f (x,y,1))=true)
    (cr:∀ x y a,crx (φ (x,a)) (f (x,y,0)) /\ crx (φ (a,y)) (f (x,y,1))):Hf f φ ψ:=by
 refine ⟨λ ⟨x,y,w⟩ h=>?_,sd,λ p ⟨x,y,w⟩ h k=>?_,λ ⟨a,b⟩ ⟨x,y,w⟩ h k=>?_⟩ <;> (have h:w=0 \/ w=1:=h; rcases h with rfl | rfl)
 ·exact (h0 x y).1
 ·exact (h0 x y).2
 ·rcases xo0 k with rfl | rfl
  ·exact (hs x y).1.1
  ·have:=(hs x y).1.2; simpa [e1] using this
 ·rcases xo0 k with rfl | rfl
  ·exact (hs x y).2.1
  ·have:=(hs x y).2.2; simpa [e1] using this
 ·rcases k with ⟨k,_⟩ | ⟨_,k⟩
  ·simp_all
  simp_all
 ·rcases k with ⟨_,k⟩ | ⟨k,_⟩
  ·simp_all
  simp_all
theorem yr4 (a b:Int):Hf (mvT a b) (mvP a b) (mvP a b):=by
 refine zi3 (λ x y=>⟨.inl rfl,.inr rfl⟩) (λ c d s h=>?_) (λ x y=>?_) λ x y z=>⟨.inr ⟨rfl,rfl⟩,.inl ⟨rfl,rfl⟩⟩
 ·obtain ⟨x,y⟩:=c;simp only [sds,mem_cons,not_mem_nil,or_false,Prod.mk.injEq] at h ⊢;rcases h with ⟨rfl,rfl⟩ | ⟨rfl,rfl⟩ | ⟨rfl,rfl⟩ | ⟨rfl,rfl⟩ <;> simp [mvP,mvT] <;> omega
 ·simp [has,mvP,mvT,e0,e1]; omega
theorem zr4:Hf miT miC miP:=by
 refine zi3 (λ x y=>⟨.inl rfl,.inr rfl⟩) (λ c d s h=>?_) (λ x y=>?_) λ x y z=>⟨.inr ⟨rfl,rfl⟩,.inl ⟨rfl,rfl⟩⟩
 ·obtain ⟨x,y⟩:=c;simp only [sds,mem_cons,not_mem_nil,or_false,Prod.mk.injEq] at h ⊢;rcases h with ⟨rfl,rfl⟩ | ⟨rfl,rfl⟩ | ⟨rfl,rfl⟩ | ⟨rfl,rfl⟩ <;> simp [miC,miT] <;> omega
 ·simp [has,miP,miT,e0,e1]; omega
theorem hf_tu:Hf tuT tuC tuP:=by
 refine zi3 (λ x y=>⟨.inr rfl,.inl rfl⟩) (λ c d s h=>?_) (λ x y=>?_) λ x y z=>⟨.inl ⟨rfl,rfl⟩,.inr ⟨rfl,rfl⟩⟩
 ·obtain ⟨x,y⟩:=c;simp only [sds,mem_cons,not_mem_nil,or_false,Prod.mk.injEq] at h ⊢;rcases h with ⟨rfl,rfl⟩ | ⟨rfl,rfl⟩ | ⟨rfl,rfl⟩ | ⟨rfl,rfl⟩ <;> simp [tuC,tuT] <;> omega
 ·simp [has,tuP,tuT,e0,e1]; omega
theorem wx4 (a b:Int):Sy (mvT a b) (mvT (-a) (-b)) (mvP a b) (mvP (-a) (-b)) (mvP a b) (mvP (-a) (-b)):=by
 refine ⟨yr4 a b,yr4 _ _,?_,?_,?_,?_,?_,?_⟩ <;> intros <;> simp only [mvT,mvP,Int.neg_add_cancel_right,Int.add_neg_cancel_right]
theorem nn1 (x:Int) : -(-x - 1) - 1=x:=by omega
theorem vx4:Sy miT miT miC miC miP miP:=by
 have m:∀ t,wv t->miT (miT t)=t:=λ ⟨x,y,w⟩ h=>by
  have h:w=0 \/ w=1:=h;rcases h with rfl | rfl <;> simp [miT,nn1]
 refine ⟨zr4,zr4,m,m,?_,?_,?_,?_⟩ <;> intros <;> simp [miC,miP,nn1]
theorem tu4:∀ t,wv t->tuT (tuT (tuT (tuT t)))=t:=λ ⟨x,y,w⟩ h=>by
 have h:w=0 \/ w=1:=h;rcases h with rfl | rfl <;> simp [tuT,nn1]
theorem sy_t1:Sy tuT (λ t=>tuT (tuT (tuT t))) tuC (λ c=>tuC (tuC (tuC c))) tuP (λ p=>tuP (tuP (tuP p))):=by
 refine ⟨hf_tu,hf_tu.comp (hf_tu.comp hf_tu),tu4,tu4,?_,?_,?_,?_⟩ <;> intros <;> simp [tuC,tuP,nn1]
theorem zx4:Sy (λ t=>tuT (tuT t)) (λ t=>tuT (tuT t)) (λ c=>tuC (tuC c)) (λ c=>tuC (tuC c)) (λ p=>tuP (tuP p)) (λ p=>tuP (tuP p)):=by
 refine ⟨hf_tu.comp hf_tu,hf_tu.comp hf_tu,tu4,tu4,?_,?_,?_,?_⟩ <;> intros <;> simp [tuC,tuP,nn1]
end Pv
namespace Pv
open PySem Mw
theorem yx2 (k:List Int) (v:D) (k':List Int):∀ kvs,valL (putL kvs k v) k'=if k=k' then some v else valL kvs k':=by
 intro kvs;unfold putL;by_cases h:(kvs.any λ kv=>decide (kv.1=k))=true
 ·rw [if_pos h];unfold valL;by_cases c:k=k'
  ·subst c;rw [if_pos rfl]
   induction kvs with
   | nil=>simp at h
   | cons a r ih =>
    rw [map_cons,find?_cons];by_cases ca:a.1=k
    ·simp [ca]
    ·simp only [ca,if_false,decide_false];refine ih ?_
     simp_all
  ·rw [if_neg c];clear h
   induction kvs with
   | nil=>rfl
   | cons a r ih =>
    rw [map_cons,find?_cons,find?_cons];by_cases ca:a.1=k
    ·simp_all
    ·simp only [ca,if_false];by_cases c2:a.1=k'
     ·simp [c2]
     simp_all
 ·rw [if_neg h];unfold valL;rw [List.find?_append]
  have hn:kvs.find? (λ kv=>decide (kv.1=k))=none:=by
   rw [List.find?_eq_none];intro x hx hc;exact h (List.any_eq_true.mpr ⟨x,hx,hc⟩)
  by_cases c:k=k'
  ·subst c;simp [*]
  simp_all
theorem vc3 (kvs:[18]) (k:List Int) (v:D):(putL kvs k v).length<=kvs.length + 1:=by
 unfold putL;split
 ·simp
 ·simp
variable {D':Ends3} {n:Nat} {ρ:St3} {μ:Mu}
theorem forR {S:Mu->Prop} {g:TG3} {tb:TS3} (V:Nat->St3->Mu->Prop) (hS:∀ μ,S μ) (h0:V 0 ρ μ) (hn:∀ ρ μ,V n ρ μ->D'.nx ρ μ)
    (hs:∀ i ρ μ,i < n->V i ρ μ->g (.int (i:Int)) ρ μ λ ρ1 μ1=>tb { D' with nx:=V (i + 1),ct:=V (i + 1),bk:=D'.nx } ρ1 μ1):vz0 S g tb D' (rngD 0 n) ρ μ:=by
 have main:∀ k i ρ μ,i + k=n->V i ρ μ->vz0 S g tb D' (rngD (i:Int) k) ρ μ:=by
  intro k
  induction k with
  | zero =>
   intro i ρ μ e v;have e':i=n:=e;rw [e'] at v;exact ⟨hS μ,hn _ _ v⟩
  | succ k ih =>
   intro i ρ μ e v;rw [we0];exact ⟨hS μ,V (i + 1),λ ρ' μ' v'=>ih (i + 1) ρ' μ' [2] v',hs i ρ μ [2] v⟩
 exact main n 0 ρ μ (Nat.zero_add n) h0
noncomputable def spCb:Sp3:=λ ds μ Q=>∃ s,ds=[encT s] /\ Q (.tup [encQ (cb0 s),encQ (e0 s)]) μ
theorem yf5:RdQ spCb t_q4 N_q4:=by
 rintro ds μ Q ⟨⟨x,y,w⟩,rfl,q⟩;unfold cb0 at q;show if decide (w=0)=true then _ else _;by_cases c:w=0
 ·rw [decide_eq_true c,if_pos rfl];rw [if_pos c] at q;exact ⟨z2,z2,z2,q⟩
 ·rw [decide_eq_false c,if_neg [19]];rw [if_neg c] at q;exact ⟨z2,z2,z2,q⟩
noncomputable def vd (ps:List Pt) (c:Pt):D:=if c ∈ ps then .int 0 else .non
noncomputable def Kv (kvs:[18]) (ps:List Pt):Prop:=∀ c,valL kvs (ptk c)=if c ∈ ps then some (.int 0) else none
noncomputable def spNc:Sp3:=λ ds μ Q=>∃ (r q:Addr) (ps:List Pt),ds=[.ref r] /\ μ r=some (.lst [.ref q]) /\ μ q=some (.lst (ps.map encQ)) /\ ps.length<=2500 /\ ∀ nd kvs μ',Ext μ μ'->μ nd=none->μ' nd=some (.dcl false kvs)->Kv kvs ps->Q (.ref nd) μ'
theorem wh4:RdQ spNc xt3 vo3:=by
 rintro ds μ Q ⟨r,q,ps,rfl,hr,hq,hl,k⟩;intro nd hnd;have exn:=Ext.new (o:=.dcl false []) hnd;have en:updM μ nd (.dcl false []) nd=some (.dcl false []):=ya0;generalize updM μ nd (.dcl false [])=μ1 at exn en
 conv=>whnf
 rw [exn _ _ hr];refine ⟨⟨show (-2 ^ 62:Int)<=((1:Nat):Int) by decide,show ((1:Nat):Int) < 2 ^ 62 by decide⟩,?_⟩;refine forR (n:=1) (λ i ρ μ'=>∃ (kvs:[18]) (o2 o3':Option D),ρ=[some (.ref r),some (.ref nd),o2,o3'] /\ Ext μ μ' /\ μ' nd=some (.dcl false kvs) /\ Kv kvs (if i=0 then [] else ps) /\ (i=0->kvs=[])) (λ _=>trivial) ?_ ?_ ?_
 ·exact ⟨[],none,none,rfl,exn,en,(λ c=>rfl),λ _=>rfl⟩
 ·rintro ρ μ' ⟨kvs,o2,o3',rfl,ex,ed,kv,_⟩;exact k nd kvs μ' ex hnd ed kv
 ·rintro i ρ μ' hi ⟨kvs,o2,o3',rfl,ex,ed,kv,kl⟩;obtain rfl:i=0:=by omega
  obtain rfl:=kl rfl;show (for3 (is3 (o3 ixR (v3 0) (v3 2))) (gn3 3) (ya1 (v3 1) (v3 3) (v3 2))) _ [some (.ref r),some (.ref nd),some (.int 0),o3'] μ';dsimp only [for3,is3,o3,v3,getI];refine vc0 (ex _ _ hr) (d:=.ref q) rfl ?_;dsimp only;rw [ex _ _ hq];have qn:q ≠ nd:=ta0 hq hnd;refine vj0 (λ l ρ μ2=>∃ (js ks:List Pt) (kvs2:[18]) (o3':Option D),l=ks.map encQ /\ js ++ ks=ps /\ ρ=[some (.ref r),some (.ref nd),some (.int 0),o3'] /\ Ext μ μ2 /\ μ2 nd=some (.dcl false kvs2) /\ Kv kvs2 js /\ kvs2.length<=js.length /\ μ2 q=some (.lst (ps.map encQ))) ?_ ?_ ?_ ?_
  ·exact ⟨[],ps,[],_,rfl,rfl,rfl,ex,ed,(λ c=>rfl),Nat.le_refl _,ex _ _ hq⟩
  ·simp
  ·simp_all
  ·rintro GG hG y rest ρ μ2 ⟨js,ks,kvs2,o,e,ej,rfl,ex2,ed2,kv2,kl2,ex'⟩;cases ks with
   | nil=>cases e
   | cons c ks =>
    rw [map_cons] at e;injection e with e1 e2
    subst e1 e2;subst hG;have jl:js.length + (ks.length + 1)=ps.length:=by rw [<- ej,length_append,length_cons]
    show ya1 (v3 1) (v3 3) (v3 2) _ [some (.ref r),some (.ref nd),some (.int 0),some (encQ c)] μ2
    conv=>whnf
    rw [ed2];refine ⟨by omega,js ++ [c],ks,putL kvs2 (ptk c) (.int 0),_,rfl,by rw [<- ej]; simp,rfl,λ a o ha=>?_,ya0,λ c'=>?_,?_,?_⟩
    ·rw [za0 (ta0 ha hnd)]; exact ex2 a o ha
    ·rw [yx2,kv2];by_cases z:c=c'
     ·simp_all
     ·rw [if_neg (λ h=>z (yi0 h))];simp [Ne.symm z]
    ·have:=vc3 kvs2 (ptk c) (.int 0)
     simp_all;omega
    ·rw [za0 qn]; exact ex'
variable {s:T3} {o0 o1 o3' o5 o6:Option D} {K:VK3}
theorem wo2 {kvs:[18]} {ps:List Pt} {nd:Addr} (hd:μ nd=some (.dcl false kvs)) (kv:Kv kvs ps) (k:∀ r μ',Ext μ μ'->μ r=none->μ' r=some (.lst [vd ps (cb0 s),vd ps (e0 s)])->K (.ref r) μ') :
    zc0 [none,some 2] (is3 (va0 spCb (xa0 (v3 4) nil3))) (gn3 0) tt3 (dm3 false (v3 1) [14]) [o0,o1,some (.ref nd),o3',some (encT s),o5,o6] μ K:=by
 refine ⟨s,rfl,λ r hr=>?_⟩;refine yc0 (rest:=[some (.ref nd)]) (λ d=>match d with | .tup [.int a,.int b]=>vd ps (a,b) | _=>.non) hr z2 (λ _ _=>trivial) ?_ λ μ' ex e=>k r μ' ex hr e;intro x hx μ' R ex kk
 have hx':∃ p:Pt,x=encQ p:=by
  rcases List.mem_cons.mp hx with rfl | hx
  ·exact ⟨_,rfl⟩
  ·rw [mem_singleton] at hx; exact ⟨_,hx⟩
 obtain ⟨p,rfl⟩:=hx';have hd':=ex _ _ hd
 have e:(valL kvs (ptk p)).getD .non=vd ps p:=by
  rw [kv p];unfold vd;split <;> rfl
 have kk:R (vd ps p) μ':=kk μ' (Ext.refl _);rw [<- e] at kk
 conv=>whnf
 rw [hd']
 conv=>whnf
 rw [hd'];exact kk
noncomputable def spWo:Sp3:=λ ds μ Q=>∃ (ts:List T3) (x0 y0 x1 y1:Int) (w h:Nat),ds=[.tup [9]] /\ Pc ts /\ ts ≠ [] /\ BxS ts x0 y0 x1 y1 w h /\ (∀ L,IsRo (· ∈ ts) (x0 - 1,y0 - 1) L->∃ r,L=[r] /\ ∀ s ∈ ts,cb0 s ∈ r ↔ e0 s ∉ r) /\ ∀ v μ',Ext μ μ'->μ v=none->μ' v=some (.lst [.tup [9]])->Q (.ref v) μ'
structure Wa (μ2 μ':Mu) (wl a:Addr) (js:List T3):Prop where
 ex:Ext μ2 μ'
 li:μ' wl=some (.lst [.ref a])
 at':μ' a=some (.lst (js.map encT))
 fr:μ2 a=none
 ne:a ≠ wl
variable {μ2:Mu} {js:List T3}
theorem Wa.mono {μ3 μ4:Mu} {wl a:Addr} (h:Wa μ2 μ3 wl a js) (e:Ext μ3 μ4):Wa μ2 μ4 wl a js:=⟨h.ex.trans e,e _ _ h.li,e _ _ h.at',h.fr,h.ne⟩
variable {μ':Mu}
theorem xq3 {wl a sd:Addr} {o2:Option D} (h:Wa μ2 μ' wl a js) (hj:js.length < 100) (k:Wa μ2 (updM μ' a (.lst ((js ++ [s]).map encT))) wl a (js ++ [s])->D'.nx [o0,o1,o2,some (.ref wl),some (encT s),some (.ref sd),some (.int 0)] (updM μ' a (.lst ((js ++ [s]).map encT)))) :
    (ifs3 (b3 (o3 (isNR true) (v3 6) (c3 .non))) (wc0 (mt3 appR (o3 ixR (v3 3) (v3 6)) (xa0 (v3 4) nil3))) ud0) D' [o0,o1,o2,some (.ref wl),some (encT s),some (.ref sd),some (.int 0)] μ':=by
 have hz:(1000:Nat) < sizeLine:=by decide
 show wc0 (mt3 appR (o3 ixR (v3 3) (v3 6)) (xa0 (v3 4) nil3)) D' [o0,o1,o2,some (.ref wl),some (encT s),some (.ref sd),some (.int 0)] μ';dsimp only [wc0,mt3,o3,v3,getI,xa0,nil3];refine vc0 h.li (d:=.ref a) rfl ?_;dsimp only;rw [h.at'];refine zv0 h.at' [8] ?_;have e:js.map encT ++ [encT s]=(js ++ [s]).map encT:=by simp
 rw [e];exact k ⟨h.ex.upd h.fr,by rw [za0 (Ne.symm h.ne)]; exact h.li,ya0,h.fr,h.ne⟩
theorem xf4:RdQ spWo (tq3 spCb spNc spRo) xm3:=by
 rintro ds μ Q ⟨ts,x0,y0,x1,y1,w,h,rfl,hP,ne,b,on,k⟩;have hz:(1000000:Nat) < sizeLine:=by decide
 refine ⟨ts,rfl,hP,λ c=>absurd c ne,λ _=>⟨x0,y0,x1,y1,w,h,b,λ r rs μ1 ex1 hr R _ I=>?_⟩⟩;obtain ⟨ps,e,bs⟩:=on _ I
 obtain ⟨q,rfl⟩:∃ q,rs=[(q,ps)]:=by
  simp_all
 have hps:ps.length<=2500:=by
  have:=List.Nodup.length_le_of_subset (I.nd.2 ps (.head _)) (l₂:=grid (x0 - 1) (y0 - 1) w h) λ c hc=>grid_mem.mpr (ww1 (wp2 b) (I.mem ps (.head _) c hc).1);rw [zu0] at this;have:=b.2.2.2.2.2.2.2;omega
 have hq:=R.at' _ (.head _);refine ⟨r,q,ps,rfl,R.li,hq,hps,λ nd kvs μ2 ex2 hnd ed kv=>?_⟩;have hr2:μ2 r=some (.lst [.ref q]):=ex2 _ _ R.li;show se0 spCb spNc spRo _ [some (.tup [9]),some (.ref r),some (.ref nd),none,none,none,none] μ2;unfold se0;dsimp only [seq3,set3,zc0,is3,v3,getI];rw [hr2];intro wl hwl;refine ⟨λ l ys ρ μ'=>(∃ o,ρ=[o]) /\ Ext μ2 μ' /\ ((l=[.ref q] /\ ys=[] /\ μ' wl=some (.lst [])) \/ (l=[] /\ ∃ a,ys=[.ref a] /\ Wa μ2 μ' wl a [])),?_,?_,?_,?_⟩
 ·exact ⟨⟨none,rfl⟩,Ext.new hwl,.inl ⟨rfl,rfl,ya0⟩⟩
 ·rintro l ys ρ μ' ⟨_,ex,⟨_,rfl,e⟩ | ⟨_,a,rfl,W⟩⟩
  ·exact ⟨ex _ _ hr2,e⟩
  ·exact ⟨ex _ _ hr2,W.li⟩
 ·rintro ys ρ μ' ⟨⟨o,rfl⟩,_,⟨e,_⟩ | ⟨_,a,rfl,W⟩⟩
  ·cases e
  show si0 spCb spNc spRo _ [some (.tup [9]),some (.ref r),some (.ref nd),some (.ref wl),none,none,none] μ';have tl:=hP.2.2;refine vj0 (λ l ρ μ3=>∃ (js ks:List T3) (o4 o5 o6:Option D),l=ks.map encT /\ js ++ ks=ts /\ ρ=[some (.tup [9]),some (.ref r),some (.ref nd),some (.ref wl),o4,o5,o6] /\ Wa μ2 μ3 wl a js) ?_ (λ _ _ _ _=>trivial) ?_ ?_
  ·exact ⟨[],ts,none,none,none,rfl,rfl,rfl,W⟩
  ·rintro ρ μ3 ⟨js,ks,p4,p5,p6,e,ej,rfl,W3⟩;cases ks with
   | cons _ _=>cases e
   | nil =>
   rw [append_nil] at ej;subst ej;show zc0 [none] (is3 (v3 3)) (gn3 0) tt3 (va0 tupR [14]) [some (.tup (js.map encT)),some (.ref r),some (.ref nd),some (.ref wl),p4,p5,p6] μ3 Q;dsimp only [zc0,is3,v3,getI];rw [W3.li];intro p hp;refine yc0 (rest:=[]) (λ _=>.tup (js.map encT)) hp (show 1<=sizeLine by decide) (λ _ e=>e _ _ W3.li) ?_ ?_
   ·intro x hx μ4 R' ex4 kk;rw [mem_singleton] at hx;subst hx;exact wb1 (ex4 _ _ W3.at') (kk μ4 (Ext.refl _))
   ·intro μ4 ex4 e4;exact k p μ4 (ex1.trans (ex2.trans (W3.ex.trans ex4))) (ex1.free ((ex2.trans W3.ex).free hp)) e4
  ·rintro GG hG x rest ρ μ3 ⟨js,ks,p4,p5,p6,e,ej,rfl,W3⟩;cases ks with
   | nil=>cases e
   | cons s ks =>
    rw [map_cons] at e;injection e with e1 e2
    subst e1 e2;subst hG;have ej':(js ++ [s]) ++ ks=ts:=by rw [<- ej]; simp
    have jl:js.length < 100:=by have:=congrArg List.length ej; rw [length_append] at this; omega
    refine wo2 (s:=s) (W3.ex _ _ ed) kv λ sd μ4 ex4 hsd es=>?_;have W4:=W3.mono ex4;have nsd:sd ≠ a:=(ta0 W3.at' hsd).symm;have bs:=bs s (by rw [<- ej]; simp);show b3 (o3 neR (o3 ixR (v3 5) [6]) (o3 ixR (v3 5) [5])) [some (.tup [9]),some (.ref r),some (.ref nd),some (.ref wl),some (encT s),some (.ref sd),p6] μ4 _;dsimp only [b3,o3,v3,c3,getI];refine vc0 es atI0 (vc0 es atI1 ?_);unfold vd at es ⊢;by_cases c:cb0 s ∈ ps
    ·rw [if_pos c,if_neg (bs.mp c)] at es ⊢;show (for3 (is3 (v3 5)) (gn3 6) _) _ [some (.tup [9]),some (.ref r),some (.ref nd),some (.ref wl),some (encT s),some (.ref sd),p6] μ4;dsimp only [for3,is3,v3,getI];rw [es];refine ⟨es,λ ρ1 μ5=>∃ o,ρ1=[some (.tup [9]),some (.ref r),some (.ref nd),some (.ref wl),some (encT s),some (.ref sd),o] /\ Wa μ2 μ5 wl a (js ++ [s]) /\ μ5 sd=some (.lst [.int 0,.non]),?_,?_⟩
     ·rintro ρ1 μ5 ⟨o,rfl,W5,es5⟩;exact ⟨es5,λ ρ1 μ6=>∃ o,ρ1=[some (.tup [9]),some (.ref r),some (.ref nd),some (.ref wl),some (encT s),some (.ref sd),o] /\ μ6=μ5,(by rintro ρ1 μ6 ⟨o,rfl,rfl⟩; exact ⟨es5,js ++ [s],ks,_,_,_,rfl,ej',rfl,W5⟩),_,rfl,rfl⟩
     ·exact xq3 W4 jl λ W5=>⟨_,rfl,W5,by rw [za0 nsd]; exact es⟩
    ·rw [if_neg c,if_pos (Classical.byContradiction λ z=>c (bs.mpr z))] at es ⊢;show (for3 (is3 (v3 5)) (gn3 6) _) _ [some (.tup [9]),some (.ref r),some (.ref nd),some (.ref wl),some (encT s),some (.ref sd),p6] μ4;dsimp only [for3,is3,v3,getI];rw [es];refine ⟨es,λ ρ1 μ5=>∃ o,ρ1=[some (.tup [9]),some (.ref r),some (.ref nd),some (.ref wl),some (encT s),some (.ref sd),o] /\ μ5=μ4,?_,⟨_,rfl,rfl⟩⟩;rintro ρ1 μ5 ⟨o,rfl,rfl⟩;refine ⟨es,λ ρ1 μ6=>∃ o,ρ1=[some (.tup [9]),some (.ref r),some (.ref nd),some (.ref wl),some (encT s),some (.ref sd),o] /\ Wa μ2 μ6 wl a (js ++ [s]) /\ μ6 sd=some (.lst [.non,.int 0]),?_,?_⟩
     ·rintro ρ1 μ6 ⟨o,rfl,W6,es6⟩;exact ⟨es6,js ++ [s],ks,_,_,_,rfl,ej',rfl,W6⟩
     ·exact xq3 W4 jl λ W5=>⟨_,rfl,W5,by rw [za0 nsd]; exact es⟩
 ·rintro x l ys ρ μ' ⟨⟨o,rfl⟩,ex,⟨e,rfl,el⟩ | ⟨e,_⟩⟩
  ·injection e with e1 e2
   subst e1 e2;refine ⟨show 0 < sizeLine by decide,Nat.zero_le _,λ a ha=>⟨?_,⟨_,rfl⟩,λ c o' hc=>?_,.inr ⟨rfl,a,rfl,⟨λ c o' hc=>?_,ya0,?_,ex.free ha,(ta0 el ha).symm⟩⟩⟩⟩
   ·rw [za0 (ta0 el ha)]; exact el
   ·have:=ex c o' hc;rw [za0 (ta0 hc hwl),za0 (ta0 this ha)]; exact this
   ·have:=ex c o' hc;rw [za0 (ta0 hc hwl),za0 (ta0 this ha)]; exact this
   ·rw [za0 (ta0 el ha).symm,ya0]; rfl
  ·cases e
theorem zp0 {α:Type} (k:Int):∀ l:List α,su (λ _=>k) l=k * l.length
 | []=>by simp [su]
 | a :: l=>by show k + su _ l=_; rw [zp0 k l,length_cons]; push_cast; rw [Int.mul_add]; omega
theorem yo1 {α β:Type} {f:α->β->Int} {m:List β}:∀ {l:List α},su (λ a=>su (f a) m) l=su (λ b=>su (λ a=>f a b) l) m
 | []=>by
  show 0=su (λ _=>0) m;rw [zp0]; omega
 | a :: l=>by
  show su (f a) m + su (λ a=>su (f a) m) l=_;rw [yo1 (l:=l),yp0 (f:=λ b=>su (λ a=>f a b) (a :: l)) (g:=f a) (h:=λ b=>su (λ a=>f a b) l) (c:=1) λ b _=>by show f a b + _=_; rw [Int.one_mul]];omega
theorem vv3 {m k:Int} (h0:0<=m):∀ h:Nat,su (λ j:Nat=>if (j:Int) < m then k else 0) (List.range h)=k * (if m<=h then m else h)
 | 0=>by
  show 0=_;split
  ·rw [show m=0 by omega]; omega
  ·simp
 | h + 1=>by
  rw [List.range_succ,vo1,vv3 h0 h];show _ + ((if (h:Int) < m then k else 0) + 0)=_;by_cases c:(h:Int) < m
  ·rw [if_pos c,if_neg [2]];split
   ·rw [show m=((h + 1:Nat):Int) by omega]; push_cast; rw [Int.mul_add]; omega
   ·push_cast; rw [Int.mul_add]; omega
  ·rw [if_neg c,if_pos [2],if_pos [2]]; omega
variable {ts:List T3} {σ:T3->Int} {w h:Nat}
theorem vl3 (hw:∀ t ∈ ts,wy t) (F:Fw ts σ) {x y:Int} (hB:∀ t ∈ ts,x<=t.1 /\ (t.2.2=0->t.1 < x + w) /\ y<=t.2.1 /\ t.2.1<=y + h):ar ts σ = -2 * su (wn ts σ) (grid x y w h):=by
 have e:su (wn ts σ) (grid x y w h)=su (λ t=>if t.2.2=0 then σ t * (t.2.1 - y) else 0) ts:=by
  unfold wn;rw [yo1];refine sd0 λ t ht=>?_;obtain ⟨b1,b2,b3',b4⟩:=hB t ht;by_cases c:t.2.2=0
  ·rw [if_pos c];have b2:=b2 c;unfold grid col;rw [uv3,sd0 (g:=λ i:Nat=>if i=(t.1 - x).toNat then (λ _:Nat=>σ t * (t.2.1 - y)) i else 0) λ i _=>?_,zo1 List.nodup_range,if_pos (List.mem_range.mpr [2])];rw [wo1];by_cases ci:i=(t.1 - x).toNat
   ·rw [if_pos ci,sd0 (g:=λ j:Nat=>if (j:Int) < t.2.1 - y then σ t else 0) λ j _=>?_,vv3 [2],if_pos [2]];omega
   ·rw [if_neg ci,sd0 (g:=λ _=>0) λ j _=>if_neg λ z=>ci [2],zp0]; omega
  ·rw [if_neg c,sd0 (g:=λ _=>0) λ j _=>if_neg λ z=>c z.1,zp0]; omega
 have q:=F.cl λ p=>p.1 * p.2 - 2 * y * p.1;rw [e];unfold ar;rw [yp0 (g:=λ t=>σ t * ((λ p:Pt=>p.1 * p.2 - 2 * y * p.1) (e1 t) - (λ p:Pt=>p.1 * p.2 - 2 * y * p.1) (e0 t))) (h:=λ t=>if t.2.2=0 then σ t * (t.2.1 - y) else 0) (c:=-2),q]
 ·omega
 ·rintro ⟨a,b,v⟩ ht;have hv:=hw _ ht;have hv:v=0 \/ v=1:=hv;rcases hv with rfl | rfl
  ·simp only [if_pos rfl,crs,e0,e1]
   grind
  ·simp only [crs,e0,e1];rw [if_neg [19]]
   grind
theorem RR.area {r:List Pt} {k:Int} (h:RR ts σ r k) (hw:∀ t ∈ ts,wy t) (F:Fw ts σ) {x0 y0 x1 y1:Int} {h':Nat} (b:BxS ts x0 y0 x1 y1 w h') (nd:r.Nodup) (sub:∀ c ∈ r,c ∈ grid (x0 - 1) (y0 - 1) w h'):ar ts σ=2 * r.length \/ ar ts σ = -(2 * r.length):=by
 rw [vl3 (x:=x0 - 1) (y:=y0 - 1) (w:=w) (h:=h') hw F λ t ht=>?_,wv3 (vx1 _ _ _ _) nd sub λ c _ hc=>(h.wn c).2 hc,sd0 (g:=λ _=>k) λ c hc=>(h.wn c).1 hc,zp0]
 ·rcases h.sg with e | e <;> rw [e] <;> omega
 ·have F:=wp2 b;have ht':=hw t ht;obtain ⟨a,c,v⟩:=t;rcases ht' with e | e
  ·have e:v=0:=e;subst e;have:=F.h a c ht;dsimp only;omega
  ·have e:v=1:=e;subst e;have:=F.v a c ht
   simp_all;omega
noncomputable def encP (p:Pen):D:=.tup [.int p.1,.int p.2.1,.int p.2.2]
noncomputable def sw3:Sp3:=λ ds μ Q=>∃ p q,ds=[encP p,encP q] /\ Hd p /\ Q (encP (led p q)) μ
theorem sp2 {h:Int} (hd:h=0 \/ h=1 \/ h=2 \/ h=3):atI [D.ktp [D.int 1,D.int 0],D.ktp [D.int 0,D.int 1],D.ktp [D.int (-1),D.int 0],D.ktp [D.int 0,D.int (-1)]] h=some (.ktp [.int (cs h),.int (sn h)]):=by
 rcases hd with rfl | rfl | rfl | rfl <;> rfl
theorem zj1 (h:Int) : -(2 ^ 64) < cs h /\ cs h < 2 ^ 64:=by unfold cs; omega
theorem uf1 (h:Int) : -(2 ^ 64) < sn h /\ sn h < 2 ^ 64:=by unfold sn; omega
variable {i:Int} {Q:VK3}
theorem uq4 {l:List D} {d:D} (e:atI l i=some d) (h:Q d μ):ixR (.ktp l) (.int i) μ Q:=by
 unfold ixR
 simp_all
theorem zi4:RdQ sw3 yu3 vp3:=by
 rintro ds μ Q ⟨p,q,rfl,hp,k⟩;have c1:CMul q.1 (cs p.2.2):=.inl (.inr (zj1 _));have c2:CMul q.2.1 (sn p.2.2):=.inl (.inr (uf1 _));have c3:CMul q.1 (sn p.2.2):=.inl (.inr (uf1 _));have c4:CMul q.2.1 (cs p.2.2):=.inl (.inr (zj1 _));have d1:(0:Int) < 4:=by decide
 have d2:3<=sizeLine:=by decide
 show ixR tt0 (.int p.2.2) μ (λ d μ1=>_);refine uq4 (sp2 hp) ?_;trivial
noncomputable def mnP (p q:Int × Int):Int × Int:=if ltP q.1 q.2 p.1 p.2=true then q else p
noncomputable def btw (p q:Int × Int):T3:=((mnP p q).1,(mnP p q).2,if p.2=q.2 then 0 else 1)
noncomputable def yz2:Sp3:=λ ds μ Q=>∃ p q,ds=[encQ p,encQ q] /\ Q (encT (btw p q)) μ
theorem so4 (p q:Int × Int) (μ:Mu) (K:VK3):minQ [.tup [.int p.1,.int p.2],.tup [.int q.1,.int q.2]] μ K=K (encQ (mnP p q)) μ:=by
 unfold mnP;show K (if ltP q.1 q.2 p.1 p.2 then .tup [.int q.1,.int q.2] else .tup [.int p.1,.int p.2]) μ=_;split <;> rfl
theorem zg4:RdQ yz2 vc2 zn3:=by
 rintro ds μ Q ⟨p,q,rfl,k⟩;unfold btw at k;show vc2 _ [some (.tup [.int p.1,.int p.2]),some (.tup [.int q.1,.int q.2]),none] μ;dsimp only [vc2,seq3,set3,va0,xa0,v3,nil3,getI];rw [so4];show if decide (p.2=q.2)=true then _ else _;by_cases c:p.2=q.2
 ·rw [if_pos c] at k; rw [decide_eq_true c,if_pos rfl]; exact ⟨z3,k⟩
 ·rw [if_neg c] at k; rw [decide_eq_false c,if_neg [19]]; exact ⟨z3,k⟩
noncomputable def mv (x y:Int) (s:T3):T3:=(s.1 + x,s.2.1 + y,s.2.2)
noncomputable def uw3:Sp3:=λ ds μ Q=>∃ s x y,ds=[encT s,.int x,.int y] /\ Q (encT (mv x y s)) μ
theorem uh4:RdQ uw3 zt3 to3:=by
 rintro ds μ Q ⟨s,x,y,rfl,q⟩;exact ⟨z3,q⟩
noncomputable def tp (q:Int) (p:Int × Int):Int × Int:=((led (0,0,q) (p.1,p.2,0)).1,(led (0,0,q) (p.1,p.2,0)).2.1)
noncomputable def ww3:Sp3:=λ ds μ Q=>∃ p q,ds=[encQ p,.int q] /\ (q=0 \/ q=1 \/ q=2 \/ q=3) /\ Q (encQ (tp q p)) μ
theorem zf4:RdQ ww3 (xr3 sw3) zm3:=by
 rintro ds μ Q ⟨p,q,rfl,hq,k⟩;exact ⟨z3,z3,(0,0,q),(p.1,p.2,0),rfl,hq,z2,k⟩
noncomputable def tS (q:Int) (s:T3):T3:=btw (tp q (s.1,s.2.1)) (tp q (gx s,gy s))
noncomputable def zw3:Sp3:=λ ds μ Q=>∃ s q,ds=[encT s,.int q] /\ wy s /\ (q=0 \/ q=1 \/ q=2 \/ q=3) /\ Q (encT (tS q s)) μ
theorem yf4:RdQ zw3 (sq3 sh0 yz2 ww3) ym3:=by
 rintro ds μ Q ⟨s,q,rfl,hw,hq,k⟩;exact ⟨s,rfl,hw,_,q,rfl,hq,_,q,rfl,hq,_,_,rfl,k⟩
noncomputable def mS (s:T3):T3:=btw (-s.1,s.2.1) (-(gx s),gy s)
noncomputable def spMs:Sp3:=λ ds μ Q=>∃ s,ds=[encT s] /\ wy s /\ Q (encT (mS s)) μ
theorem sh4:RdQ spMs (vt3 sh0 yz2) yp3:=by
 rintro ds μ Q ⟨s,rfl,hw,k⟩;exact ⟨s,rfl,hw,z2,z2,_,_,rfl,k⟩
theorem vc1 (g:T3->T3) (ts:List T3):[9].map (λ d=>encT (g (decT d)))=(ts.map g).map encT:=by
 rw [map_map,map_map];rfl
noncomputable def xf0:Sp3:=λ ds μ Q=>∃ ts x y,ds=[.tup [9],.int x,.int y] /\ Pc ts /\ ∀ μ',Ext μ μ'->Q (.tup ((ts.map (mv x y)).map encT)) μ'
theorem th4:RdQ xf0 (wt3 xl0 uw3) xp3:=by
 rintro ds μ Q ⟨ts,x,y,rfl,hp,q⟩;refine ⟨ts,rfl,hp,λ p hp0=>?_⟩;refine yc0 (rest:=[some (.int x),some (.int y)]) (λ d=>encT (mv x y (decT d))) hp0 (zl hp.2.2) (λ _ _=>trivial) ?_ ?_
 ·intro d hd μ' R ex k;obtain ⟨t,ht,rfl⟩:=List.mem_map.mp hd;exact ⟨t,x,y,rfl,k _ (Ext.refl _)⟩
 ·intro μ' ex e;rw [vc1] at e;exact wb1 e (q μ' ex)
noncomputable def xe0:Sp3:=λ ds μ Q=>∃ ts n,ds=[.tup [9],.int n] /\ Pc ts /\ ∀ (us:List T3) μ',Ext μ μ'->us.Perm (ts.map (tS (n % 4)))->us.Pairwise le3->Q (.tup (us.map encT)) μ'
theorem mod4 (n:Int):n % 4=0 \/ n % 4=1 \/ n % 4=2 \/ n % 4=3:=by omega
theorem wf4:RdQ xe0 (yr3 xl0 zw3) wm3:=by
 rintro ds μ Q ⟨ts,n,rfl,hp,q⟩;refine ⟨ts,rfl,hp,λ p hp0=>?_⟩;refine yc0 (rest:=[some (.int n)]) (λ d=>encT (tS (n % 4) (decT d))) hp0 (zl hp.2.2) (λ _ _=>trivial) ?_ ?_
 ·intro d hd μ' R ex k;obtain ⟨t,ht,rfl⟩:=List.mem_map.mp hd;exact ⟨(show (0:Int) < 4 by decide),t,n % 4,rfl,hp.2.1 t ht,mod4 n,k _ (Ext.refl _)⟩
 ·intro μ' ex e;rw [vc1] at e;refine tc2 (Q:=λ d μ1=>tupR [d] μ1 Q) e (by rw [length_map]; have:=hp.2.2; omega) λ us a1 a2 r hr=>wb1 ya0 (q us _ (ex.trans (Ext.new hr)) a1 a2)
noncomputable def us0:Sp3:=λ ds μ Q=>∃ ts,ds=[.tup [9]] /\ Pc ts /\ ∀ (us:List T3) μ',Ext μ μ'->us.Perm (ts.map mS)->us.Pairwise le3->Q (.tup (us.map encT)) μ'
theorem xi4:RdQ us0 (ut3 xl0 spMs) zp3:=by
 rintro ds μ Q ⟨ts,rfl,hp,q⟩;refine ⟨ts,rfl,hp,λ p hp0=>?_⟩;refine yc0 (rest:=[]) (λ d=>encT (mS (decT d))) hp0 (zl hp.2.2) (λ _ _=>trivial) ?_ ?_
 ·intro d hd μ' R ex k;obtain ⟨t,ht,rfl⟩:=List.mem_map.mp hd;exact ⟨t,rfl,hp.2.1 t ht,k _ (Ext.refl _)⟩
 ·intro μ' ex e;rw [vc1] at e;refine tc2 (Q:=λ d μ1=>tupR [d] μ1 Q) e (by rw [length_map]; have:=hp.2.2; omega) λ us a1 a2 r hr=>wb1 ya0 (q us _ (ex.trans (Ext.new hr)) a1 a2)
theorem uj5 (h:wy s):mS s=miT s:=by
 obtain ⟨x,y,w⟩:=s;have h:w=0 \/ w=1:=h;rcases h with rfl | rfl <;> simp [mS,btw,mnP,ltP,gx,gy,miT] <;> grind
theorem sx2 (h:wy s):tS 1 s=tuT s /\ tS 2 s=tuT (tuT s) /\ tS 3 s=tuT (tuT (tuT s)):=by
 obtain ⟨x,y,w⟩:=s;have h:w=0 \/ w=1:=h;rcases h with rfl | rfl <;> simp [tS,btw,tp,led,cs,sn,mnP,ltP,gx,gy,tuT] <;> grind
structure Gp (ts:List T3) (n:Int):Prop where
 pc:Pc ts
 bd:∀ t ∈ ts,(-n<=t.1 /\ t.1<=n) /\ -n<=t.2.1 /\ t.2.1<=n
noncomputable def Ig (ts us:List T3):Prop:=∃ f g φ φ' ψ ψ',Sy f g φ φ' ψ ψ' /\ Im f ts us
variable {us:List T3}
theorem tw1 {f g:T3->T3} {φ φ' ψ ψ':Pt->Pt} (S:Sy f g φ φ' ψ ψ') {h:T3->T3} {n:Int} (G:Gp ts 8) (e:∀ s,wy s->h s=f s) (pu:us.Perm (ts.map h)) (su:us.Pairwise le3) (nb:∀ s,wy s->((-8<=s.1 /\ s.1<=8) /\ -8<=s.2.1 /\ s.2.1<=8)->(-20<=(f s).1 /\ (f s).1<=20) /\ -20<=(f s).2.1 /\ (f s).2.1<=20):Gp us 20 /\ Ig ts us:=by
 rw [map_congr_left λ s hs=>e s (G.pc.2.1 s hs)] at pu;have nd:(ts.map f).Nodup:=List.pairwise_map.mpr ((zt0 G.pc).imp_of_mem λ {a b} ha hb ne z=>ne (by have:=congrArg g z; rwa [S.gf a (G.pc.2.1 a ha),S.gf b (G.pc.2.1 b hb)] at this))
 have hw:∀ t ∈ ts.map f,wy t:=λ t ht=>by
  obtain ⟨s,hs,rfl⟩:=List.mem_map.mp ht;exact S.a.wy s (G.pc.2.1 s hs)
 have P:Pc us:=se3 nd hw (by rw [length_map]; exact G.pc.2.2) pu su;refine ⟨⟨P,λ t ht=>?_⟩,f,g,φ,φ',ψ,ψ',S,pu,G.pc.2.1,P.2.1⟩;obtain ⟨s,hs,rfl⟩:=List.mem_map.mp (pu.mem_iff.mp ht);exact nb s (G.pc.2.1 s hs) (G.bd s hs)
theorem yk5 (G:Gp ts 8) {x y:Int} (hx : -4<=x /\ x<=4) (hy : -4<=y /\ y<=4):Gp (ts.map (mv x y)) 20 /\ Ig ts (ts.map (mv x y)):=by
 refine tw1 (n:=8) (wx4 x y) G (λ s _=>rfl) (.refl _) (List.pairwise_map.mpr (G.pc.1.imp λ {a b} l=>?_)) λ s _ b=>?_
 ·refine lt_le ?_;unfold Lt lt3 mv at *
  simp_all
 ·unfold mvT; dsimp only; omega
theorem um1 {n:Int} (h:(-n<=s.1 /\ s.1<=n) /\ -n<=s.2.1 /\ s.2.1<=n) (h0:0<=n):(-(n + 1)<=(tuT s).1 /\ (tuT s).1<=n + 1) /\ -(n + 1)<=(tuT s).2.1 /\ (tuT s).2.1<=n + 1:=by
 unfold tuT; split <;> dsimp only <;> omega
theorem zk5 (G:Gp ts 8) (pu:us.Perm (ts.map mS)) (su:us.Pairwise le3):Gp us 20 /\ Ig ts us :=
 tw1 (n:=8) vx4 G (λ s h=>uj5 h) pu su λ s _ b=>by unfold miT; split <;> dsimp only <;> omega
theorem xk5 (G:Gp ts 8) {q:Int} (hq:q=1 \/ q=2 \/ q=3) (pu:us.Perm (ts.map (tS (q % 4)))) (su:us.Pairwise le3):Gp us 20 /\ Ig ts us:=by
 rcases hq with rfl | rfl | rfl
 ·exact tw1 (n:=8) sy_t1 G (λ s h=>(sx2 h).1) pu su λ s _ b=>by have:=um1 b [19]; omega
 ·exact tw1 (n:=8) zx4 G (λ s h=>(sx2 h).2.1) pu su λ s _ b=>by have:=um1 (um1 b [19]) [19]; omega
 ·exact tw1 (n:=8) sy_t1.symm G (λ s h=>(sx2 h).2.2) pu su λ s _ b=>by have:=um1 (um1 (um1 b [19]) [19]) [19]; omega
theorem xy0 (f:T3->Int):∀ ts:List T3,ts ≠ []->∃ s ∈ ts,∀ t ∈ ts,f s<=f t
 | [],h=>absurd rfl h
 | a :: r,_=>by
  by_cases c:r=[]
  ·simp_all
  ·obtain ⟨s,hs,hm⟩:=xy0 f r c;by_cases l:f a<=f s
   ·refine ⟨a,.head _,λ t ht=>?_⟩;rcases List.mem_cons.mp ht with e | e
    ·simp_all
    ·exact Int.le_trans l (hm t e)
   ·refine ⟨s,.tail _ hs,λ t ht=>?_⟩;rcases List.mem_cons.mp ht with e | e
    ·rw [e]; omega
    ·exact hm t e
theorem xw2 (G:Gp ts 20) (h:ts ≠ []):∃ x0 y0 x1 y1 w h,BxS ts x0 y0 x1 y1 w h:=by
 obtain ⟨s1,a1,m1⟩:=xy0 (λ s=>s.1) ts h;obtain ⟨s2,a2,m2⟩:=xy0 (λ s=>s.2.1) ts h;obtain ⟨s3,a3,m3⟩:=xy0 (λ s=>- gx s) ts h;obtain ⟨s4,a4,m4⟩:=xy0 (λ s=>- gy s) ts h;have hw:=G.pc.2.1;have b1:=G.bd s1 a1; have b2:=G.bd s2 a2; have b3':=G.bd s3 a3; have b4:=G.bd s4 a4;have w3:=hw s3 a3; have w4:=hw s4 a4; have w1:=hw s1 a1; have w2:=hw s2 a2;have c1:=m3 s1 a1; have c2:=m4 s2 a2;unfold gx at c1;unfold gy at c2;unfold wy at w1 w2 w3 w4;refine ⟨s1.1,s2.2.1,gx s3,gy s4,(gx s3 - s1.1 + 2).toNat,(gy s4 - s2.2.1 + 2).toNat,⟨⟨s1,a1,rfl⟩,m1,⟨s2,a2,rfl⟩,m2,⟨s3,a3,rfl⟩,λ s hs=>by simp_all,⟨s4,a4,rfl⟩,λ s hs=>by simp_all⟩,?_⟩;have e1:0<=gx s3 - s1.1 /\ gx s3 - s1.1 + 2<=43:=by unfold gx; omega
 have e2:0<=gy s4 - s2.2.1 /\ gy s4 - s2.2.1 + 2<=43:=by unfold gy; omega
 refine ⟨by omega,by omega,⟨by omega,by omega,by omega,by omega⟩,by omega,by omega,by omega,?_⟩;exact Nat.le_trans (Nat.mul_le_mul (show _<=43 by omega) (show _<=43 by omega)) [19]
theorem few {o:Pt} {L:List (List Pt)} (I:IsRo (· ∈ ts) o L):L.length<=ts.length:=by
 have:=List.Nodup.length_le_of_subset (l₁:=L.map λ r=>(((r.headD o).1,(r.headD o).2,1):T3)) (l₂:=ts) (List.pairwise_map.mpr (I.asc.imp λ {r s} l e=>?_)) λ t ht=>?_
 ·simp_all
 ·have e1:(r.headD o).1=(s.headD o).1:=congrArg (λ t:T3=>t.1) e;have e2:(r.headD o).2=(s.headD o).2:=congrArg (λ t:T3=>t.2.1) e;rw [Prod.ext e1 e2] at l;exact uf0 _ l
 ·obtain ⟨r,hr,rfl⟩:=List.mem_map.mp ht;obtain ⟨so,ne⟩:=I.srt r hr
  match r,so,ne,hr with
  | (x,y) :: t,so,_,hr =>
   apply Classical.byContradiction;intro z;have z:(x,y,1) ∉ ts:=z;have m:=((I.mem _ hr (x,y) (.head _)).2 (x - 1,y)).mpr (Cn.refl.step (xl2 z));rcases List.mem_cons.mp m with e | e
   ·simp_all;omega
   ·have:=(List.pairwise_cons.mp so).1 _ e;unfold lt2 at this
    simp_all;omega
theorem yw2 {x0 y0 x1 y1:Int} (b:BxS ts x0 y0 x1 y1 w h):Fre ts (x0 - 1,y0 - 1):=λ s hs z=>by
 have h1:=b.1.l0 s hs;have h2:=b.1.m0 s hs;rcases z with ⟨_,z⟩ | ⟨_,z⟩ <;> dsimp only at z <;> omega
noncomputable def RLn (ts:List T3) (ls:List Nat):Prop:=(ts=[] /\ ls=[]) \/ ∃ x0 y0 x1 y1 w h L,BxS ts x0 y0 x1 y1 w h /\ IsRo (· ∈ ts) (x0 - 1,y0 - 1) L /\ ls=L.map List.length
theorem Ig.len (h:Ig ts us):us.length=ts.length:=by
 obtain ⟨f,_,_,_,_,_,_,i⟩:=h;rw [i.pm.length_eq,length_map]
variable {ls:List Nat}
theorem Ig.rl (h:Ig ts us) {ks:List Nat} (a:RLn ts ls) (b:RLn us ks):ls.Perm ks:=by
 have hl:=h.len;rcases a with ⟨rfl,rfl⟩ | ⟨x0,y0,x1,y1,w,hh,L,B,I,rfl⟩
 ·rcases b with ⟨_,rfl⟩ | ⟨_,_,_,_,_,_,_,B,_⟩
  ·exact .refl _
  ·obtain ⟨s,hs,_⟩:=B.1.a0
   simp_all
 ·rcases b with ⟨rfl,_⟩ | ⟨_,_,_,_,_,_,K,C,J,rfl⟩
  ·obtain ⟨s,hs,_⟩:=B.1.a0;have:=List.length_pos_of_mem hs
   simp_all
  ·obtain ⟨f,_,_,_,_,_,S,i⟩:=h;exact i.rooms S (yw2 B) (yw2 C) I J
theorem Ig.rg {ts us:List T3} (h:Ig ts us):Rg us ↔ Rg ts:=by
 obtain ⟨f,_,_,_,_,_,S,i⟩:=h;exact ⟨(i.symm S).rg S.symm,i.rg S⟩
theorem sw0 (hP:Pc ts) (R:Rg ts) (F:Fw ts σ) {x0 y0 x1 y1:Int} (b:BxS ts x0 y0 x1 y1 w h) {L:List (List Pt)} (I:IsRo (· ∈ ts) (x0 - 1,y0 - 1) L):∃ r,L=[r] /\ (∀ s ∈ ts,cb0 s ∈ r ↔ e0 s ∉ r) /\ (ar ts σ=2 * r.length \/ ar ts σ = -(2 * r.length)):=by
 have w0:wn ts σ (x0 - 1,y0 - 1)=0:=by
  unfold wn;rw [sd0 (g:=λ _=>0) λ t ht=>if_neg λ z=>?_,zp0]
  ·omega
  ·have:=b.1.l0 t ht;omega
 obtain ⟨r,k,rfl,W⟩:=si2 (zt0 hP) hP.2.1 R F w0 I;exact ⟨r,rfl,λ s hs=>W.bs (zt0 hP) hP.2.1 F hs,W.area hP.2.1 F b (I.nd.2 r (.head _)) λ c hc=>grid_mem.mpr (ww1 (wp2 b) (I.mem r (.head _) c hc).1)⟩
theorem RLn.ring {n:Int} (h:RLn ts ls) (hP:Pc ts) (R:Rg ts) (F:Fw ts σ) (hn:n=ar ts σ \/ n = -ar ts σ) (h0:0<=n):∃ m:Nat,ls=[m] /\ n / 2=m:=by
 rcases h with ⟨rfl,_⟩ | ⟨_,_,_,_,_,_,L,B,I,rfl⟩
 ·exact absurd rfl R.1
 ·obtain ⟨r,rfl,_,a⟩:=sw0 hP R F B I
  simp_all;omega
variable {p:Addr} {ns:List Int}
theorem yw3 (h:μ p=some (.lst (ns.map D.int))) (hl:ns.length < 64) (k:∀ ms:List Int,ms.Perm ns->ms.Pairwise (· <= ·)->∀ r,μ r=none->Q (.ref r) (updM μ r (.lst (ms.map D.int)))):vs0 [.ref p] μ Q:=by
 simp only [vs0,h,zw1];exact ⟨hl,k⟩
noncomputable abbrev tLen (i:Nat):TE3:=va0 vs0 (xa0 (zc0 [none] (is3 (va0 spRo (xa0 (v3 i) nil3))) (gn3 0) tt3 (va0 lenR [14])) nil3)
theorem wu1 {i:Nat} (hi:getI ρ i=some (.tup [9])) (G:Gp ts 20) (k:∀ r (ms:List Int) ls μ',Ext μ μ'->μ r=none->μ' r=some (.lst (ms.map D.int))->RLn ts ls->ms.Perm (ls.map λ n:Nat=>(n:Int))->ms.Pairwise (· <= ·)->K (.ref r) μ'):tLen i ρ μ K:=by
 unfold tLen;dsimp only [va0,xa0,zc0,is3,v3,nil3];rw [hi];dsimp only;have z64:(1000:Nat) < sizeLine:=by decide
 have go:∀ (rs:List (Addr × List Pt)) (r:Addr) (μ1:Mu),Ext μ μ1->Rl μ1 r rs->rs.length < 60->RLn ts ((rs.map (·.2)).map List.length)->∀ p,μ1 p=none->sd1 (λ μ=>μ r=some (.lst (rs.map λ x=>.ref x.1))) p (gn3 0) tt3 (va0 lenR [14]) (λ d μ1=>vs0 [d] μ1 K) (rs.map λ x=>.ref x.1) [none] (updM μ1 p (.lst [])):=λ rs r μ1 ex R hl rl p hp=>by
     refine yc0 (rest:=[]) (λ d=>match d with | .ref a=>(match μ1 a with | some (.lst l)=>.int l.length | _=>.non) | _=>.non) hp [8] (λ _ e=>e _ _ R.li) (λ x hx μ2 R' ex2 kk=>?_) λ μ2 ex2 e2=>?_
     ·obtain ⟨y,hy,rfl⟩:=List.mem_map.mp hx;have e:=R.at' y hy;have kk:=kk μ2 (Ext.refl _);simp only [e] at kk
      conv=>whnf
      rw [ex2 _ _ e];exact kk
     ·have el:(rs.map λ x=>D.ref x.1).map (λ d=>match d with | .ref a=>(match μ1 a with | some (.lst l)=>D.int l.length | _=>.non) | _=>.non)=(((rs.map (·.2)).map List.length).map λ n:Nat=>(n:Int)).map D.int:=by
        rw [map_map,map_map,map_map,map_map];refine map_congr_left λ y hy=>?_;simp only [Function.comp,R.at' y hy,length_map]
      rw [el] at e2;refine yw3 e2 [8] λ ms pm up q hq=>?_;exact k q ms _ _ ((ex.trans ex2).trans (Ext.new hq)) ((ex.trans ex2).free hq) ya0 rl pm up
 refine ⟨ts,rfl,G.pc,λ c r hr=>?_,λ c=>?_⟩
 ·have R:Rl (updM μ r (.lst [])) r []:=⟨ya0,(λ _ h=>nomatch h),nodup_nil,Nat.zero_le _⟩;have g:=go [] r _ (Ext.new hr) R [19] (.inl ⟨c,rfl⟩);generalize updM μ r (.lst [])=μ1 at R g ⊢
  conv=>whnf
  rw [R.li];exact g
 obtain ⟨x0,y0,x1,y1,w,h,b⟩:=xw2 G c;refine ⟨x0,y0,x1,y1,w,h,b,λ r rs μ1 ex1 hr R _ I=>?_⟩;have g:=go rs r μ1 ex1 R (by have:=few I; rw [length_map] at this; have:=G.pc.2.2; omega) (.inr ⟨_,_,_,_,_,_,_,b,I,rfl⟩)
 conv=>whnf
 rw [R.li];exact g
noncomputable def encL (l:Lk2):D:=.tup [encQ l.1,encQ l.2]
noncomputable def enN (n:Nat):D:=.int (n:Int)
noncomputable def oD:Option Nat->D
 | none=>.non
 | some n=>.int (n:Int)
noncomputable def encW (w:Wt):D:=.tup [encQ w.1,oD w.2]
noncomputable def lkD (L:List Lk2) (n:Nat):Lk2:=L.getD n ((0,0),(0,0))
noncomputable def incN (L:List Lk2) (k:Nat):List (Pt × Nat):=(List.range k).flatMap λ n=>[((lkD L n).1,n),((lkD L n).2,n)]
theorem xz0 (L:List Lk2) (k:Nat):incN L (k + 1)=incN L k ++ [((lkD L k).1,k)] ++ [((lkD L k).2,k)]:=by
 unfold incN; rw [List.range_succ,List.flatMap_append]; simp
theorem sm2 (L:List Lk2) (k:Nat):(incN L k).length=2 * k:=by
 induction k with
 | zero=>rfl
 | succ k ih=>rw [xz0,length_append,length_append,ih]; rfl
variable {L:List Lk2}
theorem zu1 {l:Lk2} (h:L[n]?=some l):lkD L n=l:=by
 unfold lkD; simp_all
theorem wn0 (h:n < L.length):L[n]?=some (lkD L n):=by
 unfold lkD; simp_all
theorem wi1 {p:Pt} (h:n ∈ here (incN L L.length) p):∃ l,L[n]?=some l /\ ic l p:=by
 unfold here at h;obtain ⟨⟨q,m⟩,h1,rfl⟩:=List.mem_map.mp h;obtain ⟨h2,h3⟩:=List.mem_filter.mp h1;have e:=of_decide_eq_true h3;dsimp only at e ⊢;subst e;obtain ⟨k,hk,h4⟩:=List.mem_flatMap.mp h2;have hk':=List.mem_range.mp hk;rcases List.mem_cons.mp h4 with e | h4
 ·cases e; exact ⟨_,wn0 hk',.inl rfl⟩
 ·have e:=List.mem_singleton.mp h4;cases e; exact ⟨_,wn0 hk',.inr rfl⟩
theorem tm2 {p:Pt} {l:Lk2} (h:L[n]?=some l) (hp:ic l p):n ∈ here (incN L L.length) p:=by
 have hn:n < L.length:=(List.getElem?_eq_some_iff.mp h).1;have e:=zu1 h;unfold here;refine List.mem_map.mpr ⟨(p,n),List.mem_filter.mpr ⟨List.mem_flatMap.mpr ⟨n,List.mem_range.mpr hn,?_⟩,decide_eq_true rfl⟩,rfl⟩;rw [e];rcases hp with rfl | rfl <;> simp
theorem yi3 {p:Pt} (h:∃ l ∈ L,ic l p):p ∈ (incN L L.length).map (·.1):=by
 obtain ⟨l,hl,hp⟩:=h;obtain ⟨n,hn,e⟩:=getElem_of_mem hl;have e1:L[n]?=some l:=by simp_all
 have e2:=zu1 e1;refine List.mem_map.mpr ⟨(p,n),List.mem_flatMap.mpr ⟨n,List.mem_range.mpr hn,?_⟩,rfl⟩;rw [e2];rcases hp with rfl | rfl <;> simp
theorem at_L (h:n < L.length):atI (L.map encL) (n:Int)=some (encL (lkD L n)):=by
 unfold atI ixN;rw [if_pos [2],if_pos [16]];show (L.map encL)[((n:Int)).toNat]?=_;rw [show ((n:Int)).toNat=n by omega,getElem?_map,wn0 h]; rfl
noncomputable def tw3:Sp3:=λ ds μ Q=>∃ (lr:Addr) (L:List Lk2),ds=[.ref lr] /\ μ lr=some (.lst (L.map encL)) /\ L.length < 200 /\ ∀ d A μ',AtI enN μ μ' d (incN L L.length) A->Q (.ref d) μ'
theorem yi4:RdQ tw3 xu3 wp3:=by
 rintro ds μ Q ⟨lr,L,rfl,hL,hl,q⟩;intro d hd;have hL1:updM μ d (.dcl false []) lr=some (.lst (L.map encL)):=by rw [za0 (ta0 hL hd)]; exact hL
 conv=>whnf
 rw [hL1];refine ⟨⟨by omega,by simp_all;omega⟩,?_⟩;refine wi0 (λ l ρ μ'=>∃ (k:Nat) (A:List (Pt × Addr)) (o2 o3:Option D),l=rngD (k:Int) (L.length - k) /\ k<=L.length /\ ρ=[some (.ref lr),some (.ref d),o2,o3] /\ AtI enN μ μ' d (incN L k) A) ?_ (λ _ _ _ _=>trivial) ?_ ?_
 ·refine ⟨0,[],none,none,?_,Nat.zero_le _,rfl,Ext.new hd,hd,ya0,nodup_nil,λ p=>Iff.rfl,Nat.le_refl _,nodup_nil,λ _ h=>(nomatch h),λ _ h=>(nomatch h)⟩;simp
 ·rintro ρ μ' ⟨k,A,o2,o3',e,hk,rfl,I⟩
  have e0:L.length - k=0:=by
   cases c:L.length - k with
   | zero=>rfl
   | succ c'=>rw [c,we0] at e; cases e
  have ek:k=L.length:=by omega
  subst ek;exact q d A μ' I
 ·rintro x rest ρ μ' ⟨k,A,o2,o3',e,hk,rfl,I⟩;cases n:L.length - k with
  | zero=>rw [n] at e; simp [rngD] at e
  | succ m =>
   rw [n,we0] at e;simp only [List.cons.injEq] at e;obtain ⟨rfl,rfl⟩:=e;have hk1:k < L.length:=by omega
   have ln:=sm2 L k;show ixR (.ref lr) (.int (k:Int)) μ' (λ x μ1=>_);refine vc0 (I.ex _ _ hL) (at_L hk1) ?_;refine zd1 (λ ρ μ'=>∃ A o3,ρ=[some (.ref lr),some (.ref d),some (enN k),o3] /\ AtI enN μ μ' d (incN L k ++ [((lkD L k).1,k)]) A) (λ ρ μ'=>∃ A o3,ρ=[some (.ref lr),some (.ref d),some (enN k),o3] /\ AtI enN μ μ' d (incN L k ++ [((lkD L k).1,k)] ++ [((lkD L k).2,k)]) A) ?_ ?_ ?_
   ·exact yv0 (en:=enN) (p:=(lkD L k).1) (t:=k) I [2] λ μ2 A2 I2=>⟨A2,_,rfl,I2⟩
   ·rintro ρ μ1 ⟨A1,o3'',rfl,I1⟩;exact yv0 (en:=enN) (p:=(lkD L k).2) (t:=k) I1 [8] λ μ2 A2 I2=>⟨A2,_,rfl,I2⟩
   ·rintro ρ μ1 ⟨A1,o3'',rfl,I1⟩;rw [<- xz0] at I1;exact ⟨k + 1,A1,_,_,by rw [show L.length - (k + 1)=m by omega]; congr 1,by omega,rfl,I1⟩
noncomputable def usd (U:List Nat):List (L2.Key × D):=U.map λ n:Nat=>(.inl (n:Int),.bl true)
theorem yq2 (n:Nat):∀ U:List Nat,(valK (usd U) (.inl (n:Int))).isSome=decide (n ∈ U)
 | []=>rfl
 | m :: r=>by
  have ih:=yq2 n r;unfold valK usd at ih ⊢;rw [map_cons,find?_cons];by_cases c:m=n
  ·subst c; simp
  ·have c1:¬ ((Sum.inl (m:Int):L2.Key)=.inl (n:Int)):=λ z=>c (by injection z with z; omega)
   simp_all;omega
variable {U:List Nat}
theorem zk4 (h:n ∉ U):putY (usd U) (.inl (n:Int)) (.bl true)=usd (U ++ [n]):=by
 unfold putY;rw [if_neg]
 ·unfold usd; simp
 ·intro z;obtain ⟨x,hx,e⟩:=List.any_eq_true.mp z;obtain ⟨m,hm,rfl⟩:=List.mem_map.mp hx;have e:=of_decide_eq_true e;dsimp only at e;injection e with e
  have:m=n:=by omega
  simp_all
theorem vl4 {to:TE3} {l:List D} {x:D} (h1:∀ R:VK3,R (.ref p) μ->to ρ μ R) (h:μ p=some (.lst (l ++ [x]))) (k:Q x (updM μ p (.lst l))):pop3 to ρ μ Q:=by
 refine h1 _ ?_
 simp_all
noncomputable def sy2:Sp3:=λ ds μ Q=>∃ (q s:Addr) (l U:List Nat),ds=[.ref q,.ref s] /\ μ q=some (.lst (l.map enN)) /\ μ s=some (.dck (usd U)) ∧
 ((∀ n ∈ l,n ∈ U)->∀ μ',(∀ a,a ≠ q->μ' a=μ a)->μ' q=some (.lst [])->Q .non μ') ∧
 (∀ r n z,l=r ++ n :: z->n ∉ U->(∀ m ∈ z,m ∈ U)->∀ μ',(∀ a,a ≠ q->μ' a=μ a)->μ' q=some (.lst (r.map enN))->Q (enN n) μ')
theorem tf4:RdQ sy2 vr3 tm3:=by
 rintro ds μ Q ⟨q,s,l,U,rfl,hq,hs,k1,k2⟩;have ne:s ≠ q:=λ z=>by simp_all
 refine ⟨λ m ρ μ'=>∃ (r z:List Nat) (o:Option D),m=r.length /\ l=r ++ z /\ (∀ m ∈ z,m ∈ U) /\ ρ=[some (.ref q),some (.ref s),o] /\ (∀ a,a ≠ q->μ' a=μ a) /\ μ' q=some (.lst (r.map enN)),⟨l.length,l,[],none,rfl,by simp,λ _ h=>(nomatch h),rfl,λ _ _=>rfl,hq⟩,?_⟩;rintro m ρ μ' ⟨r,z,o,rfl,el,hz,rfl,eq,hr⟩
 conv=>whnf
 rw [hr];show if decide ((0:Int) < ((r.map enN).length:Int))=true then _ else _;rcases List.eq_nil_or_concat r with rfl | ⟨r',n,rfl⟩
 ·rw [if_neg [10]];rw [nil_append] at el;subst el;exact k1 hz μ' eq hr
 ·rw [List.concat_eq_append] at *;rw [if_pos (decide_eq_true [10])];refine ⟨λ ρ1 μ1=>∃ o,n ∈ U /\ ρ1=[some (.ref q),some (.ref s),o] /\ (∀ a,a ≠ q->μ1 a=μ a) /\ μ1 q=some (.lst (r'.map enN)),?_,?_⟩
  ·rintro ρ1 μ1 ⟨o',hn,rfl,eq1,hr1⟩;refine ⟨r'.length,by simp,r',n :: z,o',rfl,by rw [el]; simp,λ m hm=>?_,rfl,eq1,hr1⟩;rcases List.mem_cons.mp hm with rfl | h
   ·exact hn
   ·exact hz m h
  ·show pop3 (v3 0) [some (.ref q),some (.ref s),o] μ' (λ d μ1=>_);refine vl4 (l:=r'.map enN) (x:=enN n) (λ R r=>r) [16] ?_;have hs1:updM μ' q (.lst (r'.map enN)) s=some (.dck (usd U)):=by rw [za0 ne,eq s ne]; exact hs
   have eo:∀ a,a ≠ q->updM μ' q (.lst (r'.map enN)) a=μ a:=λ a ha=>by rw [za0 ha]; exact eq a ha
   have hq1:updM μ' q (.lst (r'.map enN)) q=some (.lst (r'.map enN)):=ya0
   conv=>whnf
   rw [hs1];show if (!(valK (usd U) (.inl (n:Int))).isSome)=true then _ else _;rw [yq2];by_cases c:n ∈ U
   ·rw [decide_eq_true c];exact ⟨_,c,rfl,eo,hq1⟩
   ·rw [decide_eq_false c];exact k2 r' n z (by rw [el]; simp) c hz _ eo hq1
noncomputable def pQt (p:Pt):PyData:=.tuple [.int p.1,.int p.2]
theorem yk3 (p q:Pt):PyData.eqv (pQt p) (pQt q)=decide (p=q):=by
 obtain ⟨a,b⟩:=p;obtain ⟨c,d⟩:=q;simp [pQt,PyData.eqv,PyData.eqvAll];rfl
theorem xl5 (p q:Pt) (μ:Mu) (K:VK3):eqR (encQ p) (encQ q) μ K=K (.bl (decide (p=q))) μ:=by
 have hd:∀ p:Pt,(pQt p).depth<=64:=λ p=>by simp [pQt,PyData.depth,PyData.depthAll]
 rw [wd1 rfl (show datM μ (encQ p)=some (pQt p) from rfl) (show datM μ (encQ q)=some (pQt q) from rfl) (hd p) (hd q),yk3]
noncomputable def xz2:Sp3:=λ ds μ Q=>∃ (l:Lk2) (p:Pt),ds=[encL l,encQ p] /\ Q (encQ (oth l p)) μ
theorem yh4:RdQ xz2 ts3 zo3:=by
 rintro ds μ Q ⟨l,p,rfl,k⟩
 show eqR (encQ l.1) (encQ p) μ (λ d μ1=>match d with
  | .bl c=>(if c=true then _ else _)
  | _=>False)
 rw [xl5];dsimp only;unfold oth at k;by_cases c:l.1=p
 ·rw [decide_eq_true c]; rw [if_pos c] at k; exact k
 ·rw [decide_eq_false c]; rw [if_neg c] at k; exact k
theorem z1':1<=sizeLine:=by decide
theorem zb2 {α:Type} (l:List α) (x:α):atI (l ++ [x]) (-1)=some x:=by
 unfold atI ixN;rw [if_neg [19],if_pos [8]];show (l ++ [x])[((((l ++ [x]).length:Nat):Int) + -1).toNat]?=some x;rw [show ((((l ++ [x]).length:Nat):Int) + -1).toNat=l.length by simp_all;omega];simp
variable {A:List (Pt × Addr)}
theorem dg_a {d:Addr} {p:Pt} {a:Addr} (h:μ d=some (.dcl false (atk A))) (nd:(A.map (·.1)).Nodup) (ha:(p,a) ∈ A) (k:Q (.ref a) μ):dgR (.ref d) (encQ p) μ Q:=by
 have hv:=we1 nd ha;unfold dgR;simp only [xi3,h,hv];exact k
structure WF (μ:Mu) (lr d u wt wy:Addr) (L:List Lk2) (A:List (Pt × Addr)):Prop where
 nd:(A.map (·.1)).Nodup
 n2:(A.map (·.2)).Nodup
 me:∀ p,(∃ l ∈ L,ic l p)->p ∈ A.map (·.1)
 hL:μ lr=some (.lst (L.map encL))
 fd:μ d=none
 fu:μ u=none
 fw:μ wt=none
 fy:μ wy=none
 fa:∀ x ∈ A,μ x.2=none
 n1:wt ≠ wy
 n3:∀ x ∈ A,x.2 ≠ wt /\ x.2 ≠ wy
structure WI (μ μ':Mu) (d u wt wy:Addr) (A:List (Pt × Addr)) (rem:Pt->List Nat) (U:List Nat) (st way:List Wt):Prop where
 ex:Ext μ μ'
 dc:μ' d=some (.dcl false (atk A))
 ls:∀ x ∈ A,μ' x.2=some (.lst ((rem x.1).map enN))
 us:μ' u=some (.dck (usd U))
 st:μ' wt=some (.lst (st.map encW))
 wy:μ' wy=some (.lst (way.map encW))
variable {rem:Pt->List Nat}
theorem WI.cut {lr d u wt wy a:Addr} {r:List Nat} {st way:List Wt} {p:Pt} (F:WF μ lr d u wt wy L A) (I:WI μ μ' d u wt wy A rem U st way) (ha:(p,a) ∈ A) (eo:∀ b,b ≠ a->μ2 b=μ' b) (ea:μ2 a=some (.lst (r.map enN))):WI μ μ2 d u wt wy A (upF rem p r) U st way:=by
 have hla:=I.ls _ ha;refine ⟨λ b o hb=>?_,?_,λ x hx=>?_,?_,?_,?_⟩
 ·rw [eo b (ta0 hb (F.fa _ ha))]; exact I.ex b o hb
 ·rw [eo d (λ z=>by subst z; rw [I.dc] at hla; cases hla)]; exact I.dc
 ·by_cases c:x.2=a
  ·have e:x=(p,a):=zn0 (β:=Nat) F.n2 hx ha c;subst e;unfold upF
   simp_all
  ·have c1:x.1 ≠ p:=λ z=>c (ux0 F.nd (show (p,x.2) ∈ A by rw [<- z]; exact hx) ha);unfold upF;rw [eo _ c,if_neg c1];exact I.ls x hx
 ·rw [eo u (λ z=>by subst z; rw [I.us] at hla; cases hla)]; exact I.us
 ·rw [eo wt (Ne.symm (F.n3 _ ha).1)]; exact I.st
 ·rw [eo wy (Ne.symm (F.n3 _ ha).2)]; exact I.wy
noncomputable def ty2:Sp3:=λ ds μ Q=>∃ (lr:Addr) (L:List Lk2) (s:Pt),ds=[.ref lr,encQ s] /\ μ lr=some (.lst (L.map encL)) /\ L.length < 200 /\ (∃ l ∈ L,ic l s) ∧
 ∀ r rem U way μ',Ext μ μ'->μ r=none->μ' r=some (.lst (way.map encW))->Rch L s (here (incN L L.length)) rem U [] way->Wk L s rem U [] way->Q (.ref r) μ'
variable {N:St3->Mu->Prop} {E:Ends3}
theorem sb2 {lr d u wt wy:Addr} {st way:List Wt} {w:Wt} {s:Pt} {o7:Option D} (hE:E.nx=N)
    (hl:L.length < 200) (F:WF μ lr d u wt wy L A) (I:WI μ μ' d u wt wy A rem U (st ++ [w]) way) (R:Rch L s (here (incN L L.length)) rem U (st ++ [w]) way) (K:Wk L s rem U (st ++ [w]) way)
    (k1:∀ μ2 o6 o7,WI μ μ2 d u wt wy A (upF rem w.1 []) U st (way ++ [w])->Rch L s (here (incN L L.length)) (upF rem w.1 []) U st (way ++ [w])->N [some (.ref lr),some (encQ s),some (.ref d),some (.ref u),some (.ref wt),some (.ref wy),o6,o7] μ2)
    (k2:∀ μ2 r n l o6 o7,n ∉ U->L[n]?=some l->WI μ μ2 d u wt wy A (upF rem w.1 r) (U ++ [n]) (st ++ [w] ++ [(oth l w.1,some n)]) way->Rch L s (here (incN L L.length)) (upF rem w.1 r) (U ++ [n]) (st ++ [w] ++ [(oth l w.1,some n)]) way->N [some (.ref lr),some (encQ s),some (.ref d),some (.ref u),some (.ref wt),some (.ref wy),o6,o7] μ2) :
    (seq3 (set3 6 (o3 ixR (o3 ixR (v3 4) (un3 negR [5])) [6])) (seq3 (set3 7 (va0 sy2 (xa0 (o3 dgR (v3 2) (v3 6)) (xa0 (v3 3) nil3)))) (ifs3 (b3 (o3 (isNR false) (v3 7) (c3 .non))) (wc0 (mt3 appR (v3 5) (xa0 (pop3 (v3 4)) nil3))) (seq3 (yj1 (v3 3) (v3 7) (c3 (.bl true))) (wc0 (mt3 appR (v3 4) (xa0 (tup3 (xa0 (va0 xz2 (xa0 (o3 ixR (v3 0) (v3 7)) (xa0 (v3 6) nil3))) (xa0 (v3 7) nil3))) nil3)))))))
    E [some (.ref lr),some (encQ s),some (.ref d),some (.ref u),some (.ref wt),some (.ref wy),o6,o7] μ':=by
 have hz:(1000:Nat) < sizeLine:=by decide
 have hU:=K.small;have hln:=K.ln;rw [length_append] at hln;simp only [length_cons,length_nil] at hln;have est:(st ++ [w]).map encW=st.map encW ++ [encW w]:=by simp
 have hst:=I.st;rw [est] at hst;show ixR (.ref wt) (.int (-1)) μ' (λ d μ1=>_);refine vc0 hst (zb2 _ _) ?_;obtain ⟨⟨p,a⟩,ha,ep⟩:=List.mem_map.mp (F.me w.1 (K.pt w [10]));dsimp only at ep;subst ep;show dgR (.ref d) (encQ w.1) μ' (λ x μ1=>_);refine dg_a I.dc F.nd ha ?_;refine ⟨a,u,rem w.1,U,rfl,I.ls _ ha,I.us,λ al μ2 eo ea=>?_,λ r n z el hn hzz μ2 eo ea=>?_⟩
 ·have I2:=I.cut F ha eo (r:=[]) ea
  conv=>whnf
  rw [I2.wy];show pop3 (v3 4) [some (.ref lr),some (encQ s),some (.ref d),some (.ref u),some (.ref wt),some (.ref wy),some (encQ w.1),some .non] μ2 (λ d μ1=>_);refine vl4 (l:=st.map encW) (x:=encW w) (λ R r=>r) (by rw [I2.st,est]) ?_;have hw1:updM μ2 wt (.lst (st.map encW)) wy=some (.lst (way.map encW)):=by rw [za0 (Ne.symm F.n1)]; exact I2.wy
  dsimp only [nil3];refine zv0 hw1 [8] ?_;rw [hE];refine k1 _ _ _ ⟨(I2.ex.upd F.fw).upd F.fy,?_,λ x hx=>?_,?_,?_,?_⟩ (R.pop al)
  ·rw [za0 (λ z=>by have h:=I2.wy; subst z; rw [I2.dc] at h; cases h),za0 (λ z=>by have h:=I2.st; subst z; rw [I2.dc] at h; cases h)]; exact I2.dc
  ·rw [za0 (F.n3 x hx).2,za0 (F.n3 x hx).1]; exact I2.ls x hx
  ·rw [za0 (λ z=>by have h:=I2.wy; subst z; rw [I2.us] at h; cases h),za0 (λ z=>by have h:=I2.st; subst z; rw [I2.us] at h; cases h)]; exact I2.us
  ·rw [za0 F.n1,ya0]
  ·rw [ya0,map_append]; rfl
 ·have I2:=I.cut F ha eo (r:=r) ea;obtain ⟨l,hln2,hic⟩:=K.rm w.1 n (by rw [el]; simp);have hnl:n < L.length:=(List.getElem?_eq_some_iff.mp hln2).1;have elk:=zu1 hln2;have nu1:u ≠ wt:=λ z=>by have h:=I2.st; subst z; rw [I2.us] at h; cases h
  have nu2:u ≠ wy:=λ z=>by have h:=I2.wy; subst z; rw [I2.us] at h; cases h
  have nd1:d ≠ wt:=λ z=>by have h:=I2.st; subst z; rw [I2.dc] at h; cases h
  have nd2:d ≠ u:=λ z=>by have h:=I2.us; subst z; rw [I2.dc] at h; cases h
  conv=>whnf
  rw [I2.us];refine ⟨by unfold usd; simp_all;omega,?_⟩;rw [zk4 hn];have hw1:updM μ2 u (.dck (usd (U ++ [n]))) wt=some (.lst ((st ++ [w]).map encW)):=by rw [za0 (Ne.symm nu1)]; exact I2.st
  have hlr:updM μ2 u (.dck (usd (U ++ [n]))) lr=some (.lst (L.map encL)):=(I2.ex.upd F.fu) _ _ F.hL
  conv=>whnf
  rw [hw1];show ixR (.ref lr) (.int (n:Int)) _ (λ d μ1=>_);refine vc0 hlr (at_L hnl) ?_;rw [elk];refine ⟨l,w.1,rfl,Z1,?_⟩;dsimp only [nil3];refine zv0 hw1 [8] ?_;rw [hE];refine k2 _ r n l _ _ hn hln2 ⟨(I2.ex.upd F.fu).upd F.fw,?_,λ x hx=>?_,?_,?_,?_⟩ (R.push el hn hzz hln2)
  ·rw [za0 nd1,za0 nd2]; exact I2.dc
  ·rw [za0 (F.n3 x hx).1,za0 (λ z=>by have h:=I2.ls x hx; rw [z,I2.us] at h; cases h)]; exact I2.ls x hx
  ·rw [za0 nu1,ya0]
  ·rw [ya0,map_append (l₁:=st ++ [w])]; rfl
  ·rw [za0 (Ne.symm F.n1),za0 (Ne.symm nu2)]; exact I2.wy
theorem se4:RdQ ty2 (uq3 tw3 xz2 sy2) sl3:=by
 rintro ds μ Q ⟨lr,L,s,rfl,hL,hl,hs,q⟩;have hz:(1000:Nat) < sizeLine:=by decide
 refine ⟨lr,L,rfl,hL,hl,λ d A μ1 I=>?_⟩;intro u hu;refine ⟨z2,z1',λ wt hwt=>?_⟩;refine ⟨Nat.zero_le _,λ wy hwy=>?_⟩;have nuw:wt ≠ u:=λ z=>by subst z; rw [ya0] at hwt; cases hwt
 have hwt1:μ1 wt=none:=by rw [za0 nuw] at hwt; exact hwt
 have nyw:wy ≠ wt:=λ z=>by subst z; rw [ya0] at hwy; cases hwy
 have hwy0:updM μ1 u (.dck []) wy=none:=by rw [za0 nyw] at hwy; exact hwy
 have nyu:wy ≠ u:=λ z=>by subst z; rw [ya0] at hwy0; cases hwy0
 have hwy1:μ1 wy=none:=by rw [za0 nyu] at hwy0; exact hwy0
 have F:WF μ lr d u wt wy L A:=⟨I.nd,I.n2,λ p hp=>(I.me p).mpr (yi3 hp),hL,I.fr,I.ex.free hu,I.ex.free hwt1,I.ex.free hwy1,I.fr2,Ne.symm nyw,λ x hx=>⟨(λ z=>by have h:=I.ls x hx; simp_all),(λ z=>by have h:=I.ls x hx; simp_all)⟩⟩;have h0:∀ p n,n ∈ here (incN L L.length) p->∃ l,L[n]?=some l /\ ic l p:=λ p n h=>wi1 h
 have e3:∀ {a:Addr} {o:MO},μ1 a=some o->updM (updM (updM μ1 u (.dck [])) wt (.lst [encW (s,none)])) wy (.lst []) a=some o:=λ {a o} h=>by
  rw [za0 (ta0 h hwy1),za0 (ta0 h hwt1),za0 (ta0 h hu)]; exact h
 have I0:WI μ (updM (updM (updM μ1 u (.dck [])) wt (.lst [encW (s,none)])) wy (.lst [])) d u wt wy A (here (incN L L.length)) [] [(s,none)] []:=by
  refine ⟨λ b o hb=>e3 (I.ex b o hb),e3 I.dc,λ x hx=>e3 (I.ls x hx),?_,?_,ya0⟩
  ·rw [za0 (Ne.symm nyu),za0 (Ne.symm nuw),ya0]; rfl
  ·rw [za0 (Ne.symm nyw),ya0]; rfl
 refine ⟨λ m ρ μ'=>∃ rem U st way o6 o7,m=2 * (L.length - U.length) + st.length /\ ρ=[some (.ref lr),some (encQ s),some (.ref d),some (.ref u),some (.ref wt),some (.ref wy),o6,o7] /\ WI μ μ' d u wt wy A rem U st way /\ Rch L s (here (incN L L.length)) rem U st way,⟨_,_,[],[(s,none)],[],none,none,rfl,rfl,I0,.init⟩,?_⟩;rintro m ρ μ' ⟨rem,U,st,way,o6,o7,rfl,rfl,I,R⟩;have K:=R.wk hs h0;have hU:=K.small
 conv=>whnf
 rw [I.st];show if decide ((0:Int) < ((st.map encW).length:Int))=true then _ else _;rcases List.eq_nil_or_concat st with rfl | ⟨st',w,rfl⟩
 ·rw [if_neg [10]];exact q wy rem U way μ' I.ex F.fy I.wy R K
 ·rw [List.concat_eq_append] at *;rw [if_pos (decide_eq_true [10])];refine ⟨λ ρ1 μ2=>∃ rem1 U1 st1 way1 o6 o7,2 * (L.length - U1.length) + st1.length < 2 * (L.length - U.length) + (st' ++ [w]).length /\ ρ1=[some (.ref lr),some (encQ s),some (.ref d),some (.ref u),some (.ref wt),some (.ref wy),o6,o7] /\ WI μ μ2 d u wt wy A rem1 U1 st1 way1 /\ Rch L s (here (incN L L.length)) rem1 U1 st1 way1,?_,?_⟩
  ·rintro ρ1 μ2 ⟨rem1,U1,st1,way1,o6',o7',lt,rfl,I1,R1⟩;exact ⟨_,lt,rem1,U1,st1,way1,o6',o7',rfl,rfl,I1,R1⟩
  ·refine sb2 rfl hl F I R K (λ μ2 o6 o7 I2 R2=>?_) (λ μ2 r n l o6 o7 hn hl2 I2 R2=>?_)
   ·exact ⟨_,U,st',_,o6,o7,by simp,rfl,I2,R2⟩
   ·have K2:=(R2.wk hs h0).small;refine ⟨_,U ++ [n],_,way,o6,o7,?_,rfl,I2,R2⟩
    simp_all;omega
noncomputable def gp (t:List Pt) (i:Nat):Pt:=t.getD i (0,0)
theorem at_q {t:List Pt} (h0:0<=i) (h1:i < t.length):atI (t.map encQ) i=some (encQ (gp t i.toNat)):=by
 have h2:i.toNat < t.length:=by omega
 unfold atI ixN gp
 simp_all
theorem tg3 {lo:Int} {x:D} (h:x ∈ rngD lo n):∃ i:Nat,i < n /\ x=.int (lo + i):=by
 unfold rngD at h;obtain ⟨i,hi,rfl⟩:=List.mem_map.mp h;exact ⟨i,List.mem_range.mp hi,rfl⟩
noncomputable def gI (g:Pt->Pt->D) (t:List Pt) (d:D):D:=match d with
 | .int i=>g (gp t (i - 1).toNat) (gp t i.toNat)
 | _=>.non
theorem vr4 (g:Pt->Pt->D) (t:List Pt) (n:Nat):(rngD 1 n).map (gI g t)=(List.range n).map λ i=>g (gp t i) (gp t (i + 1)):=by
 unfold rngD;rw [map_map];apply map_congr_left;intro i _;show g (gp t (1 + (i:Int) - 1).toNat) (gp t (1 + (i:Int)).toNat)=_;rw [show (1 + (i:Int) - 1).toNat=i by omega,show (1 + (i:Int)).toNat=i + 1 by omega]
theorem sa2:∀ bs:List Bool,bls? (bs.map D.bl)=some bs
 | []=>rfl
 | b :: r=>by simp only [map_cons,bls?,sa2 r]
theorem all_l {bs:List Bool} (h:μ p=some (.lst (bs.map D.bl))) (k:Q (.bl (bs.all id)) μ):allR [.ref p] μ Q:=by
 unfold allR;simp only [h,sa2];exact k
noncomputable def wtD (W:List Wt) (k:Nat):Wt:=W.getD k ((0,0),none)
variable {W:List Wt}
theorem zb1 {k:Nat} (h:k < W.length):W[k]?=some (wtD W k):=by
 unfold wtD; simp_all
theorem at_W {k:Nat} (e:i=k) (h:k < W.length):atI (W.map encW) i=some (encW (wtD W k)):=by
 subst e;unfold atI ixN;rw [if_pos [2],if_pos [16]];show (W.map encW)[((k:Int)).toNat]?=_;rw [show ((k:Int)).toNat=k by omega,getElem?_map,zb1 h]; rfl
theorem ixW0 (w:Wt) (μ:Mu) (K:VK3):ixR (encW w) (.int 0) μ K=K (encQ w.1) μ:=rfl
theorem ixW1 (w:Wt) (μ:Mu) (K:VK3):ixR (encW w) (.int 1) μ K=K (oD w.2) μ:=rfl
theorem uk2 {wy tr c:Addr} {cur:List Pt} {k:Nat} (hE:E.nx=N) (hW:μ2 wy=some (.lst (W.map encW))) (ht:μ2 tr=some (.lst [.ref c])) (hcur:μ2 c=some (.lst (cur.map encQ))) (hk1:k + 1 < W.length) (hc:cur.length < 1000)
    (kk:N [some (.ref wy),o1,some (.ref tr),some (.int (1 + (k:Int)))] (updM μ2 c (.lst (cur.map encQ ++ [encQ (wtD W (k + 1)).1])))) :
    (wc0 (mt3 appR (o3 ixR (v3 2) (un3 negR [5])) (xa0 (o3 ixR (o3 ixR (v3 0) (v3 3)) [6]) nil3))) E [some (.ref wy),o1,some (.ref tr),some (.int (1 + (k:Int)))] μ2:=by
 have hz:(1000:Nat) < sizeLine:=by decide
 show ixR (.ref tr) (.int (-1)) μ2 (λ d μ1=>_);refine vc0 (d:=.ref c) ht (zb2 [] _) ?_
 conv=>whnf
 rw [hcur];show ixR (.ref wy) (.int (1 + (k:Int))) μ2 (λ d μ1=>_);refine vc0 hW (at_W (k:=k + 1) [2] hk1) ?_;dsimp only [c3];rw [ixW0];dsimp only [nil3];refine zv0 hcur [8] ?_;rw [hE];exact kk
noncomputable def vf1:Sp3:=λ ds μ Q=>∃ (wy:Addr) (ws:List Wt) (s:Pt) (fb:Nat),ds=[.ref wy,.int (fb:Int)] /\ μ wy=some (.lst ((ws ++ [(s,none)]).map encW)) /\ (∀ w ∈ ws,∃ n,w.2=some n /\ n < fb) /\ ws.length < 300 ∧
 ∀ r x μ',Ext μ μ'->μ' r=some (.lst [.ref x])->μ' x=some (.lst ((ws.map (·.1) ++ [s]).map encQ))->Q (.ref r) μ'
theorem xh4:RdQ vf1 us3 yo3:=by
 rintro ds μ Q ⟨wy,ws,s,fb,rfl,hW,hw,hl,q⟩;have hz:(1000:Nat) < sizeLine:=by decide
 have hn:∀ k,k < ws.length->∃ n,(wtD (ws ++ [(s,none)]) k).2=some n /\ n < fb:=λ k hk=>by
  have e:(ws ++ [(s,none)])[k]?=some (ws[k]'hk):=by rw [getElem?_append_left hk,getElem?_eq_getElem hk]
  have e2:=zb1 (W:=ws ++ [(s,none)]) (k:=k) [8];rw [e] at e2;have e3:ws[k]'hk=wtD (ws ++ [(s,none)]) k:=Option.some.inj e2;rw [<- e3];exact hw _ (getElem_mem hk)
 have hlen:(ws ++ [(s,none)]).length=ws.length + 1:=by simp
 have eW:ws.map (·.1) ++ [s]=(ws ++ [((s,none):Wt)]).map (·.1):=by simp
 rw [eW] at q;generalize hWW:ws ++ [(s,none)]=W at *;have h0:0 < W.length:=by omega
 show ixR (.ref wy) (.int 0) μ (λ d μ1=>_);refine vc0 hW (at_W rfl h0) ?_;refine ⟨z1',λ c hc=>⟨z1',λ tr ht=>?_⟩⟩;have ntc:c ≠ tr:=λ z=>by subst z; rw [ya0] at ht; cases ht
 have ex1:Ext μ (updM (updM μ c (.lst [encQ (wtD W 0).1])) tr (.lst [.ref c])):=(Ext.new hc).trans (Ext.new ht);have ec:updM (updM μ c (.lst [encQ (wtD W 0).1])) tr (.lst [.ref c]) c=some (.lst [encQ (wtD W 0).1]):=by rw [za0 ntc,ya0]
 have hW1:=ex1 _ _ hW
 have tk:∀ k,k < W.length->(W.take (k + 1)).map (·.1)=(W.take k).map (·.1) ++ [(wtD W k).1]:=λ k hk=>by
  rw [List.take_succ,zb1 hk,map_append]; rfl
 conv=>whnf
 rw [hW1];refine ⟨⟨by decide,by decide,by omega,by simp_all;omega⟩,?_⟩;refine wi0 (λ l ρ μ'=>∃ (k:Nat) (o3:Option D),l=rngD (1 + (k:Int)) (W.length - 1 - k) /\ k<=W.length - 1 /\ ρ=[some (.ref wy),some (.int (fb:Int)),some (.ref tr),o3] /\ Ext μ μ' /\ μ' tr=some (.lst [.ref c]) /\ μ' c=some (.lst (((W.take (k + 1)).map (·.1)).map encQ))) ?_ (λ _ _ _ _=>trivial) ?_ ?_
 ·refine ⟨0,none,?_,Nat.zero_le _,rfl,ex1,ya0,?_⟩
  ·simp
  simp_all
 ·rintro ρ μ' ⟨k,o3',e,hk,rfl,ex,et,ecc⟩
  have e0:W.length - 1 - k=0:=by
   cases c:W.length - 1 - k with
   | zero=>rfl
   | succ c'=>rw [c,we0] at e; cases e
  rw [take_of_length_le [2]] at ecc;exact q tr c μ' ex et ecc
 ·rintro x rest ρ μ' ⟨k,o3',e,hk,rfl,ex,et,ecc⟩;cases n:W.length - 1 - k with
  | zero=>rw [n] at e; simp [rngD] at e
  | succ m =>
   rw [n,we0] at e;simp only [List.cons.injEq] at e;obtain ⟨rfl,rfl⟩:=e;obtain ⟨b,eb,lb⟩:=hn k [2];have hWy:=ex _ _ hW;show ixR (.ref wy) (.int (1 + (k:Int) - 1)) μ' (λ d μ1=>_);refine vc0 hWy (at_W (k:=k) [2] [2]) ?_;dsimp only [c3];rw [ixW1,eb];show if decide ((fb:Int)<=(b:Int))=true then _ else _;rw [if_neg (λ z=>[8])];refine uk2 rfl hWy et ecc [2] [8] ?_;refine ⟨k + 1,_,by rw [show W.length - 1 - (k + 1)=m by omega]; congr 1,by omega,rfl,ex.upd hc,by rw [za0 (Ne.symm ntc)]; exact et,?_⟩;rw [ya0,tk (k + 1) [2],map_append];rfl
noncomputable def stks (u:List T3):List Lk2:=u.map λ s=>(e0 s,e1 s)
noncomputable def endD (d:D):D:=encL (e0 (decT d),e1 (decT d))
theorem zk3 (u:List T3):(u.map encT).map endD=(stks u).map encL:=by
 unfold stks;rw [map_map,map_map];rfl
theorem vp4 (L:List Lk2):L=(List.range L.length).map (lkD L):=by
 apply ext_getElem
 ·simp
 ·intro i h1 h2;rw [List.getElem_map,List.getElem_range];have:=wn0 h1
  simp_all
noncomputable def incb (v:Pt) (l:Lk2):Bool:=decide (l.1=v \/ l.2=v)
theorem ut4 (L:List Lk2) (v:Pt):cU L [] v=L.countP (incb v):=by
 have e:unu L []=List.range L.length:=by
  unfold unu;simp
 unfold cU;rw [e]
 conv=>rhs; rw [vp4 L]
 rw [List.countP_map];apply List.countP_congr;intro n hn;have:=wn0 (List.mem_range.mp hn);unfold isc incb;rw [this];simp
theorem uc2 (u:List T3) (v:Pt):(stks u).countP (incb v)=deg u v:=by
 unfold stks deg;rw [List.countP_map];apply List.countP_congr;intro s _;unfold has incb;simp
theorem ChG.ends {L:List Lk2} {g:Pt}:∀ {ws:List Wt},ChG L g ws->∀ x ∈ ws,∀ n,x.2=some n->∃ l q,L[n]?=some l /\ jn l x.1 q /\ (q=g \/ ∃ y ∈ ws,y.1=q)
 | [],_,x,hx,_,_=>(nomatch hx)
 | [w],h,x,hx,n,e=>by
  rw [mem_singleton] at hx; subst hx;obtain ⟨m,l,e1,e2,e3⟩:=h;rw [e] at e1; cases e1;exact ⟨l,g,e2,e3,.inl rfl⟩
 | w :: w' :: r,h,x,hx,n,e=>by
  rcases List.mem_cons.mp hx with rfl | hx
  ·obtain ⟨m,l,e1,e2,e3⟩:=h.1;rw [e] at e1; cases e1;exact ⟨l,w'.1,e2,e3,.inr ⟨w',by simp,rfl⟩⟩
  ·obtain ⟨l,q,a,b,c⟩:=ChG.ends (ws:=w' :: r) h.2 x hx n e;refine ⟨l,q,a,b,c.imp id λ ⟨y,hy,ey⟩=>⟨y,mem_cons_of_mem _ hy,ey⟩⟩
variable {ws:List Wt}
theorem tp2 {s g0:Pt} (H:Hz L s g0 rem U [] (ws ++ [(s,none)])) (cg:ChG L s ws)
    (hC:∀ V:Pt->Prop,V s->(∀ l ∈ L,(V l.1->V l.2) /\ (V l.2->V l.1))->∀ l ∈ L,V l.1):∀ n,n < L.length->n ∈ U:=by
 have V:=hC (λ p=>∃ w ∈ ws ++ [(s,none)],w.1=p) ⟨(s,none),by simp,rfl⟩ (λ l hl=>?_)
 ·intro n hn;have e:L[n]?=some (L[n]'hn):=getElem?_eq_getElem hn;obtain ⟨w,hw,ew⟩:=V _ (getElem_mem hn);exact H.dn w hw n _ e (.inl ew.symm)
 ·obtain ⟨n,hn,e⟩:=getElem_of_mem hl;have e1:L[n]?=some l:=by simp_all
  have key:n ∈ U->(∃ w ∈ ws ++ [(s,none)],w.1=l.1) /\ ∃ w ∈ ws ++ [(s,none)],w.1=l.2:=λ hU=>by
   have hm:=H.num.mem_iff.mpr hU;rw [nil_append,List.mem_filterMap] at hm;obtain ⟨x,hx,ex⟩:=hm;rcases List.mem_append.mp hx with hx | hx
   ·obtain ⟨l',q,a,b,c⟩:=cg.ends x hx n ex;rw [e1] at a; cases a
    have hq:∃ w ∈ ws ++ [(s,none)],w.1=q:=by
     rcases c with rfl | ⟨y,hy,ey⟩
     ·simp
     ·exact ⟨y,mem_append_left _ hy,ey⟩
    have hx':∃ w ∈ ws ++ [(s,none)],w.1=x.1:=⟨x,mem_append_left _ hx,rfl⟩;rcases b with ⟨b1,b2⟩ | ⟨b1,b2⟩
    ·rw [b1,b2]; exact ⟨hx',hq⟩
    ·rw [b1,b2]; exact ⟨hq,hx'⟩
   ·rw [mem_singleton] at hx; subst hx; cases ex
  refine ⟨λ ⟨w,hw,ew⟩=>(key (H.dn w hw n l e1 (.inl ew.symm))).2,λ ⟨w,hw,ew⟩=>(key (H.dn w hw n l e1 (.inr ew.symm))).1⟩
noncomputable def stD (u:List T3) (n:Nat):T3:=u.getD n (0,0,0)
variable {u:List T3}
theorem to1 (h:n < u.length):stD u n=u[n]'h:=by
 unfold stD; simp_all
theorem wy2 (u:List T3):(List.range u.length).map (stD u)=u:=by
 apply ext_getElem
 ·simp
 ·intro i h1 h2;rw [List.getElem_map,List.getElem_range,to1 h2]
theorem wf1 {l:Lk2} (h:(stks u)[n]?=some l):n < u.length /\ l=(e0 (stD u n),e1 (stD u n)):=by
 unfold stks at h;rw [getElem?_map] at h;obtain ⟨s,h1,h2⟩:=Option.map_eq_some_iff.mp h;obtain ⟨hn,h3⟩:=List.getElem?_eq_some_iff.mp h1;exact ⟨hn,by rw [to1 hn,h3]; exact h2.symm⟩
theorem tv2 {u:List T3} {g:Pt}:∀ {ws:List Wt},ChG (stks u) g ws->ws ≠ []->Wl (ws.map (·.1) ++ [g]) ((ws.filterMap (·.2)).map (stD u))
 | [],_,h=>absurd rfl h
 | [w],h,_=>by
  obtain ⟨n,l,e1,e2,e3⟩:=h;obtain ⟨_,rfl⟩:=wf1 e2;show Wl [w.1,g] (([w].filterMap (·.2)).map (stD u));rw [filterMap_cons,e1];exact .cons (e3.imp (λ z=>⟨z.1.symm,z.2.symm⟩) λ z=>⟨z.2.symm,z.1.symm⟩) .one
 | w :: w' :: r,h,_=>by
  obtain ⟨⟨n,l,e1,e2,e3⟩,h2⟩:=h;obtain ⟨_,rfl⟩:=wf1 e2;have ih:=tv2 h2 [10];show Wl (w.1 :: w'.1 :: (r.map (·.1) ++ [g])) (((w :: w' :: r).filterMap (·.2)).map (stD u));rw [filterMap_cons,e1];exact .cons (e3.imp (λ z=>⟨z.1.symm,z.2.symm⟩) λ z=>⟨z.2.symm,z.1.symm⟩) ih
theorem uo1 {a:T3} (ha:a ∈ u) (hco:∀ b ∈ u,Conn u a b) (V:Pt->Prop) (hV:V (e0 a)) (cl:∀ l ∈ stks u,(V l.1->V l.2) /\ (V l.2->V l.1)):∀ l ∈ stks u,V l.1:=by
 have stk:∀ s ∈ u,(V (e0 s)->V (e1 s)) /\ (V (e1 s)->V (e0 s)):=λ s hs=>cl (e0 s,e1 s) (List.mem_map.mpr ⟨s,hs,rfl⟩)
 have both:∀ b,Conn u a b->b ∈ u /\ V (e0 b) /\ V (e1 b):=by
  intro b h
  induction h with
  | refl=>simp_all
  | step _ hc ht ih =>
   obtain ⟨hb,v0,v1⟩:=ih;obtain ⟨p,p1,p2⟩:=ht;have vp:V p:=by rcases xo0 p1 with rfl | rfl; exact v0; exact v1
   rcases xo0 p2 with rfl | rfl
   ·simp_all
   simp_all
 intro l hl;obtain ⟨s,hs,rfl⟩:=List.mem_map.mp hl
 simp_all
theorem ui2 {a:T3} (ha:a ∈ u) (hR:Rg u)
    (R:Rch (stks u) (e0 a) (here (incN (stks u) (stks u).length)) rem U [] (ws ++ [(e0 a,none)])):Wl (ws.map (·.1) ++ [e0 a]) ((ws.filterMap (·.2)).map (stD u)) /\ ((ws.filterMap (·.2)).map (stD u)).Perm u /\ ∀ w ∈ ws,∃ n,w.2=some n /\ n < u.length:=by
 have h0:∀ p n,n ∈ here (incN (stks u) (stks u).length) p->∃ l,(stks u)[n]?=some l /\ ic l p:=λ p n h=>wi1 h;have hsi:∃ l ∈ stks u,ic l (e0 a):=⟨(e0 a,e1 a),List.mem_map.mpr ⟨a,ha,rfl⟩,.inl rfl⟩;have ll:(stks u).length=u.length:=length_map _;have K:=R.wk hsi h0
 have H:=R.hz (g0:=e0 a) (λ l hl=>by obtain ⟨s,_,rfl⟩:=List.mem_map.mp hl; exact e_ne s) hsi h0 (λ n l p e h=>tm2 e h) (λ v=>by
  rw [ut4,uc2,xb3 hR v];simp)
 obtain ⟨ws',e',cg⟩:=H.en rfl;obtain ⟨rfl,_⟩:=append_inj' e' rfl;have al:=tp2 H cg (uo1 ha (hR.2.1 a ha));have pU:U.Perm (List.range u.length):=(List.perm_ext_iff_of_nodup K.nd List.nodup_range).mpr λ n=>⟨λ h=>List.mem_range.mpr (ll ▸ K.us n h),λ h=>al n (ll ▸ List.mem_range.mp h)⟩;have efm:List.filterMap (λ w:Wt=>w.2) ([] ++ (ws ++ [(e0 a,none)]))=List.filterMap (λ w:Wt=>w.2) ws:=by simp
 have pN:(ws.filterMap (·.2)).Perm (List.range u.length):=by
  have:=H.num;rw [efm] at this;exact this.trans pU
 refine ⟨tv2 cg λ z=>?_,?_,λ w hw=>?_⟩
 ·simp_all
 ·have:=pN.map (stD u)
  rwa [wy2] at this
 ·obtain ⟨_,ws2,e2,hw2⟩:=K.bt.resolve_right (λ ⟨rs,e,_⟩=>by cases e);obtain ⟨rfl,_⟩:=append_inj' e2 rfl;obtain ⟨n,hn⟩:=hw2 w hw;exact ⟨n,hn,List.mem_range.mp (pN.mem_iff.mp (List.mem_filterMap.mpr ⟨w,hw,hn⟩))⟩
noncomputable def spTp:Sp3:=λ ds μ Q=>∃ u:List T3,ds=[encU u] /\ Pc u /\ Rg u /\ ∀ r x t L μ',Ext μ μ'->μ' r=some (.lst [.ref x])->μ' x=some (.lst (t.map encQ))->Wl t L->L.Perm u->t.length=u.length + 1->Q (.ref r) μ'
theorem vf4:RdQ spTp (zr3 sh0 vw3 vf1 ty2) vm3:=by
 rintro ds μ Q ⟨u,rfl,hP,hR,q⟩;have hz:(1000:Nat) < sizeLine:=by decide
 have ul:=hP.2.2;refine ⟨u,rfl,hP,xb3 hR,λ od μ1 ex1 _ eo=>?_⟩;intro sr hsr;refine yc0 (rest:=[]) endD hsr [8] (λ _ _=>trivial) ?_ ?_
 ·intro x hx μ2 R e2 kk;obtain ⟨s,hs,rfl⟩:=List.mem_map.mp hx;exact ⟨s,rfl,hP.2.1 s hs,kk μ2 (Ext.refl _)⟩
 intro μ2 e2 es;rw [zk3] at es;have eo2:=e2 _ _ eo
 conv=>whnf
 rw [eo2];refine ⟨rfl,⟨by decide,by decide,by decide,by decide⟩,λ br hbr=>?_⟩;refine yc0 (l:=[]) (rest:=[some (.ref od)]) (λ d=>d) hbr (Nat.zero_le _) (λ _ _=>trivial) (λ x hx=>nomatch hx) ?_;intro μ3 e3 eb;have eo3:=e3 _ _ eo2;have es3:=e3 _ _ es
 conv=>whnf
 rw [eo3]
 obtain ⟨s,r,rfl⟩:∃ s r,u=s :: r:=by
  cases u with
  | nil=>exact absurd rfl hR.1
  | cons s r=>simp
 show ixR (.ref sr) (.int 0) μ3 (λ d μ1=>_);refine vc0 (d:=encL (e0 s,e1 s)) es3 atI0 ?_;show (ret3 (va0 vf1 (xa0 (va0 ty2 (xa0 (o3 addR (v3 2) (v3 3)) (xa0 (v3 4) nil3))) (xa0 (va0 lenR [36]) nil3)))) { nx:=λ _ μ'=>Q .non μ',rt:=Q } [some (encU (s :: r)),some (.ref od),some (.ref sr),some (.ref br),some (encQ (e0 s))] μ3;dsimp only [ret3,va0,xa0,o3,v3,getI,nil3];have sl:(stks (s :: r)).length=(s :: r).length:=length_map _;refine vb2 es3 eb [8] λ lr hlr=>?_;rw [map_nil,append_nil];refine ⟨lr,stks (s :: r),e0 s,rfl,ya0,by omega,⟨(e0 s,e1 s),.head _,.inl rfl⟩,λ wy rem U way μ4 ex4 _ ew R K=>?_⟩;obtain ⟨_,ws,rfl,hw⟩:=K.bt.resolve_right (λ ⟨rs,e,_⟩=>by cases e);obtain ⟨w1,w2,w3⟩:=ui2 (.head _) hR R
 have wl:ws.length=(s :: r).length:=by
  have a:=w2.length_eq
  have b:(ws.filterMap (·.2)).length=ws.length:=by
   clear w1 w2 a ew R K
   induction ws with
   | nil=>rfl
   | cons w ws ih =>
    obtain ⟨n,e⟩:=hw w (.head _);rw [filterMap_cons,e,length_cons,length_cons,ih (λ v hv=>hw v (.tail _ hv)) λ v hv=>w3 v (.tail _ hv)]
  simp_all
 have es4:=ex4 _ _ ((Ext.new hlr) _ _ es3)
 conv=>whnf
 rw [es4];show vf1 [.ref wy,.int (((stks (s :: r)).map encL).length:Int)] μ4 Q;rw [length_map,sl];refine ⟨wy,ws,e0 s,(s :: r).length,rfl,ew,w3,by omega,λ r2 x μ5 ex5 e5 e6=>?_⟩;exact q r2 x _ _ μ5 (((((ex1.trans e2).trans e3).trans (Ext.new hlr)).trans ex4).trans ex5) e5 e6 w1 w2 [16]
noncomputable def spTs:Sp3:=λ ds μ Q=>∃ ts:List T3,ds=[.tup [9]] /\ Pc ts /\ Rg ts /\ ∀ r x t L μ',Ext μ μ'->μ' r=some (.lst [.ref x])->μ' x=some (.lst (t.map encQ))->Wl t L->L.Perm ts->t.length=ts.length + 1->Q (.ref r) μ'
theorem uf4:RdQ spTs (wr3 ul0 spTp) um3:=by
 rintro ds μ Q ⟨ts,rfl,hP,hR,q⟩;refine ⟨Nat.zero_le _,λ tr htr=>?_⟩;refine ⟨ts,rfl,hP,λ r us μ1 ex1 hr er ip=>?_⟩;have et1:=ex1 _ _ ya0;have nrt:r ≠ tr:=λ z=>by subst z; rw [ya0] at hr; cases hr
 obtain ⟨u,rfl⟩:=List.length_eq_one_iff.mp ((ss2 (zt0 hP) ip hR.1).mpr hR.2.1);have pm:u.Perm ts:=by have:=ip.perm; simp_all
 have eu:u=ts:=uq pm (ip.up u [10]) (ti5 hP);subst eu
 conv=>whnf
 rw [er];have exA:Ext μ μ1:=(Ext.new htr).trans ex1;refine wi0 (λ l ρ μ'=>∃ o:Option D,ρ=[some (.tup (u.map encT)),some (.ref tr),o] /\ μ' r=some (.lst [encU u]) /\ (l=[encU u] /\ μ'=μ1 \/ l=[] /\ ∃ x t L,Ext μ μ' /\ μ' tr=some (.lst [.ref x]) /\ μ' x=some (.lst (t.map encQ)) /\ Wl t L /\ L.Perm u /\ t.length=u.length + 1)) ?_ ?_ ?_ ?_
 ·exact ⟨none,rfl,er,.inl ⟨rfl,rfl⟩⟩
 ·simp_all
 ·rintro ρ μ' ⟨o,rfl,_,⟨e,_⟩ | ⟨_,x,t,L,a1,a2,a3,a4,a5,a6⟩⟩
  ·cases e
  ·exact q tr x t L μ' a1 a2 a3 a4 a5 a6
 ·rintro y rest ρ μ' ⟨o,rfl,e2,⟨e,rfl⟩ | ⟨e,_⟩⟩
  ·injection e with f1 f2
   subst f1 f2
   conv=>whnf
   rw [et1];refine ⟨u,rfl,hP,hR,λ r2 x t L μ2 ex2 er2 ex' w1 w2 w3=>?_⟩;dsimp only [nil3];have et2:=ex2 _ _ et1;refine tj3 et2 er2 (show 0 + 1<=sizeLine by decide) ?_
   have nx':x ≠ tr:=λ z=>by
    simp_all
   refine ⟨_,rfl,by rw [za0 nrt]; exact ex2 _ _ e2,.inr ⟨rfl,x,t,L,(exA.trans ex2).upd htr,ya0,by rw [za0 nx']; exact ex',w1,w2,w3⟩⟩
  ·cases e
noncomputable def lnD (μ:Mu) (d:D):D:=match d with
 | .ref q=>match μ q with
  | some (.lst l)=>.bl (decide ((l.length:Int)=2))
  | _=>.non
 | _=>.non
variable {q:Addr}
theorem ut2 {l:List D} (h:μ q=some (.lst l)):lnD μ (.ref q)=.bl (decide ((l.length:Int)=2)):=by
 unfold lnD; simp only [h]
noncomputable def spIr:Sp3:=λ ds μ Q=>∃ ts:List T3,ds=[.tup [9]] /\ Pc ts /\ ∀ (b:Bool) μ',Ext μ μ'->(b=true ↔ Rg ts)->Q (.bl b) μ'
theorem vi4:RdQ spIr (wu3 ul0 spAt) tp3:=by
 rintro ds μ Q ⟨ts,rfl,hP,q⟩;have hz:(1000:Nat) < sizeLine:=by decide
 have tl:=hP.2.2;refine ⟨ts,rfl,hP,λ r us μ1 ex hr er ip=>?_⟩;have on:ts ≠ []->(us.length=1 ↔ ∀ a ∈ ts,∀ b ∈ ts,Conn ts a b):=λ ne=>ss2 (zt0 hP) ip ne
 conv=>whnf
 rw [er];show if (!decide (((us.map encU).length:Int)=1))=true then _ else _;by_cases c:us.length=1
 ·have ne:ts ≠ []:=λ z=>by
    obtain ⟨u,e⟩:=List.length_eq_one_iff.mp c;subst e;have:=ip.perm;rw [List.flatten_cons,List.flatten_nil,append_nil,z] at this;exact ip.ne u [10] (List.Perm.eq_nil this)
  rw [decide_eq_true [16]];show uk0 ul0 spAt { nx:=λ _ μ'=>Q .non μ',rt:=Q } [some (.tup [9])] μ1;refine ⟨ts,rfl,hP.2.1,hP.2.2,λ d A μ2 I=>?_⟩;have lA:=I.le;rw [yu0] at lA
  conv=>whnf
  rw [I.dc];intro p hp
  have el:((atk A).map λ kv=>kv.2)=A.map λ x=>D.ref x.2:=by
   unfold atk; simp
  rw [el];refine yc0 (rest:=[]) (lnD μ2) hp [8] (λ μ' ex=>ex _ _ I.dc) ?_ ?_
  ·intro x hx μ' R ex kk;obtain ⟨y,hy,rfl⟩:=List.mem_map.mp hx;have e:=I.ls y hy;have e':=ex _ _ e
   conv=>whnf
   rw [e'];have:=kk μ' (Ext.refl _);rw [ut2 e] at this;exact this
  ·intro μ3 ex3 e3
   have em:(A.map λ x=>D.ref x.2).map (lnD μ2)=(A.map λ x=>decide (deg ts x.1=2)).map D.bl:=by
    rw [map_map,map_map];apply map_congr_left;intro x hx;show lnD μ2 (.ref x.2)=.bl (decide (deg ts x.1=2));rw [ut2 (I.ls x hx),sn0,length_map];congr 1;unfold deg;rw [List.countP_eq_length_filter]
    simp_all;omega
   rw [em] at e3;refine all_l e3 (q _ μ3 ((ex.trans I.ex).trans ex3) ?_);rw [List.all_map,List.all_eq_true];constructor
   ·intro h;refine ⟨ne,(on ne).mp c,λ p hp=>?_⟩;obtain ⟨x,hx,rfl⟩:=List.mem_map.mp ((I.me p).mpr (incs_mem.mpr hp));exact of_decide_eq_true (h x hx)
   ·rintro ⟨_,_,h⟩ x hx;exact decide_eq_true (h x.1 (incs_mem.mp ((I.me x.1).mp (List.mem_map.mpr ⟨x,hx,rfl⟩))))
 ·rw [decide_eq_false [8]];refine q false μ1 ex ⟨(λ z=>nomatch z),λ h=>absurd ((on h.1).mpr h.2.1) c⟩
noncomputable def sml (p:Pt):Prop:=(-(2 ^ 64) < p.1 /\ p.1 < 2 ^ 64) /\ -(2 ^ 64) < p.2 /\ p.2 < 2 ^ 64
noncomputable def spCs:Sp3:=λ ds μ Q=>∃ p q,ds=[encQ p,encQ q] /\ sml p /\ Q (.int (crs p q)) μ
theorem ve5:RdQ spCs t_q9 N_q9:=by
 rintro ds μ Q ⟨p,q,rfl,s,k⟩;exact ⟨.inl (.inl s.1),.inl (.inl s.2),k⟩
theorem ya2 {sp:Sp3} {t:List Pt} {o:Option D} (g:Pt->Pt->D) (hq:μ q=some (.lst (t.map encQ))) (hl:t.length < 100) (hp:μ p=none)
    (hx:∀ i,i < t.length->∀ b μ' (R:VK3),R (g (gp t i) b) μ'->sp [encQ (gp t i),encQ b] μ' R) (hQ:∀ μ',Ext μ μ'->μ' p=some (.lst ((List.range (t.length - 1)).map λ i=>g (gp t i) (gp t (i + 1))))->Q (.ref p) μ') :
    sd1 (λ _=>True) p (gn3 0) tt3 (va0 sp (xa0 (o3 ixR (v3 1) (o3 subR (v3 0) [5])) (xa0 (o3 ixR (v3 1) (v3 0)) nil3))) Q (rngD 1 (((t.map encQ).length:Int) - 1).toNat) [o,some (.ref q)] (updM μ p (.lst [])):=by
 have z:(100:Nat) < sizeLine:=by decide
 have en:(((t.map encQ).length:Int) - 1).toNat=t.length - 1:=by simp
 rw [en];refine yc0 (rest:=[some (.ref q)]) (gI g t) hp (by rw [vg1]; omega) (λ _ _=>trivial) ?_ ?_
 ·intro x hx0 μ2 R ex kk;obtain ⟨i,hi,rfl⟩:=tg3 hx0;show ixR (.ref q) (.int (1 + (i:Int) - 1)) μ2 (λ d μ1=>ixR (.ref q) (.int (1 + (i:Int))) μ1 (λ e μ3=>sp [d,e] μ3 R));refine vc0 (ex _ _ hq) (at_q (i:=1 + (i:Int) - 1) [2] [2]) ?_;refine vc0 (ex _ _ hq) (at_q (i:=1 + (i:Int)) [2] [2]) ?_;exact hx _ [2] _ _ _ (kk μ2 (Ext.refl _))
 ·intro μ2 ex ep;rw [vr4] at ep;exact hQ μ2 ex ep
theorem sr2 (F:Pt->Pt->Int):∀ t:List Pt,sm F t=su (λ i:Nat=>F (gp t i) (gp t (i + 1))) (List.range (t.length - 1))
 | []=>rfl
 | [_]=>rfl
 | a :: b :: r=>by
  show F a b + sm F (b :: r)=su _ (List.range (r.length + 1));rw [List.range_succ_eq_map,sr2 F (b :: r)];show _=_ + su _ ((List.range r.length).map Nat.succ);rw [wo1];rfl
theorem wv4 {t:List Pt} {L:List T3} (h:Wl t L):L ≠ []->∀ p ∈ t,∃ s ∈ L,has p s=true:=by
 induction h with
 | one=>simp
 | @cons a b r s ts j w ih =>
  intro _ p hp
  have h2:has a s=true /\ has b s=true:=by
   rcases j with ⟨rfl,rfl⟩ | ⟨rfl,rfl⟩
   ·exact ⟨ui1 s,vi1 s⟩
   ·exact ⟨vi1 s,ui1 s⟩
  rcases List.mem_cons.mp hp with rfl | hp
  ·simp_all
  ·cases w with
   | one=>simp_all
   | cons j' w' =>
    obtain ⟨x,hx,hh⟩:=ih [10] p hp;exact ⟨x,.tail _ hx,hh⟩
theorem Nr.sml {ts:List T3} (h:Nr ts) (hw:∀ t ∈ ts,wy t) {p:Pt} {s:T3} (hs:s ∈ ts) (hp:has p s=true):sml p:=by
 have a:=h s hs;have b:=hw s hs;unfold wy at b;unfold Pv.sml;rcases xo0 hp with rfl | rfl
 ·unfold e0; dsimp only; omega
 ·unfold e1; dsimp only; omega
theorem sh1:∀ l:List Int,ints? (l.map D.int)=some l
 | []=>rfl
 | n :: r=>by simp only [map_cons,ints?,sh1 r]
theorem ux4 (h:μ p=some (.lst (ns.map D.int))) (k:Q (.int ns.sum) μ):sumR [.ref p] μ Q:=by
 unfold sumR;simp only [h,sh1];exact k
noncomputable def spAo:Sp3:=λ ds μ Q=>∃ ts:List T3,ds=[.tup [9]] /\ Pc ts /\ Nr ts /\ (¬ Rg ts->∀ μ',Ext μ μ'->Q .non μ') /\ (Rg ts->∀ μ' n σ,Ext μ μ'->Fw ts σ->(n=ar ts σ \/ n = - ar ts σ)->0<=n->Q (.int (n / 2)) μ')
theorem zf5:RdQ spAo (t_q3 spCs spIr spTs) N_q3:=by
 rintro ds μ Q ⟨ts,rfl,hP,hN,q1,q2⟩;have hz:(100000:Nat) < sizeLine:=by decide
 have tl:=hP.2.2;refine ⟨ts,rfl,hP,λ b μ1 ex1 hb=>?_⟩;cases b with
 | false=>exact q1 (λ z=>nomatch hb.mpr z) μ1 ex1
 | true =>
  have hR:=hb.mp rfl;show sk0 spCs spIr spTs { nx:=λ _ μ'=>Q .non μ',rt:=Q } [some (.tup [9]),none] μ1;refine ⟨ts,rfl,hP,hR,λ r x t L μ2 ex2 er ex w1 w2 w3=>?_⟩;obtain ⟨σ,F,es⟩:=w1.fw (zt0 hP) w2 (xb3 hR);have Ln:L ≠ []:=λ z=>by rw [z] at w2; exact hR.1 (List.Perm.eq_nil w2.symm)
  dsimp only [c3];refine vc0 (d:=.ref x) er rfl ?_;show tk0 spCs spIr spTs { nx:=λ _ μ'=>Q .non μ',rt:=Q } [some (.tup [9]),some (.ref x)] μ2
  conv=>whnf
  rw [ex];refine ⟨⟨by decide,by decide,by omega,by simp_all;omega⟩,λ p hp=>?_⟩;refine ya2 (λ a b=>.int (crs a b)) ex [2] hp (λ i hi b μ' R r=>?_) λ μ3 ex3 ep=>?_
  ·obtain ⟨s,hs,hp⟩:=wv4 w1 Ln (gp t i) (by unfold gp; simp_all);exact ⟨_,b,rfl,hN.sml hP.2.1 (w2.mem_iff.mp hs) hp,r⟩
  have em:((List.range (t.length - 1)).map λ i=>D.int (crs (gp t i) (gp t (i + 1))))=((List.range (t.length - 1)).map λ i=>crs (gp t i) (gp t (i + 1))).map D.int:=by
   simp
  rw [em] at ep
  have e2:((List.range (t.length - 1)).map λ i=>crs (gp t i) (gp t (i + 1))).sum=sm crs t:=by
   rw [sr2]
   have:∀ (f:Nat->Int) (l:List Nat),(l.map f).sum=su f l:=λ f l=>by
    induction l with
    | nil=>rfl
    | cons a r ih=>rw [map_cons,List.sum_cons,ih]; rfl
   exact this _ _
  dsimp only [nil3];refine ux4 ep ?_;rw [e2,es];refine ⟨⟨by decide,by decide⟩,?_⟩;refine q2 hR μ3 _ σ ((ex1.trans ex2).trans ex3) F ?_ ?_
  ·omega
  ·split <;> omega
noncomputable def Sm (ts:List T3):Prop:=∀ s ∈ ts,-2<=s.1 /\ s.1 + 1 - s.2.2<=4 /\ -2<=s.2.1 /\ s.2.1 + s.2.2<=4
noncomputable def Sq (x y:Int):List T3:=[(x,y,0),(x,y,1),(x,y + 1,0),(x + 1,y,1)]
noncomputable def spLn:Sp3:=λ ds μ Q=>∃ (p:Addr) (a b:Int),ds=[.ref p,.int 9] /\ μ p=some (.lst [.int a,.int b]) /\ 0<=a /\ ∀ (us:List T3) a' b' μ',Pc us->Sm us->0<=a'->μ' p=some (.lst [.int a',.int b'])->ExtB p μ μ'->Q (.tup (us.map encT)) μ'
noncomputable def wz (t:T3):Prop:=wy t /\ -2<=t.1 /\ t.1 + 1 - t.2.2<=4 /\ -2<=t.2.1 /\ t.2.1 + t.2.2<=4
structure Wn (μ μ':Mu) (p f:Addr) (fs:List T3) (c:Nat):Prop where
 eb:ExtB p μ μ'
 st:∃ a b:Int,μ' p=some (.lst [.int a,.int b]) /\ 0<=a
 fl:μ' f=some (.lst (fs.map encT))
 nf:f ≠ p
 ff:μ f=none
 wa:∀ t ∈ fs,wz t
 le:fs.length + 4 * c<=48
theorem uf5:RdQ spLn (t_q0 spTk) N_q0:=by
 rintro ds μ Q ⟨p,a,b,rfl,hp,ha,q⟩;have hz:(1000:Nat) < sizeLine:=by decide
 refine ⟨p,5,a,b,rfl,by decide,by decide,hp,ha,λ w a1 b1 w0 w1 h1=>?_⟩;refine ⟨p,5,a1,b1,rfl,by decide,by decide,ya0,h1,λ hh a2 b2 h0 h5 h2=>?_⟩;rw [wd0];refine ⟨Nat.zero_le _,λ f hf=>?_⟩;have nf:f ≠ p:=λ z=>by subst z; rw [ya0] at hf; cases hf
 have hf0:μ f=none:=by rw [za0 nf] at hf; exact hf
 have hp3:updM (updM μ p (.lst [.int a2,.int b2])) f (.lst []) p=some (.lst [.int a2,.int b2]):=by rw [za0 (Ne.symm nf),ya0]
 have eb3:ExtB p μ (updM (updM μ p (.lst [.int a2,.int b2])) f (.lst [])):=λ c o n hc=>by rw [za0 (ta0 hc hf0),za0 n]; exact hc
 have hf3:updM (updM μ p (.lst [.int a2,.int b2])) f (.lst []) f=some (.lst []):=ya0;generalize updM (updM μ p (.lst [.int a2,.int b2])) f (.lst [])=μ3 at hp3 eb3 hf3;refine ⟨p,10,a2,b2,rfl,by decide,by decide,hp3,h2,λ n a4 b4 n0 n7 h4=>?_⟩;refine ⟨⟨by omega,by omega⟩,?_⟩;refine vj0 (λ l ρ μ'=>∃ (f:Addr) (fs:List T3) (o5 o6 o7 o8:Option D),ρ=[some (.ref p),some (.int 9),some (.int (2 + w)),some (.int (2 + hh)),some (.ref f),o5,o6,o7,o8] /\ Wn μ μ' p f fs l.length) ?_ (λ _ _ _ _=>trivial) ?_ ?_
 ·refine ⟨f,[],none,none,none,none,rfl,⟨eb3.trans ExtB.upd,⟨a4,b4,ya0,h4⟩,by rw [za0 nf]; exact hf3,nf,hf0,λ _ h=>(nomatch h),?_⟩⟩;unfold rngD
  simp_all;omega
 ·rintro ρ μ' ⟨f,fs,o5,o6,o7,o8,rfl,W⟩;obtain ⟨a',b',e',h'⟩:=W.st;have le:=W.le;refine ⟨fs,W.fl,λ l nd hl=>?_,λ ks nd mk us pm su r hr=>?_⟩
  ·have:=List.Nodup.length_le_of_subset nd hl;omega
  ·dsimp only [nil3];have kl:=List.Nodup.length_le_of_subset nd λ x hx=>(mk x).mp hx;refine wb1 ya0 (q us a' b' _ (se3 nd (λ t ht=>(W.wa t ((mk t).mp ht)).1) [2] pm su) (λ t ht=>(W.wa t ((mk t).mp (pm.mem_iff.mp ht))).2) h' ?_ (W.eb.trans (Ext.b p (Ext.new hr))))
   ·rw [za0 (ta0 e' hr)]; exact e'
 ·rintro GG hG x rest ρ μ' ⟨f,fs,o5,o6,o7,o8,rfl,W⟩;subst hG;obtain ⟨a',b',e',h'⟩:=W.st;have le:=W.le;rw [length_cons] at le;refine ⟨p,2 + w,a',b',rfl,by omega,by omega,e',h',λ x' a5 b5 x0 x1 h5'=>?_⟩;refine ⟨p,2 + hh,a5,b5,rfl,by omega,by omega,ya0,h5',λ y' a6 b6 y0 y1 h6=>?_⟩;refine ⟨p,6,a6,b6,rfl,by decide,by decide,ya0,h6,λ wa a7 b7 wa0 wa1 h7=>?_⟩;rw [wd0,wd0];have fl:updM μ' p (.lst [.int a7,.int b7]) f=some (.lst (fs.map encT)):=by rw [za0 W.nf]; exact W.fl
  have ep:updM μ' p (.lst [.int a7,.int b7]) p=some (.lst [.int a7,.int b7]):=ya0;have eb:ExtB p μ (updM μ' p (.lst [.int a7,.int b7])):=W.eb.trans ExtB.upd;generalize updM μ' p (.lst [.int a7,.int b7])=μ4 at fl ep eb;show if decide (wa < 4)=true then _ else _;by_cases c:wa < 4
  ·rw [decide_eq_true c,if_pos rfl]
   conv=>whnf
   rw [fl];refine ⟨(by decide:(0:Int) < 2),z3,?_⟩;dsimp only [nil3];refine zv0 fl [8] ?_;refine ⟨f,fs ++ [(x' - 2,y' - 2,wa % 2)],_,_,_,_,rfl,⟨λ c o n hc=>by rw [za0 (ta0 hc W.ff)]; exact eb c o n hc,⟨a7,b7,by rw [za0 (Ne.symm W.nf)]; exact ep,h7⟩,by rw [ya0,map_append]; rfl,W.nf,W.ff,λ t ht=>?_,by simp_all;omega⟩⟩;rcases List.mem_append.mp ht with ht | ht
   ·exact W.wa t ht
   ·rw [mem_singleton] at ht;subst ht;refine ⟨?_,?_⟩
    ·show wa % 2=0 \/ wa % 2=1;omega
    simp_all;omega
  ·rw [decide_eq_false c,if_neg [19]];refine ⟨z3,z3,z3,z3,Z0,λ g hg=>?_⟩;have fl2:=(Ext.new (o:=.lst ((Sq (x' - 2) (y' - 2)).map encT)) hg) _ _ fl;have eg:updM μ4 g (.lst ((Sq (x' - 2) (y' - 2)).map encT)) g=some (.lst ((Sq (x' - 2) (y' - 2)).map encT)):=ya0;have ep2:=(Ext.new (o:=.lst ((Sq (x' - 2) (y' - 2)).map encT)) hg) _ _ ep;have eb2:=eb.trans (Ext.b p (Ext.new (o:=.lst ((Sq (x' - 2) (y' - 2)).map encT)) hg));show addR (.ref f) (.ref g) (updM μ4 g (.lst ((Sq (x' - 2) (y' - 2)).map encT))) (λ d μ1=>_);generalize updM μ4 g (.lst ((Sq (x' - 2) (y' - 2)).map encT))=μ5 at fl2 eg ep2 eb2;simp only [addR,fl2,eg];refine ⟨by simp only [length_map,Sq,length_cons,length_nil]; omega,λ h hh'=>?_⟩;have nhp:h ≠ p:=(ta0 ep2 hh').symm;refine ⟨h,fs ++ Sq (x' - 2) (y' - 2),_,_,_,_,rfl,⟨eb2.trans (Ext.b p (Ext.new hh')),⟨a7,b7,by rw [za0 (Ne.symm nhp)]; exact ep2,h7⟩,by rw [ya0,map_append],nhp,?_,λ t ht=>?_,by rw [length_append]; simp only [Sq,length_cons,length_nil]; omega⟩⟩
   ·cases z:μ h with
    | none=>rfl
    | some o=>have:=eb2 h o nhp z; simp_all
   ·rcases List.mem_append.mp ht with ht | ht
    ·exact W.wa t ht
    ·simp only [Sq,mem_cons,not_mem_nil,or_false] at ht;unfold wz wy;rcases ht with rfl | rfl | rfl | rfl <;> dsimp only <;> omega
noncomputable def xd2:Sp3:=λ ds μ Q=>∃ ns:List Int,ds=[.fls (ns.map D.int)] /\ ns.length<=63 /\ ∀ μ',Q (.bl true) μ'
noncomputable abbrev EL (Q:VK3):Ends3:={ nx:=λ _ μ'=>Q .non μ',rt:=Q }
theorem ss4 {L:List Int} (h:μ p=some (.lst (L.map D.int))):∃ d,datM μ (.ref p)=some d /\ d=.list (L.map PyData.int) /\ d.depth<=64 /\ PyData.eqv d d=true:=by
 have dI:∀ L:List Int,dats (L.map D.int)=some (L.map PyData.int) /\ PyData.depthAll (L.map PyData.int)<=2 /\ PyData.eqvAll (L.map PyData.int) (L.map PyData.int)=true:=λ L=>by
  induction L with
  | nil=>trivial
  | cons a r ih =>
   obtain ⟨h1,h2,h3⟩:=ih;simp only [map_cons,dats,dat,h1,PyData.depthAll,PyData.depth,PyData.eqvAll,PyData.eqv,h3]
   simp_all
 obtain ⟨h1,h2,h3⟩:=dI L;refine ⟨_,by simp only [datM,h,h1],rfl,?_,?_⟩
 ·simp only [PyData.depth]; omega
 assumption
theorem eq_I {L:List Int} (h1:μ p=some (.lst (L.map D.int))) (h2:μ q=some (.lst (L.map D.int))) (K:VK3):eqR (.ref p) (.ref q) μ K=K (.bl true) μ /\ neR (.ref p) (.ref q) μ K=K (.bl false) μ:=by
 obtain ⟨d,a1,rfl,a3,a4⟩:=ss4 h1;obtain ⟨e,b1,rfl,b3,b4⟩:=ss4 h2;rw [wd1 rfl a1 b1 a3 b3,wg3 rfl a1 b1 a3 b3,a4];trivial
theorem eq_W {L:List T3} (h1:μ p=some (.lst [.tup (L.map encT)])) (h2:μ q=some (.lst [.tup (L.map encT)])) (K:VK3):eqR (.ref p) (.ref q) μ K=K (.bl true) μ:=by
 have dd:∀ p,μ p=some (.lst [.tup (L.map encT)])->datM μ (.ref p)=some (.list [.tuple (L.map pT)]):=λ p h=>by simp only [datM,h,dats,dat,wv2]
 have hd:(PyData.list [.tuple (L.map pT)]).depth<=64:=by
  have:=xz1 L;simp only [PyData.depth,PyData.depthAll];omega
 rw [wd1 rfl (dd p h1) (dd q h2) hd hd,show PyData.eqv (.list [.tuple (L.map pT)]) (.list [.tuple (L.map pT)])=true by simp [PyData.eqv,PyData.eqvAll,yv2]]
theorem yl2 {n:Int} (G:Gp ts n) (h:n<=20):Nr ts:=λ t ht=>by have:=G.bd t ht; omega
theorem yc2 {i j:Nat} {K:Bool->Mu->Prop} {ks:List Nat} (hi:getI ρ i=some (.tup (us.map encT))) (hj:getI ρ j=some (.tup [9])) (G:Gp us 20) (H:Gp ts 20) (e:Rg us ↔ Rg ts) (a:RLn us ks) (b:RLn ts ls) (pm:ls.Perm ks)
    (k:∀ μ',Ext μ μ'->K false μ'):b3 (o3 neR (va0 spAo (xa0 (v3 i) nil3)) (va0 spAo (xa0 (v3 j) nil3))) ρ μ K:=by
 dsimp only [b3,o3,va0,xa0,v3,nil3];rw [hi];refine ⟨us,rfl,G.pc,yl2 G [19],λ nr μ1 ex1=>?_,λ R μ1 n σ ex1 F hn h0=>?_⟩ <;> dsimp only <;> rw [hj]
 ·refine ⟨ts,rfl,H.pc,yl2 H [19],λ nr2 μ2 ex2=>k _ (ex1.trans ex2),λ R _ _ _ _ _ _ _=>absurd (e.mpr R) nr⟩
 ·refine ⟨ts,rfl,H.pc,yl2 H [19],λ nr _ _=>absurd (e.mp R) nr,λ R2 μ2 m τ ex2 F2 hm h2=>?_⟩;obtain ⟨x,rfl,e1⟩:=a.ring G.pc R F hn h0;obtain ⟨y,rfl,e2⟩:=b.ring H.pc R2 F2 hm h2;have:y=x:=by simpa using pm
  show K (!decide (n / 2=m / 2)) μ2;rw [decide_eq_true [2]];exact k _ (ex1.trans ex2)
theorem xc2 {i j:Nat} {K:Bool->Mu->Prop} (hi:getI ρ i=some (.tup (us.map encT))) (hj:getI ρ j=some (.tup [9])) (G:Pc us) (H:Pc ts) (e:Rg us ↔ Rg ts) (k:∀ μ',Ext μ μ'->K false μ'):b3 (o3 neR (va0 spIr (xa0 (v3 i) nil3)) (va0 spIr (xa0 (v3 j) nil3))) ρ μ K:=by
 dsimp only [b3,o3,va0,xa0,v3,nil3];rw [hi];refine ⟨us,rfl,G,λ b μ1 ex1 hb=>?_⟩;dsimp only;rw [hj];refine ⟨ts,rfl,H,λ c μ2 ex2 hc=>?_⟩;show K (!decide (b=c)) μ2;rw [decide_eq_true (Bool.eq_iff_iff.mpr (hb.trans (e.trans hc.symm)))];exact k _ (ex1.trans ex2)
variable {du:Addr} {ms:List Int}
theorem th3 {o4 o8 o9:Option D} (G:Gp ts 20) (hd:μ du=some (.lst (ms.map D.int))) (rl:RLn ts ls) (pm:ms.Perm (ls.map λ n:Nat=>(n:Int))) (k:∀ μ',Q (.bl true) μ') :
    ue1 spLn ye0 spTk spAo spIr us0 xf0 spRo xe0 spWo (EL Q) [o0,o1,some (.tup [9]),o3',o4,o5,o6,some (.ref du),o8,o9] μ:=by
 refine ⟨ts,rfl,G.pc,λ b μ1 ex1 hb=>?_⟩;cases b with
 | false=>exact k μ1
 | true =>
  have R:=hb.mp rfl;refine ⟨ts,rfl,G.pc,yl2 G [19],λ nr _ _=>absurd R nr,λ _ μ2 n σ ex2 F hn h0=>?_⟩;refine ⟨show 1<=sizeLine by decide,λ al hal=>?_⟩;obtain ⟨m,rfl,e⟩:=rl.ring G.pc R F hn h0;have em:ms=[(m:Int)]:=List.perm_singleton.mp pm;subst em;rw [e];have hd2:=ex2 _ _ (ex1 _ _ hd);have h1:updM μ2 al (.lst ([(m:Int)].map D.int)) al=some (.lst ([(m:Int)].map D.int)):=ya0;have h2:updM μ2 al (.lst ([(m:Int)].map D.int)) du=some (.lst ([(m:Int)].map D.int)):=by rw [za0 (ta0 hd2 hal)]; exact hd2
  show eqR (.ref du) (.ref al) (updM μ2 al (.lst ([(m:Int)].map D.int))) (λ d μ4=>_);generalize updM μ2 al (.lst ([(m:Int)].map D.int))=μ3 at h1 h2;rw [(eq_I h2 h1 _).1];obtain ⟨x0,y0,x1,y1,w,h,b⟩:=xw2 G R.1;refine ⟨ts,x0,y0,x1,y1,w,h,rfl,G.pc,R.1,b,λ L I=>?_,λ v μ4 ex4 hv ev=>?_⟩
  ·obtain ⟨r,e1,e2,_⟩:=sw0 G.pc R F b I
   simp_all
  ·refine ⟨show 1<=sizeLine by decide,λ ll hll=>?_⟩;have h3:updM μ4 ll (.lst [.tup [9]]) ll=some (.lst [.tup [9]]):=ya0;have h4:updM μ4 ll (.lst [.tup [9]]) v=some (.lst [.tup [9]]):=by rw [za0 (ta0 ev hll)]; exact ev
   show eqR (.ref v) (.ref ll) (updM μ4 ll (.lst [.tup [9]])) Q;rw [eq_W h4 h3];exact k _
theorem uh3 {vs:List (List T3)} {so:Addr} {o4 o9:Option D} (G:Gp ts 20) (hd:μ du=some (.lst (ms.map D.int))) (rl:RLn ts ls) (pm:ms.Perm (ls.map λ n:Nat=>(n:Int))) (up:ms.Pairwise (· <= ·)) (hs:μ so=some (.lst (vs.map λ us=>.tup (us.map encT)))) (hv:∀ us ∈ vs,Gp us 20 /\ Ig ts us) (k:∀ μ',Q (.bl true) μ') :
    ys0 spLn ye0 spTk spAo spIr us0 xf0 spRo xe0 spWo (EL Q) [o0,o1,some (.tup [9]),o3',o4,o5,o6,some (.ref du),some (.ref so),o9] μ:=by
 unfold ys0;dsimp only [seq3,for3,is3,v3,getI];rw [hs];refine vj0 (λ l ρ μ'=>∃ (ks:List (List T3)) (o:Option D),l=(ks.map λ us=>.tup (us.map encT)) /\ (∀ us ∈ ks,Gp us 20 /\ Ig ts us) /\ ρ=[o0,o1,some (.tup [9]),o3',o4,o5,o6,some (.ref du),some (.ref so),o] /\ Ext μ μ') ?_ ?_ ?_ ?_
 ·exact ⟨vs,_,rfl,hv,rfl,Ext.refl _⟩
 ·rintro l ρ μ' ⟨_,_,_,_,_,ex⟩;exact ex _ _ hs
 ·rintro ρ μ' ⟨_,o,_,_,rfl,ex⟩;exact th3 G (ex _ _ hd) rl pm k
 ·rintro GG hG x rest ρ μ' ⟨ks,o,e,hk,rfl,ex⟩;cases ks with
  | nil=>cases e
  | cons us ks =>
   rw [map_cons] at e;injection e with e1 e2
   subst e1 e2;subst hG;obtain ⟨gu,ig⟩:=hk us (.head _);show seq3 (ifs3 (or3 (b3 (o3 neR (tLen 9) (v3 7))) _) _ _) _ _ [o0,o1,some (.tup [9]),o3',o4,o5,o6,some (.ref du),some (.ref so),some (.tup (us.map encT))] μ';dsimp only [seq3,ifs3,or3,b3,o3];refine wu1 (i:=9) (ρ:=[o0,o1,some (.tup [9]),o3',o4,o5,o6,some (.ref du),some (.ref so),some (.tup (us.map encT))]) rfl gu λ r ns ks' μ1 ex1 hr er rlu pmu upu=>?_;have en:ns=ms:=List.Perm.eq_of_pairwise (λ a b _ _ h k=>Int.le_antisymm h k) upu up (pmu.trans (((ig.rl rl rlu).symm.map _).trans pm.symm));subst en;dsimp only [v3,getI];rw [(eq_I er (ex1 _ _ (ex _ _ hd)) _).2];refine xc2 (i:=9) (j:=2) rfl rfl gu.pc G.pc ig.rg λ μ2 ex2=>?_;refine yc2 (i:=9) (j:=2) (ρ:=[o0,o1,some (.tup [9]),o3',o4,o5,o6,some (.ref du),some (.ref so),some (.tup (us.map encT))]) rfl rfl gu G ig.rg rlu rl (ig.rl rl rlu) λ μ3 ex3=>?_;exact ⟨ks,_,rfl,λ v hv=>hk v (.tail _ hv),rfl,((ex.trans ex1).trans ex2).trans ex3⟩
theorem uh1 {a b:Int} {o4:Option D} (G:Gp ts 8) (hp:μ p=some (.lst [.int a,.int b])) (h0:0<=a) (k:∀ μ',Q (.bl true) μ') :
    se1 spLn ye0 spTk spAo spIr us0 xf0 spRo xe0 spWo (EL Q) [o0,some (.ref p),some (.tup [9]),o3',o4,o5,o6,none,none,none] μ:=by
 have G':Gp ts 20:=⟨G.pc,λ t ht=>by have:=G.bd t ht; omega⟩;refine wu1 (i:=2) (ρ:=[o0,some (.ref p),some (.tup [9]),o3',o4,o5,o6,none,none,none]) rfl G' λ du ms ls μ1 ex1 hdu ed rl pm up=>?_;have hp1:=ex1 _ _ hp;have ndp:du ≠ p:=(ta0 hp hdu).symm;show te1 spLn ye0 spTk spAo spIr us0 xf0 spRo xe0 spWo (EL Q) [o0,some (.ref p),some (.tup [9]),o3',o4,o5,o6,some (.ref du),none,none] μ1;refine ⟨p,9,a,b,rfl,by decide,by decide,hp1,h0,λ x a2 b2 x0 x9 h2=>?_⟩;refine ⟨p,9,a2,b2,rfl,by decide,by decide,ya0,h2,λ y a3 b3' y0 y9 h3=>?_⟩;rw [wd0];have hp2:updM μ1 p (.lst [.int a3,.int b3']) p=some (.lst [.int a3,.int b3']):=ya0;have ed2:updM μ1 p (.lst [.int a3,.int b3']) du=some (.lst (ms.map D.int)):=by rw [za0 ndp]; exact ed
 generalize updM μ1 p (.lst [.int a3,.int b3'])=μ2 at hp2 ed2;refine ⟨ts,x - 4,y - 4,rfl,G.pc,λ μ3 ex3=>?_⟩;refine ⟨ts,rfl,G.pc,λ us μ4 ex4 pu su=>?_⟩;refine ⟨show 2<=sizeLine by decide,λ so hso=>?_⟩;have ex4:=ex3.trans ex4;have hp5:updM μ4 so [28] p=some (.lst [.int a3,.int b3']):=by rw [za0 (ta0 (ex4 _ _ hp2) hso)]; exact ex4 _ _ hp2
 have ed5:updM μ4 so [28] du=some (.lst (ms.map D.int)):=by rw [za0 (ta0 (ex4 _ _ ed2) hso)]; exact ex4 _ _ ed2
 have es5:updM μ4 so [28] so=some [28]:=ya0;have nsp:so ≠ p:=(ta0 (ex4 _ _ hp2) hso).symm;have nsd:so ≠ du:=(ta0 (ex4 _ _ ed2) hso).symm;show zs0 spLn ye0 spTk spAo spIr us0 xf0 spRo xe0 spWo (EL Q) [o0,some (.ref p),some (.tup [9]),o3',o4,o5,o6,some (.ref du),some (.ref so),none] (updM μ4 so [28]);generalize updM μ4 so [28]=μ5 at hp5 ed5 es5;unfold zs0;dsimp only [seq3,wc0,mt3,v3,getI];rw [es5];refine ⟨p,3,a3,b3',rfl,by decide,by decide,hp5,h3,λ q a6 b6 q0 q3 h6=>?_⟩;have ed6:updM μ5 p (.lst [.int a6,.int b6]) du=some (.lst (ms.map D.int)):=by rw [za0 ndp]; exact ed5
 have es6:updM μ5 p (.lst [.int a6,.int b6]) so=some [28]:=by rw [za0 nsp]; exact es5
 generalize updM μ5 p (.lst [.int a6,.int b6])=μ6 at ed6 es6;refine ⟨ts,1 + q,rfl,G.pc,λ vs μ7 ex7 pv sv=>?_⟩;dsimp only [nil3];refine zv0 (ex7 _ _ es6) (show 2 < sizeLine by decide) ?_;refine uh3 (vs:=[ts.map (mv (x - 4) (y - 4)),us,vs]) G' (by rw [za0 (Ne.symm nsd)]; exact ex7 _ _ ed6) rl pm up ya0 (λ v hv=>?_) k;simp only [mem_cons,not_mem_nil,or_false] at hv;rcases hv with rfl | rfl | rfl
 ·exact yk5 G [2] [2]
 ·exact zk5 G pu su
 ·exact xk5 G [2] pv sv
structure Rf (a b:Int) (fs:List T3) (i j:Int):Prop where
 nd:fs.Nodup
 bd:∀ t ∈ fs,wy t /\ (-8<=t.1 /\ t.1<=8) /\ -8<=t.2.1 /\ t.2.1<=8
 hx:∀ t ∈ fs,t.2.2=0->t.1 < a + i
 hy:∀ t ∈ fs,t.2.2=1->t.2.1 < b + j
 ln:(fs.length:Int)<=2 * (i + j)
theorem Rf.add {a b:Int} {fs:List T3} {j i' j':Int} {t:T3} (h:Rf a b fs i j) (hi:i<=i') (hj:j<=j') (hl:i + j + 1<=i' + j') (ne:s ≠ t) (hs:s ∉ fs) (ht:t ∉ fs) (w:∀ u ∈ [s,t],(wy u /\ (-8<=u.1 /\ u.1<=8) /\ -8<=u.2.1 /\ u.2.1<=8) /\ (u.2.2=0->u.1 < a + i') /\ (u.2.2=1->u.2.1 < b + j')):Rf a b (fs ++ [s,t]) i' j':=by
 refine ⟨?_,λ u hu=>?_,λ u hu z=>?_,λ u hu z=>?_,?_⟩
 ·rw [nodup_append];refine ⟨h.nd,by simp [ne],λ x hx y hy e=>?_⟩;subst e;simp only [mem_cons,not_mem_nil,or_false] at hy;rcases hy with rfl | rfl
  ·exact hs hx
  ·exact ht hx
 ·exact (List.mem_append.mp hu).elim (h.bd u) λ q=>(w u q).1
 ·exact (List.mem_append.mp hu).elim (λ q=>by have:=h.hx u q z; omega) λ q=>(w u q).2.1 z
 ·exact (List.mem_append.mp hu).elim (λ q=>by have:=h.hy u q z; omega) λ q=>(w u q).2.2 z
 ·have:=h.ln
  simp_all;omega
theorem wi4 (ds:List D) (μ:Mu) (Q:VK3) (h:xd2 ds μ Q):zu3 spLn ye0 spTk spAo spIr us0 xf0 spRo xe0 spWo (EL Q) (sa0 up3 ds) μ:=by
 obtain ⟨ns,rfl,hl,k⟩:=h;have hz:(1000:Nat) < sizeLine:=by decide
 refine ⟨ns,0,rfl,by decide,λ a b p ha hp=>?_⟩;show yf1 spLn ye0 spTk spAo spIr us0 xf0 spRo xe0 spWo (EL Q) [some (.fls (ns.map D.int)),some (.ref p),none,none,none,none,none,none,none,none] (updM μ p (.lst [.int a,.int b]));refine ⟨p,a,b,rfl,ya0,ha,λ ts a1 b1 μ1 hP hS h1 hp1 ex1=>?_⟩;show xf1 spLn ye0 spTk spAo spIr us0 xf0 spRo xe0 spWo (EL Q) [some (.fls (ns.map D.int)),some (.ref p),some (.tup [9]),none,none,none,none,none,none,none] μ1;refine ⟨p,3,a1,b1,rfl,by decide,by decide,hp1,h1,λ i a2 b2 i0 i3 h2=>?_⟩;have hp2:updM μ1 p (.lst [.int a2,.int b2]) p=some (.lst [.int a2,.int b2]):=ya0;show if decide (i=0)=true then _ else _;generalize updM μ1 p (.lst [.int a2,.int b2])=μ2 at hp2;by_cases c:i=0
 ·rw [if_pos (decide_eq_true c)];refine ⟨p,9,a2,b2,rfl,by decide,by decide,hp2,h2,λ x a3 b3' x0 x9 h3=>?_⟩;refine ⟨p,9,a3,b3',rfl,by decide,by decide,ya0,h3,λ y a4 b4 y0 y9 h4=>?_⟩;rw [wd0];refine ⟨z2,p,4,a4,b4,rfl,by decide,by decide,ya0,h4,λ w a5 b5 w0 w4 h5=>?_⟩;refine ⟨p,4,a5,b5,rfl,by decide,by decide,ya0,h5,λ v a6 b6 v0 v4 h6=>?_⟩;rw [wd0,wd0];have hp3:updM μ2 p (.lst [.int a6,.int b6]) p=some (.lst [.int a6,.int b6]):=ya0;generalize updM μ2 p (.lst [.int a6,.int b6])=μ3 at hp3;refine ⟨z2,Nat.zero_le _,λ f hf=>?_⟩;refine ⟨⟨by omega,by omega⟩,?_⟩;refine forR (n:=(1 + w).toNat) (λ i ρ μ'=>∃ (f:Addr) (fs:List T3) (o:Option D),ρ=[some (.fls (ns.map D.int)),some (.ref p),some (.tup [9]),some (.tup [.int (x - 4),.int (y - 4)]),some (.tup [.int (1 + w),.int (1 + v)]),some (.ref f),o,none,none,none] /\ Ext μ3 μ' /\ μ' f=some (.lst (fs.map encT)) /\ Rf (x - 4) (y - 4) fs i 0) (λ _=>trivial) ?_ ?_ ?_
  ·exact ⟨f,[],none,rfl,Ext.new hf,ya0,⟨nodup_nil,(λ _ h=>nomatch h),(λ _ h=>nomatch h),(λ _ h=>nomatch h),by simp⟩⟩
  ·rintro ρ μ4 ⟨f,fs,o,rfl,ex4,ef,R⟩;refine ⟨⟨by omega,by omega⟩,?_⟩;refine forR (n:=(1 + v).toNat) (λ i ρ μ'=>∃ (f:Addr) (fs:List T3) (o:Option D),ρ=[some (.fls (ns.map D.int)),some (.ref p),some (.tup [9]),some (.tup [.int (x - 4),.int (y - 4)]),some (.tup [.int (1 + w),.int (1 + v)]),some (.ref f),o,none,none,none] /\ Ext μ3 μ' /\ μ' f=some (.lst (fs.map encT)) /\ Rf (x - 4) (y - 4) fs ((1 + w).toNat:Nat) i) (λ _=>trivial) ?_ ?_ ?_
   ·exact ⟨f,fs,o,rfl,ex4,ef,R⟩
   ·rintro ρ μ5 ⟨f,fs,o,rfl,ex5,ef,R⟩;have ln:=R.ln;dsimp only [set3,va0,xa0,v3,getI,nil3];refine tc2 (Q:=λ d μ1=>tupR [d] μ1 _) ef [2] λ us pm so r hr=>wb1 ya0 ?_;refine uh1 ⟨se3 R.nd (λ t ht=>(R.bd t ht).1) [2] pm so,λ t ht=>(R.bd t (pm.mem_iff.mp ht)).2⟩ (by rw [za0 (ta0 (ex5 _ _ hp3) hr)]; exact ex5 _ _ hp3) h6 k
   ·rintro j ρ μ5 hj ⟨f,fs,o,rfl,ex5,ef,R⟩;have ln:=R.ln;refine ⟨z3,z3,z2,λ g hg=>?_⟩;refine vb2 (l:=fs.map encT) (m:=[(x - 4,y - 4 + (j:Int),1),(x - 4 + (1 + w),y - 4 + (j:Int),1)].map encT) (by rw [za0 (ta0 ef hg)]; exact ef) ya0 [8] λ q hq=>?_;refine ⟨q,fs ++ [(x - 4,y - 4 + (j:Int),1),(x - 4 + (1 + w),y - 4 + (j:Int),1)],_,rfl,(ex5.trans (Ext.new hg)).trans (Ext.new hq),by rw [ya0,map_append],?_⟩;refine R.add (Int.le_refl _) [2] [2] (λ z=>?_) (λ z=>?_) (λ z=>?_) λ u hu=>?_
    ·have:x - 4=x - 4 + (1 + w):=congrArg (λ t:T3=>t.1) z;omega
    ·have:=R.hy _ z rfl
     simp_all
    ·have:=R.hy _ z rfl
     simp_all
    ·simp only [mem_cons,not_mem_nil,or_false] at hu;rcases hu with rfl | rfl <;> exact ⟨⟨.inr rfl,by dsimp only; omega⟩,(λ z=>absurd z [10]),λ _=>by dsimp only; omega⟩
  ·rintro j ρ μ5 hj ⟨f,fs,o,rfl,ex5,ef,R⟩;have ln:=R.ln;refine ⟨z3,z3,z2,λ g hg=>?_⟩;refine vb2 (l:=fs.map encT) (m:=[(x - 4 + (j:Int),y - 4,0),(x - 4 + (j:Int),y - 4 + (1 + v),0)].map encT) (by rw [za0 (ta0 ef hg)]; exact ef) ya0 [8] λ q hq=>?_;refine ⟨q,fs ++ [(x - 4 + (j:Int),y - 4,0),(x - 4 + (j:Int),y - 4 + (1 + v),0)],_,rfl,(ex5.trans (Ext.new hg)).trans (Ext.new hq),by rw [ya0,map_append],?_⟩;refine R.add [2] (Int.le_refl _) [2] (λ z=>?_) (λ z=>?_) (λ z=>?_) λ u hu=>?_
   ·have:y - 4=y - 4 + (1 + v):=congrArg (λ t:T3=>t.2.1) z;omega
   ·have:=R.hx _ z rfl;omega
   ·have:=R.hx _ z rfl;omega
   ·simp only [mem_cons,not_mem_nil,or_false] at hu;rcases hu with rfl | rfl <;> exact ⟨⟨.inl rfl,by dsimp only; omega⟩,(λ _=>by dsimp only; omega),λ z=>absurd z [10]⟩
 ·rw [if_neg (by simpa using c)];exact uh1 ⟨hP,λ t ht=>by have:=hS t ht; have w:=hP.2.1 t ht; unfold wy at w; omega⟩ hp2 h2 k
end Pv
namespace Pv
open PySem PySem.Spec PyProof.Rows L2
theorem bnS {n:Nat} {P:List Value->Prop} (h:∀ a us,us.length=n->P (a :: us)) (us:[29]) (e:us.length=n + 1):P us:=by
 cases us with
 | nil=>cases e
 | cons a us=>exact h a us (Nat.succ.inj e)
theorem bn1 {P:List Value->Prop} (h:∀ a0,P [a0]) (us:[29]) (e:us.length=1):P us:=bnS (λ a us e=>List.eq_nil_of_length_eq_zero e ▸ h a) us e
theorem bn2 {P:List Value->Prop} (h:∀ a0 a1,P [a0,a1]) (us:[29]) (e:us.length=2):P us:=bnS (λ a us e=>bn1 (P:=λ us=>P (a :: us)) (h a) us e) us e
theorem bn3 {P:List Value->Prop} (h:∀ a0 a1 a2,P [a0,a1,a2]) (us:[29]) (e:us.length=3):P us:=bnS (λ a us e=>bn2 (P:=λ us=>P (a :: us)) (h a) us e) us e
noncomputable abbrev NsR (K:Fg) (x:Str) (p:Addr):Prop:=nsIn K mainGlobals x=some (some (.ref p))
noncomputable def FnA (K:Fg) (x:Str) (st:Stmt) (p:Addr):Prop:=∃ oc od sl kV dc pm an cd ct,K.lookup p=some ⟨oc,od,.func (fnOf x x (xg0 st) (xd0 st) (ua0 st) .none kV dc pm an cd ct),sl⟩ /\ codeIn K cd x=true /\ keepIn K (.ref p)=true
variable {K:Fg} {p:Addr} {sl:Array (Option Value)}
theorem fnA_mk {x:Str} {st:Stmt} {oc kV dc pm cd ct:Value} {od an:Option Addr} (l:K.lookup p=some ⟨oc,od,.func (fnOf x x (xg0 st) (xd0 st) (ua0 st) .none kV dc pm an cd ct),sl⟩) (c:codeIn K cd x=true) (k:keepIn K (.ref p)=true):FnA K x st p:=⟨_,_,_,_,_,_,_,_,_,l,c,k⟩
theorem FnA.fn {x:Str} {st:Stmt} (h:FnA K x st p):∃ fd,Fun K x x st p fd:=by
 obtain ⟨_,_,_,_,_,_,_,_,_,l,c,k⟩:=h;exact ⟨_,vu2 (st:=st) l c k⟩
local macro_rules | `(tactic| trivial)=>`(tactic| first | (intro _ _ F; exact F.binds λ _ _ _ _ _ _=>by first | exact bn1 λ _=>rfl | exact bn2 λ _ _=>rfl | exact bn3 λ _ _ _=>rfl) | (intros; rename_i h; (first | exact h.elim | exact h.1 | repeat first | omega | (obtain ⟨e,_⟩:=h; subst e; rfl) | obtain ⟨_,h⟩:=h); done))
local macro_rules | `(tactic| trivial)=>`(tactic| first | with_reducible assumption | decide | exact Cal.mono (by with_reducible assumption) (by omega) | exact CalX.mono (by with_reducible assumption) (by omega))
noncomputable def FnB (K:Fg) (x:Str) (st:Stmt):Prop:=∃ p,NsR K x p /\ FnA K x st p
theorem fnB_mk {x:Str} {st:Stmt} {oc kV dc pm cd ct:Value} {od an:Option Addr} (a:NsR K x p) (l:K.lookup p=some ⟨oc,od,.func (fnOf x x (xg0 st) (xd0 st) (ua0 st) .none kV dc pm an cd ct),sl⟩) (c:codeIn K cd x=true) (k:keepIn K (.ref p)=true):FnB K x st:=⟨p,a,fnA_mk l c k⟩
theorem calB {P:Program} {w:World} {K:Fg} {mg:[40]} {base h:Heap} {x:Str} {st:Stmt} {N ps:List Str} {k:Nat} {sp:Sp3} {t:TS3} (X:K.In h) (G:h.Ns mainGlobals mg) (A:FnB K x st) (S:FnScope N ps (ua0 st))
    (rs:∀ (f:Addr) (cdv:Value) (A:Around) (outer:List Env) (s:Shared) (H:Hp) (E:XK),Room k (A.deeper (envOfC x (ua0 st) s.heap.objs.size f cdv))->RSs (cxOf CX0 P w K mg base N x (ua0 st) f cdv A outer s H E).nox (xd0 st) t)
    (rd:∀ (ds:List D) (μ:Mu) (Q:VK3),sp ds μ Q->t { nx:=λ _ μ'=>Q .non μ',rt:=Q } (sa0 N ds) μ)
    (hb:∀ f fd,Fun K x x st f fd->Binds K fd ps []:=by trivial)
    (len:∀ (ds:List D) (μ:Mu) (Q:VK3),sp ds μ Q->ds.length=ps.length:=by trivial):Cal P w K mg base (k + 1) x ps sp:=by
 obtain ⟨p,a,A⟩:=A;obtain ⟨_,F⟩:=A.fn;exact vt4 F (mg_of X G a) (hb _ _ F) S len (rs p) rd
variable {w:World} {mg:[40]}
section
variable {P:Program} {base:Heap}
noncomputable def rx_0:=[12].1.1
noncomputable def rx_1:=[12].1.2.2.1
noncomputable def rx_2:=[12].1.2.1
noncomputable def rx_3:=[12].1.2.2.2.1
noncomputable def rx_4:=[12].1.2.2.2.2.1
noncomputable def rx_5:=[12].1.2.2.2.2.2.1
noncomputable def rx_6:=[12].1.2.2.2.2.2.2.2
noncomputable def rx_7:=[12].1.2.2.2.2.2.2.1
noncomputable def rx_8:=[12].2.1.2.2.1
noncomputable def rx_9:=[12].2.1.2.1
noncomputable def yd5:=[12].2.1.1
noncomputable def xd5:=[12].2.1.2.2.2.2.1
noncomputable def sc5:=[12].2.1.2.2.2.1
noncomputable def tc5:=[12].2.1.2.2.2.2.2.2.1
noncomputable def uc5:=[12].2.2.1.1
noncomputable def vc5:=[12].2.1.2.2.2.2.2.2.2
noncomputable def wc5:=[12].2.1.2.2.2.2.2.1
noncomputable def zc5:=[12].2.2.1.2.1
noncomputable def yc5:=[12].2.2.1.2.2.2.2.2.1
noncomputable def xc5:=[12].2.2.1.2.2.2.2.2.2.1
noncomputable def sb5:=[12].2.2.1.2.2.2.2.2.2.2
noncomputable def tb5:=[12].2.2.1.2.2.2.2.1
noncomputable def ub5:=[12].2.2.2.1.1
noncomputable def vb5:=[12].2.2.1.2.2.2.1
noncomputable def wb5:=[12].2.2.1.2.2.1
noncomputable def zb5:=[12].2.2.2.1.2.2.1
noncomputable def yb5:=[12].2.2.2.1.2.2.2.1
noncomputable def xb5:=[12].2.2.2.1.2.2.2.2.2.2.1
noncomputable def sa5:=[12].2.2.2.1.2.2.2.2.2.1
noncomputable def ta5:=[12].2.2.2.1.2.2.2.2.1
noncomputable def ua5:=[12].2.2.2.1.2.1
noncomputable def va5:=[12].2.2.2.1.2.2.2.2.2.2.2
noncomputable def wa5:=[12].2.2.2.2.1.2.1
noncomputable def za5:=[12].2.2.2.2.1.1
noncomputable def ya5:=[12].2.2.2.2.1.2.2.1
noncomputable def xa5:=[12].2.2.2.2.1.2.2.2.2.1
noncomputable def sz4:=[12].2.2.2.2.1.2.2.2.1
noncomputable def tz4:=[12].2.2.2.2.1.2.2.2.2.2.1
noncomputable def uz4:=[12].2.2.2.2.1.2.2.2.2.2.2.1
noncomputable def vz4:=[12].2.2.2.2.1.2.2.2.2.2.2.2
noncomputable def wz4:=[12].2.2.2.2.2
end
local macro_rules | `([9003,$x])=>`(λ _ _ _ _ _ _ _ r=>by apply $x (hr:=r) <;> trivial)
theorem all_mk {l:PySem.W.OpenLaw} {h:Heap} {fa:Addr} (X:K.In h) (G:h.Ns mainGlobals mg) (hfa:mg "law" = some (.ref fa)) {jbm:Addr} {t_3:Tok} {t_4:Tok} {q_2:Addr} {qo_2:Option Addr} {qn_2:Nat} {qs_2:Array (Option Value)} {t_6:Tok} {t_7:Tok} {q_5:Addr} {qo_5:Option Addr} {qn_5:Nat} {qs_5:Array (Option Value)} {t_9:Tok} {t_10:Tok} {q_8:Addr} {qo_8:Option Addr} {qn_8:Nat} {qs_8:Array (Option Value)} {t_12:Tok} {t_13:Tok} {q_11:Addr} {jbu:Option Addr} {jbv:Nat} {jbw:Array (Option Value)} {q_1:Addr} {qo_1:Option Addr} {qn_1:Nat} {qs_1:Array (Option Value)} {t_15:Tok} {t_16:Tok} {q_14:Addr} {jbx:Option Addr} {jby:Nat} {jbz:Array (Option Value)} {t_17:Tok} (jap:FnB K "led" yh2) (A_q6:FnB K "check_picture" s_q6) (A_q8:FnB K "check_stroke" s_q8) (jaq:FnB K "ends_of" wh2) (jar:FnB K "stroke_between" xf2) (jas:FnB K "picture_box" uf2) (jat:FnB K "moved_picture" vg2) (jau:FnB K "moved_stroke" wg2) (jav:FnB K "turned_picture" ye2) (jaw:FnB K "turned_stroke" sd2) (jax:FnB K "turned_point" xe2) (jay:FnB K "mirrored_picture" tg2) (jaz:FnB K "mirrored_stroke" ug2) (ja0:FnB K "picture_pieces" vf2) (ja1:FnB K "strokes_at" se2) (ja2:FnB K "piece_with" wf2) (ja3:FnB K "take_unseen" ue2) (ja4:FnB K "odd_points" xg2) (ja5:FnB K "trails_of" we2) (ja6:FnB K "trails_of_piece" ze2) (ja7:FnB K "way_along" ud2) (ja8:FnB K "links_at" xh2) (ja9:FnB K "take_unused" ve2) (jba:FnB K "other_end" sf2) (jbb:FnB K "parted_at_bridges" tf2) (jbc:FnB K "rooms_of" zf2) (A_q7:FnB K "check_size" s_q7) (A_q5:FnB K "cells_round" s_q5) (jbd:FnB K "take_cells" te2) (jbe:FnB K "neighbours_of" zg2) (jbf:FnB K "sides_of_cell" yf2) (jbg:FnB K "numbers_of_cells" yg2) (jbh:FnB K "walls_of" td2) (A_q4:FnB K "cells_beside" s_q4) (jbi:FnB K "is_ring" zh2) (A_q3:FnB K "area_of" s_q3) (A_q9:FnB K "crossed" s_q9) (A_q1:FnB K "_law_state" s_q1) (A_q2:FnB K "_law_take" s_q2) (A_q0:FnB K "_law_lines" s_q0) (jao:NsR K "law" jbm) (jbj:FnA K "law" tw0 jbm) (jae:nsIn K mainGlobals "AHEAD" = some (some (.ref q_1))) (ql_1:K.lookup q_1=some ⟨.type "tuple",qo_1,.seq #[.ref q_2,.ref q_5,.ref q_8,.ref q_11] qn_1,qs_1⟩) (jbk:K.lookup q_11=some ⟨.type "tuple",jbu,.seq #[.int (0) t_12,.int (-1) t_13] jbv,jbw⟩) (ql_8:K.lookup q_8=some ⟨.type "tuple",qo_8,.seq #[.int (-1) t_9,.int (0) t_10] qn_8,qs_8⟩) (ql_5:K.lookup q_5=some ⟨.type "tuple",qo_5,.seq #[.int (0) t_6,.int (1) t_7] qn_5,qs_5⟩) (ql_2:K.lookup q_2=some ⟨.type "tuple",qo_2,.seq #[.int (1) t_3,.int (0) t_4] qn_2,qs_2⟩) (jag:nsIn K mainGlobals "WAYS" = some (some (.ref q_14))) (jbl:K.lookup q_14=some ⟨.type "tuple",jbx,.seq #[.int (0) t_15,.int (1) t_16] jby,jbz⟩) (jaa:nsIn K mainGlobals "MOST_CELLS" = some (some (.int (2500) t_17))) (jah:nsIn K mainGlobals "abs" = some none) (jai:nsIn K mainGlobals "all" = some none) (jaf:nsIn K mainGlobals "dict" = some none) (jaj:nsIn K mainGlobals "len" = some none) (jak:nsIn K mainGlobals "max" = some none) (jal:nsIn K mainGlobals "min" = some none) (jac:nsIn K mainGlobals "range" = some none) (jam:nsIn K mainGlobals "set" = some none) (jab:nsIn K mainGlobals "sorted" = some none) (jan:nsIn K mainGlobals "sum" = some none) (jad:nsIn K mainGlobals "tuple" = some none) :
    ∃ fd:FuncData,(∀ (s:Shared) (v:Value),BindsTo s fd ⟨[v],[]⟩ [("script",v)]) /\ ∀ base:Heap,K.In base->base.Ns mainGlobals mg->FnOk l.prog w K mg base CX0 7 fa fd ["script"] (lift K xd2):=by
 have e:=hfa.symm.trans (mg_of X G jao);cases e;have g_AHEAD:Gd K mg "AHEAD" tt0:=wu2 X G jae (TupK.mk ql_1 Z0 (.tup (TupK.mk ql_2 Z1 (.int (.int .nil))) (.tup (TupK.mk ql_5 Z1 (.int (.int .nil))) (.tup (TupK.mk ql_8 Z1 (.int (.int .nil))) (.tup (TupK.mk jbk Z1 (.int (.int .nil))) .nil)))));have g_WAYS:Gd K mg "WAYS" vy0:=wu2 X G jag (TupK.mk jbl Z1 (.int (.int .nil)));have g_MOST_CELLS:Gd K mg "MOST_CELLS" tg0:=wr4 X G jaa;have z_abs:=mg_none_of X G jah;have z_all:=mg_none_of X G jai;have z_dict:=mg_none_of X G jaf;have z_len:=mg_none_of X G jaj;have z_max:=mg_none_of X G jak;have z_min:=mg_none_of X G jal;have z_range:=mg_none_of X G jac;have z_set:=mg_none_of X G jam;have z_sorted:=mg_none_of X G jab;have z_sum:=mg_none_of X G jan;have z_tuple:=mg_none_of X G jad;obtain ⟨_,_,_,jbn,jbo,jbp,jbq,jbr,jbs,jb0,jb1,jb2⟩:=jbj;have jbt:=vu2 (st:=tw0) jb0 jb1 jb2;have jb9:=jbt.binds (ps:=["script"]) λ _ _ _ _ _ _=>bn1 λ _=>rfl;have jca:=mg_of X G jao;refine ⟨fnOf "law" "law" (xg0 tw0) (xd0 tw0) (ua0 tw0) .none jbn jbo jbp jbq jbr jbs,λ s v=>.of_eq rfl,λ base KB GB=>?_⟩;have calB:=@calB l.prog w K mg base h;have jcb:=calB X G jap (k:=0) ta4 [9003,rx_0] zi4;have h_q8:=calB X G A_q8 (k:=0) yy4 [9003,rx_1] ue5;have h_q6:=calB X G A_q6 (k:=1) wy4 [9003,rx_2] se5;have jcc:=calB X G jaq (k:=0) yb4 [9003,rx_3] ui4;have jcd:=calB X G jar (k:=0) ty3 [9003,rx_4] zg4;have jce:=calB X G jas (k:=1) wz3 [9003,rx_5] sg4;have jcf:=calB X G jau (k:=0) ya4 [9003,rx_6] uh4;have jb3:=calB X G jat (k:=2) za4 [9003,rx_7] th4;have jcg:=calB X G jax (k:=1) tx3 [9003,rx_8] zf4;have jch:=calB X G jaw (k:=2) ux3 [9003,rx_9] yf4;have jb4:=calB X G jav (k:=3) sx3 [9003,yd5] wf4;have jci:=calB X G jaz (k:=1) wa4 [9003,xd5] sh4;have jb5:=calB X G jay (k:=2) va4 [9003,sc5] xi4;have jcj:=calB X G ja1 (k:=1) uy3 [9003,tc5] yg4;have jck:=calB X G ja3 (k:=0) wy3 [9003,uc5] sf4;have jcl:=calB X G ja2 (k:=1) yz3 [9003,vc5] ug4;have jcm:=calB X G ja0 (k:=2) zz3 [9003,wc5] tg4;have jcn:=calB X G ja4 (k:=2) tz3 [9003,zc5] zh4;have jco:=calB X G ja8 (k:=0) ua4 [9003,yc5] yi4;have jcp:=calB X G ja9 (k:=0) zy3 [9003,xc5] tf4;have jcq:=calB X G jba (k:=0) uz3 [9003,sb5] yh4;have jcr:=calB X G ja7 (k:=1) wx3 [9003,tb5] se4;have jcs:=calB X G jbb (k:=0) vz3 [9003,ub5] xh4;have jct:=calB X G ja6 (k:=3) xy3 [9003,vb5] vf4;have jcu:=calB X G ja5 (k:=4) yy3 [9003,wb5] uf4;have h_q7:=calB X G A_q7 (k:=0) zy4 [9003,zb5] te5;have h_q5:=calB X G A_q5 (k:=0) vy4 [9003,yb5] xf5;have jcv:=calB X G jbf (k:=0) sy3 [9003,xb5] wg4;have jcw:=calB X G jbe (k:=1) xa4 [9003,sa5] vh4;have jcx:=calB X G jbd (k:=2) vy3 [9003,ta5] xg4;have jb6:=calB X G jbc (k:=3) xz3 [9003,ua5] vg4;have jcy:=calB X G jbg (k:=0) sz3 [9003,va5] wh4;have h_q4:=calB X G A_q4 (k:=0) uy4 [9003,wa5] yf5;have jb7:=calB X G jbh (k:=4) vx3 [9003,za5] xf4;have jb8:=calB X G jbi (k:=3) xb4 [9003,ya5] vi4;have h_q9:=calB X G A_q9 (k:=0) xy4 [9003,xa5] ve5;have h_q3:=calB X G A_q3 (k:=5) ty4 [9003,sz4] zf5;have h_q1:=calB X G A_q1 (k:=0) xz4 [9003,tz4] vf5;have h_q2:=calB X G A_q2 (k:=0) sy4 [9003,uz4] wf5;have h_q0:=calB X G A_q0 (k:=1) yz4 [9003,vz4] uf5;exact tx1 jbt sa4 (by rintro _ _ _ ⟨_,rfl,_⟩; rfl) (k:=6) (λ cdv A outer s H E hr=>wz4 (h_q0.mono [19]) (h_q1.mono [19]) (h_q2.mono [19]) (h_q3.mono [19]) (jb8.mono [19]) (jb5.mono [19]) (jb3.mono [19]) (jb6.mono [19]) (jb4.mono [19]) (jb7.mono [19]) z_len z_range z_sorted z_tuple hr) wi4
theorem walk {l:PySem.W.OpenLaw} {q:Program} {loose:List Str} {XP:(Str->Option Value)->Heap->Prop} {YP:World->Heap->Prop} {d:DefRec} {K:Params->Fg} (hn:l.most=some 63) (hdf:d.params.defaults=[])
    (hY:∀ (w:World) (h:Heap),YP w h->(K w.params).In h)
    (F:∀ (w:World) (mg:[40]) (fa:Addr) (h:Heap),(K w.params).In h->h.Ns mainGlobals mg->mg d.name=some (.ref fa) ->
     ∃ fd:FuncData,(∀ (s:Shared) (u:Value),BindsTo s fd ⟨[u],[]⟩ [("script",u)]) /\ ∀ base:Heap,(K w.params).In base->base.Ns mainGlobals mg->FnOk l.prog w (K w.params) mg base CX0 7 fa fd ["script"] (lift (K w.params) xd2)) :
    PySem.W.WalkO q loose XP YP l.row.toRowW d [] (λ f vs=>PySem.call f vs) :=
 L2.walk_of (n:=63) (k:=7) (x := "script") (CX:=λ _=>CX0) (sp:=λ w=>lift (K w.params) xd2) hn [19] hdf ⟨rfl,by decide,by decide⟩ hY F (λ _ _ a ns hl hO hS=>ul2 hO hS ⟨ns,rfl,hl,λ _=>rfl⟩) λ _ _ _ _ _ z=>z
noncomputable abbrev vb:Value:=.bool true
noncomputable abbrev vi:Value:=.int 181 0
end Pv
open PySem PySem.W PyProof.Rows
set_option maxRecDepth 100000 in
set_option maxHeartbeats 0 in
theorem PySem.Challenge.cw_penwright_k65_whole_pictures_turned_holds : PySem.Challenge.rw_penwright_k65_whole_pictures_turned.Holds := by
 w_on
 refine PySem.W.holds_law Pv.h_said λ said=>?_;refine PySem.W.holds_open (YP:=PySem.W.Hook.says (kHook Pv.KK Pv.KA Pv.ke)) Pv.h_left (PySem.W.Hook.of (kHook Pv.KK Pv.KA Pv.ke)) (PySem.W.Hook.keeps (kHook Pv.KK Pv.KA Pv.ke)) (λ s e=>PySem.W.xl_of s (Bool.and_eq_true_iff.mp e).1) PySem.W.XL.keeps (by rfl) (by rfl) (by rfl) (λ s e=>PySem.W.recFacts_of (Bool.and_eq_true_iff.mp e).2) (by rfl) said (by decide +kernel) ⟨rfl,rfl,rfl,rfl,rfl,by decide +kernel⟩ ?hw ?hc
 case hw=>w_witness2
 k_fill
 refine Pv.walk (l:=PySem.Challenge.rw_penwright_k65_whole_pictures_turned) rfl rfl (λ w h Y=>PySem.W.kIn_of Y) ?F
 case F =>
  intro w mg fa h KX G hmg;refine' Pv.all_mk KX G hmg ?jap ?A_q6 ?A_q8 ?jaq ?jar ?jas ?jat ?jau ?jav ?jaw ?jax ?jay ?jaz ?ja0 ?ja1 ?ja2 ?ja3 ?ja4 ?ja5 ?ja6 ?ja7 ?ja8 ?ja9 ?jba ?jbb ?jbc ?A_q7 ?A_q5 ?jbd ?jbe ?jbf ?jbg ?jbh ?A_q4 ?jbi ?A_q3 ?A_q9 ?A_q1 ?A_q2 ?A_q0 ?jao ?jbj ?jae ?ql_1 ?jbk ?ql_8 ?ql_5 ?ql_2 ?jag ?jbl ?jaa ?jah ?jai ?jaf ?jaj ?jak ?jal ?jac ?jam ?jab ?jan ?jad
  (case jae | ql_1 | jbk | ql_8 | ql_5 | ql_2 | jag | jbl | jaa | jah | jai | jaf | jaj | jak | jal | jac | jam | jab | jan | jad=>k_is)
  (case jap | A_q6 | A_q8 | jaq | jar | jas | jat | jau | jav | jaw | jax | jay | jaz | ja0 | ja1 | ja2 | ja3 | ja4 | ja5 | ja6 | ja7 | ja8 | ja9 | jba | jbb | jbc | A_q7 | A_q5 | jbd | jbe | jbf | jbg | jbh | A_q4 | jbi | A_q3 | A_q9 | A_q1 | A_q2 | A_q0=>(refine' Pv.fnB_mk ?a ?l ?c ?k; (case a=>(show _=_; k_is)); (case l=>k_is); (case c=>k_is); (case k=>k_is)))
  (case jao=>(show _=_; k_is))
  (case jbj=>(refine' Pv.fnA_mk ?l ?c ?k; (case l=>k_is); (case c=>k_is); (case k=>k_is)))
